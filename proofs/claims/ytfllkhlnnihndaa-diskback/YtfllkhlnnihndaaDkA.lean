/- Disks: the writes that put a record at the end, as the document says. -/
import Derived.Test.YtfllkhlnnihndaaDkR
import Derived.Test.YtfllkhlnnihndaaClRow
namespace Go.Proofs.Ytfllkhlnnihndaa.disk
open Go.RowKit Go.Proofs.Ytfllkhlnnihndaa.cell
set_option maxRecDepth 100000
set_option linter.unusedVariables false

/-- What Append gives back: new writes. -/
def AppPost (w : World) (c r : List Int) (e : Ending) (w' : World) : Prop :=
  ∃ V ls f, e = .returned (.tuple #[V, .int .i64 f]) ∧ Lw w' w.heap.size V ls ∧ AppIs c r ls f ∧ Below w.heap.size w w'
theorem put_next (p k : Nat) (r : List Int) : putW p r k ++ [⟨(p : Int) + (k : Int) + 1, r.getD k 0⟩] = putW p r (k + 1) := by
  rw [putW, show ((p + k + 1 : Nat) : Int) = (p : Int) + (k : Int) + 1 by omega]
theorem app_yes {c : List Int} {p : Nat} {r : List Int} (h : p + r.length + 1 < c.length) : putW p r r.length ++ [⟨(p : Int) + (r.length : Int) + 1, 0⟩] ++ [⟨(p : Int), (r.length : Int)⟩] = appW c p r := by
  unfold appW zeroW
  rw [if_pos h, List.append_assoc, show ((p + r.length + 1 : Nat) : Int) = (p : Int) + (r.length : Int) + 1 by omega]
theorem app_no {c : List Int} {p : Nat} {r : List Int} (h : ¬ p + r.length + 1 < c.length) : putW p r r.length ++ [⟨(p : Int), (r.length : Int)⟩] = appW c p r := by
  unfold appW zeroW
  rw [if_neg h, List.nil_append]
set_option maxHeartbeats 4000000 in
theorem appended (a : Option Addr) (n cap : Nat) (c : List Int) (a2 : Option Addr) (m cap2 : Nat) (r : List Int) (w : World) (h : RowU w a n c) (hw : ∀ x ∈ c, 0 ≤ x ∧ x < 4294967296) (h2 : RowU w a2 m r) :
    Calls Try.prog 15 #[.slice a n cap, .slice a2 m cap2] w fun e w' => AppPost w c r e w' := by
  have hcl := h.1
  have hrl := h2.1
  by_cases hmay : 1 ≤ m ∧ m ≤ 64
  · have HM : Hid (∀ W, Calls Try.prog 26 #[.int .i64 (m : Int), .int .i64 1, .int .i64 64] W fun e w' => e = .returned (.bool true) ∧ w' = W) := fun W => in_yes _ _ _ W (by omega) (by omega)
    have HRP : Hid (Calls Try.prog 11 #[.slice a n cap] w fun e w' => RepPost w c e w') := replayed a n cap c w h hw
    obtain ⟨b, o, rfl, lb, hc⟩ := h2.at (by omega)
    have HCL : Hid (∀ W, Below w.heap.size w W → ∀ j, j < m → W.cell? ⟨b, o + j, none⟩ = some (.int .u32 (r.getD j 0))) := fun W hB j hj => (hB.cell (p := ⟨b, o + j, none⟩) lb).trans (hc j hj)
    have HMY : Hid (RMay r) := ⟨by omega, by omega⟩
    have HN : Hid (c.length = n ∧ r.length = m) := ⟨hcl, hrl⟩
    obtain ⟨hm1, hm2⟩ := hmay
    clear h hw hc lb hcl hrl h2
    go_enter Try.func15, Try.ntmps15
    go_wp2_with fail
    refine (HM.out _).mono ?_
    rintro e w1 ⟨rfl, hq⟩
    subst w1
    clear HM
    go_wp2_with fail
    refine HRP.out.mono ?_
    rintro e w1 ⟨V0, sl, out, x, f, rfl, -, -, hri, hb1⟩
    have HB1 : Hid (Below w.heap.size w w1) := hb1
    clear hb1 HRP
    by_cases hf : f = 0
    · obtain ⟨hmy, hl0, hx⟩ : May c ∧ lenAt c (repD c).2 = 0 ∧ x = ((repD c).2 : Int) := by
        rcases hri with ⟨_, _, _, e⟩ | ⟨_, _, _, _, e⟩ | ⟨q1, q2, _, q4, _⟩
        · rw [hf] at e; exact absurd e (by decide)
        · rw [hf] at e; exact absurd e (by decide)
        · exact ⟨q1, q2, q4⟩
      have HPB : Hid ((repD c).2 ≤ n) := by show _ ≤ _; rw [← HN.out.1]; exact rep_bound c
      have HFU : Hid (n ≤ (repD c).2 + m → AppIs c r [] 16) := fun hh => .inr (.inr (.inr (.inl ⟨HMY.out, hmy, hl0, by rw [HN.out.1, HN.out.2]; exact hh, rfl, rfl⟩)))
      have HOK : Hid ((repD c).2 + m < n → AppIs c r (appW c (repD c).2 r) 0) := fun hh => .inr (.inr (.inr (.inr ⟨HMY.out, hmy, hl0, by rw [HN.out.1, HN.out.2]; exact hh, rfl, rfl⟩)))
      have hn2 : n ≤ 2048 := by have := hmy.2; rw [HN.out.1] at this; exact this
      subst hf
      subst hx
      clear hri hmy hl0 HMY
      generalize (repD c).2 = p at *
      have hpn := HPB.out
      clear HPB
      by_cases hfu : (n : Int) ≤ (p : Int) + (m : Int)
      · have HA : Hid (AppIs c r [] 16) := HFU.out (by omega)
        clear HFU HOK
        go_wp2_with fail
        go_ret2
        exact ⟨.slice none 0 0, [], 16, rfl, Lw.zero _ _, HA.out, HB1.out⟩
      · have HA : Hid (AppIs c r (appW c p r) 0) := HOK.out (by omega)
        clear HFU HOK
        go_wp2_with fail
        go_loopw [10, 11] (fun v10 v11 wr => ∃ (k : Nat) (V : Value), k ≤ m ∧ V = v10 ∧ v11 = .int .i64 (k : Int) ∧ Lw wr w.heap.size V (putW p r k) ∧ Below w.heap.size w wr) (fun _ v11 _ => m - (intOf v11).toNat)
        case atStart => exact ⟨0, _, Nat.zero_le _, rfl, rfl, Lw.zero _ _, HB1.out⟩
        case round =>
          obtain ⟨k, V, hk, hV, rfl, hlw, hbl⟩ := hrel
          subst hV
          have HLW : Hid (Lw wr w.heap.size V (putW p r k)) := hlw
          have HBL : Hid (Below w.heap.size w wr) := hbl
          have hs6 : (putW p r k).length ≤ 1000000 := by rw [put_len]; omega
          have HUA : Hid (∀ o, Lw (wr.alloc o) w.heap.size V (putW p r k)) := fun o => hlw.alloc o
          have HBA : Hid (∀ o, Below w.heap.size w (wr.alloc o)) := fun o => hbl.alloc hbl.size o
          have HSA : Hid (∀ o, w.heap.size ≤ (wr.alloc o).heap.size) := fun o => (hbl.alloc hbl.size o).size
          clear hlw hbl HB1
          by_cases hkm : k < m
          · have k2 := HCL.out wr HBL.out k hkm
            have HPN : Hid (putW p r k ++ [⟨(p : Int) + (k : Int) + 1, r.getD k 0⟩] = putW p r (k + 1)) := put_next p k r
            generalize r.getD k 0 = u at *
            go_wp2_with (first | (refine wp_write rfl _ _ rfl w.heap.size wr.heap.size V (putW p r k) ⟨(p : Int) + (k : Int) + 1, u⟩ rfl rfl (HUA.out _) ⟨(Blk.new wr _ _).cell 0, (Blk.new wr _ _).cell 1⟩ hs6 (HSA.out _) ?_; intro v3 w3 h3 hg3; have HB3 : Hid (Below w.heap.size w w3) := own_bel (HUA.out _) hg3 (HBA.out _) (Nat.le_refl _) (HSA.out _); have H3 : Hid (Lw w3 w.heap.size v3 (putW p r (k + 1))) := (by rw [← HPN.out]; exact h3); clear h3 hg3) | fail)
            go_roundw
            case rel => exact ⟨k + 1, v3, by omega, rfl, by go_num, H3.out, HB3.out⟩
            case measure => simp [intOf]; omega
          · obtain rfl : k = m := by omega
            by_cases hz : (p : Int) + (k : Int) + 1 < (n : Int)
            · have HQ : Hid (putW p r k ++ [⟨(p : Int) + (k : Int) + 1, 0⟩] ++ [⟨(p : Int), (k : Int)⟩] = appW c p r) := by
                have q := app_yes (c := c) (p := p) (r := r) (by rw [HN.out.1, HN.out.2]; omega)
                rw [HN.out.2] at q
                exact q
              have hs7 : (putW p r k ++ [(⟨(p : Int) + (k : Int) + 1, 0⟩ : Wr)]).length ≤ 1000000 := by rw [List.length_append, put_len]; simp; omega
              go_wp2_with (first | (refine wp_write rfl _ _ rfl w.heap.size wr.heap.size V (putW p r k) ⟨(p : Int) + (k : Int) + 1, 0⟩ rfl rfl (HUA.out _) ⟨(Blk.new wr _ _).cell 0, (Blk.new wr _ _).cell 1⟩ hs6 (HSA.out _) ?_; intro v3 w3 h3 hg3; have hb3 := own_bel (HUA.out _) hg3 (HBA.out _) (Nat.le_refl _) (HSA.out _); have HU3 : Hid (∀ o, Lw (w3.alloc o) w.heap.size v3 (putW p r k ++ [(⟨(p : Int) + (k : Int) + 1, 0⟩ : Wr)])) := (fun o => h3.alloc o); have HB3 : Hid (∀ o, Below w.heap.size w (w3.alloc o)) := (fun o => hb3.alloc hb3.size o); have HS3 : Hid (∀ o, w.heap.size ≤ (w3.alloc o).heap.size) := (fun o => (hb3.alloc hb3.size o).size); clear h3 hg3 hb3 HUA HBA HSA HLW HBL) | (refine wp_write rfl _ _ rfl w.heap.size w3.heap.size v3 (putW p r k ++ [(⟨(p : Int) + (k : Int) + 1, 0⟩ : Wr)]) ⟨(p : Int), (k : Int)⟩ rfl rfl (HU3.out _) ⟨(Blk.new w3 _ _).cell 0, (Blk.new w3 _ _).cell 1⟩ hs7 (HS3.out _) ?_; intro v4 w4 h4 hg4; have HB4 : Hid (Below w.heap.size w w4) := own_bel (HU3.out _) hg4 (HB3.out _) (Nat.le_refl _) (HS3.out _); have H4 : Hid (Lw w4 w.heap.size v4 (appW c p r)) := (by rw [← HQ.out]; exact h4); clear h4 hg4) | fail)
              go_ret2
              exact ⟨v4, _, 0, rfl, H4.out, HA.out, HB4.out⟩
            · have HQ : Hid (putW p r k ++ [⟨(p : Int), (k : Int)⟩] = appW c p r) := by
                have q := app_no (c := c) (p := p) (r := r) (by rw [HN.out.1, HN.out.2]; omega)
                rw [HN.out.2] at q
                exact q
              go_wp2_with (first | (refine wp_write rfl _ _ rfl w.heap.size wr.heap.size V (putW p r k) ⟨(p : Int), (k : Int)⟩ rfl rfl (HUA.out _) ⟨(Blk.new wr _ _).cell 0, (Blk.new wr _ _).cell 1⟩ hs6 (HSA.out _) ?_; intro v4 w4 h4 hg4; have HB4 : Hid (Below w.heap.size w w4) := own_bel (HUA.out _) hg4 (HBA.out _) (Nat.le_refl _) (HSA.out _); have H4 : Hid (Lw w4 w.heap.size v4 (appW c p r)) := (by rw [← HQ.out]; exact h4); clear h4 hg4) | fail)
              go_ret2
              exact ⟨v4, _, 0, rfl, H4.out, HA.out, HB4.out⟩
    · have HA : Hid (AppIs c r [] f) := by
        rcases hri with ⟨q1, _, _, rfl⟩ | ⟨q1, q2, _, _, rfl⟩ | ⟨_, _, _, _, e⟩
        · exact .inr (.inl ⟨HMY.out, q1, rfl, rfl⟩)
        · exact .inr (.inr (.inl ⟨HMY.out, q1, q2, rfl, rfl⟩))
        · exact absurd e hf
      have hne : (f != 0) = true := by simpa using hf
      clear hri hf
      go_wp2_with fail
      go_ret2
      exact ⟨.slice none 0 0, [], f, rfl, Lw.zero _ _, HA.out, HB1.out⟩
  · have HM : Hid (∀ W, Calls Try.prog 26 #[.int .i64 (m : Int), .int .i64 1, .int .i64 64] W fun e w' => e = .returned (.bool false) ∧ w' = W) := fun W => in_no _ _ _ W (by omega)
    have HA : Hid (AppIs c r [] 1) := .inl ⟨fun h => hmay ⟨by rw [← hrl]; exact h.1, by rw [← hrl]; exact h.2⟩, rfl, rfl⟩
    clear h hw h2 hcl hrl hmay
    go_enter Try.func15, Try.ntmps15
    go_wp2_with fail
    refine (HM.out _).mono ?_
    rintro e w1 ⟨rfl, hq⟩
    subst w1
    go_wp2_with fail
    go_ret2
    exact ⟨.slice none 0 0, [], 1, rfl, Lw.zero _ _, HA.out, Below.refl _ _⟩

end Go.Proofs.Ytfllkhlnnihndaa.disk
