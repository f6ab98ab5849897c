/- The document's answer to writes. -/
import Derived.Test.YtiipnokmiknfoaaClBlank
namespace Go.Proofs.Ytiipnokmiknfoaa.cell
open Go.RowKit
set_option maxRecDepth 100000
set_option linter.unusedVariables false

set_option maxHeartbeats 2000000 in
theorem last_any (a b : Option Addr) (n m c1 c2 k x : Nat) (xs : List Int) (ls : List Wr) (w : World) (h1 : RowU w a n xs) (h2 : RowW w b m ls) (hx : x < n) (hn : n ≤ 2048) (hm : m ≤ 4096) (hk : k ≤ m) (hpos : ∀ i, i < ls.length → 0 ≤ (ls.getD i wr0).p) :
    Calls Try.prog 26 #[.slice a n c1, .slice b m c2, .int .i64 (k : Int), .int .i64 (x : Int)] w fun e w' => e = .returned (.int .u32 ((wrt xs (ls.take k)).getD x 0)) ∧ w' = w := by
  obtain ⟨b1, o1, rfl, l1, hc1⟩ := h1.at (by omega)
  have f0 := hc1 x hx
  have HP : Hid (∀ i, i < ls.length → 0 ≤ (ls.getD i wr0).p) := hpos
  clear hpos
  have HL : Hid (xs.length = n ∧ ls.length = m) := ⟨h1.1, h2.1⟩
  have HR : Hid (RowW w b m ls) := h2
  clear h1 h2 hc1 l1
  obtain ⟨V, hV⟩ : ∃ V, V = (wrt xs (ls.take k)).getD x 0 := ⟨_, rfl⟩
  rw [← hV]
  have HV : Hid (V = (wrt xs (ls.take k)).getD x 0) := hV
  clear hV
  go_enter Try.func26, Try.ntmps26
  go_wp2_with fail
  go_loop [9] (fun i => ∃ (j : Nat) (z : Int), j ≤ k ∧ i = .int .i64 z ∧ z = (j : Int) - 1 ∧ V = (wrt xs (ls.take j)).getD x 0) (fun i => (intOf i + 1).toNat)
  case atStart => exact ⟨k, _, Nat.le_refl _, rfl, rfl, HV.out⟩
  case round =>
    obtain ⟨j, z, hj, rfl, hz, hv⟩ := hrel
    have HJ : Hid (V = (wrt xs (ls.take j)).getD x 0) := hv
    clear hv
    cases j with
    | zero =>
      have hzn : z < 0 := by omega
      have HE : Hid (V = xs.getD x 0) := HJ.out
      clear hz HJ HV
      generalize xs.getD x 0 = u at *
      go_wp2_with fail
      go_ret
      exact ⟨by rw [HE.out]; rfl, rfl⟩
    | succ q =>
      obtain rfl : z = (q : Int) := by omega
      clear hz
      obtain ⟨b2, o2, rfl, l2, hc2⟩ := HR.out.at (by omega)
      have f1 := (hc2 q (by omega)).1
      have f2 := (hc2 q (by omega)).2
      have HST : Hid ((wrt xs (ls.take (q + 1))).getD x 0 = if x = (ls.getD q wr0).p.toNat ∧ (ls.getD q wr0).p.toNat < xs.length then (ls.getD q wr0).d else (wrt xs (ls.take q)).getD x 0) := by
        show _ = _
        rw [wrt_step xs ls q (by have := HL.out.2; omega), set_at, wrt_len]
      clear hc2 l2
      have hin : 0 ≤ (ls.getD q wr0).p := HP.out q (by have := HL.out.2; omega)
      generalize (ls.getD q wr0).p = p at *
      generalize (ls.getD q wr0).d = d at *
      by_cases he : p = (x : Int)
      · subst he
        have hee : ((x : Int) == (x : Int)) = true := by simp
        have HE : Hid (V = d) := by show _ = _; rw [HJ.out, HST.out, if_pos ⟨by omega, by have := HL.out.1; omega⟩]
        clear HST HJ HV
        go_wp2_with fail
        go_ret
        exact ⟨by rw [HE.out]; rfl, rfl⟩
      · have hee : (p == (x : Int)) = false := by simpa using he
        have HE : Hid (V = (wrt xs (ls.take q)).getD x 0) := by show _ = _; rw [HJ.out, HST.out, if_neg (by omega)]
        clear HST HJ HV
        go_wp2_with fail
        go_round
        case rel => exact ⟨q, _, by omega, rfl, rfl, HE.out⟩
        case measure => simp [intOf]

/-- What the document answers, whatever the list and the number. -/
def ApPost (w : World) (n m : Nat) (k : Int) (xs : List Int) (ls : List Wr) (e : Ending) (w' : World) : Prop :=
  (allN n ls = true ∧ 0 ≤ k ∧ k ≤ m → GaveR w (wrt xs (ls.take k.toNat)) 0 e w') ∧ (allN n ls = false ∨ k < 0 ∨ m < k → GaveR w [] 2 e w')

set_option maxHeartbeats 4000000 in
theorem applied_any (a b : Option Addr) (n m c1 c2 : Nat) (k : Int) (xs : List Int) (ls : List Wr) (w : World) (h1 : RowU w a n xs) (h2 : RowW w b m ls) (hn : 1 ≤ n) (hn2 : n ≤ 2048) (hm : m ≤ 4096) :
    Calls Try.prog 14 #[.slice a n c1, .slice b m c2, .int .i64 k] w fun e w' => ApPost w n m k xs ls e w' := by
  have HM : Hid (∀ W, Calls Try.prog 22 #[.int .i64 (n : Int), .int .i64 1, .int .i64 2048] W fun e w' => e = .returned (.bool true) ∧ w' = W) := fun W => in_yes _ _ _ W (by omega) (by omega)
  have hmk : ∀ W : World, (Instr.makeSlice 22 (.int .i64 (n : Int)) (.int .i64 (n : Int))).run Try.prog W = .ok (.slice (some ⟨W.heap.size, 0, none⟩) n n) (W.alloc (.cells (arr (List.replicate n 0)) 39)) := make_u32 n (by omega)
  have H1 : Hid (RowU w a n xs) := h1
  have H2 : Hid (RowW w b m ls) := h2
  have HL : Hid (xs.length = n ∧ ls.length = m) := ⟨h1.1, h2.1⟩
  have h4 : decide ((4096 : Int) < (m : Int)) = false := by simp; omega
  clear h1 h2
  go_enter Try.func14, Try.ntmps14
  go_wp2_with fail
  refine (HM.out _).mono ?_
  rintro e w1 ⟨rfl, rfl⟩
  go_wp2_with fail
  clear HM
  go_loop [8] (fun i => ∃ j : Nat, j ≤ m ∧ i = .int .i64 (j : Int) ∧ allN n (ls.take j) = true) (fun i => m - (intOf i).toNat)
  case atStart => exact ⟨0, Nat.zero_le _, rfl, rfl⟩
  case round =>
    obtain ⟨j, hj, rfl, hal⟩ := hrel
    have HA : Hid (allN n (ls.take j) = true) := hal
    clear hal
    by_cases hlt : j < m
    · obtain ⟨b2, o2, rfl, l2, hc2⟩ := H2.out.at (by omega)
      have f1 := (hc2 j hlt).1
      have HST : Hid (allN n (ls.take (j + 1)) = (allN n (ls.take j) && inN n (ls.getD j wr0))) := allN_step n ls j (by have := HL.out; omega)
      have HFL : Hid (inN n (ls.getD j wr0) = false → allN n ls = false) := fun h => allN_of_false (by have := HL.out; omega) h
      clear hc2 l2
      have hq : inN n (ls.getD j wr0) = (decide (0 ≤ (ls.getD j wr0).p) && decide ((ls.getD j wr0).p < n)) := rfl
      rw [hq] at HST HFL
      clear hq
      generalize (ls.getD j wr0).p = p at *
      by_cases hin : 0 ≤ p ∧ p < n
      · have HI : Hid (∀ W, Calls Try.prog 22 #[.int .i64 p, .int .i64 0, .int .i64 ((n : Int) - 1)] W fun e w' => e = .returned (.bool true) ∧ w' = W) := fun W => in_yes _ _ _ W (by omega) (by omega)
        have HSA : Hid (allN n (ls.take (j + 1)) = true) := by show _ = _; rw [HST.out, HA.out]; simp [hin]
        clear HST HFL hin
        go_wp2_with fail
        refine (HI.out _).mono ?_
        rintro e w2 ⟨rfl, rfl⟩
        go_wp2_with fail
        go_round
        case rel => exact ⟨j + 1, by omega, by go_num, HSA.out⟩
        case measure => simp [intOf]; omega
      · have HI : Hid (∀ W, Calls Try.prog 22 #[.int .i64 p, .int .i64 0, .int .i64 ((n : Int) - 1)] W fun e w' => e = .returned (.bool false) ∧ w' = W) := fun W => in_no _ _ _ W (by omega)
        have HSA : Hid (allN n ls = false) := HFL.out (by simp; omega)
        clear HST HFL hin
        go_wp2_with fail
        refine (HI.out _).mono ?_
        rintro e w2 ⟨rfl, rfl⟩
        go_wp2_with fail
        go_ret2
        exact ⟨fun h => by rw [HSA.out] at h; exact absurd h.1 (by decide), fun _ => ⟨none, 0, rfl, RowU.nil _ _, fun _ => rfl, Below.refl _ _⟩⟩
    · obtain rfl : j = m := by omega
      have HFA : Hid (allN n ls = true) := by have := HA.out; rw [List.take_of_length_le (by have := HL.out; omega)] at this; exact this
      clear HA hlt
      by_cases hkk : 0 ≤ k ∧ k ≤ j
      · obtain ⟨q, rfl⟩ : ∃ q : Nat, k = q := ⟨k.toNat, by omega⟩
        have hqj : q ≤ j := by omega
        have HI : Hid (∀ W, Calls Try.prog 22 #[.int .i64 (q : Int), .int .i64 0, .int .i64 (j : Int)] W fun e w' => e = .returned (.bool true) ∧ w' = W) := fun W => in_yes _ _ _ W (by omega) (by omega)
        have HG0 : Hid (Blk (w1.alloc (.cells (arr (List.replicate n 0)) 39)) w1.heap.size (arr (List.replicate n 0)) 39) := Blk.new _ _ _
        have HB0 : Hid (Below w1.heap.size w1 (w1.alloc (.cells (arr (List.replicate n 0)) 39))) := (Below.refl _ _).alloc (Nat.le_refl _) _
        have HZL : Hid ((List.replicate n (0 : Int)).length = n) := List.length_replicate
        have HLA : Hid (∀ W, Below w1.heap.size w1 W → ∀ x, x < n → Calls Try.prog 26 #[.slice a n c1, .slice b j c2, .int .i64 (q : Int), .int .i64 (x : Int)] W fun e w' => e = .returned (.int .u32 ((wrt xs (ls.take q)).getD x 0)) ∧ w' = W) := fun W hb x hx =>
          last_any a b n j c1 c2 q x xs ls W (H1.out.below hb) (H2.out.below hb) hx hn2 hm hqj (fun i hi => (allN_at HFA.out i hi).1)
        have HTL : Hid ((wrt xs (ls.take q)).length = n) := by show _ = _; rw [wrt_len]; exact HL.out.1
        have HTE : Hid (wrt xs (ls.take q) = wrt xs (ls.take (q : Int).toNat)) := by show _ = _; rw [Int.toNat_natCast]
        clear hkk H1 H2 HL
        generalize List.replicate n (0 : Int) = zz at *
        generalize wrt xs (ls.take q) = T at *
        go_wp2_with fail
        refine (HI.out _).mono ?_
        rintro e w2 ⟨rfl, rfl⟩
        go_wp2_with fail
        generalize w2.alloc (.cells (arr zz) 39) = W0 at *
        generalize hgg : w2.heap.size = g at *
        have HGG : Hid (w2.heap.size = g) := hgg
        clear hgg hmk
        go_loopw [10] (fun i wr => ∃ (x : Nat) (zs : List Int), x ≤ n ∧ i = .int .i64 (x : Int) ∧ zs.length = n ∧ (∀ i, i < x → zs.getD i 0 = T.getD i 0) ∧ Blk wr g (arr zs) 39 ∧ Below g w2 wr) (fun i _ => n - (intOf i).toNat)
        case atStart => exact ⟨0, zz, Nat.zero_le _, rfl, HZL.out, fun i hi => absurd hi (Nat.not_lt_zero _), HG0.out, HB0.out⟩
        case round =>
          obtain ⟨x, zs, hx, rfl, hzl, hze, hg, hb⟩ := hrel
          have HK : Hid (Blk wr g (arr zs) 39) := hg
          have HB : Hid (Below g w2 wr) := hb
          have HZ : Hid (zs.length = n ∧ ∀ i, i < x → zs.getD i 0 = T.getD i 0) := ⟨hzl, hze⟩
          clear hzl hze hg hb HG0 HB0 HZL
          by_cases hxn : x < n
          · have HC : Hid (Calls Try.prog 26 #[.slice a n c1, .slice b j c2, .int .i64 (q : Int), .int .i64 (x : Int)] wr fun e w' => e = .returned (.int .u32 (T.getD x 0)) ∧ w' = wr) := HLA.out wr HB.out x hxn
            have k0 := Blk.word HK.out x (by rw [HZ.out.1]; exact hxn)
            have k1 := HK.out.free x
            have HNX : Hid (Blk (wr.setCell ⟨g, x, none⟩ (.int .u32 (T.getD x 0))) g (arr (zs.set x (T.getD x 0))) 39) := by
              have h := HK.out.set x (.int .u32 (T.getD x 0))
              rw [arr_set] at h
              exact h
            have HBX : Hid (Below g w2 (wr.setCell ⟨g, x, none⟩ (.int .u32 (T.getD x 0)))) := bel_set HB.out g x _ (Nat.le_refl _)
            have HZX : Hid ((zs.set x (T.getD x 0)).length = n ∧ ∀ i, i < x + 1 → (zs.set x (T.getD x 0)).getD i 0 = T.getD i 0) := by
              refine ⟨by rw [List.length_set]; exact HZ.out.1, fun i hi => ?_⟩
              rw [set_at]
              by_cases e : i = x
              · rw [if_pos ⟨e, by rw [HZ.out.1]; exact hxn⟩, e]
              · rw [if_neg (by omega)]; exact HZ.out.2 i (by omega)
            generalize zs.set x (T.getD x 0) = zs2 at *
            generalize T.getD x 0 = u at *
            generalize zs.getD x 0 = u0 at *
            clear HK HB HZ
            go_wp2_with fail
            refine HC.out.mono ?_
            rintro e w3 ⟨rfl, rfl⟩
            go_wp2_with fail
            go_roundw
            case rel => exact ⟨x + 1, zs2, by omega, by go_num, HZX.out.1, HZX.out.2, HNX.out, HBX.out⟩
            case measure => simp [intOf]; omega
          · obtain rfl : x = n := by omega
            have HX : Hid (RowU wr (some ⟨g, 0, none⟩) x T) := by
              have e : zs = T := list_ext (by rw [HZ.out.1, HTL.out]) (fun i hi => HZ.out.2 i (by rw [HZ.out.1] at hi; exact hi))
              rw [← e]
              exact Blk.rowU HK.out HZ.out.1
            go_wp2_with fail
            go_ret2
            refine ⟨fun _ => ?_, fun h => ?_⟩
            · rw [← HTE.out]
              exact GaveR.mk HX.out (fun h => by cases h) (by rw [HGG.out]; exact HB.out)
            · rcases h with h | h | h
              · rw [HFA.out] at h; cases h
              · omega
              · omega
      · have HI : Hid (∀ W, Calls Try.prog 22 #[.int .i64 k, .int .i64 0, .int .i64 (j : Int)] W fun e w' => e = .returned (.bool false) ∧ w' = W) := fun W => in_no _ _ _ W (by omega)
        have HKK : Hid (¬ (0 ≤ k ∧ k ≤ j)) := hkk
        clear hkk
        go_wp2_with fail
        refine (HI.out _).mono ?_
        rintro e w2 ⟨rfl, rfl⟩
        go_wp2_with fail
        go_ret2
        exact ⟨fun h => absurd h.2 HKK.out, fun _ => ⟨none, 0, rfl, RowU.nil _ _, fun _ => rfl, Below.refl _ _⟩⟩


set_option maxHeartbeats 2000000 in
theorem applied_size (a b : Option Addr) (n m c1 c2 : Nat) (k : Int) (w : World) (h : n = 0 ∨ 2048 < n ∨ 4096 < m) :
    Calls Try.prog 14 #[.slice a n c1, .slice b m c2, .int .i64 k] w fun e w' => GaveR w [] 1 e w' := by
  by_cases h0 : n = 0 ∨ 2048 < n
  · have HM : Hid (∀ W, Calls Try.prog 22 #[.int .i64 (n : Int), .int .i64 1, .int .i64 2048] W fun e w' => e = .returned (.bool false) ∧ w' = W) := fun W => in_no _ _ _ W (by omega)
    clear h h0
    go_enter Try.func14, Try.ntmps14
    go_wp2_with fail
    refine (HM.out _).mono ?_
    rintro e w1 ⟨rfl, rfl⟩
    go_wp2_with fail
    go_ret2
    exact ⟨none, 0, rfl, RowU.nil _ _, fun _ => rfl, Below.refl _ _⟩
  · have HM : Hid (∀ W, Calls Try.prog 22 #[.int .i64 (n : Int), .int .i64 1, .int .i64 2048] W fun e w' => e = .returned (.bool true) ∧ w' = W) := fun W => in_yes _ _ _ W (by omega) (by omega)
    have h4 : decide ((4096 : Int) < (m : Int)) = true := by simp; omega
    clear h h0
    go_enter Try.func14, Try.ntmps14
    go_wp2_with fail
    refine (HM.out _).mono ?_
    rintro e w1 ⟨rfl, rfl⟩
    go_wp2_with fail
    go_ret2
    exact ⟨none, 0, rfl, RowU.nil _ _, fun _ => rfl, Below.refl _ _⟩

end Go.Proofs.Ytiipnokmiknfoaa.cell
