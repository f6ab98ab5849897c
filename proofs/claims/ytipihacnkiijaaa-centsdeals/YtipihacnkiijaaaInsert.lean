/- A short stretch sorted by insertion. -/
import Derived.Test.YtipihacnkiijaaaSymB
namespace Go.Proofs.Ytipihacnkiijaaa.cents
open Go.RowKit
variable {w0 : World} {g n B : Nat} {key : Int → Int}

def Inc (f : Nat → Int) (a b : Nat) : Prop := ∀ x y, a ≤ x → x < y → y < b → f x < f y

theorem rotB_at (f : Nat → Int) (m k : Nat) (h : k ≤ m) : rot f m (m - k) 1 k = f m := by
  simp only [rot]; rw [if_pos (by omega)]; congr 1; omega
theorem rotB_below (f : Nat → Int) (m k x : Nat) (h : x < k) (hk : k ≤ m) : rot f m (m - k) 1 x = f x := by
  simp only [rot]; rw [if_neg (by omega), if_neg (by omega)]

theorem ins_done {f fi : Nat → Int} {a i j b : Nat} (hinc : Inc f a b) (hm : Mix f fi a i) (hs : Srt key fi a i) (h1 : a ≤ j) (h2 : j ≤ i) (h3 : i < b)
    (hj : j = a ∨ ¬ key (fi (j - 1)) < key (fi i)) (hhi : ∀ k, j ≤ k → k < i → key (fi k) < key (fi i)) :
    Mix f (rot fi i (i - j) 1) a (i + 1) ∧ Srt key (rot fi i (i - j) 1) a (i + 1) := by
  have t : Tie fi a i (i + 1) := by
    intro x y x1 x2 y1 y2
    obtain rfl : y = i := by omega
    obtain ⟨x', x3, x4, e⟩ := hm.fro x x1 x2
    rw [e, hm.out y (by omega)]
    exact hinc x' y x3 (by omega) h3
  have hlo : ∀ k, a ≤ k → k < j → key (fi i) ≤ key (fi k) := by
    intro k k1 k2
    rcases hj with hj | hj
    · omega
    · by_cases e : k = j - 1
      · rw [e]; omega
      · have := hs k (j - 1) k1 (by omega) (by omega)
        unfold Lo at this; omega
  have h := sorted_B (key := key) (f := fi) (b := i + 1) rfl h1 h2 hs t hlo hhi
  exact ⟨(hm.wide (Nat.le_refl _) (by omega)).trans h.1, h.2⟩

set_option maxRecDepth 100000 in
set_option maxHeartbeats 4000000 in
theorem insert_any (hc : CmpOk w0 g n B key) (cap a b : Nat) (f : Nat → Int) (w : World) (h : Own w0 w g n f) (hab : a ≤ b) (h3 : b ≤ n) (hn : n ≤ 50) (hi0 : In0 n f) (hinc : Inc f a b) :
    Calls Try.prog 53 #[.slice (some ⟨g, 0, none⟩) n cap, .int .i64 a, .int .i64 b, cmpV B] w fun e w' => e = .returned (.tuple #[]) ∧ ∃ f', Own w0 w' g n f' ∧ Mix f f' a b ∧ Srt key f' a b := by
  have HC : Hid (CmpOk w0 g n B key) := hc
  have HI : Hid (In0 n f) := hi0
  have HN : Hid (Inc f a b) := hinc
  clear hc hi0 hinc
  go_enter Try.func53, Try.ntmps53
  go_wp2_with fail
  go_loopw [8] (fun vi wr => ∃ (i : Nat) (fi : Nat → Int), a < i ∧ i ≤ b + 1 ∧ vi = .int .i64 i ∧ Own w0 wr g n fi ∧ Mix f fi a (min i b) ∧ Srt key fi a (min i b)) (fun vi _ => b + 1 - (intOf vi).toNat)
  case atStart => exact ⟨a + 1, f, by omega, by omega, by go_num, h, Mix.refl _ _ _, Srt.empty key f (by omega)⟩
  case round =>
    obtain ⟨i, fi, hai, hib, rfl, ho, hm, hs⟩ := hrel
    clear h
    by_cases hlt : i < b
    · have em : min i b = i := by omega
      rw [em] at hm hs
      have HM : Hid (Mix f fi a i) := hm
      have HS : Hid (Srt key fi a i) := hs
      have HO : Hid (Own w0 wr g n fi) := ho
      have HI1 : Hid (In0 n fi) := hm.allN (P := fun v => 0 ≤ v ∧ v < n) (by omega) HI.out
      clear hm hs ho em
      go_wp2_with fail
      go_loopw [9] (fun vj wr => ∃ j : Nat, a ≤ j ∧ j ≤ i ∧ vj = .int .i64 j ∧ Own w0 wr g n (rot fi i (i - j) 1) ∧ ∀ k, j ≤ k → k < i → key (fi k) < key (fi i)) (fun vj _ => (intOf vj).toNat)
      case atStart => exact ⟨i, by omega, Nat.le_refl _, rfl, HO.out.congr fun x _ => (rotB_zero fi i x).symm, fun k k1 k2 => by omega⟩
      case round =>
        obtain ⟨j, haj, hji, rfl, ho2, hhi⟩ := hrel
        have HH : Hid (∀ k, j ≤ k → k < i → key (fi k) < key (fi i)) := hhi
        have HO2 : Hid (Own w0 wr g n (rot fi i (i - j) 1)) := ho2
        have HDN : Hid (j = a ∨ ¬ key (fi (j - 1)) < key (fi i) → Mix f (rot fi i (i - j) 1) a (i + 1) ∧ Srt key (rot fi i (i - j) 1) a (i + 1)) := fun hj => ins_done HN.out HM.out HS.out haj hji hlt hj hhi
        clear hhi ho2
        by_cases hja : a < j
        · obtain ⟨j, rfl⟩ : ∃ q, j = q + 1 := ⟨j - 1, by omega⟩
          have e1 : rot fi i (i - (j + 1)) 1 (j + 1) = fi i := rotB_at fi i (j + 1) hji
          have e2 : rot fi i (i - (j + 1)) 1 j = fi j := rotB_below fi i (j + 1) j (by omega) hji
          have c1 := HO2.out.cell (i := j) (by omega)
          have c2 := HO2.out.cell (i := j + 1) (by omega)
          have f1 := HO2.out.frozen j
          have f2 := HO2.out.frozen (j + 1)
          have HSW : Hid (∀ N, Own w0 (((wr.drewN N).setCell ⟨g, j + 1, none⟩ (.int .i64 (rot fi i (i - (j + 1)) 1 j))).setCell ⟨g, j, none⟩ (.int .i64 (rot fi i (i - (j + 1)) 1 (j + 1)))) g n (swp (rot fi i (i - (j + 1)) 1) (j + 1) j)) := fun N => (HO2.out.drewN N).swap (j + 1) j
          have HF : Hid (∀ x, x < n → swp (rot fi i (i - (j + 1)) 1) (j + 1) j x = rot fi i (i - j) 1 x) := fun x _ => rotB_step fi i j x (by omega)
          rw [e2] at c1
          rw [e1] at c2
          rw [e1, e2] at HSW
          clear e1 e2
          have b1 := HI1.out i (by omega)
          have b2 := HI1.out j (by omega)
          have HX : Hid (cv key (fi i) (fi j) < 0 ↔ key (fi j) < key (fi i)) := cv_neg key (fi i) (fi j)
          have hbd := cv_bd key (fi i) (fi j)
          have HCC : Hid (∀ N, Calls Try.prog 34 #[.int .i64 (fi i), .int .i64 (fi j), .pointer (some ⟨B, 0, none⟩)] (wr.drewN N) fun e w' => e = .returned (.int .i64 (cv key (fi i) (fi j))) ∧ ∃ q, w' = (wr.drewN N).drewN q) := fun N => HC.out _ _ _ _ (HO2.out.drewN N) b1.1 b1.2 b2.1 b2.2
          have HST : Hid (key (fi j) < key (fi i) → ∀ k, j ≤ k → k < i → key (fi k) < key (fi i)) := by
            intro hk k k1 k2
            by_cases e : k = j
            · rw [e]; exact hk
            · exact HH.out k (by omega) k2
          clear b1 b2
          generalize cv key (fi i) (fi j) = c at *
          generalize hfi : fi i = x at *
          generalize hfj : fi j = y at *
          have HFI : Hid (fi i = x) := hfi
          have HFJ : Hid (fi j = y) := hfj
          clear hfi hfj
          have hg1 : (a : Int) < (j : Int) + 1 := by omega
          go_wp2_with fail
          by_cases hk : c < 0
          · go_quiet ((go_at_call 34; exact Calls.quiet_of (HCC.out _)))
            go_wp2_with fail
            go_region
            go_wp2_with fail
            go_roundw
            case rel => exact ⟨j, by omega, by omega, by go_num, (HSW.out _).congr HF.out, HST.out (HX.out.1 hk)⟩
            case measure => simp [intOf]
          · go_quiet ((go_at_call 34; exact Calls.quiet_of (HCC.out _)))
            go_wp2_with fail
            go_roundw
            case rel =>
              have hd := HDN.out (.inr (by rw [show j + 1 - 1 = j by omega, HFJ.out]; have := HX.out; omega))
              have em : min (i + 1) b = i + 1 := by omega
              exact ⟨i + 1, _, by omega, by omega, by go_num, HO2.out.drewN _, by rw [em]; exact hd.1, by rw [em]; exact hd.2⟩
            case measure => simp [intOf]; omega
        · have hja' : ¬ (a : Int) < (j : Int) := by omega
          go_wp2_with fail
          go_region
          go_wp2_with fail
          go_roundw
          case rel =>
            have hd := HDN.out (.inl (by omega))
            have em : min (i + 1) b = i + 1 := by omega
            exact ⟨i + 1, _, by omega, by omega, by go_num, HO2.out.drew, by rw [em]; exact hd.1, by rw [em]; exact hd.2⟩
          case measure => simp [intOf]; omega
    · go_wp2_with fail
      go_end0
      have em : min i b = b := by omega
      rw [em] at hm hs
      exact ⟨rfl, fi, ho, hm, hs⟩

end Go.Proofs.Ytipihacnkiijaaa.cents
