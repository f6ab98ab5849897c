/- Two neighbouring stretches of a row change places. -/
import Derived.Test.YtipihacnkiijaaaOwn
namespace Go.Proofs.Ytipihacnkiijaaa.cents
open Go.RowKit
variable {w0 w : World} {g n : Nat}

def sr (f : Nat → Int) (a b c : Nat) : Nat → Int := fun k => if a ≤ k ∧ k < a + c then f (k + (b - a)) else if b ≤ k ∧ k < b + c then f (k - (b - a)) else f k
/-- The i numbers ahead of place m and the j from there on have changed places. -/
def rot (f : Nat → Int) (m i j : Nat) : Nat → Int := fun k => if m - i ≤ k ∧ k < m - i + j then f (k + i) else if m - i + j ≤ k ∧ k < m + j then f (k - j) else f k

theorem swapRange_sr (cf : Value) (cap : Nat) (a b c : Int) (A B C : Nat) (f : Nat → Int) (w : World) (ha : a = A) (hb : b = B) (hc : c = C) (h : Own w0 w g n f) (h1 : A + C ≤ B) (h2 : B + C ≤ n) (hn : n ≤ 50) :
    Calls Try.prog 59 #[.slice (some ⟨g, 0, none⟩) n cap, .int .i64 a, .int .i64 b, .int .i64 c, cf] w fun e w' => e = .returned (.tuple #[]) ∧ Own w0 w' g n (sr f A B C) := by
  subst ha hb hc
  exact swapRange_any cf cap A B C f w h h1 h2 hn

theorem rot_gt (f : Nat → Int) (m i j : Nat) (h1 : i ≤ m) (h2 : j < i) (k : Nat) : rot (sr f (m - i) m j) m (i - j) j k = rot f m i j k := by
  simp only [rot, sr]
  repeat' split
  all_goals first | omega | (congr 1; omega)
theorem rot_lt (f : Nat → Int) (m i j : Nat) (h1 : i ≤ m) (h2 : i < j) (k : Nat) : rot (sr f (m - i) (m + j - i) i) m i (j - i) k = rot f m i j k := by
  simp only [rot, sr]
  repeat' split
  all_goals first | omega | (congr 1; omega)
theorem rot_eq (f : Nat → Int) (m i : Nat) (h1 : i ≤ m) (k : Nat) : sr f (m - i) m i k = rot f m i i k := by
  simp only [rot, sr]
  repeat' split
  all_goals first | omega | (congr 1; omega)

set_option maxHeartbeats 1000000 in
theorem rotate_any (cf : Value) (cap a m b : Nat) (f : Nat → Int) (w : World) (h : Own w0 w g n f) (h1 : a < m) (h2 : m < b) (h3 : b ≤ n) (hn : n ≤ 50) :
    Calls Try.prog 57 #[.slice (some ⟨g, 0, none⟩) n cap, .int .i64 a, .int .i64 m, .int .i64 b, cf] w fun e w' => e = .returned (.tuple #[]) ∧ Own w0 w' g n (rot f m (m - a) (b - m)) := by
  go_enter Try.func57, Try.ntmps57
  go_wp2_with fail
  go_loopw [10, 11] (fun vi vj wr => ∃ (i j : Nat) (fi : Nat → Int), 0 < i ∧ 0 < j ∧ i ≤ m - a ∧ j ≤ b - m ∧ vi = .int .i64 i ∧ vj = .int .i64 j ∧ Own w0 wr g n fi ∧ ∀ k, rot fi m i j k = rot f m (m - a) (b - m) k) (fun vi vj _ => (intOf vi).toNat + (intOf vj).toNat)
  case atStart => exact ⟨m - a, b - m, f, by omega, by omega, Nat.le_refl _, Nat.le_refl _, by congr 1; omega, by congr 1; omega, h, fun _ => rfl⟩
  case round =>
    obtain ⟨i, j, fi, hi, hj, hia, hjb, rfl, rfl, ho, hr⟩ := hrel
    have HO : Hid (Own w0 wr g n fi) := ho
    have HR : Hid (∀ k, rot fi m i j k = rot f m (m - a) (b - m) k) := hr
    clear h ho hr
    by_cases he : i = j
    · subst he
      have hne : ((i : Int) != (i : Int)) = false := by simp
      go_wp2_with fail
      refine (swapRange_sr _ _ _ _ _ (m - i) m i fi _ (by omega) (by omega) (by omega) HO.out (by omega) (by omega) hn).mono ?_
      rintro e w' ⟨rfl, hw⟩
      go_wp2_with fail
      go_end0
      exact ⟨rfl, hw.congr fun k _ => by rw [rot_eq fi m i (by omega), HR.out]⟩
    · have hne : ((i : Int) != (j : Int)) = true := by simp; omega
      have HE : Hid (¬ i = j) := he
      clear he
      by_cases hgt : j < i
      · go_wp2_with fail
        refine (swapRange_sr _ _ _ _ _ (m - i) m j fi _ (by omega) (by omega) (by omega) HO.out (by omega) (by omega) hn).mono ?_
        rintro e w' ⟨rfl, hw⟩
        go_wp2_with fail
        go_roundw
        case rel => exact ⟨i - j, j, _, by omega, hj, by omega, hjb, by congr 1; omega, rfl, hw, fun k => by rw [rot_gt fi m i j (by omega) hgt, HR.out]⟩
        case measure => simp [intOf]; omega
      · go_wp2_with fail
        have hlt : i < j := by have := HE.out; omega
        refine (swapRange_sr _ _ _ _ _ (m - i) (m + j - i) i fi _ (by omega) (by omega) (by omega) HO.out (by omega) (by omega) hn).mono ?_
        rintro e w' ⟨rfl, hw⟩
        go_wp2_with fail
        go_roundw
        case rel => exact ⟨i, j - i, _, hi, by have := HE.out; omega, hia, by omega, rfl, by congr 1; omega, hw, fun k => by rw [rot_lt fi m i j (by omega) (by have := HE.out; omega), HR.out]⟩
        case measure => simp [intOf]; omega

end Go.Proofs.Ytipihacnkiijaaa.cents
