/- One digit's text, and what it makes behind another one. -/
import Derived.Test.YtlicdeppfhmfjabDoorCkGdN
namespace Go.Proofs.YtlicdeppfhmfjabDoor.check
open Go.RowKit

/-- One digit's text. -/
def digT (d : Nat) : ByteArray := ⟨#[UInt8.ofNat (48 + d)]⟩
theorem digT_list (d : Nat) : (digT d).data.toList = [UInt8.ofNat (48 + d)] := rfl
theorem digT_D {d : Nat} (h : d < 10) : isD (UInt8.ofNat (48 + d)) = true := by
  simp only [isD, UInt8.toNat_ofNat', Bool.and_eq_true, decide_eq_true_eq]; omega
theorem digT_val {d : Nat} (h : d < 10) : (UInt8.ofNat (48 + d)).toNat - 48 = d := by
  simp only [UInt8.toNat_ofNat']; omega

theorem sum_behind {s : ByteArray} (hd : allD s.data.toList = true) {d : Nat} (h : d < 10) : allD (s ++ digT d).data.toList = true ∧ (sumR (s ++ digT d).data.toList 0 = 0 ↔ d = invN (sumR s.data.toList 1)) := by
  have e : (s ++ digT d).data.toList = s.data.toList ++ [UInt8.ofNat (48 + d)] := by simp [digT]
  rw [e]
  refine ⟨by rw [allD_append, hd]; show (isD _ && true) = true; rw [digT_D h]; rfl, ?_⟩
  unfold sumR
  rw [digs_append, List.reverse_append, show digs [UInt8.ofNat (48 + d)] = [d] by simp only [digs, List.map]; rw [digT_val h]]
  exact fold_zero _ d h (digs_ok hd).rev
theorem flaw_good {l : List UInt8} (h1 : 1 ≤ l.length) (h2 : l.length ≤ 200) (h3 : allD l = true) : flawR l = 0 := flawR_ok (by omega) h3
theorem good_iff {l : List UInt8} (h2 : 2 ≤ l.length) (h0 : flawR l = 0) : goodR l = (sumR l 0 == 0) := by unfold goodR; rw [h0]; simp [h2]

end Go.Proofs.YtlicdeppfhmfjabDoor.check
