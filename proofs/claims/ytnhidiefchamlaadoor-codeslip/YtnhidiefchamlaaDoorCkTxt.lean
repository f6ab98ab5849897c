/- Texts of digits: plain facts. -/
import Derived.Test.YtnhidiefchamlaaDoorChk
import Derived.WalkKit
import Derived.Below
import Derived.Laws.RangeAny
namespace Go.Proofs.YtnhidiefchamlaaDoor.check
open Go.RowKit

def isD (c : UInt8) : Bool := decide (48 ≤ c.toNat) && decide (c.toNat ≤ 57)
def allD (l : List UInt8) : Bool := l.all isD
/-- What the digits of a text tell. -/
def digs (l : List UInt8) : List Nat := l.map fun c => c.toNat - 48
/-- Why a text is none of digits (P3.4). -/
def flawR (l : List UInt8) : Int := if l.length = 0 ∨ 200 < l.length then 1 else if allD l then 0 else 7

theorem ret_bool {a b : Bool} (h : a = b) : Ending.returned (.bool a) = .returned (.bool b) := by rw [h]
theorem ret_int {k : IntKind} {a b : Int} (h : a = b) : Ending.returned (.int k a) = .returned (.int k b) := by rw [h]
theorem allD_append (a b : List UInt8) : allD (a ++ b) = (allD a && allD b) := by simp [allD]
theorem digs_append (a b : List UInt8) : digs (a ++ b) = digs a ++ digs b := by simp [digs]
theorem digs_len (l : List UInt8) : (digs l).length = l.length := by simp [digs]
theorem isD_bd {c : UInt8} (h : isD c = true) : 48 ≤ (c.toNat : Int) ∧ (c.toNat : Int) ≤ 57 := by
  simp [isD] at h; omega
theorem digs_ok {l : List UInt8} (h : allD l = true) : AllD (digs l) := by
  intro d hd
  obtain ⟨c, hc, rfl⟩ := List.mem_map.1 hd
  have := isD_bd (List.all_eq_true.1 h c hc)
  omega
theorem len_eq (s : ByteArray) : s.data.toList.length = s.size := Array.length_toList
theorem take_snoc (s : ByteArray) (k : Nat) (h : k < s.size) : s.data.toList.take (k + 1) = s.data.toList.take k ++ [s[k]] := by
  rw [List.take_succ_eq_append_getElem (by simpa using h)]; rfl
theorem drop_cons (s : ByteArray) (k : Nat) (h : k < s.size) : s.data.toList.drop k = s[k] :: s.data.toList.drop (k + 1) := by
  rw [List.drop_eq_getElem_cons (by simpa using h)]; rfl
theorem allD_take_no (s : ByteArray) (k : Nat) (h : k < s.size) (hn : isD s[k] = false) : allD s.data.toList = false := by
  have e : s.data.toList = s.data.toList.take k ++ [s[k]] ++ s.data.toList.drop (k + 1) := by rw [← take_snoc s k h, List.take_append_drop]
  rw [e, allD_append, allD_append]
  simp [allD, hn]
theorem take_parts (s : ByteArray) (k : Nat) (hp : k < s.size) (h : allD s.data.toList = true) : allD (s.data.toList.take k) = true ∧ isD s[k] = true ∧ allD (s.data.toList.drop (k + 1)) = true := by
  have e : s.data.toList = s.data.toList.take k ++ [s[k]] ++ s.data.toList.drop (k + 1) := by rw [← take_snoc s k hp, List.take_append_drop]
  rw [e, allD_append, allD_append, Bool.and_eq_true, Bool.and_eq_true] at h
  exact ⟨h.1.1, by simpa [allD] using h.1.2, h.2⟩
theorem isD_yes {c : UInt8} (h1 : 48 ≤ (c.toNat : Int)) (h2 : (c.toNat : Int) ≤ 57) : isD c = true := by simp [isD]; omega
theorem isD_lo {c : UInt8} (h1 : (c.toNat : Int) < 48) : isD c = false := by simp [isD]; omega
theorem isD_hi {c : UInt8} (h1 : 57 < (c.toNat : Int)) : isD c = false := by simp [isD]; omega
theorem iter_below (w : World) (s : ByteArray) (k : Nat) : Below w.heap.size w (w.iter s k) := (Below.refl _ _).alloc (Nat.le_refl _) _

theorem flawR_size {l : List UInt8} (h : l.length = 0 ∨ 200 < l.length) : flawR l = 1 := by unfold flawR; rw [if_pos h]
theorem flawR_no {l : List UInt8} (h : ¬ (l.length = 0 ∨ 200 < l.length)) (h2 : allD l = false) : flawR l = 7 := by unfold flawR; rw [if_neg h, h2]; rfl
theorem flawR_ok {l : List UInt8} (h : ¬ (l.length = 0 ∨ 200 < l.length)) (h2 : allD l = true) : flawR l = 0 := by unfold flawR; rw [if_neg h, h2]; rfl

end Go.Proofs.YtnhidiefchamlaaDoor.check
