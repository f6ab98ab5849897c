/- What is read of a text: plain facts. -/
import Derived.Test.YtnhidiefchamlaaDoorCutN
namespace Go.Proofs.YtnhidiefchamlaaDoor.cents
open Go.RowKit

/-- The text without its sign. -/
def body (l : List UInt8) : List UInt8 := if neg l then l.drop 1 else l
/-- Ahead of the first dot, and behind it. -/
def units (t : List UInt8) : List UInt8 := t.take (Lib.indexByte t 46).toNat
def rests (t : List UInt8) : List UInt8 := t.drop ((Lib.indexByte t 46).toNat + 1)
def form (t : List UInt8) : Bool := decide (0 ≤ Lib.indexByte t 46) && (whole (units t) && ((rests t).length == 2 && allD (rests t)))
/-- What P1.5 says: the amount, and the error's number. -/
def readR (l : List UInt8) : Int × Int :=
  if 20 < l.length then (0, 1)
  else if form (body l) = false ∨ l = [45, 48, 46, 48, 48] then (0, 3)
  else if 1000000000000 < dval (units (body l) ++ rests (body l)) then (0, 2)
  else (if neg l then -dval (units (body l) ++ rests (body l)) else dval (units (body l) ++ rests (body l)), 0)

theorem whole_D {l : List UInt8} (h : whole l = true) : allD l = true := by
  unfold whole at h
  rw [Bool.or_eq_true] at h
  rcases h with h | h
  · rw [show l = [48] by simpa using h]; rfl
  · rw [Bool.and_eq_true] at h; exact h.2

def cutT (s : ByteArray) : ByteArray := if neg s.data.toList then s.extract 1 s.size else s
theorem cutT_list (s : ByteArray) : (cutT s).data.toList = body s.data.toList := by
  unfold cutT body
  cases neg s.data.toList
  · rfl
  · exact Lib.extract_to_end s 1
theorem cutT_size (s : ByteArray) : (cutT s).size ≤ s.size := by
  rw [← len_eq, cutT_list, ← len_eq]
  unfold body
  split
  · simp
  · exact Nat.le_refl _

theorem ret_err {x : Int} {p : Int × Int} (h : p = (0, x)) : Ending.returned (.tuple #[.int .i64 0, .int .i64 x]) = .returned (.tuple #[.int .i64 p.1, .int .i64 p.2]) := by rw [h]

theorem ret_pair' {a b : Int} {p : Int × Int} (h : p = (a, b)) : Ending.returned (.tuple #[.int .i64 a, .int .i64 b]) = .returned (.tuple #[.int .i64 p.1, .int .i64 p.2]) := by rw [h]

theorem readR_form {l : List UInt8} (h1 : ¬ 20 < l.length) (h : form (body l) = false) : readR l = (0, 3) := by
  unfold readR; rw [if_neg h1, if_pos (.inl h)]
theorem readR_zero {l : List UInt8} (h1 : ¬ 20 < l.length) (h : l = [45, 48, 46, 48, 48]) : readR l = (0, 3) := by
  unfold readR; rw [if_neg h1, if_pos (.inr h)]
theorem readR_good {l : List UInt8} (h1 : ¬ 20 < l.length) (h2 : form (body l) = true) (h3 : ¬ l = [45, 48, 46, 48, 48]) :
    readR l = if 1000000000000 < dval (units (body l) ++ rests (body l)) then (0, 2) else (if neg l then -dval (units (body l) ++ rests (body l)) else dval (units (body l) ++ rests (body l)), 0) := by
  unfold readR; rw [if_neg h1, if_neg (by simp [h2, h3])]

theorem form_no {t : List UInt8} (h : Lib.indexByte t 46 = -1) : form t = false := by unfold form; simp [h]
theorem form_eq {t : List UInt8} {i : Nat} (h : Lib.indexByte t 46 = i) : form t = (whole (t.take i) && ((t.drop (i + 1)).length == 2 && allD (t.drop (i + 1)))) := by
  unfold form units rests; simp [h]

end Go.Proofs.YtnhidiefchamlaaDoor.cents
