/- Events: plain facts. -/
import Derived.Test.YtfhlokjpdkmdjaaClN
import Derived.WalkKit
namespace Go.Proofs.Ytfhlokjpdkmdjaa.book
open Go.RowKit
set_option maxRecDepth 100000
set_option linter.unusedVariables false
set_option linter.unusedSimpArgs false

/-- An event: its thirteen numbers. -/
structure Ev where
  kd : Int
  me : Int
  mo : Int
  id : Int
  te : Int
  de : Int
  fe : Int
  pr : Int
  ch : Int
  un : Int
  tg : Int
  ow : Int
  bp : Int
def ev0 : Ev := ⟨0, 0, 0, 0, 0, 0, 0, 0, 0, 0, 0, 0, 0⟩
/-- An event that may be. -/
def EMay (v : Ev) : Prop := (0 ≤ v.me ∧ v.me ≤ 49) ∧ ((v.kd = 1 ∧ v.mo = 0 ∧ v.id = 0 ∧ v.te = 0 ∧ v.de = 0 ∧ v.fe = 0 ∧ v.pr = 0 ∧ v.ch = 0 ∧ v.un = 0 ∧ v.tg = 0 ∧ v.ow = 0 ∧ v.bp = 0) ∨ (v.kd = 5 ∧ v.mo = 0 ∧ v.id = 0 ∧ v.te = 0 ∧ v.de = 0 ∧ v.fe = 0 ∧ v.pr = 0 ∧ v.ch = 0 ∧ v.un = 0 ∧ v.tg = 0 ∧ (1 ≤ v.ow ∧ v.ow ≤ 1000000000) ∧ 0 ≤ v.bp ∧ v.bp ≤ 10000) ∨
  ((2 ≤ v.kd ∧ v.kd ≤ 4) ∧ (1 ≤ v.id ∧ v.id ≤ 1048575) ∧ (0 ≤ v.tg ∧ v.tg ≤ 65535) ∧ (v.ow = 0 ∧ v.bp = 0) ∧ ((v.kd = 4 ∧ v.mo = 0 ∧ v.te = 0 ∧ v.de = 0 ∧ v.fe = 0 ∧ v.pr = 0 ∧ v.ch = 0 ∧ v.un = 0) ∨ (v.kd ≠ 4 ∧ (0 ≤ v.mo ∧ v.mo ≤ 2399) ∧ (1 ≤ v.un ∧ v.un ≤ 2097151) ∧
    ((v.kd = 3 ∧ v.te = 0 ∧ v.de = 0 ∧ v.fe = 0 ∧ v.pr = 0 ∧ v.ch = 0) ∨ (v.kd ≠ 3 ∧ (1 ≤ v.te ∧ v.te ≤ 100000000) ∧ (0 ≤ v.de ∧ v.de ≤ v.te) ∧ (0 ≤ v.fe ∧ v.fe ≤ v.te) ∧ (0 ≤ v.pr ∧ v.pr ≤ v.te) ∧ (0 ≤ v.ch ∧ v.ch ≤ v.te) ∧ v.de + v.fe + v.pr + v.ch = v.te))))))
def evL (v : Ev) : List Int := [v.kd, v.me, v.mo, v.id, v.te, v.de, v.fe, v.pr, v.ch, v.un, v.tg, v.ow, v.bp]
theorem evL_len (v : Ev) : (evL v).length = 13 := rfl
/-- All its numbers are words. -/
theorem may_word {v : Ev} (h : EMay v) : ∀ x ∈ evL v, 0 ≤ x ∧ x < 4294967296 := by
  intro x hx
  unfold EMay at h
  simp only [evL, List.mem_cons, List.not_mem_nil, or_false] at hx
  rcases hx with rfl | rfl | rfl | rfl | rfl | rfl | rfl | rfl | rfl | rfl | rfl | rfl | rfl <;> omega
/-- The event with these words. -/
def evOf (l : List Int) : Ev := ⟨l.getD 0 0, l.getD 1 0, l.getD 2 0, l.getD 3 0, l.getD 4 0, l.getD 5 0, l.getD 6 0, l.getD 7 0, l.getD 8 0, l.getD 9 0, l.getD 10 0, l.getD 11 0, l.getD 12 0⟩
theorem evOf_L (v : Ev) : evOf (evL v) = v := rfl
theorem evL_Of {l : List Int} (h : l.length = 13) : evL (evOf l) = l := by
  match l, h with
  | [a0, a1, a2, a3, a4, a5, a6, a7, a8, a9, a10, a11, a12], _ => rfl
/-- What Encode gives. -/
def EncIs (v : Ev) (ws : List Int) (e : Int) : Prop := (EMay v ∧ ws = evL v ∧ e = 0) ∨ (¬ EMay v ∧ ws = [] ∧ e = 5)
theorem EncIs.one {v : Ev} {a b : List Int} {e f : Int} (h : EncIs v a e) (h' : EncIs v b f) : a = b ∧ e = f := by
  rcases h with ⟨q, rfl, rfl⟩ | ⟨q, rfl, rfl⟩ <;> rcases h' with ⟨q', rfl, rfl⟩ | ⟨q', rfl, rfl⟩ <;> first | exact ⟨rfl, rfl⟩ | contradiction
/-- What Decode gives. -/
def DecIs (l : List Int) (v : Ev) (e : Int) : Prop := (l.length ≠ 13 ∧ v = ev0 ∧ e = 1) ∨ (l.length = 13 ∧ ¬ EMay (evOf l) ∧ v = ev0 ∧ e = 5) ∨ (l.length = 13 ∧ EMay (evOf l) ∧ v = evOf l ∧ e = 0)
theorem DecIs.one {l : List Int} {a b : Ev} {e f : Int} (h : DecIs l a e) (h' : DecIs l b f) : a = b ∧ e = f := by
  rcases h with ⟨q, rfl, rfl⟩ | ⟨q, r, rfl, rfl⟩ | ⟨q, r, rfl, rfl⟩ <;> rcases h' with ⟨q', rfl, rfl⟩ | ⟨q', r', rfl, rfl⟩ | ⟨q', r', rfl, rfl⟩ <;> first | exact ⟨rfl, rfl⟩ | contradiction

end Go.Proofs.Ytfhlokjpdkmdjaa.book
