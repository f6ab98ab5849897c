/- Which events may be: plain facts for the program. -/
import Derived.Test.YtfhlokjpdkmdjaaBkD
import Derived.WalkKit
import Derived.Below
namespace Go.Proofs.Ytfhlokjpdkmdjaa.book
open Go.RowKit
set_option maxRecDepth 100000
set_option linter.unusedVariables false
set_option linter.unusedSimpArgs false

/-- What is left of an event, when what its kind has is taken away. -/
def leftE (v : Ev) : Ev := if v.kd = 2 then ⟨0, 0, 0, 0, 0, 0, 0, 0, 0, 0, 0, v.ow, v.bp⟩ else if v.kd = 3 then ⟨0, 0, 0, 0, v.te, v.de, v.fe, v.pr, v.ch, 0, 0, v.ow, v.bp⟩ else if v.kd = 4 then ⟨0, 0, v.mo, 0, v.te, v.de, v.fe, v.pr, v.ch, v.un, 0, v.ow, v.bp⟩ else if v.kd = 5 then ⟨0, 0, v.mo, v.id, v.te, v.de, v.fe, v.pr, v.ch, v.un, v.tg, 0, 0⟩ else ⟨0, 0, v.mo, v.id, v.te, v.de, v.fe, v.pr, v.ch, v.un, v.tg, v.ow, v.bp⟩
def Numd (id tg : Int) : Prop := (1 ≤ id ∧ id ≤ 1048575) ∧ 0 ≤ tg ∧ tg ≤ 65535
def Unt (un : Int) : Prop := 1 ≤ un ∧ un ≤ 2097151
def Mon (mo : Int) : Prop := 0 ≤ mo ∧ mo ≤ 2399
def Mony (te de fe pr ch : Int) : Prop := (1 ≤ te ∧ te ≤ 100000000) ∧ ((0 ≤ de ∧ de ≤ 100000000) ∧ (0 ≤ fe ∧ fe ≤ 100000000) ∧ (0 ≤ pr ∧ pr ≤ 100000000) ∧ 0 ≤ ch ∧ ch ≤ 100000000) ∧ de + fe + pr + ch = te
def Dbt (ow bp : Int) : Prop := (1 ≤ ow ∧ ow ≤ 1000000000) ∧ 0 ≤ bp ∧ bp ≤ 10000
def KindR (v : Ev) : Prop := v.kd = 1 ∨ (v.kd = 2 ∧ Mon v.mo ∧ Numd v.id v.tg ∧ Unt v.un ∧ Mony v.te v.de v.fe v.pr v.ch) ∨ (v.kd = 3 ∧ Mon v.mo ∧ Numd v.id v.tg ∧ Unt v.un) ∨ (v.kd = 4 ∧ Numd v.id v.tg) ∨ (v.kd = 5 ∧ Dbt v.ow v.bp)
set_option maxHeartbeats 2000000 in
theorem may_iff (v : Ev) : EMay v ↔ (0 ≤ v.me ∧ v.me ≤ 49) ∧ KindR v ∧ leftE v = ev0 := by
  obtain ⟨kd, me, mo, id, te, de, fe, pr, ch, un, tg, ow, bp⟩ := v
  unfold EMay KindR leftE ev0 Numd Unt Mon Mony Dbt
  simp only
  by_cases h1 : kd = 1
  · subst h1; simp
  by_cases h2 : kd = 2
  · subst h2; simp; intro _ _; constructor <;> intro h <;> omega
  by_cases h3 : kd = 3
  · subst h3; simp; intro _ _; constructor <;> intro h <;> omega
  by_cases h4 : kd = 4
  · subst h4; simp; intro _ _; constructor <;> intro h <;> omega
  by_cases h5 : kd = 5
  · subst h5; simp; intro _ _; constructor <;> intro h <;> omega
  constructor
  · rintro ⟨_, h | h | h⟩
    · exact absurd h.1 h1
    · exact absurd h.1 h5
    · have := h.1; omega
  · rintro ⟨_, h | h | h | h | h, _⟩
    · exact absurd h h1
    · exact absurd h.1 h2
    · exact absurd h.1 h3
    · exact absurd h.1 h4
    · exact absurd h.1 h5
theorem kind_2 {v : Ev} (h : v.kd = 2) : KindR v ↔ Mon v.mo ∧ Numd v.id v.tg ∧ Unt v.un ∧ Mony v.te v.de v.fe v.pr v.ch := by simp [KindR, h]
theorem kind_3 {v : Ev} (h : v.kd = 3) : KindR v ↔ Mon v.mo ∧ Numd v.id v.tg ∧ Unt v.un := by simp [KindR, h]
theorem kind_4 {v : Ev} (h : v.kd = 4) : KindR v ↔ Numd v.id v.tg := by simp [KindR, h]
theorem kind_5 {v : Ev} (h : v.kd = 5) : KindR v ↔ Dbt v.ow v.bp := by simp [KindR, h]
/-- A question that is answered. -/
def YN (w : World) (P : Prop) (e : Ending) (w' : World) : Prop := ∃ B, e = .returned (.bool B) ∧ (B = true ↔ P) ∧ Below w.heap.size w w'
theorem YN.yes {w w' : World} {P : Prop} (h : P) (hb : Below w.heap.size w w') : YN w P (.returned (.bool true)) w' := ⟨true, rfl, ⟨fun _ => h, fun _ => rfl⟩, hb⟩
theorem YN.no {w w' : World} {P : Prop} (h : ¬ P) (hb : Below w.heap.size w w') : YN w P (.returned (.bool false)) w' := ⟨false, rfl, ⟨fun q => (by cases q), fun q => absurd q h⟩, hb⟩

end Go.Proofs.Ytfhlokjpdkmdjaa.book
