/- Events: their values. -/
import Derived.Test.YtfhlokjpdkmdjaaBkN
import Derived.WalkKit
namespace Go.Proofs.Ytfhlokjpdkmdjaa.book
open Go.RowKit
set_option maxRecDepth 100000
set_option linter.unusedVariables false
set_option linter.unusedSimpArgs false

def Ev.v (x : Ev) : Value := .agg #[.int .i64 x.kd, .int .i64 x.me, .int .i64 x.mo, .int .i64 x.id, .int .i64 x.te, .int .i64 x.de, .int .i64 x.fe, .int .i64 x.pr, .int .i64 x.ch, .int .i64 x.un, .int .i64 x.tg, .int .i64 x.ow, .int .i64 x.bp]
def Ev.cs (x : Ev) : Array Value := #[.int .i64 x.kd, .int .i64 x.me, .int .i64 x.mo, .int .i64 x.id, .int .i64 x.te, .int .i64 x.de, .int .i64 x.fe, .int .i64 x.pr, .int .i64 x.ch, .int .i64 x.un, .int .i64 x.tg, .int .i64 x.ow, .int .i64 x.bp]
def Ev.bc (x : Ev) : Array Value := #[.int .i64 x.id, .int .i64 x.te, .int .i64 x.de, .int .i64 x.fe, .int .i64 x.pr, .int .i64 x.ch, .int .i64 x.un]
def wf13 (x : Ev) : Prop := (Lit.int .i64 x.kd).wf = true ∧ (Lit.int .i64 x.me).wf = true ∧ (Lit.int .i64 x.mo).wf = true ∧ (Lit.int .i64 x.id).wf = true ∧ (Lit.int .i64 x.te).wf = true ∧ (Lit.int .i64 x.de).wf = true ∧ (Lit.int .i64 x.fe).wf = true ∧ (Lit.int .i64 x.pr).wf = true ∧ (Lit.int .i64 x.ch).wf = true ∧ (Lit.int .i64 x.un).wf = true ∧ (Lit.int .i64 x.tg).wf = true ∧ (Lit.int .i64 x.ow).wf = true ∧ (Lit.int .i64 x.bp).wf = true
theorem wf_may {x : Ev} (h : EMay x) : wf13 x := by
  have hh := may_word h
  have q : ∀ z, 0 ≤ z ∧ z < 4294967296 → (Lit.int .i64 z).wf = true := fun z hz => by
    simp only [Lit.wf, Bool.and_eq_true, decide_eq_true_eq]
    rw [show IntKind.i64.min = -9223372036854775808 from by decide, show IntKind.i64.max = 9223372036854775807 from by decide]
    omega
  exact ⟨q _ (hh _ (by simp [evL])), q _ (hh _ (by simp [evL])), q _ (hh _ (by simp [evL])), q _ (hh _ (by simp [evL])), q _ (hh _ (by simp [evL])), q _ (hh _ (by simp [evL])), q _ (hh _ (by simp [evL])), q _ (hh _ (by simp [evL])), q _ (hh _ (by simp [evL])), q _ (hh _ (by simp [evL])), q _ (hh _ (by simp [evL])), q _ (hh _ (by simp [evL])), q _ (hh _ (by simp [evL]))⟩

end Go.Proofs.Ytfhlokjpdkmdjaa.book
