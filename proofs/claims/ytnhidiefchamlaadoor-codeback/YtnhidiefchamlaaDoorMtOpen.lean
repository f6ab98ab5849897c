/- A meter that came in: its numbers. -/
import Derived.Test.YtnhidiefchamlaaDoorRows
import Derived.Test.YtnhidiefchamlaaDoorMtD
import Derived.Test.YtnhidiefchamlaaDoorWWord
import Derived.WalkKit
import Derived.ProofKit
import Derived.OpenShut
import Derived.Below
import Derived.ChangeSame
import Derived.Lib.SmallJoins
namespace Go.Proofs.YtnhidiefchamlaaDoor.met
open Go.ChangeShapes Go.WideShapes Go.ChangeAt Go.RowKit Go.Deep
set_option maxRecDepth 100000

theorem u64_nat {z : Int} (h : (Lit.int .u64 z).wf = true) : ∃ y : Nat, z = (y : Int) ∧ y < 18446744073709551616 := by
  have h2 : 0 ≤ z ∧ z < 18446744073709551616 := by
    simp only [Lit.wf, Bool.and_eq_true, decide_eq_true_eq] at h
    rw [show IntKind.u64.min = 0 from by decide, show IntKind.u64.max = 18446744073709551615 from by decide] at h
    omega
  exact ⟨z.toNat, by omega, by omega⟩
theorem open_met {H : Type} {enc : TypeId × Value → H} {W : World} {r : Reach} {b0 b1 : Nat} {spare : Nat → Bool} {held : Bool} {v : Value} {d : DataW H} {ps : List MemPlace}
    (hval : Value.okWide Tryd.prog W r b0 26 v) (h : DataW.Trod enc Tryd.prog W b1 spare held 26 v d ps) :
    ∃ m : Mt, v = m.v ∧ m.b < 18446744073709551616 := by
  have hu := Tryd.underlying26
  have hc : Tryd.prog.cellsOf 26 = 7 := by kernel_rfl
  have ci : Tryd.prog.cellsOf 3 = 1 := by kernel_rfl
  have cu : Tryd.prog.cellsOf 22 = 1 := by kernel_rfl
  have cw : Tryd.prog.cellsOf 24 = 2 := by kernel_rfl
  obtain ⟨cs, rfl, hsz⟩ := okWide_struct hu hval
  rw [hc] at hsz
  obtain ⟨c0, c1, c2, c3, c4, c5, c6, rfl⟩ : ∃ c0 c1 c2 c3 c4 c5 c6, cs = #[c0, c1, c2, c3, c4, c5, c6] := by
    cases cs with
    | mk l => match l, hsz with
      | [c0, c1, c2, c3, c4, c5, c6], _ => exact ⟨c0, c1, c2, c3, c4, c5, c6, rfl⟩
  obtain ⟨fuel, hf⟩ := h
  obtain ⟨xs, n, _, _, _, hlen, hg⟩ := DataW.trod_struct hu hf
  match xs, hlen with
  | [y0, y1, y2, y3, y4, y5], _ =>
    have g0 := hg 0 _ rfl
    have g1 := hg 1 _ rfl
    have g2 := hg 2 _ rfl
    have g3 := hg 3 _ rfl
    have g4 := hg 4 _ rfl
    have g5 := hg 5 _ rfl
    simp [Value.cells, ci, cw] at g0 g1 g2 g3 g4 g5
    obtain ⟨x0, e0, -, _⟩ := DataW.trod_int Tryd.underlying3 g0
    obtain ⟨x1, e1, -, _⟩ := DataW.trod_int Tryd.underlying3 g1
    obtain ⟨x2, e2, -, _⟩ := DataW.trod_int Tryd.underlying3 g2
    obtain ⟨x5, e5, -, _⟩ := DataW.trod_int Tryd.underlying3 g4
    obtain ⟨x6, e6, -, _⟩ := DataW.trod_int Tryd.underlying3 g5
    obtain ⟨z0, z1, k, _, _, q0, q1⟩ := trod_struct2 Tryd.underlying24 g3
    simp [ci, cu] at q0 q1
    obtain ⟨x3, e3, -, _⟩ := DataW.trod_int Tryd.underlying3 q0
    obtain ⟨x4, e4, -, w4⟩ := DataW.trod_int Tryd.underlying22 q1
    simp at e0 e1 e2 e3 e4 e5 e6
    subst e0 e1 e2 e3 e4 e5 e6
    obtain ⟨y, rfl, hy⟩ := u64_nat w4
    exact ⟨⟨x0, x1, x2, x3, y, x5, x6⟩, rfl, hy⟩
/-- Four numbers that came in. -/
def wf4i (x y z u : Int) : Prop := (Lit.int .i64 x).wf = true ∧ (Lit.int .i64 y).wf = true ∧ (Lit.int .i64 z).wf = true ∧ (Lit.int .i64 u).wf = true
theorem open_four {H : Type} {enc : TypeId × Value → H} {W : World} {r : Reach} {b0 b1 : Nat} {spare : Nat → Bool} {held : Bool} {t : TypeId} {f0 f1 f2 f3 : Field} {v : Value} {d : DataW H} {ps : List MemPlace}
    (hs : Tryd.prog.underlying t = some (.struct #[f0, f1, f2, f3])) (hone : oneCellFields Tryd.prog #[f0, f1, f2, f3] = true) (hC : Tryd.prog.cellsOf t = 4) (e0 : f0.type = 3) (e1 : f1.type = 3) (e2 : f2.type = 3) (e3 : f3.type = 3)
    (hval : Value.okWide Tryd.prog W r b0 t v) (h : DataW.Trod enc Tryd.prog W b1 spare held t v d ps) : ∃ x y z u, v = .agg #[.int .i64 x, .int .i64 y, .int .i64 z, .int .i64 u] ∧ wf4i x y z u := by
  obtain ⟨v0, v1, v2, v3, y0, y1, y2, y3, n, rfl, -, -, h0, h1, h2, h3⟩ := Joins.open_agg4 hs hone hC hval h
  rw [e0] at h0
  rw [e1] at h1
  rw [e2] at h2
  rw [e3] at h3
  obtain ⟨x0, q0, -, w0⟩ := DataW.trod_int Tryd.underlying3 h0
  obtain ⟨x1, q1, -, w1⟩ := DataW.trod_int Tryd.underlying3 h1
  obtain ⟨x2, q2, -, w2⟩ := DataW.trod_int Tryd.underlying3 h2
  obtain ⟨x3, q3, -, w3⟩ := DataW.trod_int Tryd.underlying3 h3
  simp at q0 q1 q2 q3
  subst q0 q1 q2 q3
  exact ⟨x0, x1, x2, x3, rfl, w0, w1, w2, w3⟩

end Go.Proofs.YtnhidiefchamlaaDoor.met
