/- An event that came in: its thirteen numbers, out of its reading. -/
import Derived.Test.YtfhlokjpdkmdjaaRows
import Derived.WalkKit
import Derived.ProofKit
import Derived.OpenShut
import Derived.Below
import Derived.Lib.SmallJoins
import Derived.Test.YtfhlokjpdkmdjaaBkD
namespace Go.Proofs.Ytfhlokjpdkmdjaa.book
open Go.ChangeShapes Go.WideShapes Go.ChangeAt Go.RowKit Go.Deep
set_option maxRecDepth 100000

theorem open_ev {H : Type} {enc : TypeId × Value → H} {W : World} {r : Reach} {b0 b1 : Nat} {spare : Nat → Bool} {held : Bool} {v : Value} {d : DataW H} {ps : List MemPlace}
    (hval : Value.okWide Try.prog W r b0 27 v) (h : DataW.Trod enc Try.prog W b1 spare held 27 v d ps) :
    ∃ x : Ev, v = x.v ∧ wf13 x := by
  have hu := Try.underlying27
  have hc : Try.prog.cellsOf 27 = 13 := by kernel_rfl
  have ci : Try.prog.cellsOf 3 = 1 := by kernel_rfl
  have cb : Try.prog.cellsOf 23 = 7 := by kernel_rfl
  have cd : Try.prog.cellsOf 25 = 2 := by kernel_rfl
  obtain ⟨cs, rfl, hsz⟩ := okWide_struct hu hval
  rw [hc] at hsz
  obtain ⟨c0, c1, c2, c3, c4, c5, c6, c7, c8, c9, c10, c11, c12, rfl⟩ : ∃ c0 c1 c2 c3 c4 c5 c6 c7 c8 c9 c10 c11 c12, cs = #[c0, c1, c2, c3, c4, c5, c6, c7, c8, c9, c10, c11, c12] := by
    cases cs with
    | mk l => match l, hsz with
      | [c0, c1, c2, c3, c4, c5, c6, c7, c8, c9, c10, c11, c12], _ => exact ⟨c0, c1, c2, c3, c4, c5, c6, c7, c8, c9, c10, c11, c12, rfl⟩
  obtain ⟨fuel, hf⟩ := h
  obtain ⟨xs, n, _, _, _, hlen, hg⟩ := DataW.trod_struct hu hf
  match xs, hlen with
  | [y0, y1, y2, y3, y4, y5], _ =>
    have g0 := hg 0 _ rfl
    have g1 := hg 1 _ rfl
    have g2 := hg 2 _ rfl
    have g3 := hg 3 _ rfl
    have g4 := hg 4 _ rfl
    have g5 := hg 5 _ rfl
    simp [Value.cells, ci, cb, cd] at g0 g1 g2 g3 g4 g5
    obtain ⟨x0, e0, -, w0⟩ := DataW.trod_int Try.underlying3 g0
    obtain ⟨x1, e1, -, w1⟩ := DataW.trod_int Try.underlying3 g1
    obtain ⟨x2, e2, -, w2⟩ := DataW.trod_int Try.underlying3 g2
    obtain ⟨x10, e10, -, w10⟩ := DataW.trod_int Try.underlying3 g4
    obtain ⟨ys, k, _, _, _, hlen2, hq⟩ := DataW.trod_struct Try.underlying23 g3
    obtain ⟨us, k2, _, _, _, hlen3, hp⟩ := DataW.trod_struct Try.underlying25 g5
    match ys, hlen2, us, hlen3 with
    | [z0, z1, z2, z3, z4, z5, z6], _, [u0, u1], _ =>
      have q0 := hq 0 _ rfl
      have q1 := hq 1 _ rfl
      have q2 := hq 2 _ rfl
      have q3 := hq 3 _ rfl
      have q4 := hq 4 _ rfl
      have q5 := hq 5 _ rfl
      have q6 := hq 6 _ rfl
      have p0 := hp 0 _ rfl
      have p1 := hp 1 _ rfl
      simp [ci] at q0 q1 q2 q3 q4 q5 q6 p0 p1
      obtain ⟨x3, e3, -, w3⟩ := DataW.trod_int Try.underlying3 q0
      obtain ⟨x4, e4, -, w4⟩ := DataW.trod_int Try.underlying3 q1
      obtain ⟨x5, e5, -, w5⟩ := DataW.trod_int Try.underlying3 q2
      obtain ⟨x6, e6, -, w6⟩ := DataW.trod_int Try.underlying3 q3
      obtain ⟨x7, e7, -, w7⟩ := DataW.trod_int Try.underlying3 q4
      obtain ⟨x8, e8, -, w8⟩ := DataW.trod_int Try.underlying3 q5
      obtain ⟨x9, e9, -, w9⟩ := DataW.trod_int Try.underlying3 q6
      obtain ⟨x11, e11, -, w11⟩ := DataW.trod_int Try.underlying3 p0
      obtain ⟨x12, e12, -, w12⟩ := DataW.trod_int Try.underlying3 p1
      simp at e0 e1 e2 e3 e4 e5 e6 e7 e8 e9 e10 e11 e12
      subst e0 e1 e2 e3 e4 e5 e6 e7 e8 e9 e10 e11 e12
      exact ⟨⟨x0, x1, x2, x3, x4, x5, x6, x7, x8, x9, x10, x11, x12⟩, rfl, w0, w1, w2, w3, w4, w5, w6, w7, w8, w9, w10, w11, w12⟩

end Go.Proofs.Ytfhlokjpdkmdjaa.book
