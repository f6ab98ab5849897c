/- An act that came in. -/
import Derived.Test.YtlianhienbhbgaaDoorRows
import Derived.Test.YtlianhienbhbgaaDoorOdM
import Derived.WalkKit
import Derived.ProofKit
import Derived.OpenShut
import Derived.Below
import Derived.ChangeSame
import Derived.Deep.Strs
import Derived.Lib.SmallJoins
namespace Go.Proofs.YtlianhienbhbgaaDoor.odr
open Go.ChangeShapes Go.WideShapes Go.ChangeAt Go.RowKit Go.Deep
set_option maxRecDepth 100000
set_option linter.unusedVariables false

theorem open_act {H : Type} {enc : TypeId × Value → H} {W : World} {r : Reach} {b0 b1 : Nat} {spare : Nat → Bool} {held : Bool} {v : Value} {d : DataW H} {ps : List MemPlace}
    (hval : Value.okWide Tryd.prog W r b0 23 v) (h : DataW.Trod enc Tryd.prog W b1 spare held 23 v d ps) (hs : ∀ n ∈ d.weights Tryd.prog 23, n ≤ reachBytes) :
    ∃ x : Ac, v = x.v ∧ x.t.size ≤ 140737488354304 := by
  have hu := Tryd.underlying23
  have hc : Tryd.prog.cellsOf 23 = 7 := by kernel_rfl
  have ci : Tryd.prog.cellsOf 3 = 1 := by kernel_rfl
  have cst : Tryd.prog.cellsOf 9 = 1 := by kernel_rfl
  obtain ⟨cs, rfl, hsz⟩ := okWide_struct hu hval
  rw [hc] at hsz
  obtain ⟨c0, c1, c2, c3, c4, c5, c6, rfl⟩ : ∃ c0 c1 c2 c3 c4 c5 c6, cs = #[c0, c1, c2, c3, c4, c5, c6] := by
    cases cs with
    | mk l => match l, hsz with
      | [c0, c1, c2, c3, c4, c5, c6], _ => exact ⟨c0, c1, c2, c3, c4, c5, c6, rfl⟩
  obtain ⟨fuel, hf⟩ := h
  obtain ⟨xs, n, hn1, hn2, hn3, hlen, hg⟩ := DataW.trod_struct hu hf
  match xs, hlen with
  | [y0, y1, y2, y3, y4, y5, y6], _ =>
    have g0 := hg 0 _ rfl
    have g1 := hg 1 _ rfl
    have g2 := hg 2 _ rfl
    have g3 := hg 3 _ rfl
    have g4 := hg 4 _ rfl
    have g5 := hg 5 _ rfl
    have g6 := hg 6 _ rfl
    simp [Value.cells, ci, cst] at g0 g1 g2 g3 g4 g5 g6
    obtain ⟨x0, e0, -, -⟩ := DataW.trod_int Tryd.underlying3 g0
    obtain ⟨x1, e1, -, -⟩ := DataW.trod_int Tryd.underlying3 g1
    obtain ⟨x2, e2, -, -⟩ := DataW.trod_int Tryd.underlying3 g2
    obtain ⟨x3, e3, -, -⟩ := DataW.trod_int Tryd.underlying3 g3
    obtain ⟨x4, e4, -, -⟩ := DataW.trod_int Tryd.underlying3 g4
    obtain ⟨s, es, d5, -⟩ := DataW.trod_string Tryd.underlying9 g5
    obtain ⟨x6, e6, -, -⟩ := DataW.trod_int Tryd.underlying3 g6
    simp at e0 e1 e2 e3 e4 e6 es
    subst e0 e1 e2 e3 e4 e6 es
    refine ⟨⟨x0, x1, x2, x3, x4, s, x6⟩, rfl, ?_⟩
    obtain ⟨hd, -⟩ := Prod.mk.inj hn2
    have h1 := hs s.data.toList.length (by rw [hd, d5]; simp [DataW.weights, DataW.weightsEach, hu])
    have h2 : s.data.toList.length = s.size := Array.length_toList
    have h3 : reachBytes = 140737488351232 := rfl
    show s.size ≤ _
    omega

end Go.Proofs.YtlianhienbhbgaaDoor.odr
