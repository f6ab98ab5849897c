/- A token that came in: its four numbers, out of its reading and back into it; the tables of the places and of the amounts, in memory. -/
import Derived.Test.YtlicdeppfhmfjaaGreatDoorRows
import Derived.WalkKit
import Derived.ProofKit
import Derived.OpenShut
import Derived.Below
import Derived.Lib.SmallJoins
import Derived.Lib.LaidTab
namespace Go.Proofs.YtlicdeppfhmfjaaGreatDoor.token
open Go.ChangeShapes Go.WideShapes Go.ChangeAt Go.RowKit Go.Deep
set_option maxRecDepth 100000

def wf4 (x y z u : Int) : Prop := (Lit.int .i64 x).wf = true ∧ (Lit.int .i64 y).wf = true ∧ (Lit.int .i64 z).wf = true ∧ (Lit.int .i64 u).wf = true

theorem open_tok {H : Type} {enc : TypeId × Value → H} {W : World} {r : Reach} {b0 b1 : Nat} {spare : Nat → Bool} {held : Bool} {v : Value} {d : DataW H} {ps : List MemPlace}
    (hval : Value.okWide Tryz.prog W r b0 51 v) (h : DataW.Trod enc Tryz.prog W b1 spare held 51 v d ps) :
    ∃ x y z u, v = .agg #[.int .i64 x, .int .i64 y, .int .i64 z, .int .i64 u] ∧ d = .agg [.lit (.int .i64 x), .lit (.int .i64 y), .lit (.int .i64 z), .lit (.int .i64 u)] ∧ ps = [] ∧ wf4 x y z u := by
  obtain ⟨v0, v1, v2, v3, y0, y1, y2, y3, n, rfl, rfl, rfl, h0, h1, h2, h3⟩ := Joins.open_agg4 Tryz.underlying51 (by kernel_rfl) (by kernel_rfl) hval h
  obtain ⟨x0, e0, rfl, w0⟩ := DataW.trod_int Tryz.underlying3 h0
  obtain ⟨x1, e1, rfl, w1⟩ := DataW.trod_int Tryz.underlying3 h1
  obtain ⟨x2, e2, rfl, w2⟩ := DataW.trod_int Tryz.underlying3 h2
  obtain ⟨x3, e3, rfl, w3⟩ := DataW.trod_int Tryz.underlying3 h3
  simp at e0 e1 e2 e3
  subst e0 e1 e2 e3
  exact ⟨x0, x1, x2, x3, rfl, rfl, rfl, w0, w1, w2, w3⟩

theorem int_field {H : Type} {enc : TypeId × Value → H} {W : World} {b1 : Nat} {spare : Nat → Bool} {held : Bool} {x : Int} (h : (Lit.int .i64 x).wf = true) :
    ∃ n, DataW.trod enc Tryz.prog W b1 spare held n 3 [.int .i64 x] = some (.lit (.int .i64 x), []) :=
  Joins.field_of_Trod (shut_int Tryz.underlying3 h) rfl

theorem shut_tok {H : Type} {enc : TypeId × Value → H} {W : World} {b1 : Nat} {spare : Nat → Bool} {held : Bool} {x y z u : Int} (hw : wf4 x y z u) :
    DataW.Trod enc Tryz.prog W b1 spare held 51 (.agg #[.int .i64 x, .int .i64 y, .int .i64 z, .int .i64 u]) (.agg [.lit (.int .i64 x), .lit (.int .i64 y), .lit (.int .i64 z), .lit (.int .i64 u)]) [] :=
  Joins.shut_agg4 Tryz.underlying51 (by kernel_rfl) (by kernel_rfl) (int_field hw.1) (int_field hw.2.1) (int_field hw.2.2.1) (int_field hw.2.2.2)

/-- Eight numbers in a row. -/
def Eight (w : World) (g : Nat) (a0 a1 a2 a3 a4 a5 a6 a7 : Int) : Prop :=
  ∃ t fr, w.heap[g]? = some (.cells #[.int .i64 a0, .int .i64 a1, .int .i64 a2, .int .i64 a3, .int .i64 a4, .int .i64 a5, .int .i64 a6, .int .i64 a7] t fr)
/-- Both tables, in memory. -/
structure TTab (w : World) : Prop where
  places : Eight w 0 57 3 37 20 16 21 0 16
  amounts : Eight w 1 1 2097151 0 0 1 15 0 0
theorem Eight.lt {w : World} {g : Nat} {a0 a1 a2 a3 a4 a5 a6 a7 : Int} (h : Eight w g a0 a1 a2 a3 a4 a5 a6 a7) : g < w.heap.size := by
  obtain ⟨t, fr, h⟩ := h
  by_cases hh : g < w.heap.size
  · exact hh
  · rw [Array.getElem?_eq_none (by omega)] at h; cases h
theorem Eight.below {w w' : World} {g : Nat} {a0 a1 a2 a3 a4 a5 a6 a7 : Int} (h : Eight w g a0 a1 a2 a3 a4 a5 a6 a7) (hb : Below w.heap.size w w') : Eight w' g a0 a1 a2 a3 a4 a5 a6 a7 := by
  have hl := h.lt
  obtain ⟨t, fr, h⟩ := h
  exact ⟨t, fr, by rw [hb.block g hl]; exact h⟩
theorem TTab.below {w w' : World} (h : TTab w) (hb : Below w.heap.size w w') : TTab w' := ⟨h.places.below hb, h.amounts.below hb⟩

theorem drop2 {α : Type} (a b : α) (l : List α) (i : Nat) : (a :: b :: l).drop (i + 2) = l.drop i := rfl
theorem list8 {α : Type} (l : List α) (h : l.length = 8) : ∃ a b c d e f g i, l = [a, b, c, d, e, f, g, i] := by
  match l, h with
  | [a, b, c, d, e, f, g, i], _ => exact ⟨a, b, c, d, e, f, g, i, rfl⟩

/-- Two numbers of a struct, out of its reading. -/
theorem two_of {H : Type} {enc : TypeId × Value → H} {P : Program} {w : World} {base : Nat} {spare : Nat → Bool} {held : Bool} {fuel : Nat} {t e : TypeId} {f0 f1 : Field} {c0 c1 : Value} {a0 a1 : Int} {p : List MemPlace}
    (ht : P.underlying t = some (.struct #[f0, f1])) (hone : oneCellFields P #[f0, f1] = true) (he : P.underlying e = some (.int .i64)) (e0 : f0.type = e) (e1 : f1.type = e)
    (h : DataW.trod enc P w base spare held fuel t [c0, c1] = some (.agg [.lit (.int .i64 a0), .lit (.int .i64 a1)], p)) : c0 = .int .i64 a0 ∧ c1 = .int .i64 a1 := by
  obtain ⟨y0, y1, n, hx, _, h0, h1⟩ := trod_struct2 ht h
  obtain ⟨o0, k0⟩ := hone_of hone 0 f0 rfl
  obtain ⟨o1, k1⟩ := hone_of hone 1 f1 rfl
  rw [o0, k0, e0] at h0
  rw [o1, k1, e1] at h1
  obtain ⟨x0, u0, rfl, _⟩ := DataW.trod_int he h0
  obtain ⟨x1, u1, rfl, _⟩ := DataW.trod_int he h1
  simp at u0 u1 hx
  obtain ⟨⟨rfl, rfl⟩, _⟩ := hx
  exact ⟨u0, u1⟩

theorem trod_array4w {H : Type} {enc : TypeId × Value → H} {P : Program} {w : World} {base : Nat} {spare : Nat → Bool} {held : Bool} {t e : TypeId} {fuel : Nat} {cs : List Value} {x : DataW H × List MemPlace} (ht : P.underlying t = some (.array 4 e)) (hce : P.cellsOf e = 2) (hct : P.cellsOf t = 8)
    (h : DataW.trod enc P w base spare held fuel t cs = some x) :
    cs.length = 8 ∧ ∃ y0 y1 y2 y3 n, x = (.agg [y0.1, y1.1, y2.1, y3.1], y0.2 ++ (y1.2 ++ (y2.2 ++ y3.2))) ∧ DataW.trod enc P w base spare held n e (cs.take 2) = some y0 ∧ DataW.trod enc P w base spare held n e ((cs.drop 2).take 2) = some y1 ∧ DataW.trod enc P w base spare held n e ((cs.drop 4).take 2) = some y2 ∧ DataW.trod enc P w base spare held n e ((cs.drop 6).take 2) = some y3 := by
  cases fuel with
  | zero => simp [DataW.trod] at h
  | succ n =>
    unfold DataW.trod at h
    rw [ht] at h
    have r4 : List.range 4 = [0, 1, 2, 3] := rfl
    simp [r4, hce, hct] at h
    obtain ⟨hl, h⟩ := h
    refine ⟨hl, ?_⟩
    cases h0 : DataW.trod enc P w base spare held n e (cs.take 2) with
    | none => simp [h0] at h
    | some y0 =>
      cases h1 : DataW.trod enc P w base spare held n e ((cs.drop 2).take 2) with
      | none => simp [h0, h1] at h
      | some y1 =>
        cases h2 : DataW.trod enc P w base spare held n e ((cs.drop 4).take 2) with
        | none => simp [h0, h1, h2] at h
        | some y2 =>
          cases h3 : DataW.trod enc P w base spare held n e ((cs.drop 6).take 2) with
          | none => simp [h0, h1, h2, h3] at h
          | some y3 =>
            simp [h0, h1, h2, h3] at h
            exact ⟨y0, y1, y2, y3, n, by rw [← h], h0, h1, h2, h3⟩

/-- A variable of four structs of two numbers each, out of what the row says of it. -/
theorem eight_of {W : World} {name : String} {rest : List (String × DataW Unit)} {g : Nat} {t e z : TypeId} {f0 f1 : Field} {a0 a1 a2 a3 a4 a5 a6 a7 : Int}
    (hg : Tryz.prog.globalNamed name = some g) (hty : (Tryz.prog.globals[g]?).map (·.type) = some t) (ht : Tryz.prog.underlying t = some (.array 4 e)) (hce : Tryz.prog.cellsOf e = 2) (hct : Tryz.prog.cellsOf t = 8)
    (hs : Tryz.prog.underlying e = some (.struct #[f0, f1])) (hone : oneCellFields Tryz.prog #[f0, f1] = true) (hz : Tryz.prog.underlying z = some (.int .i64)) (e0 : f0.type = z) (e1 : f1.type = z)
    (h : laidMet Tryz.prog ((name, .agg [.agg [.lit (.int .i64 a0), .lit (.int .i64 a1)], .agg [.lit (.int .i64 a2), .lit (.int .i64 a3)], .agg [.lit (.int .i64 a4), .lit (.int .i64 a5)], .agg [.lit (.int .i64 a6), .lit (.int .i64 a7)]]) :: rest) W) : Eight W g a0 a1 a2 a3 a4 a5 a6 a7 := by
  obtain ⟨ps, ⟨g', t', cs, fuel, p, q, hg', ht', hvar, hd, _, _⟩, _⟩ := h
  obtain rfl := Option.some.inj (hg.symm.trans hg')
  obtain rfl := Option.some.inj (hty.symm.trans ht')
  obtain ⟨hl, y0, y1, y2, y3, n, hx, h0, h1, h2, h3⟩ := trod_array4w ht hce hct hd
  simp only [Prod.mk.injEq, DataW.agg.injEq, List.cons.injEq, and_true] at hx
  obtain ⟨⟨x0, x1, x2, x3⟩, _⟩ := hx
  obtain ⟨y0, q0⟩ := y0
  obtain ⟨y1, q1⟩ := y1
  obtain ⟨y2, q2⟩ := y2
  obtain ⟨y3, q3⟩ := y3
  simp only at x0 x1 x2 x3
  subst x0 x1 x2 x3
  obtain ⟨c0, c1, c2, c3, c4, c5, c6, c7, hcs⟩ := list8 _ hl
  rw [hcs] at h0 h1 h2 h3
  obtain ⟨rfl, rfl⟩ := two_of hs hone hz e0 e1 h0
  obtain ⟨rfl, rfl⟩ := two_of hs hone hz e0 e1 h1
  obtain ⟨rfl, rfl⟩ := two_of hs hone hz e0 e1 h2
  obtain ⟨rfl, rfl⟩ := two_of hs hone hz e0 e1 h3
  unfold World.var? at hvar
  rw [hg] at hvar
  simp only [Option.bind_some] at hvar
  split at hvar
  · rename_i cs' t' fr hc
    have hcs' := Option.some.inj hvar
    refine ⟨t', fr, ?_⟩
    rw [hc, hcs']
    congr 2
    first
    | (cases cs; simp_all)
    | simp_all
  · cases hvar

end Go.Proofs.YtlicdeppfhmfjaaGreatDoor.token
