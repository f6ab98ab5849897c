/- The table of forms, out of what a row says of it. -/
import Derived.Test.YtlianhienbhbgaaDoorOdM
import Derived.WalkKit
import Derived.ProofKit
import Derived.OpenShut
import Derived.LaidLaws
import Derived.Lib.LaidTab
namespace Go.Proofs.YtlianhienbhbgaaDoor.odr
open Go.ChangeShapes Go.WideShapes Go.ChangeAt Go.RowKit
set_option maxRecDepth 100000
set_option linter.unusedVariables false
set_option linter.unusedSimpArgs false

variable {H : Type} {enc : TypeId × Value → H} {w : World} {base : Nat} {spare : Nat → Bool} {held : Bool}
theorem bool_of {fuel : Nat} {cs : List Value} {x : Bool} {y : DataW H × List MemPlace} (h : DataW.trod enc Tryd.prog w base spare held fuel 4 cs = some y) (hy : y.1 = .lit (.bool x)) : cs = [.bool x] := by
  obtain ⟨b, e1, e2⟩ := DataW.trod_bool Tryd.underlying4 h
  rw [e2] at hy
  injection hy with hy
  injection hy with hy
  rw [e1, hy]
theorem bools_of {fuel : Nat} {cs : List Value} {x0 x1 x2 x3 : Bool} {y : DataW H × List MemPlace} (h : DataW.trod enc Tryd.prog w base spare held fuel 32 cs = some y) (hy : y.1 = .agg [.lit (.bool x0), .lit (.bool x1), .lit (.bool x2), .lit (.bool x3)]) : cs = [.bool x0, .bool x1, .bool x2, .bool x3] := by
  have hc : Tryd.prog.cellsOf 4 = 1 := by kernel_rfl
  have ht : Tryd.prog.cellsOf 32 = 4 := by kernel_rfl
  obtain ⟨xs, m, _, hx, hl, hn, hg⟩ := DataW.trod_array Tryd.underlying32 h
  rw [ht] at hl
  rw [hc] at hg
  match xs, hn with
  | [y0, y1, y2, y3], _ =>
    rw [hx] at hy
    simp only [List.map_cons, List.map_nil, DataW.agg.injEq, List.cons.injEq, and_true] at hy
    obtain ⟨h0, h1, h2, h3⟩ := hy
    match cs, hl with
    | [c0, c1, c2, c3], _ =>
      have g0 := hg 0 (by decide)
      have g1 := hg 1 (by decide)
      have g2 := hg 2 (by decide)
      have g3 := hg 3 (by decide)
      simp at g0 g1 g2 g3
      have e0 := bool_of g0 h0
      have e1 := bool_of g1 h1
      have e2 := bool_of g2 h2
      have e3 := bool_of g3 h3
      simp at e0 e1 e2 e3
      rw [e0, e1, e2, e3]
theorem form_of {fuel : Nat} {cs : List Value} {b : List UInt8} {x0 x1 x2 x3 z : Bool} {y : DataW H × List MemPlace} (h : DataW.trod enc Tryd.prog w base spare held fuel 34 cs = some y) (hy : y.1 = .agg [.lit (.string b), .agg [.lit (.bool x0), .lit (.bool x1), .lit (.bool x2), .lit (.bool x3)], .lit (.bool z)]) : cs = [.string ⟨b.toArray⟩, .bool x0, .bool x1, .bool x2, .bool x3, .bool z] := by
  have hu := Tryd.underlying34
  have hc : Tryd.prog.cellsOf 34 = 6 := by kernel_rfl
  have cb : Tryd.prog.cellsOf 4 = 1 := by kernel_rfl
  have c4 : Tryd.prog.cellsOf 32 = 4 := by kernel_rfl
  have cst : Tryd.prog.cellsOf 9 = 1 := by kernel_rfl
  obtain ⟨xs, n, _, hx, hl, hlen, hg⟩ := DataW.trod_struct hu h
  rw [hc] at hl
  match xs, hlen with
  | [y0, y1, y2], _ =>
    rw [hx] at hy
    simp only [List.map_cons, List.map_nil, DataW.agg.injEq, List.cons.injEq, and_true] at hy
    obtain ⟨h0, h1, h2⟩ := hy
    match cs, hl with
    | [d0, d1, d2, d3, d4, d5], _ =>
      have g0 := hg 0 _ rfl
      have g1 := hg 1 _ rfl
      have g2 := hg 2 _ rfl
      simp [cb, c4, cst] at g0 g1 g2
      obtain ⟨s, e0, f0, -⟩ := DataW.trod_string Tryd.underlying9 g0
      rw [f0] at h0
      injection h0 with h0
      injection h0 with h0
      have e1 := bools_of g1 h1
      have e2 := bool_of g2 h2
      have es : s = ⟨b.toArray⟩ := by rw [← h0]
      simp at e0 e1 e2
      obtain ⟨r1, r2, r3, r4⟩ := e1
      rw [e0, es, r1, r2, r3, r4, e2]
theorem chunk {α : Type} (l : List α) (k : Nat) : (l.drop k).take 6 ++ l.drop (k + 6) = l.drop k := by
  rw [← List.drop_drop]
  exact List.take_append_drop 6 (l.drop k)
theorem otab_of {W : World} {rest : List (String × DataW Unit)} (h : laidMet Tryd.prog (("vendmeter/order.forms", .agg [.agg [.lit (.string []), .agg [.lit (.bool false), .lit (.bool false), .lit (.bool false), .lit (.bool false)], .lit (.bool false)], .agg [.lit (.string [114, 101, 103, 105, 115, 116, 101, 114]), .agg [.lit (.bool true), .lit (.bool false), .lit (.bool false), .lit (.bool false)], .lit (.bool false)], .agg [.lit (.string [115, 101, 108, 108]), .agg [.lit (.bool true), .lit (.bool true), .lit (.bool true), .lit (.bool true)], .lit (.bool false)], .agg [.lit (.string [103, 114, 97, 110, 116]), .agg [.lit (.bool true), .lit (.bool true), .lit (.bool false), .lit (.bool true)], .lit (.bool false)], .agg [.lit (.string [114, 101, 107, 101, 121]), .agg [.lit (.bool true), .lit (.bool false), .lit (.bool false), .lit (.bool true)], .lit (.bool false)], .agg [.lit (.string [99, 104, 97, 114, 103, 101]), .agg [.lit (.bool true), .lit (.bool true), .lit (.bool true), .lit (.bool false)], .lit (.bool false)], .agg [.lit (.string [107, 101, 121]), .agg [.lit (.bool true), .lit (.bool false), .lit (.bool false), .lit (.bool false)], .lit (.bool true)], .agg [.lit (.string [116, 105, 99, 107]), .agg [.lit (.bool true), .lit (.bool true), .lit (.bool false), .lit (.bool false)], .lit (.bool false)]]) :: rest) W) : OTab W := by
  have hg0 : Tryd.prog.globalNamed "vendmeter/order.forms" = some 0 := by kernel_rfl
  have hty0 : (Tryd.prog.globals[0]?).map (·.type) = some 35 := by kernel_rfl
  have hce : Tryd.prog.cellsOf 34 = 6 := by kernel_rfl
  have hct : Tryd.prog.cellsOf 35 = 48 := by kernel_rfl
  obtain ⟨ps, ⟨g', t', cs, fuel, p, q, hg', ht', hvar, hd, _, _⟩, _⟩ := h
  obtain rfl := Option.some.inj (hg0.symm.trans hg')
  obtain rfl := Option.some.inj (hty0.symm.trans ht')
  obtain ⟨xs, m, _, hx, hl, hn, hg⟩ := DataW.trod_array Tryd.underlying35 hd
  rw [hct] at hl
  rw [hce] at hg
  match xs, hn with
  | [y0, y1, y2, y3, y4, y5, y6, y7], _ =>
    have hx := (Prod.mk.inj hx).1
    simp only [List.map_cons, List.map_nil, DataW.agg.injEq, List.cons.injEq, and_true] at hx
    obtain ⟨h0, h1, h2, h3, h4, h5, h6, h7⟩ := hx
    have e0 := form_of (hg 0 (by decide)) h0.symm
    have e1 := form_of (hg 1 (by decide)) h1.symm
    have e2 := form_of (hg 2 (by decide)) h2.symm
    have e3 := form_of (hg 3 (by decide)) h3.symm
    have e4 := form_of (hg 4 (by decide)) h4.symm
    have e5 := form_of (hg 5 (by decide)) h5.symm
    have e6 := form_of (hg 6 (by decide)) h6.symm
    have e7 := form_of (hg 7 (by decide)) h7.symm
    have hall : cs.toList = tabC.toList := by
      have k0 := chunk cs.toList 0
      have k1 := chunk cs.toList (1 * 6)
      have k2 := chunk cs.toList (2 * 6)
      have k3 := chunk cs.toList (3 * 6)
      have k4 := chunk cs.toList (4 * 6)
      have k5 := chunk cs.toList (5 * 6)
      have k6 := chunk cs.toList (6 * 6)
      have k7 := chunk cs.toList (7 * 6)
      have k8 : cs.toList.drop (7 * 6 + 6) = [] := List.drop_eq_nil_of_le (by rw [hl]; decide)
      have z0 : cs.toList.drop 0 = cs.toList := rfl
      rw [← z0, ← k0]
      rw [show (0 : Nat) = 0 * 6 from rfl, e0]
      show _ ++ cs.toList.drop (1 * 6) = _
      rw [← k1, e1]
      show _ ++ (_ ++ cs.toList.drop (2 * 6)) = _
      rw [← k2, e2]
      show _ ++ (_ ++ (_ ++ cs.toList.drop (3 * 6))) = _
      rw [← k3, e3]
      show _ ++ (_ ++ (_ ++ (_ ++ cs.toList.drop (4 * 6)))) = _
      rw [← k4, e4]
      show _ ++ (_ ++ (_ ++ (_ ++ (_ ++ cs.toList.drop (5 * 6))))) = _
      rw [← k5, e5]
      show _ ++ (_ ++ (_ ++ (_ ++ (_ ++ (_ ++ cs.toList.drop (6 * 6)))))) = _
      rw [← k6, e6]
      show _ ++ (_ ++ (_ ++ (_ ++ (_ ++ (_ ++ (_ ++ cs.toList.drop (7 * 6))))))) = _
      rw [← k7, e7, k8]
      rfl
    have hcs2 : cs = tabC := by rw [← Array.toList_inj]; exact hall
    unfold World.var? at hvar
    rw [hg0] at hvar
    simp only [Option.bind_some] at hvar
    split at hvar
    · rename_i cs' t' fr hc
      have hcs' := Option.some.inj hvar
      exact ⟨t', fr, by rw [hc, hcs', hcs2]⟩
    · cases hvar

end Go.Proofs.YtlianhienbhbgaaDoor.odr
