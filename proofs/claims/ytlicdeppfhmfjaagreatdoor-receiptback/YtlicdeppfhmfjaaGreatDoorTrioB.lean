/- Wide numbers in variables of their own, while calls are made. -/
import Derived.Test.YtlicdeppfhmfjaaGreatDoorAccB
namespace Go.Proofs.YtlicdeppfhmfjaaGreatDoor.words
open Go.RowKit

theorem u32_bd {x : Int} (h : (Lit.int .u32 x).wf = true) : 0 ≤ x ∧ x < 4294967296 := by
  have := bounds_u32 h
  omega
theorem ok_wf {x y z : Int} (h : (Lit.int .u32 x).wf = true ∧ (Lit.int .u32 y).wf = true ∧ (Lit.int .u32 z).wf = true) : W3.ok ⟨x, y, z⟩ := ⟨u32_bd h.1, u32_bd h.2.1, u32_bd h.2.2⟩

/-- A wide number lies in block G. -/
abbrev Wat (w : World) (G : Nat) (x : W3) : Prop := Trio w G (.int .u32 x.a) (.int .u32 x.b) (.int .u32 x.c)

theorem Trio.lt {w : World} {G : Nat} {y0 y1 y2 : Value} (h : Trio w G y0 y1 y2) : G < w.heap.size := by
  by_cases hh : G < w.heap.size
  · exact hh
  · unfold Trio at h; rw [Array.getElem?_eq_none (by omega)] at h; cases h
theorem Trio.below {w w' : World} {G : Nat} {y0 y1 y2 : Value} (h : Trio w G y0 y1 y2) (hb : Below w.heap.size w w') : Trio w' G y0 y1 y2 := by
  have hlt := h.lt
  unfold Trio at *
  rw [hb.block G hlt]; exact h
theorem trio_new (w : World) (x y z : Value) : Trio (w.alloc (.cells #[x, y, z] 85)) w.heap.size x y z := by
  show (w.heap.push _)[w.heap.size]? = _
  rw [Array.getElem?_push_size]

/-- A wide number is written into block G. -/
abbrev put3 (w : World) (G : Nat) (a b c : Value) : World := ((w.setCell ⟨G, 0, none⟩ a).setCell ⟨G, 1, none⟩ b).setCell ⟨G, 2, none⟩ c
theorem Trio.put {w : World} {G : Nat} {y0 y1 y2 : Value} (h : Trio w G y0 y1 y2) (a b c : Value) : Trio (put3 w G a b c) G a b c := ((h.set0 a).set1 b).set2 c
theorem Trio.putOther {w : World} {G G' : Nat} {y0 y1 y2 : Value} (h : Trio w G y0 y1 y2) (hne : G' ≠ G) (a b c : Value) : Trio (put3 w G' a b c) G y0 y1 y2 := ((h.other 0 a hne).other 1 b hne).other 2 c hne
theorem below_put3 {B : Nat} {w w' : World} (h : Below B w w') (G : Nat) (u v x : Value) (hG : B ≤ G) : Below B w (put3 w' G u v x) := below_set (below_set (below_set h G 0 u hG) G 1 v hG) G 2 x hG

theorem agg_ne {x y : W3} (h : x ≠ y) : ¬ (x.a = y.a ∧ x.b = y.b ∧ x.c = y.c) := fun ⟨h1, h2, h3⟩ => h (by cases x; cases y; simp_all)

end Go.Proofs.YtlicdeppfhmfjaaGreatDoor.words
