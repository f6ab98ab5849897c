/- A block of memory, whole. -/
import Derived.Test.YtlianhienbhbgaaDoorProg
import Derived.WalkKit
import Derived.Below
import Derived.Deep.QuietTactic
namespace Go.Proofs.YtlianhienbhbgaaDoor
open Go.RowKit

/-- The block G holds just these cells. -/
def Blk (w : World) (G : Nat) (cs : Array Value) (t : TypeId) : Prop := w.heap[G]? = some (.cells cs t (0, 0))
theorem Blk.lt {w : World} {G : Nat} {cs : Array Value} {t : TypeId} (h : Blk w G cs t) : G < w.heap.size := by
  unfold Blk at h
  by_cases hh : G < w.heap.size
  · exact hh
  · rw [Array.getElem?_eq_none (by omega)] at h; cases h
theorem Blk.new (w : World) (cs : Array Value) (t : TypeId) : Blk (w.alloc (.cells cs t)) w.heap.size cs t := by
  show (w.heap.push _)[w.heap.size]? = _
  rw [Array.getElem?_push_size]
theorem Blk.new1 (w : World) (o : Obj) (cs : Array Value) (t : TypeId) : Blk ((w.alloc o).alloc (.cells cs t)) (w.heap.size + 1) cs t := by
  have h := Blk.new (w.alloc o) cs t
  rwa [show (w.alloc o).heap.size = w.heap.size + 1 by simp] at h
theorem Blk.new2 (w : World) (o p : Obj) (cs : Array Value) (t : TypeId) : Blk (((w.alloc o).alloc p).alloc (.cells cs t)) (w.heap.size + 1 + 1) cs t := by
  have h := Blk.new ((w.alloc o).alloc p) cs t
  rwa [show ((w.alloc o).alloc p).heap.size = w.heap.size + 1 + 1 by simp] at h
theorem Blk.new3 (w : World) (o p q : Obj) (cs : Array Value) (t : TypeId) : Blk ((((w.alloc o).alloc p).alloc q).alloc (.cells cs t)) (w.heap.size + 1 + 1 + 1) cs t := by
  have h := Blk.new (((w.alloc o).alloc p).alloc q) cs t
  rwa [show (((w.alloc o).alloc p).alloc q).heap.size = w.heap.size + 1 + 1 + 1 by simp] at h
theorem Blk.alloc {w : World} {G : Nat} {cs : Array Value} {t : TypeId} (h : Blk w G cs t) (o : Obj) : Blk (w.alloc o) G cs t := by
  have hl := h.lt
  unfold Blk at *
  show (w.heap.push o)[G]? = _
  rw [Array.getElem?_push, if_neg (by omega)]; exact h
theorem Blk.below {w w' : World} {G B : Nat} {cs : Array Value} {t : TypeId} (h : Blk w G cs t) (hb : Below B w w') (hG : G < B) : Blk w' G cs t := by
  unfold Blk at *
  rw [hb.block G hG]; exact h
theorem Blk.next {w w' : World} {G : Nat} {cs : Array Value} {t : TypeId} (h : Blk w G cs t) (hb : Below w.heap.size w w') : Blk w' G cs t := h.below hb h.lt
theorem Blk.cell {w : World} {G : Nat} {cs : Array Value} {t : TypeId} (h : Blk w G cs t) (i : Nat) : w.cell? ⟨G, i, none⟩ = cs[i]? := by
  unfold Blk at h; simp [World.cell?, h]
theorem Blk.free {w : World} {G : Nat} {cs : Array Value} {t : TypeId} (h : Blk w G cs t) (i : Nat) : w.frozen? ⟨G, i, none⟩ = false := by
  unfold Blk at h; simp [World.frozen?, h]
theorem Blk.set {w : World} {G : Nat} {cs : Array Value} {t : TypeId} (h : Blk w G cs t) (i : Nat) (u : Value) : Blk (w.setCell ⟨G, i, none⟩ u) G (cs.setIfInBounds i u) t := by
  have hl := h.lt
  unfold Blk at *
  have hl' := hl
  simp [World.setCell, Array.getElem?_modify, h]
theorem Blk.other {w : World} {G G' : Nat} {cs : Array Value} {t : TypeId} (h : Blk w G cs t) (i : Nat) (u : Value) (hne : G' ≠ G) : Blk (w.setCell ⟨G', i, none⟩ u) G cs t := by
  unfold Blk at *
  simp only [World.setCell, Array.getElem?_modify]; rw [if_neg hne]; exact h
theorem Blk.drew {w : World} {G : Nat} {cs : Array Value} {t : TypeId} (h : Blk w G cs t) (q : Nat) : Blk (w.drewN q) G cs t := h
theorem bel_set {B : Nat} {w w' : World} (h : Below B w w') (G i : Nat) (u : Value) (hG : B ≤ G) : Below B w (w'.setCell ⟨G, i, none⟩ u) := by
  refine ⟨h.os, h.tape, h.output, by simp [World.setCell]; exact h.size, fun k hk => ?_⟩
  rw [← h.block k hk]
  simp only [World.setCell, Array.getElem?_modify]
  rw [if_neg (by omega)]
theorem bel_drew {B : Nat} {w0 w : World} (h : Below B w0 w) (q : Nat) : Below B w0 (w.drewN q) := ⟨h.os, h.tape, h.output, h.size, h.block⟩
theorem bel_step {w0 w w' : World} (h : Below w0.heap.size w0 w) (h' : Below w.heap.size w w') : Below w0.heap.size w0 w' := h.trans (h'.mono h.size)

end Go.Proofs.YtlianhienbhbgaaDoor
