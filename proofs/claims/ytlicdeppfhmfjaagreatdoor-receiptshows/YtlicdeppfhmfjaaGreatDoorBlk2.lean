/- Blocks of memory: an iterator over a text; three cells that are stored. -/
import Derived.Test.YtlicdeppfhmfjaaGreatDoorBlk
import Derived.Lib.OthersKept
namespace Go.Proofs.YtlicdeppfhmfjaaGreatDoor
open Go.RowKit

/-- The iterator I of the text s stands at k. -/
def It (w : World) (I : Nat) (s : ByteArray) (k : Nat) : Prop := w.heap[I]? = some (.stringIter s k)
theorem It.lt {w : World} {I : Nat} {s : ByteArray} {k : Nat} (h : It w I s k) : I < w.heap.size := by
  unfold It at h
  by_cases hh : I < w.heap.size
  · exact hh
  · rw [Array.getElem?_eq_none (by omega)] at h; cases h
theorem It.next {w w' : World} {I : Nat} {s : ByteArray} {k : Nat} (h : It w I s k) (hb : Below w.heap.size w w') : It w' I s k := by
  have hl := h.lt
  unfold It at *
  rw [hb.block I hl]; exact h
theorem It.set {w : World} {I G : Nat} {s : ByteArray} {k : Nat} (h : It w I s k) (i : Nat) (u : Value) (hne : G ≠ I) : It (w.setCell ⟨G, i, none⟩ u) I s k := by
  unfold It at *
  simp only [World.setCell, Array.getElem?_modify]; rw [if_neg hne]; exact h
theorem It.pos {w : World} {I : Nat} {s : ByteArray} {k : Nat} (h : It w I s k) : w.iterPos I = k := by unfold It at h; simp [World.iterPos, h]
theorem Blk.iter {w : World} {G : Nat} {cs : Array Value} {t : TypeId} (h : Blk w G cs t) {I : Nat} (s : ByteArray) (k : Nat) (hne : G ≠ I) : Blk (w.iterAt I s k) G cs t := by
  unfold Blk at *
  rw [Lib.iterAt_other _ _ _ _ _ hne]; exact h

def set3 (w : World) (G : Nat) (a b c : Int) : World := ((w.setCell ⟨G, 0, none⟩ (.int .u32 a)).setCell ⟨G, 1, none⟩ (.int .u32 b)).setCell ⟨G, 2, none⟩ (.int .u32 c)
theorem bel_set3 {B : Nat} {w w' : World} (h : Below B w w') (G : Nat) (a b c : Int) (hG : B ≤ G) : Below B w (set3 w' G a b c) := bel_set (bel_set (bel_set h _ _ _ hG) _ _ _ hG) _ _ _ hG
theorem Blk.put3 {w : World} {G : Nat} {x y z : Value} {t : TypeId} (h : Blk w G #[x, y, z] t) (a b c : Int) : Blk (set3 w G a b c) G #[.int .u32 a, .int .u32 b, .int .u32 c] t := ((h.set 0 _).set 1 _).set 2 _
theorem Blk.off3 {w : World} {G G' : Nat} {cs : Array Value} {t : TypeId} (h : Blk w G cs t) (hne : G' ≠ G) (a b c : Int) : Blk (set3 w G' a b c) G cs t := ((h.other _ _ hne).other _ _ hne).other _ _ hne
theorem It.off3 {w : World} {I G : Nat} {s : ByteArray} {k : Nat} (h : It w I s k) (hne : G ≠ I) (a b c : Int) : It (set3 w G a b c) I s k := ((h.set _ _ hne).set _ _ hne).set _ _ hne

end Go.Proofs.YtlicdeppfhmfjaaGreatDoor
