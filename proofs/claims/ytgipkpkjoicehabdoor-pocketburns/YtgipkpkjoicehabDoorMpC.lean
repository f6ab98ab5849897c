/- A meter at work lies in a block of its own: what calls change of it, and that they change nothing else. -/
import Derived.Test.YtgipkpkjoicehabDoorMtD
import Derived.Test.YtgipkpkjoicehabDoorLet
namespace Go.Proofs.YtgipkpkjoicehabDoor.met
open Go.RowKit
set_option maxRecDepth 100000
set_option linter.unusedVariables false
set_option linter.unusedSimpArgs false

/-- Nothing that was there is changed but the block g. -/
structure Chg (w W : World) (g : Nat) : Prop where
  os : W.os = w.os
  tape : W.tape = w.tape
  output : W.output = w.output
  size : w.heap.size ≤ W.heap.size
  oth : ∀ k, k < w.heap.size → k ≠ g → W.heap[k]? = w.heap[k]?
theorem Chg.refl (w : World) (g : Nat) : Chg w w g := ⟨rfl, rfl, rfl, Nat.le_refl _, fun _ _ _ => rfl⟩
theorem Chg.trans {w W V : World} {g : Nat} (h : Chg w W g) (h' : Chg W V g) : Chg w V g :=
  ⟨h'.os.trans h.os, h'.tape.trans h.tape, h'.output.trans h.output, Nat.le_trans h.size h'.size, fun k hk hne => (h'.oth k (Nat.lt_of_lt_of_le hk h.size) hne).trans (h.oth k hk hne)⟩
theorem Chg.of {w W : World} {g : Nat} (hb : Below w.heap.size w W) : Chg w W g := ⟨hb.os, hb.tape, hb.output, hb.size, fun k hk _ => hb.block k hk⟩
theorem Chg.upd {w W : World} {g : Nat} {cs : Array Value} {t : TypeId} (hu : Upd w W g cs t) : Chg w W g := by
  have h := hu.bel 0 w (Nat.zero_le _) (Below.refl _ _)
  exact ⟨h.os, h.tape, h.output, h.size, fun k _ hne => hu.oth k hne⟩
theorem Chg.keep {w W : World} {g G : Nat} {cs : Array Value} {t : TypeId} (h : Chg w W g) (hb : Blk w G cs t) (hne : G ≠ g) : Blk W G cs t := by
  have hl := hb.lt
  unfold Blk at *
  rw [h.oth G hl hne]; exact hb
theorem Chg.bel {w0 w W : World} {g B : Nat} (h : Chg w W g) (hb : Below B w0 w) (hB : B ≤ g) (hs : B ≤ w.heap.size) : Below B w0 W :=
  ⟨h.os.trans hb.os, h.tape.trans hb.tape, h.output.trans hb.output, Nat.le_trans hb.size h.size, fun k hk => (h.oth k (by omega) (by omega)).trans (hb.block k hk)⟩
/-- The meter m is at work in the block g. -/
def Wk (w : World) (g : Nat) (m : Mt) : Prop := Blk w g m.cells 100
theorem Wk.next {w W : World} {g : Nat} {m : Mt} (h : Wk w g m) (hb : Below w.heap.size w W) : Wk W g m := Blk.next h hb
theorem Wk.alloc {w : World} {g : Nat} {m : Mt} (h : Wk w g m) (o : Obj) : Wk (w.alloc o) g m := Blk.alloc h o
theorem chg_set {w : World} {g : Nat} (i : Nat) (u : Value) : Chg w (w.setCell ⟨g, i, none⟩ u) g := by
  refine ⟨rfl, rfl, rfl, by simp [World.setCell], fun k _ hne => ?_⟩
  simp only [World.setCell, Array.getElem?_modify]
  rw [if_neg (fun e => hne e.symm)]
theorem chg_drew {w W : World} {g : Nat} (h : Chg w W g) (q : Nat) : Chg w (W.drewN q) g := ⟨h.os, h.tape, h.output, h.size, h.oth⟩

end Go.Proofs.YtgipkpkjoicehabDoor.met
