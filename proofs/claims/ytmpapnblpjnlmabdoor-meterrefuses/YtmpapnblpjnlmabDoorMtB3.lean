/- The boxes of a meter, an oracle and a token. -/
import Derived.Test.YtmpapnblpjnlmabDoorMtD
import Derived.Test.YtmpapnblpjnlmabDoorOrD
namespace Go.Proofs.YtmpapnblpjnlmabDoor.met
open Go.RowKit Go.Proofs.YtmpapnblpjnlmabDoor.ora
set_option maxRecDepth 100000
set_option linter.unusedVariables false
set_option linter.unusedSimpArgs false

/-- The boxes: the meter, the oracle, the token. -/
structure B3 (w wr : World) (m : Mt) (a : Option Addr) (n cap : Nat) (l : List Pr) (c i am t : Int) : Prop where
  met : Blk wr w.heap.size m.cells 30
  ora : Blk wr (w.heap.size + 1) #[.slice a n cap] 34
  tok : Blk wr (w.heap.size + 2) #[.int .i64 c, .int .i64 i, .int .i64 am, .int .i64 t] 35
  came : Came wr a n cap l
  bel : Below w.heap.size w wr
  size : w.heap.size + 3 ≤ wr.heap.size
theorem B3.next {w wr w' : World} {m : Mt} {a : Option Addr} {n cap : Nat} {l : List Pr} {c i am t : Int} (h : B3 w wr m a n cap l c i am t) (hb : Below wr.heap.size wr w') : B3 w w' m a n cap l c i am t := ⟨h.met.next hb, h.ora.next hb, h.tok.next hb, h.came.below hb, bel_step h.bel hb, Nat.le_trans h.size hb.size⟩
theorem B3.alloc {w wr : World} {m : Mt} {a : Option Addr} {n cap : Nat} {l : List Pr} {c i am t : Int} (h : B3 w wr m a n cap l c i am t) (o : Obj) : B3 w (wr.alloc o) m a n cap l c i am t := h.next ((Below.refl _ _).alloc (Nat.le_refl _) _)
theorem B3.new {w : World} (m : Mt) {a : Option Addr} {n cap : Nat} {l : List Pr} (c i am t : Int) (h : Came w a n cap l) : B3 w (((w.alloc (.cells m.cells 30)).alloc (.cells #[.slice a n cap] 34)).alloc (.cells #[.int .i64 c, .int .i64 i, .int .i64 am, .int .i64 t] 35)) m a n cap l c i am t := by
  have hb := (((Below.refl w.heap.size w).alloc (Nat.le_refl _) (.cells m.cells 30)).alloc (by simp) (.cells #[.slice a n cap] 34)).alloc (by simp; omega) (.cells #[.int .i64 c, .int .i64 i, .int .i64 am, .int .i64 t] 35)
  exact ⟨((Blk.new w _ _).alloc _).alloc _, (Blk.new1 w _ _ _).alloc _, Blk.new2 w _ _ _ _, h.below hb, hb, by simp⟩

end Go.Proofs.YtmpapnblpjnlmabDoor.met
