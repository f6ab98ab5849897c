import Derived.Test.YtoepgdhiepedeaaGreatDoorVVRys2
import Derived.Test.YtoepgdhiepedeaaGreatDoorVVRys4
set_option linter.unusedVariables false
set_option linter.unusedSimpArgs false
set_option maxHeartbeats 4000000
set_option maxRecDepth 100000
namespace Go.Proofs.YtoepgdhiepedeaaGreatDoor
section
open Go.RowKit
variable{t:TypeId}{w:World}{G:Nat}
theorem shN{w w':World}{cs:Array Value}(h:Hid (Blk w G cs t))(hb:Below w.heap.size w w'):Hid (Blk w' G cs t):=h.o.next hb
theorem shK{w W:World}{g G:Nat}{cs cs':Array Value}{t t':TypeId}(hU:Upd w W g cs t)(h:Hid (Blk w G cs' t'))(hne:G≠g):Hid (Blk W G cs' t'):=hU.keep h.o hne
theorem shB{w0 w w':World}(h:Hid (Below w0.heap.size w0 w))(hb:Below w.heap.size w w'):Hid (Below w0.heap.size w0 w'):=bel_step h.o hb
theorem shV{w W:World}{g:Nat}{cs:Array Value}{B:Nat}{w0:World}(hU:Upd w W g cs t)(h:Hid (Below B w0 w))(hB:B≤g):Hid (Below B w0 W):=hU.bel B w0 hB h.o
theorem sh1(w:World)(c0:Array Value)(t0:TypeId):∃W,Hid ((w.alloc (.cells c0 t0))=W)∧Hid (Blk W (w.heap.size) c0 t0)∧Hid (Below w.heap.size w W)∧w.heap.size<W.heap.size:=by
 refine⟨_,rfl,?_,?_,?_⟩
 ·have h:=Blk.new w c0 t0
  exact h
 ·exact(Below.refl w.heap.size w).alloc (by simp) _
 ·simp
theorem sh2(w:World)(c0:Array Value)(t0:TypeId)(c1:Array Value)(t1:TypeId):∃W,Hid (((w.alloc (.cells c0 t0)).alloc (.cells c1 t1))=W)∧Hid (Blk W (w.heap.size) c0 t0)∧Hid (Blk W (w.heap.size+1) c1 t1)∧Hid (Below w.heap.size w W)∧w.heap.size+1<W.heap.size:=by
 refine⟨_,rfl,?_,?_,?_,?_⟩
 ·have h:=Blk.new w c0 t0
  exact(h.alloc _)
 ·have h:=Blk.new (w.alloc (.cells c0 t0)) c1 t1
  rw[show (w.alloc (.cells c0 t0)).heap.size=w.heap.size+1 by simp] at h
  exact h
 ·exact((Below.refl w.heap.size w).alloc (by simp) _).alloc (by simp) _
 ·simp
theorem sh3(w:World)(c0:Array Value)(t0:TypeId)(c1:Array Value)(t1:TypeId)(c2:Array Value)(t2:TypeId):∃W,Hid ((((w.alloc (.cells c0 t0)).alloc (.cells c1 t1)).alloc (.cells c2 t2))=W)∧Hid (Blk W (w.heap.size) c0 t0)∧Hid (Blk W (w.heap.size+1) c1 t1)∧Hid (Blk W (w.heap.size+1+1) c2 t2)∧Hid (Below w.heap.size w W)∧w.heap.size+1+1<W.heap.size:=by
 refine⟨_,rfl,?_,?_,?_,?_,?_⟩
 ·have h:=Blk.new w c0 t0
  exact((h.alloc _).alloc _)
 ·have h:=Blk.new (w.alloc (.cells c0 t0)) c1 t1
  rw[show (w.alloc (.cells c0 t0)).heap.size=w.heap.size+1 by simp] at h
  exact(h.alloc _)
 ·have h:=Blk.new ((w.alloc (.cells c0 t0)).alloc (.cells c1 t1)) c2 t2
  rw[show ((w.alloc (.cells c0 t0)).alloc (.cells c1 t1)).heap.size=w.heap.size+1+1 by simp] at h
  exact h
 ·exact(((Below.refl w.heap.size w).alloc (by simp) _).alloc (by simp) _).alloc (by simp;omega) _
 ·simp
theorem sh4(w:World)(c0:Array Value)(t0:TypeId)(c1:Array Value)(t1:TypeId)(c2:Array Value)(t2:TypeId)(c3:Array Value)(t3:TypeId):∃W,Hid (((((w.alloc (.cells c0 t0)).alloc (.cells c1 t1)).alloc (.cells c2 t2)).alloc (.cells c3 t3))=W)∧Hid (Blk W (w.heap.size) c0 t0)∧Hid (Blk W (w.heap.size+1) c1 t1)∧Hid (Blk W (w.heap.size+1+1) c2 t2)∧Hid (Blk W (w.heap.size+1+1+1) c3 t3)∧Hid (Below w.heap.size w W)∧w.heap.size+1+1+1<W.heap.size:=by
 refine⟨_,rfl,?_,?_,?_,?_,?_,?_⟩
 ·have h:=Blk.new w c0 t0
  exact(((h.alloc _).alloc _).alloc _)
 ·have h:=Blk.new (w.alloc (.cells c0 t0)) c1 t1
  rw[show (w.alloc (.cells c0 t0)).heap.size=w.heap.size+1 by simp] at h
  exact((h.alloc _).alloc _)
 ·have h:=Blk.new ((w.alloc (.cells c0 t0)).alloc (.cells c1 t1)) c2 t2
  rw[show ((w.alloc (.cells c0 t0)).alloc (.cells c1 t1)).heap.size=w.heap.size+1+1 by simp] at h
  exact(h.alloc _)
 ·have h:=Blk.new (((w.alloc (.cells c0 t0)).alloc (.cells c1 t1)).alloc (.cells c2 t2)) c3 t3
  rw[show (((w.alloc (.cells c0 t0)).alloc (.cells c1 t1)).alloc (.cells c2 t2)).heap.size=w.heap.size+1+1+1 by simp] at h
  exact h
 ·exact((((Below.refl w.heap.size w).alloc (by simp) _).alloc (by simp) _).alloc (by simp;omega) _).alloc (by simp;omega) _
 ·simp
theorem sh5(w:World)(c0:Array Value)(t0:TypeId)(c1:Array Value)(t1:TypeId)(c2:Array Value)(t2:TypeId)(c3:Array Value)(t3:TypeId)(c4:Array Value)(t4:TypeId):∃W,Hid ((((((w.alloc (.cells c0 t0)).alloc (.cells c1 t1)).alloc (.cells c2 t2)).alloc (.cells c3 t3)).alloc (.cells c4 t4))=W)∧Hid (Blk W (w.heap.size) c0 t0)∧Hid (Blk W (w.heap.size+1) c1 t1)∧Hid (Blk W (w.heap.size+1+1) c2 t2)∧Hid (Blk W (w.heap.size+1+1+1) c3 t3)∧Hid (Blk W (w.heap.size+1+1+1+1) c4 t4)∧Hid (Below w.heap.size w W)∧w.heap.size+1+1+1+1<W.heap.size:=by
 refine⟨_,rfl,?_,?_,?_,?_,?_,?_,?_⟩
 ·have h:=Blk.new w c0 t0
  exact((((h.alloc _).alloc _).alloc _).alloc _)
 ·have h:=Blk.new (w.alloc (.cells c0 t0)) c1 t1
  rw[show (w.alloc (.cells c0 t0)).heap.size=w.heap.size+1 by simp] at h
  exact(((h.alloc _).alloc _).alloc _)
 ·have h:=Blk.new ((w.alloc (.cells c0 t0)).alloc (.cells c1 t1)) c2 t2
  rw[show ((w.alloc (.cells c0 t0)).alloc (.cells c1 t1)).heap.size=w.heap.size+1+1 by simp] at h
  exact((h.alloc _).alloc _)
 ·have h:=Blk.new (((w.alloc (.cells c0 t0)).alloc (.cells c1 t1)).alloc (.cells c2 t2)) c3 t3
  rw[show (((w.alloc (.cells c0 t0)).alloc (.cells c1 t1)).alloc (.cells c2 t2)).heap.size=w.heap.size+1+1+1 by simp] at h
  exact(h.alloc _)
 ·have h:=Blk.new ((((w.alloc (.cells c0 t0)).alloc (.cells c1 t1)).alloc (.cells c2 t2)).alloc (.cells c3 t3)) c4 t4
  rw[show ((((w.alloc (.cells c0 t0)).alloc (.cells c1 t1)).alloc (.cells c2 t2)).alloc (.cells c3 t3)).heap.size=w.heap.size+1+1+1+1 by simp] at h
  exact h
 ·exact(((((Below.refl w.heap.size w).alloc (by simp) _).alloc (by simp) _).alloc (by simp;omega) _).alloc (by simp;omega) _).alloc (by simp;omega) _
 ·simp
theorem scl3{a0 a1 a2:Value}(h:Hid (Blk w G #[a0,a1,a2] t)):w.cell? ⟨G,0,none⟩=some a0∧w.cell? ⟨G,1,none⟩=some a1∧w.cell? ⟨G,2,none⟩=some a2:=⟨h.o.cell 0,h.o.cell 1,h.o.cell 2⟩
theorem shc3{a0 a1 a2:Value}(h:Hid (Blk w G #[a0,a1,a2] t)):Hid (w.cell? ⟨G,0,none⟩=some a0)∧Hid (w.cell? ⟨G,1,none⟩=some a1)∧Hid (w.cell? ⟨G,2,none⟩=some a2):=⟨h.o.cell 0,h.o.cell 1,h.o.cell 2⟩
theorem scl4{a0 a1 a2 a3:Value}(h:Hid (Blk w G #[a0,a1,a2,a3] t)):w.cell? ⟨G,0,none⟩=some a0∧w.cell? ⟨G,1,none⟩=some a1∧w.cell? ⟨G,2,none⟩=some a2∧w.cell? ⟨G,3,none⟩=some a3:=⟨h.o.cell 0,h.o.cell 1,h.o.cell 2,h.o.cell 3⟩
theorem shc4{a0 a1 a2 a3:Value}(h:Hid (Blk w G #[a0,a1,a2,a3] t)):Hid (w.cell? ⟨G,0,none⟩=some a0)∧Hid (w.cell? ⟨G,1,none⟩=some a1)∧Hid (w.cell? ⟨G,2,none⟩=some a2)∧Hid (w.cell? ⟨G,3,none⟩=some a3):=⟨h.o.cell 0,h.o.cell 1,h.o.cell 2,h.o.cell 3⟩
theorem scl5{a0 a1 a2 a3 a4:Value}(h:Hid (Blk w G #[a0,a1,a2,a3,a4] t)):w.cell? ⟨G,0,none⟩=some a0∧w.cell? ⟨G,1,none⟩=some a1∧w.cell? ⟨G,2,none⟩=some a2∧w.cell? ⟨G,3,none⟩=some a3∧w.cell? ⟨G,4,none⟩=some a4:=⟨h.o.cell 0,h.o.cell 1,h.o.cell 2,h.o.cell 3,h.o.cell 4⟩
theorem shc5{a0 a1 a2 a3 a4:Value}(h:Hid (Blk w G #[a0,a1,a2,a3,a4] t)):Hid (w.cell? ⟨G,0,none⟩=some a0)∧Hid (w.cell? ⟨G,1,none⟩=some a1)∧Hid (w.cell? ⟨G,2,none⟩=some a2)∧Hid (w.cell? ⟨G,3,none⟩=some a3)∧Hid (w.cell? ⟨G,4,none⟩=some a4):=⟨h.o.cell 0,h.o.cell 1,h.o.cell 2,h.o.cell 3,h.o.cell 4⟩
theorem scl7{a0 a1 a2 a3 a4 a5 a6:Value}(h:Hid (Blk w G #[a0,a1,a2,a3,a4,a5,a6] t)):w.cell? ⟨G,0,none⟩=some a0∧w.cell? ⟨G,1,none⟩=some a1∧w.cell? ⟨G,2,none⟩=some a2∧w.cell? ⟨G,3,none⟩=some a3∧w.cell? ⟨G,4,none⟩=some a4∧w.cell? ⟨G,5,none⟩=some a5∧w.cell? ⟨G,6,none⟩=some a6:=⟨h.o.cell 0,h.o.cell 1,h.o.cell 2,h.o.cell 3,h.o.cell 4,h.o.cell 5,h.o.cell 6⟩
theorem shc7{a0 a1 a2 a3 a4 a5 a6:Value}(h:Hid (Blk w G #[a0,a1,a2,a3,a4,a5,a6] t)):Hid (w.cell? ⟨G,0,none⟩=some a0)∧Hid (w.cell? ⟨G,1,none⟩=some a1)∧Hid (w.cell? ⟨G,2,none⟩=some a2)∧Hid (w.cell? ⟨G,3,none⟩=some a3)∧Hid (w.cell? ⟨G,4,none⟩=some a4)∧Hid (w.cell? ⟨G,5,none⟩=some a5)∧Hid (w.cell? ⟨G,6,none⟩=some a6):=⟨h.o.cell 0,h.o.cell 1,h.o.cell 2,h.o.cell 3,h.o.cell 4,h.o.cell 5,h.o.cell 6⟩
theorem scl8{a0 a1 a2 a3 a4 a5 a6 a7:Value}(h:Hid (Blk w G #[a0,a1,a2,a3,a4,a5,a6,a7] t)):w.cell? ⟨G,0,none⟩=some a0∧w.cell? ⟨G,1,none⟩=some a1∧w.cell? ⟨G,2,none⟩=some a2∧w.cell? ⟨G,3,none⟩=some a3∧w.cell? ⟨G,4,none⟩=some a4∧w.cell? ⟨G,5,none⟩=some a5∧w.cell? ⟨G,6,none⟩=some a6∧w.cell? ⟨G,7,none⟩=some a7:=⟨h.o.cell 0,h.o.cell 1,h.o.cell 2,h.o.cell 3,h.o.cell 4,h.o.cell 5,h.o.cell 6,h.o.cell 7⟩
theorem shc8{a0 a1 a2 a3 a4 a5 a6 a7:Value}(h:Hid (Blk w G #[a0,a1,a2,a3,a4,a5,a6,a7] t)):Hid (w.cell? ⟨G,0,none⟩=some a0)∧Hid (w.cell? ⟨G,1,none⟩=some a1)∧Hid (w.cell? ⟨G,2,none⟩=some a2)∧Hid (w.cell? ⟨G,3,none⟩=some a3)∧Hid (w.cell? ⟨G,4,none⟩=some a4)∧Hid (w.cell? ⟨G,5,none⟩=some a5)∧Hid (w.cell? ⟨G,6,none⟩=some a6)∧Hid (w.cell? ⟨G,7,none⟩=some a7):=⟨h.o.cell 0,h.o.cell 1,h.o.cell 2,h.o.cell 3,h.o.cell 4,h.o.cell 5,h.o.cell 6,h.o.cell 7⟩
theorem scl9{a0 a1 a2 a3 a4 a5 a6 a7 a8:Value}(h:Hid (Blk w G #[a0,a1,a2,a3,a4,a5,a6,a7,a8] t)):w.cell? ⟨G,0,none⟩=some a0∧w.cell? ⟨G,1,none⟩=some a1∧w.cell? ⟨G,2,none⟩=some a2∧w.cell? ⟨G,3,none⟩=some a3∧w.cell? ⟨G,4,none⟩=some a4∧w.cell? ⟨G,5,none⟩=some a5∧w.cell? ⟨G,6,none⟩=some a6∧w.cell? ⟨G,7,none⟩=some a7∧w.cell? ⟨G,8,none⟩=some a8:=⟨h.o.cell 0,h.o.cell 1,h.o.cell 2,h.o.cell 3,h.o.cell 4,h.o.cell 5,h.o.cell 6,h.o.cell 7,h.o.cell 8⟩
theorem shc9{a0 a1 a2 a3 a4 a5 a6 a7 a8:Value}(h:Hid (Blk w G #[a0,a1,a2,a3,a4,a5,a6,a7,a8] t)):Hid (w.cell? ⟨G,0,none⟩=some a0)∧Hid (w.cell? ⟨G,1,none⟩=some a1)∧Hid (w.cell? ⟨G,2,none⟩=some a2)∧Hid (w.cell? ⟨G,3,none⟩=some a3)∧Hid (w.cell? ⟨G,4,none⟩=some a4)∧Hid (w.cell? ⟨G,5,none⟩=some a5)∧Hid (w.cell? ⟨G,6,none⟩=some a6)∧Hid (w.cell? ⟨G,7,none⟩=some a7)∧Hid (w.cell? ⟨G,8,none⟩=some a8):=⟨h.o.cell 0,h.o.cell 1,h.o.cell 2,h.o.cell 3,h.o.cell 4,h.o.cell 5,h.o.cell 6,h.o.cell 7,h.o.cell 8⟩
theorem scl13{a0 a1 a2 a3 a4 a5 a6 a7 a8 a9 a10 a11 a12:Value}(h:Hid (Blk w G #[a0,a1,a2,a3,a4,a5,a6,a7,a8,a9,a10,a11,a12] t)):w.cell? ⟨G,0,none⟩=some a0∧w.cell? ⟨G,1,none⟩=some a1∧w.cell? ⟨G,2,none⟩=some a2∧w.cell? ⟨G,3,none⟩=some a3∧w.cell? ⟨G,4,none⟩=some a4∧w.cell? ⟨G,5,none⟩=some a5∧w.cell? ⟨G,6,none⟩=some a6∧w.cell? ⟨G,7,none⟩=some a7∧w.cell? ⟨G,8,none⟩=some a8∧w.cell? ⟨G,9,none⟩=some a9∧w.cell? ⟨G,10,none⟩=some a10∧w.cell? ⟨G,11,none⟩=some a11∧w.cell? ⟨G,12,none⟩=some a12:=⟨h.o.cell 0,h.o.cell 1,h.o.cell 2,h.o.cell 3,h.o.cell 4,h.o.cell 5,h.o.cell 6,h.o.cell 7,h.o.cell 8,h.o.cell 9,h.o.cell 10,h.o.cell 11,h.o.cell 12⟩
theorem shc13{a0 a1 a2 a3 a4 a5 a6 a7 a8 a9 a10 a11 a12:Value}(h:Hid (Blk w G #[a0,a1,a2,a3,a4,a5,a6,a7,a8,a9,a10,a11,a12] t)):Hid (w.cell? ⟨G,0,none⟩=some a0)∧Hid (w.cell? ⟨G,1,none⟩=some a1)∧Hid (w.cell? ⟨G,2,none⟩=some a2)∧Hid (w.cell? ⟨G,3,none⟩=some a3)∧Hid (w.cell? ⟨G,4,none⟩=some a4)∧Hid (w.cell? ⟨G,5,none⟩=some a5)∧Hid (w.cell? ⟨G,6,none⟩=some a6)∧Hid (w.cell? ⟨G,7,none⟩=some a7)∧Hid (w.cell? ⟨G,8,none⟩=some a8)∧Hid (w.cell? ⟨G,9,none⟩=some a9)∧Hid (w.cell? ⟨G,10,none⟩=some a10)∧Hid (w.cell? ⟨G,11,none⟩=some a11)∧Hid (w.cell? ⟨G,12,none⟩=some a12):=⟨h.o.cell 0,h.o.cell 1,h.o.cell 2,h.o.cell 3,h.o.cell 4,h.o.cell 5,h.o.cell 6,h.o.cell 7,h.o.cell 8,h.o.cell 9,h.o.cell 10,h.o.cell 11,h.o.cell 12⟩
end
section
open Go.RowKit
variable {w w':World}{g0 g1 g2 g3 g4 g5:Nat}{c0 c1 c2 c3 c4 c5:Array Value}{t0 t1 t2 t3 t4 t5:TypeId}
theorem zn2 (b:Below w.heap.size w w')(a1:Hid (Blk w g1 c1 t1))(a2:Hid (Blk w g2 c2 t2)):Hid (Blk w' g1 c1 t1)∧Hid (Blk w' g2 c2 t2):=⟨shN a1 b,shN a2 b⟩
theorem zn3 (b:Below w.heap.size w w')(a1:Hid (Blk w g1 c1 t1))(a2:Hid (Blk w g2 c2 t2))(a3:Hid (Blk w g3 c3 t3)):Hid (Blk w' g1 c1 t1)∧Hid (Blk w' g2 c2 t2)∧Hid (Blk w' g3 c3 t3):=⟨shN a1 b,shN a2 b,shN a3 b⟩
theorem zn4 (b:Below w.heap.size w w')(a1:Hid (Blk w g1 c1 t1))(a2:Hid (Blk w g2 c2 t2))(a3:Hid (Blk w g3 c3 t3))(a4:Hid (Blk w g4 c4 t4)):Hid (Blk w' g1 c1 t1)∧Hid (Blk w' g2 c2 t2)∧Hid (Blk w' g3 c3 t3)∧Hid (Blk w' g4 c4 t4):=⟨shN a1 b,shN a2 b,shN a3 b,shN a4 b⟩
theorem zn5 (b:Below w.heap.size w w')(a1:Hid (Blk w g1 c1 t1))(a2:Hid (Blk w g2 c2 t2))(a3:Hid (Blk w g3 c3 t3))(a4:Hid (Blk w g4 c4 t4))(a5:Hid (Blk w g5 c5 t5)):Hid (Blk w' g1 c1 t1)∧Hid (Blk w' g2 c2 t2)∧Hid (Blk w' g3 c3 t3)∧Hid (Blk w' g4 c4 t4)∧Hid (Blk w' g5 c5 t5):=⟨shN a1 b,shN a2 b,shN a3 b,shN a4 b,shN a5 b⟩
theorem zk1 (b:Upd w w' g0 c0 t0)(a1:Hid (Blk w g1 c1 t1))(h1:g1≠g0:=by omega):Hid (Blk w' g1 c1 t1):=shK b a1 h1
theorem zk2 (b:Upd w w' g0 c0 t0)(a1:Hid (Blk w g1 c1 t1))(a2:Hid (Blk w g2 c2 t2))(h1:g1≠g0:=by omega)(h2:g2≠g0:=by omega):Hid (Blk w' g1 c1 t1)∧Hid (Blk w' g2 c2 t2):=⟨shK b a1 h1,shK b a2 h2⟩
theorem zk3 (b:Upd w w' g0 c0 t0)(a1:Hid (Blk w g1 c1 t1))(a2:Hid (Blk w g2 c2 t2))(a3:Hid (Blk w g3 c3 t3))(h1:g1≠g0:=by omega)(h2:g2≠g0:=by omega)(h3:g3≠g0:=by omega):Hid (Blk w' g1 c1 t1)∧Hid (Blk w' g2 c2 t2)∧Hid (Blk w' g3 c3 t3):=⟨shK b a1 h1,shK b a2 h2,shK b a3 h3⟩
theorem zk4 (b:Upd w w' g0 c0 t0)(a1:Hid (Blk w g1 c1 t1))(a2:Hid (Blk w g2 c2 t2))(a3:Hid (Blk w g3 c3 t3))(a4:Hid (Blk w g4 c4 t4))(h1:g1≠g0:=by omega)(h2:g2≠g0:=by omega)(h3:g3≠g0:=by omega)(h4:g4≠g0:=by omega):Hid (Blk w' g1 c1 t1)∧Hid (Blk w' g2 c2 t2)∧Hid (Blk w' g3 c3 t3)∧Hid (Blk w' g4 c4 t4):=⟨shK b a1 h1,shK b a2 h2,shK b a3 h3,shK b a4 h4⟩
theorem zk5 (b:Upd w w' g0 c0 t0)(a1:Hid (Blk w g1 c1 t1))(a2:Hid (Blk w g2 c2 t2))(a3:Hid (Blk w g3 c3 t3))(a4:Hid (Blk w g4 c4 t4))(a5:Hid (Blk w g5 c5 t5))(h1:g1≠g0:=by omega)(h2:g2≠g0:=by omega)(h3:g3≠g0:=by omega)(h4:g4≠g0:=by omega)(h5:g5≠g0:=by omega):Hid (Blk w' g1 c1 t1)∧Hid (Blk w' g2 c2 t2)∧Hid (Blk w' g3 c3 t3)∧Hid (Blk w' g4 c4 t4)∧Hid (Blk w' g5 c5 t5):=⟨shK b a1 h1,shK b a2 h2,shK b a3 h3,shK b a4 h4,shK b a5 h5⟩
theorem zk {B:Nat}{v:World}(b:Upd w w' g0 c0 t0)(h:Hid (Below B v w))(k:B≤g0:=by omega):Hid (Below B v w'):=shV b h k
end
namespace book
structure So where
 id:Int
 cl:Int
 am:Int
 tg:Int
 rv:Int
def so0:So:=⟨0,0,0,0,0⟩
end book
namespace acc
open tar (Du du0 Came)
open Go.RowKit
def Ac.cs(x:Ac)(p:Option Addr)(len cap:Nat):Array Value:=#[zI x.me,zI x.rv,zI x.nx,zI x.mo,zI x.bo,zI x.fr,.slice p len cap]
def Ac.v(x:Ac)(p:Option Addr)(len cap:Nat):Value:=.agg (x.cs p len cap)
def Tm.v(t:Tm)(p:Option Addr)(len cap:Nat):Value:=.agg #[.slice p len cap,zI t.ff,zI t.fb,zI t.db,zI t.al]
def Bi.v(b:Bi):Value:=.agg #[zI b.id,zI b.te,zI b.de,zI b.fe,zI b.pr,zI b.ch,zI b.un]
def wf6(x:Ac):Prop:=(Lit.int .i64 x.me).wf=true∧(Lit.int .i64 x.rv).wf=true∧(Lit.int .i64 x.nx).wf=true∧(Lit.int .i64 x.mo).wf=true∧(Lit.int .i64 x.bo).wf=true∧(Lit.int .i64 x.fr).wf=true
def wf4(t:Tm):Prop:=(Lit.int .i64 t.ff).wf=true∧(Lit.int .i64 t.fb).wf=true∧(Lit.int .i64 t.db).wf=true∧(Lit.int .i64 t.al).wf=true
structure ACame (w:World) (x:Ac) (p:Option Addr) (len cap:Nat):Prop where
 ds:Came w p len cap x.ds
 wf:wf6 x
structure TCame (w:World) (t:Tm) (p:Option Addr) (len cap:Nat):Prop where
 ts:Came w p len cap t.ts
 wf:wf4 t
theorem ACame.below{w w':World}{x:Ac}{p:Option Addr}{len cap:Nat}(h:ACame w x p len cap)(hb:zB w w'):ACame w' x p len cap:=⟨h.ds.below hb,h.wf⟩
theorem TCame.below{w w':World}{t:Tm}{p:Option Addr}{len cap:Nat}(h:TCame w t p len cap)(hb:zB w w'):TCame w' t p len cap:=⟨h.ts.below hb,h.wf⟩
def APost(w:World)(R:Ac→Int→Prop)(e:Ending)(w':World):Prop:=∃b p len cap f,e=.returned (.tuple #[Ac.v b p len cap,zI f])∧R b f∧deb.Fresh w' w.heap.size p len cap b.ds∧zB w w'
def BPost(w:World)(R:Ac→Bi→Int→Prop)(e:Ending)(w':World):Prop:=∃b l p len cap f,e=.returned (.tuple #[Ac.v b p len cap,Bi.v l,zI f])∧R b l f∧deb.Fresh w' w.heap.size p len cap b.ds∧zB w w'
end acc
namespace words
def decF:Nat→Nat→List Int
 |0,u=>[48+(u:Int)]
 |k+1,u=>if u<10 then [48+(u:Int)] else decF k (u/10)++[48+((u%10:Nat):Int)]
def decL(u:Nat):List Int:=decF u u
theorem decF_same:∀(k j u:Nat),u≤k→u≤j→decF k u=decF j u:=by
 intro k
 induction k with
 |zero=>
  intro j u b c;have:u=0:=by omega
  subst this;cases j with
  |zero=>rfl
  |succ j=>simp[decF]
 |succ k ih=>
  intro j u b c;by_cases a:u<10
  ·cases j with
   |zero=>
    have:u=0:=by omega
    subst this;simp[decF]
   |succ j=>rw[decF,decF,if_pos a,if_pos a]
  ·obtain⟨j',rfl⟩:∃j',j=j'+1:=⟨j-1,by omega⟩
   rw[decF,decF,if_neg a,if_neg a,ih j' (u/10) (by omega) (by omega)]
theorem decL_one{u:Nat}(h:u<10):decL u=[48+(u:Int)]:=by
 unfold decL;cases u with
 |zero=>rfl
 |succ k=>rw[decF,if_pos h]
theorem decL_more{u:Nat}(h:¬ u<10):decL u=decL (u/10)++[48+((u%10:Nat):Int)]:=by
 obtain⟨k,rfl⟩:∃k,u=k+1:=⟨u-1,by omega⟩
 unfold decL;rw[decF,if_neg h,decF_same k _ _ (by omega) zc]
theorem decL_ne(u:Nat):decL u≠[]:=by
 by_cases h:u<10
 ·rw[decL_one h];simp
 ·rw[decL_more h];simp
theorem decL_len(k:Nat):∀u:Nat,u<10^(k+1)→1≤(decL u).length∧(decL u).length≤k+1:=by
 induction k with
 |zero=>intro u h;rw[decL_one (by omega)];simp
 |succ k ih=>
  intro u h;by_cases a:u<10
  ·rw[decL_one a];simp
  ·rw[decL_more a];have:=ih (u/10) (by rw[Nat.pow_succ] at h;omega);simp;omega
theorem decL_len29(u:Nat)(h:(u:Int)<top):1≤(decL u).length∧(decL u).length≤29:=decL_len 28 u (by unfold top at h;omega)
end words
namespace check
open Go.RowKit
theorem len_eq(s:ByteArray):s.data.toList.length=s.size:=Array.length_toList
end check
namespace disk
open Go.RowKit
structure Sli where
 a:Option Addr
 n:Nat
 c:Nat
def Sli.v(s:Sli):Value:=.slice s.a s.n s.c
def sl0:Sli:=⟨none,0,0⟩
def cellsR(l:List Sli):List Value:=l.map Sli.v
theorem oneR(l:List Sli):∀u∈cellsR l,u.oneCell'=true:=λu a=>by
 obtain⟨s,_,rfl⟩:=List.mem_map.1 a;rfl
def Lr(T:TypeId)(w:World)(base:Nat)(v:Value)(l:List Sli):Prop:=w.ownsRow base T 1 v l.length (cellsR l)
theorem Lr.zero(T:TypeId)(w:World)(base:Nat):Lr T w base (zS) []:=World.ownsRow_nil _ _ _ _
variable{l:List Sli}{zs:List (List Int)}{T:TypeId}{base:Nat}{w:World}
theorem Lr.alloc{v:Value}(h:Lr T w base v l)(o:Obj):Lr T (w.alloc o) base v l:=World.ownsRow.alloc h o
theorem Lr.next{w w':World}{v:Value}(h:Lr T w base v l)(hb:zB w w'):Lr T w' base v l:=by
 refine⟨h.1,?_⟩;rcases h.2 with e|⟨g,a,b,f,d,c,rest⟩
 ·exact .inl e
 ·exact .inr ⟨g,a,b,f,d,Blk.next c hb,rest⟩
theorem Lr.row{v:Value}(h:Lr T w base v l)(h0:0<l.length):∃g cap,v=.slice (some ⟨g,0,none⟩) l.length cap∧base≤g∧g<w.heap.size∧l.length≤cap∧∀i,i<l.length→w.cell? ⟨g,i,none⟩=some (l.getD i sl0).v:=by
 rcases h.2 with⟨a,k⟩|⟨g,cap,b,a,f,e,d,_⟩
 ·omega
 ·subst a;refine⟨g,cap,rfl,f,Blk.lt e,d,λi j=>?_⟩;have c:=World.ownsRow.cellAt h i (by omega);rw[c];simp[cellsR,List.getD,j]
theorem Lr.len{v:Value}(h:Lr T w base v l):∃a cap,v=.slice a l.length cap:=by
 rcases h.2 with⟨b,d⟩|⟨g,cap,c,b,_⟩
 ·exact⟨none,0,by rw[d];exact b⟩
 ·exact⟨_,cap,b⟩
structure SliT (P:Program) (T S:TypeId):Prop where
 info:(P.info? T).map (λi=>(i.zero,i.size,i.bytes))=some (some (sl0.v),1,24)
 under:P.underlying S=some (.slice T)
theorem wp_sli{P:Program}{T S:TypeId}(hP:SliT P T S){w:World}{ops:Array Oper}{rest:List Oper}{o:Oper}{a:Act}{Q:Exit→Act→World→Prop}(hgd:o.guard=none)(s x:Operand)
  (ho:o.op=.call { callee:=.builtin .append,args:=#[s,x],argTypes:=#[S,S] })
  (base G:Nat) (v:Value) (l:List Sli) (r:Sli) (hs:a.eval s=v) (hx:a.eval x=.slice (some ⟨G,0,none⟩) 1 1) (hv:Lr T w base v l) (hu:w.cell? ⟨G,0,none⟩=some r.v) (hn:l.length≤1000000) (hbase:base≤w.heap.size)
  (h:∀v' w',Lr T w' base v' (l++[r])→w.grownBy w' v.ownBlock→(v'.ownBlock=v.ownBlock∨v'.ownBlock=some w.heap.size)→wpList P ops Q rest (a.put o.dst v') w'):wpList P ops Q (o::rest) a w:=by
 obtain⟨m,k,c,d,e⟩:=info_parts hP.info;refine wpList_append_own_at w hgd s x S ho base T m (sl0.v) 1 24 hP.under k c d e rfl (by decide) v l.length (cellsR l) hs hv ⟨G,0,none⟩ 1 1 (cellsR [r]) hx rfl ?_ (oneR [r]) (by unfold maxLen;omega) (by omega) hbase ?_
 ·intro j u b
  match j,b with
  |0,b=>simp[cellsR] at b;subst b;simpa [Addr.add] using hu
  |j+1,b=>simp[cellsR] at b
 intro v' w' f g _ i;refine h v' w' ?_ g i;unfold Lr;rw[List.length_append];unfold cellsR at *;rw[List.map_append];exact f
def Recs(w:World)(own:Option Nat)(l:List Sli)(zs:List (List Int)):Prop:=l.length=zs.length∧∀i,i<l.length→(∃b off,(l.getD i sl0).a=some ⟨b,off,none⟩∧b<w.heap.size∧some b≠own)∧cell.RowU w (l.getD i sl0).a (l.getD i sl0).n (zs.getD i [])
theorem Recs.nil(w:World)(own:Option Nat):Recs w own [] []:=⟨rfl,λi a=>by cases a⟩
theorem Recs.below{w w':World}{own:Option Nat}(h:Recs w own l zs)(hb:zB w w'):Recs w' own l zs:=⟨h.1,λi g=>by
 obtain⟨⟨b,a,c,d,e⟩,f⟩:=h.2 i g
 exact ⟨⟨b,a,c,Nat.lt_of_lt_of_le d hb.size,e⟩,f.below hb⟩⟩
theorem Recs.snoc{own:Option Nat}(h:Recs w own l zs){s:Sli}{z:List Int}(hs:(∃b off,s.a=some ⟨b,off,none⟩∧b<w.heap.size∧some b≠own)∧cell.RowU w s.a s.n z):Recs w own (l++[s]) (zs++[z]):=by
 refine⟨by rw[List.length_append,List.length_append,h.1];rfl,λi g=>?_⟩;by_cases f:i<l.length
 ·have d:(l++[s]).getD i sl0=l.getD i sl0:=by simp[List.getD,List.getElem?_append_left f]
  have e:(zs++[z]).getD i []=zs.getD i []:=by simp[List.getD,List.getElem?_append_left (show i<zs.length from h.1▸f)]
  rw[d,e];exact h.2 i f
 ·have c:i=l.length:=by simp at g;omega
  have d:(l++[s]).getD i sl0=s:=by rw[c];simp[List.getD]
  have e:(zs++[z]).getD i []=z:=by rw[c,h.1];simp[List.getD]
  rw[d,e];exact hs
theorem Recs.grown{w w':World}{own own':Option Nat}(h:Recs w own l zs)(hg:w.grownBy w' own)(ho:own'=own∨own'=some w.heap.size):Recs w' own' l zs:=⟨h.1,λi d=>by
 obtain⟨⟨b,f,c,j,k⟩,m⟩:=h.2 i d;have q:=hg.block b j k;refine⟨⟨b,f,c,Nat.lt_of_lt_of_le j hg.size,?_⟩,m.1,?_⟩
 ·rcases ho with rfl|rfl
  ·exact k
  ·intro e;have:=Option.some.inj e;omega
 ·rcases m.2 with p|⟨n,a,e,r⟩
  ·exact .inl p
  ·rw[c] at e;have g:=Option.some.inj e;have o:b=n:=congrArg Addr.block g;subst o;refine .inr ⟨b,a,by rw[c,g],λi d=>?_⟩;rw[← r i d]
   simp [World.cell?,q]⟩
open cell
theorem length_any(a:Option Addr)(n cap p:Nat)(c:List Int)(w:World)(h:RowU w a n c)(hn:n≤2048)(hp:p≤n)(hw:∀x∈c,0≤x∧x<4294967296):
  Calls Tryz.prog 132 #[.slice a n cap,zI (p:Int)] w λe w'=>e=.returned (zI (lenAt c p))∧w'=w:=by
 have l:=h.1;by_cases r:p=n
 ·have j:lenAt c p=0:=by unfold lenAt;rw[if_pos (.inl (by omega))]
  rw[j];have q:((p:Int)==(n:Int))=true:=by simp;omega
  clear j h hw l hp;go_enter Tryz.func132,Tryz.ntmps132;go_wp2_with fail;go_ret;exact⟨rfl,rfl⟩
 ·obtain⟨b,o,rfl,u,m⟩:=h.at (by omega);have c0:=m p (by omega);have t:p<n:=by omega
  have q:((p:Int)==(n:Int))=false:=by simp;omega
  have j:=hw (c.getD p 0) (by rw[List.getD_eq_getElem?_getD,List.getElem?_eq_getElem (by omega)];exact List.getElem_mem _);have i:Hid (lenAt c p=if p=c.length∨c.getD p 0=0 then 0 else if 64<c.getD p 0 then -1 else if (c.length:Int)≤p+c.getD p 0 then -1 else c.getD p 0):=rfl;have g:Hid (c.length=n):=l;generalize c.getD p 0=z at *;obtain⟨B,C⟩:=j;clear h hw m u hp r l;by_cases f:z=0
  ·have d:lenAt c p=0:=by rw[i.o,if_pos (.inr f)]
   rw[d];subst f;clear d;go_enter Tryz.func132,Tryz.ntmps132;go_wp2_with fail;go_ret;exact⟨rfl,rfl⟩
  ·have y:(z==0)=false:=by simpa using f
   by_cases k:64<z
   ·have d:lenAt c p=-1:=by rw[i.o,if_neg (by have:=g.o;omega),if_pos k]
    rw[d];clear d f;go_enter Tryz.func132,Tryz.ntmps132;go_wp2_with fail;go_ret;exact⟨rfl,rfl⟩
   ·have s:z≤64:=by omega
    by_cases A:(n:Int)≤p+z
    ·have d:lenAt c p=-1:=by rw[i.o,if_neg (by have:=g.o;omega),if_neg k,if_pos (by have:=g.o;omega)]
     rw[d];clear d f;go_enter Tryz.func132,Tryz.ntmps132;go_wp2_with fail;go_ret;exact⟨rfl,rfl⟩
    ·have d:lenAt c p=z:=by rw[i.o,if_neg (by have:=g.o;omega),if_neg k,if_neg (by have:=g.o;omega)]
     rw[d];clear d f;go_enter Tryz.func132,Tryz.ntmps132;go_wp2_with fail;go_ret;exact⟨rfl,rfl⟩
def Reads(w:World)(a:Option Addr)(n:Nat)(zs:List (List Int)):Prop:=
 zs.length=n∧(n=0∨∃b off,a=some ⟨b,off,none⟩∧b<w.heap.size∧∀i,i<n→∃s:Sli,w.cell? ⟨b,off+i,none⟩=some s.v∧RowU w s.a s.n (zs.getD i [])∧s.n≤100000)
def ReadsF(w:World)(base:Nat)(a:Option Addr)(n:Nat)(zs:List (List Int)):Prop:=
 zs.length=n∧(n=0∨∃b off,a=some ⟨b,off,none⟩∧base≤b∧b<w.heap.size∧∀i,i<n→∃s:Sli,w.cell? ⟨b,off+i,none⟩=some s.v∧RowU w s.a s.n (zs.getD i [])∧(s.n≤100000∧s.n≤s.c∧(s.a=none→s.c=0))∧∀x,s.a=some x→base≤x.block)
theorem ReadsF.reads{w:World}{base:Nat}{a:Option Addr}{n:Nat}{zs:List (List Int)}(h:ReadsF w base a n zs):Reads w a n zs:=by
 refine⟨h.1,?_⟩;rcases h.2 with d|⟨b,c,rfl,_,l,j⟩
 ·exact .inl d
 ·exact .inr ⟨b,c,rfl,l,λi k=>by obtain⟨s,e,f,g,_⟩:=j i k;exact⟨s,e,f,g.1⟩⟩
def RepNew(w:World)(c:List Int)(e:Ending)(w':World):Prop:=
 ∃a n cap out x f,e=.returned (.tuple #[.slice a n cap,zI x,zI f])∧ReadsF w' w.heap.size a n out∧n≤100000∧RepIs c out x f∧zB w w'
def AppGot(w:World)(c r:List Int)(e:Ending)(w':World):Prop:=
 ∃a n cap ls f,e=.returned (.tuple #[.slice a n cap,zI f])∧RowW w' a n ls∧(∀x,a=some x→w.heap.size≤x.block)∧n≤cap∧n≤100000∧AppIs c r ls f∧zB w w'
end disk
namespace ora
open Go.RowKit
set_option maxRecDepth 100000
def Told(w : World)(P : Prop)(e : Ending)(w' : World): Prop := ∃r : Bool, e=.returned (.bool r) ∧ (r = true ↔ P) ∧ zB w w'
variable{l : List Pr}{a : Option Addr}{n cap : Nat}{w w' : World}
theorem Told.yes{P : Prop}(h : P)(hb : zB w w'): Told w P (.returned (.bool true)) w' := ⟨true, rfl, by simp[h], hb⟩
theorem Told.no{P : Prop}(h : ¬ P)(hb : zB w w'): Told w P (.returned (.bool false)) w' := ⟨false, rfl, by simp[h], hb⟩
def TagPost(w : World)(l : List Pr)(m r b : Int)(e : Ending)(w' : World): Prop :=
 zB w w' ∧ ((∃i : Nat, At l m r b i ∧ e=.returned (.int .i64 (i : Int))) ∨ (No l m r b ∧ e=.returned (.int .i64 (-1))))
structure Bo (w wr : World) (a : Option Addr) (n cap : Nat) (l : List Pr) : Prop where
 box : Blk wr w.heap.size #[.slice a n cap] 28
 row : RowP wr a n l
 bel : zB w wr
theorem Bo.next{w wr w' : World}(h : Bo w wr a n cap l)(hb : zB wr w'): Bo w w' a n cap l := ⟨h.box.next hb, h.row.below hb, bel_step h.bel hb⟩
theorem Bo.alloc{w wr : World}(h : Bo w wr a n cap l)(o : Obj): Bo w (wr.alloc o) a n cap l := h.next (zb.alloc zc _)
theorem Bo.new{w : World}(h : RowP w a n l): Bo w (w.alloc (.cells #[.slice a n cap] 28)) a n cap l :=
 ⟨Blk.new w _ _, h.below (zb.alloc zc _), zb.alloc zc _⟩
def GaveO(w : World)(l : List Pr)(e : Ending)(w' : World): Prop := ∃v, e=.returned (.agg #[v]) ∧ Pw w' w.heap.size v l ∧ zB w w'
theorem take_nextP(l : List Pr)(k : Nat)(h : k<l.length): l.take k ++ [⟨(l.getD k pr0).m, (l.getD k pr0).r, (l.getD k pr0).b, (l.getD k pr0).t⟩] = l.take (k + 1) := by
 rw[List.take_succ_eq_append_getElem h]
 congr 2
 simp[List.getD, List.getElem?_eq_getElem h]
structure Bi (w wr : World) (a : Option Addr) (n cap : Nat) (l : List Pr) : Prop where
 bo : Bo w wr a n cap l
 out : Blk wr (w.heap.size + 1) #[.slice none 0 0] 28
theorem Bi.next{w wr w' : World}(h : Bi w wr a n cap l)(hb : zB wr w'): Bi w w' a n cap l := ⟨h.bo.next hb, h.out.next hb⟩
theorem Bi.alloc{w wr : World}(h : Bi w wr a n cap l)(o : Obj): Bi w (wr.alloc o) a n cap l := h.next (zb.alloc zc _)
theorem Pw.put2{w : World}{base G : Nat}{v : Value}{cs : Array Value}{t : TypeId}(h : Pw w base v l)(hB : Blk w G cs t)(ht : t≠87)(i : Nat)(u : Value): Pw (w.setCell ⟨G, i, none⟩ u) base v l := by
 refine⟨h.1, ?_⟩
 rcases h.2 with f|⟨g, a, b, j, d, c, rest⟩
 ·exact .inl f
 ·refine .inr ⟨g, a, b, j, d, Blk.other c i u (λe => ?_), rest⟩
  subst e
  have := hB.symm.trans c
  simp only[Option.some.injEq, Obj.cells.injEq] at this
  exact ht this.2.1
structure Came (w : World) (a : Option Addr) (n cap : Nat) (l : List Pr) : Prop where
 row : RowP w a n l
 nil : a = none → cap = 0
 le : n ≤ cap
 small : n * 32 ≤ 140737488351232
theorem Came.below(h : Came w a n cap l)(hb : zB w w'): Came w' a n cap l := ⟨h.row.below hb, h.nil, h.le, h.small⟩
def Copied(w : World)(n : Nat)(l : List Pr)(e : Ending)(w' : World): Prop := ∃a' cap', e=.returned (.agg #[.slice a' n cap']) ∧ Came w' a' n cap' l ∧ zB w w'
theorem few_small{m r b d : Int}{ls : List Pr}{x c : Int}(h : IssueIs l m r b d ls x c): ls.length ≤ 500 := by
 rcases h with⟨_, rfl, _⟩|⟨_, _, rfl, _⟩|⟨a, _, _, rfl, _⟩|⟨_, _, _, _, rfl, _⟩|⟨_, _, _, e, rfl, _⟩
 ·decide
 ·decide
 ·exact a.few
 ·decide
 ·rw[List.length_append]; simp; omega
def wfP(p : Pr): Prop := (Lit.int .i64 p.m).wf = true ∧ (Lit.int .i64 p.r).wf = true ∧ (Lit.int .i64 p.b).wf = true ∧ (Lit.int .i64 p.t).wf = true
def RowA(w : World)(a : Option Addr)(len : Nat)(ps : List Pr): Prop :=
 ∀i, i<len → ∃b off, a = some ⟨b, off, none⟩ ∧ PrAt w b (off + i * 4) (ps.getD i pr0) ∧ wfP (ps.getD i pr0)
end ora
namespace deb
open tar (Du du0 Came RowD Ld ErrPost TwoPost PairT GaveD)
open Go.RowKit
theorem rfault(a:Option Addr)(n cap:Nat)(ls:List Du)(w:World)(hr:RowD w a n ls)(hn:n≤maxLen):Calls Tryz.prog 86 #[.slice a n cap] w λe w'=>∃f,e=.returned (zI f)∧FaultIs ls f∧w'=w:=by
 have d:=hr.1;have E:Hid (∀x W,zC 47 #[zI x,zI 0,zI 1000000000] W λe w'=>e=.returned (.bool (decide (0≤x∧x≤1000000000)))∧w'=W):=λx W=>cal.cin x 0 1000000000 W;have D:Hid (∀x W,zC 47 #[zI x,zI 0,zI 10000] W λe w'=>e=.returned (.bool (decide (0≤x∧x≤10000)))∧w'=W):=λx W=>cal.cin x 0 10000 W;have M:n≤9223372036854775807:=by unfold maxLen at hn;omega
 by_cases J:n≤8
 ·have s:Hid (ls.length≤8):=by show _≤_;rw[d];exact J
  have H:decide (8<(n:Int))=false:=decide_eq_false (by omega);have r:Hid (RowD w a n ls):=hr;have g:Hid (ls.length=n):=d;clear hr hn d;go_enter Tryz.func86,Tryz.ntmps86;go_wp2_with fail;go_loopw [3] (λx wr=>∃k:Nat,k≤n∧x=zI (k:Int)∧(∀i,i<k→Ok1 (ls.getD i du0))∧wr=w) (λx _=>n-(intOf x).toNat)
  case atStart=>exact⟨0,Nat.zero_le _,rfl,λi t=>absurd t (Nat.not_lt_zero _),rfl⟩
  case round=>
   obtain⟨k,P,rfl,hf,N⟩:=hrel;have K:Hid (∀i,i<k→Ok1 (ls.getD i du0)):=hf;subst wr;clear hf;by_cases l:k<n
   ·have I:decide ((k:Int)<(n:Int))=true:=by simp;omega
    obtain⟨b,O,rfl,L,G⟩:=r.o.at (by omega);have c0:=(G k l).1;have c1:=(G k l).2;have z:=E.o (ls.getD k du0).a;have u:=D.o (ls.getD k du0).b;clear G;by_cases p:0≤(ls.getD k du0).a∧(ls.getD k du0).a≤1000000000
    ·rw[decide_eq_true p] at z;have j:Hid (∀W,zC 47 #[zI (ls.getD k du0).a,zI 0,zI 1000000000] W λe w'=>e=.returned (.bool true)∧w'=W):=z;by_cases q:0≤(ls.getD k du0).b∧(ls.getD k du0).b≤10000
     ·rw[decide_eq_true q] at u
      have B:Hid (∀i,i<k+1→Ok1 (ls.getD i du0)):=λi t=>by
       by_cases e:i=k
       ·subst e;exact⟨p,q⟩
       ·exact K.o i (by omega)
      have m:Hid (∀W,zC 47 #[zI (ls.getD k du0).b,zI 0,zI 10000] W λe w'=>e=.returned (.bool true)∧w'=W):=u;clear p q;generalize (ls.getD k du0).a=x at *;generalize (ls.getD k du0).b=y at *;go_wp2_with fail;refine(j.o _).mono ?_;rintro e A ⟨rfl,c⟩;subst c;go_wp2_with fail;refine(m.o _).mono ?_;rintro e A ⟨rfl,c⟩;subst c;go_wp2_with fail;go_roundw
      case rel=>exact⟨k+1,by omega,by go_num,B.o,by first|rfl|trivial⟩
      case measure=>simp[intOf];omega
     ·rw[decide_eq_false q] at u;have F:Hid (¬ DFits ls):=λh=>q (h k (by rw[g.o];exact l)).2;have m:Hid (∀W,zC 47 #[zI (ls.getD k du0).b,zI 0,zI 10000] W λe w'=>e=.returned (.bool false)∧w'=W):=u;clear p q;generalize (ls.getD k du0).a=x at *;generalize (ls.getD k du0).b=y at *;go_wp2_with fail;refine(j.o _).mono ?_;rintro e A ⟨rfl,c⟩;subst c;go_wp2_with fail;refine(m.o _).mono ?_;rintro e A ⟨rfl,c⟩;subst c;go_wp2_with fail;go_ret;exact⟨_,rfl,.inr (.inl ⟨s.o,F.o,rfl⟩),rfl⟩
    ·rw[decide_eq_false p] at z;have F:Hid (¬ DFits ls):=λh=>p (h k (by rw[g.o];exact l)).1;have j:Hid (∀W,zC 47 #[zI (ls.getD k du0).a,zI 0,zI 1000000000] W λe w'=>e=.returned (.bool false)∧w'=W):=z;clear p;generalize (ls.getD k du0).a=x at *;generalize (ls.getD k du0).b=y at *;go_wp2_with fail;refine(j.o _).mono ?_;rintro e A ⟨rfl,c⟩;subst c;go_wp2_with fail;go_ret;exact⟨_,rfl,.inr (.inl ⟨s.o,F.o,rfl⟩),rfl⟩
   ·obtain rfl:k=n:=by omega
    have I:decide ((k:Int)<(k:Int))=false:=by simp
    have C:Hid (DFits ls):=λi t=>K.o i (by rw[g.o] at t;exact t);go_wp2_with fail;go_ret;exact⟨_,rfl,.inr (.inr ⟨⟨s.o,C.o⟩,rfl⟩),rfl⟩
 ·have s:Hid (¬ ls.length≤8):=by show ¬ _≤_;rw[d];exact J
  have H:decide (8<(n:Int))=true:=decide_eq_true (by omega);clear J hr d hn;go_enter Tryz.func86,Tryz.ntmps86;go_wp2_with fail;go_ret;exact⟨_,rfl,.inl ⟨s.o,rfl⟩,rfl⟩
end deb
section
open Go.RowKit
theorem wp_wholeG{P:Program}{ops:Array Oper}{rest:List Oper}{o:Oper}{a:Act}{w:World}{Q:Exit→Act→World→Prop}(hw:Region.wanted o (yielded ops a.tmps)=true)(ty:TypeId)(x:Operand)(ho:o.op=.load ty x)
  (g:Nat) (hx:a.eval x=.pointer (some ⟨g,0,none⟩)) (t:TypeId) (cs:Array Value) (d:TypeDesc) (hB:Blk w g cs t)
  (hu:P.underlying ty=some d) (hd:d.isRow=true) (hi:(P.info? ty).map (·.size)=some cs.size)
  (h:wpList P ops Q rest (a.put o.dst (.agg cs)) w):wpList P ops Q (o::rest) a w:=
 wpList_step λK hK=>by
  rw[if_pos hw]
  exact wp_load_mid (P:=P) (op:=o) (a:=a) (w:=w) (K:=K) (Q:=Q) ty x ho g 0 hx cs.toList d (λj v hv=>by rw[Nat.zero_add,hB.cell j];simpa using hv) hu hd (by simpa using hi) (by simpa using hK _ _ h)
end
section
open Go.RowKit
theorem zg {P : Program} {ops : Array Oper} {rest : List Oper} {o : Oper} {a : Act} {w : World} {Q : Exit → Act → World → Prop} {ty : TypeId} {x : Operand} {g : Nat} {t : TypeId} {cs : Array Value}
 (h : wpList P ops Q rest (a.put o.dst (.agg cs)) w) (hw : Region.wanted o (yielded ops a.tmps) = true := by exact rfl) (ho : o.op = .load ty x := by exact rfl) (hx : a.eval x = .pointer (some ⟨g, 0, none⟩) := by exact rfl)
 (hB : Hid (Blk w g cs t) := by assumption) (hr : zqr P ty cs.size := by first|exact zqu24|exact zqu28|exact zqu33|exact zqu35|exact zqu42|exact zqu44|exact zqu55|exact zqu61|exact zqu65|exact zqu71|exact zqu73|exact zqu93|exact zqu132|exact zqu170|exact zqu183|exact zqu212) : wpList P ops Q (o :: rest) a w := by
 obtain ⟨d, h1, h2, h3⟩ := hr
 exact wp_wholeG hw ty x ho g hx t cs d hB.out h1 (by cases d <;> first | rfl | exact h2 | exact absurd h2 (by simp)) h3 h
end
namespace token
open Go.RowKit
theorem bel_box(w:World)(o:Obj):zB w (w.alloc o):=zb.alloc zc o
end token
namespace words
open Go.RowKit
theorem cutWord_any(B:Nat)(n:Int)(w:World)(hc:w.cell? ⟨B,0,none⟩=some (.int .u64 n))(hf:w.frozen? ⟨B,0,none⟩=false):
  Calls Tryz.prog 167 #[.pointer (some ⟨B,0,none⟩)] w λe w'=>e=.returned (.int .u32 (n%4294967296))∧w'=w.setCell ⟨B,0,none⟩ (.int .u64 (n/4294967296)):=by
 go_enter Tryz.func167,Tryz.ntmps167;go_wp2;go_ret;exact⟨rfl,rfl⟩
theorem timesStep_any(B M:Nat)(n x m:Int)(w:World)(hc:w.cell? ⟨B,0,none⟩=some (.int .u64 n))(hf:w.frozen? ⟨B,0,none⟩=false)(hm:w.cell? ⟨M,0,none⟩=some (.int .u32 m))(h0:0≤n)(h1:n<4294967296)(x0:0≤x)(x1:x<4294967296)(m0:0≤m)(m1:m<4294967296):
  Calls Tryz.prog 166 #[.int .u32 x,.pointer (some ⟨B,0,none⟩),.pointer (some ⟨M,0,none⟩)] w λe w'=>e=.returned (.int .u32 ((n+x*m)%4294967296))∧Acc w w' B (.int .u64 ((n+x*m)/4294967296)):=by
 have a:Acc w w B (.int .u64 n):=Acc.refl hc hf;have b:Hid (Acc w w B (.int .u64 n)):=a;obtain⟨c,d⟩:=prod_bd x0 x1 m0 m1;clear a;go_enter Tryz.func166,Tryz.ntmps166;go_wp2_with fail;refine(cutWord_any B (n+x*m) _ (by apply World.cell?_setCell_same;exact hc) (by rw[World.frozen?_setCell];exact hf)).mono ?_;rintro e w' ⟨rfl,rfl⟩;go_wp2_with fail;go_ret;exact⟨rfl,(b.o.set _).set _⟩
abbrev wv(w:W3):Value:=.agg #[.int .u32 w.a,.int .u32 w.b,.int .u32 w.c]
end words
namespace disk
open Go.RowKit cell
def KReplay:Prop:=∀(W:World)(a:Option Addr)(n cap:Nat)(c:List Int),RowU W a n c→(a=none→cap=0)→n≤cap→n*4≤140737488351232→(∀x∈c,0≤x∧x<4294967296)→zC 104 #[.slice a n cap] W λe w'=>RepNew W c e w'
end disk
namespace acc
open tar (Du du0 Came RowD Ld PairT)
open Go.RowKit
theorem awithin(lo hi n:Int)(w:World):Calls Tryz.prog 66 #[zI lo,zI hi,zI n] w λe w'=>e=.returned (.bool (decide (lo≤n∧n≤hi)))∧w'=w:=by
 by_cases b:lo≤n
 ·by_cases c:n≤hi
  ·have a:decide (lo≤n∧n≤hi)=true:=by simp;omega
   rw[a];clear a;go_enter Tryz.func66,Tryz.ntmps66;go_wp2;go_ret;exact⟨rfl,rfl⟩
  ·have a:decide (lo≤n∧n≤hi)=false:=by simp;omega
   have d:decide (n≤hi)=false:=by simp;omega
   rw[a];clear a c;go_enter Tryz.func66,Tryz.ntmps66;go_wp2;go_ret;exact⟨rfl,rfl⟩
 ·have a:decide (lo≤n∧n≤hi)=false:=by simp;omega
  have d:decide (lo≤n)=false:=by simp;omega
  rw[a];clear a b;go_enter Tryz.func66,Tryz.ntmps66;go_wp2;go_ret;exact⟨rfl,rfl⟩
end acc
namespace tar
open Go.RowKit
def KtCheck:Prop:=∀(W:World)(a:Option Addr)(len cap:Nat)(ls:List Du),Came W a len cap ls→zC 101 #[.slice a len cap] W λe w'=>ErrPost W (FaultIs ls) e w'
theorem pwithin(lo hi n:Int)(w:World):Calls Tryz.prog 102 #[zI lo,zI hi,zI n] w λe w'=>e=.returned (.bool (decide (lo≤n∧n≤hi)))∧w'=w:=by
 by_cases b:lo≤n
 ·by_cases c:n≤hi
  ·have a:decide (lo≤n∧n≤hi)=true:=by simp;omega
   rw[a];clear a;go_enter Tryz.func102,Tryz.ntmps102;go_wp2;go_ret;exact⟨rfl,rfl⟩
  ·have a:decide (lo≤n∧n≤hi)=false:=by simp;omega
   have d:decide (n≤hi)=false:=by simp;omega
   rw[a];clear a c;go_enter Tryz.func102,Tryz.ntmps102;go_wp2;go_ret;exact⟨rfl,rfl⟩
 ·have a:decide (lo≤n∧n≤hi)=false:=by simp;omega
  have d:decide (lo≤n)=false:=by simp;omega
  rw[a];clear a b;go_enter Tryz.func102,Tryz.ntmps102;go_wp2;go_ret;exact⟨rfl,rfl⟩
end tar
namespace words
open Go.RowKit
theorem downward_any(K:Nat)(caps:Array Value)(B:Nat)(v0 v1 v2 v3:Value)(x0 x1 x2 y0 y1 y2:Int)(w:World)(h:Acc w w B v0)(hK:∀args w,(callFunc K args).run Tryz.prog w=.ok (.enter K args) w)
  (s0:∀w',Acc w w' B v0→zC K (#[.int .u32 x2]++caps) w' λe w''=>e=.returned (.int .u32 y2)∧Acc w' w'' B v1)
  (s1:∀w',Acc w w' B v1→zC K (#[.int .u32 x1]++caps) w' λe w''=>e=.returned (.int .u32 y1)∧Acc w' w'' B v2)
  (s2:∀w',Acc w w' B v2→zC K (#[.int .u32 x0]++caps) w' λe w''=>e=.returned (.int .u32 y0)∧Acc w' w'' B v3):
  Calls Tryz.prog 168 #[.agg #[.int .u32 x0,.int .u32 x1,.int .u32 x2],.func (.func K) #[] caps] w λe w'=>e=.returned (.agg #[.int .u32 y0,.int .u32 y1,.int .u32 y2])∧Acc w w' B v3:=by
 have u:Hid (∀w',Acc w w' B v0→zC K (#[.int .u32 x2]++caps) w' λe w''=>e=.returned (.int .u32 y2)∧Acc w' w'' B v1):=s0;have x:Hid (∀w',Acc w w' B v1→zC K (#[.int .u32 x1]++caps) w' λe w''=>e=.returned (.int .u32 y1)∧Acc w' w'' B v2):=s1;have y:Hid (∀w',Acc w w' B v2→zC K (#[.int .u32 x0]++caps) w' λe w''=>e=.returned (.int .u32 y0)∧Acc w' w'' B v3):=s2;have q:Hid (Acc w w B v0):=h;clear s0 s1 s2 h;go_enter Tryz.func168,Tryz.ntmps168;go_wp2_with fail;refine wp_loop_rounds 4 ?_;rw[rounds_succ];go_wp2_with fail;refine(u.o _ ((q.o.alloc _).alloc _)).mono ?_;rintro e i ⟨rfl,m⟩;have X:=q.o.old;have j:Trio i w.heap.size (.int .u32 x0) (.int .u32 x1) (.int .u32 x2):=(trio_a _ _ _ _ _).acc m (by omega);have G:Trio i (w.heap.size+1) (.int .u32 0) (.int .u32 0) (.int .u32 0):=(trio_b _ _ _ _ _).acc m (by omega);have D:=((q.o.alloc _).alloc _).trans m;have c2:=j.c2;have P:=j.free 2;have c:=j.set2 (.int .u32 y2);have M:=c.c1;have z:Hid (Trio (i.setCell ⟨w.heap.size,2,none⟩ (.int .u32 y2)) w.heap.size (.int .u32 x0) (.int .u32 x1) (.int .u32 y2)):=c;have s:Hid (Trio (i.setCell ⟨w.heap.size,2,none⟩ (.int .u32 y2)) (w.heap.size+1) (.int .u32 0) (.int .u32 0) (.int .u32 0)):=G.other _ _ (by omega);have f:Hid (Acc w (i.setCell ⟨w.heap.size,2,none⟩ (.int .u32 y2)) B v1):=D.setNew _ _ _ zc;clear m j G D c;go_wp2_with fail;rw[rounds_succ];go_wp2_with fail;refine(x.o _ f.o).mono ?_;rintro e C ⟨rfl,n⟩;have k:=z.o.acc n (by omega);have H:=s.o.acc n (by omega);have E:=f.o.trans n;clear c2 P M n;have c1:=k.c1;have O:=k.free 1;have d:=k.set1 (.int .u32 y1);have N:=d.c0;have z:Hid (Trio (C.setCell ⟨w.heap.size,1,none⟩ (.int .u32 y1)) w.heap.size (.int .u32 x0) (.int .u32 y1) (.int .u32 y2)):=d;have s:Hid (Trio (C.setCell ⟨w.heap.size,1,none⟩ (.int .u32 y1)) (w.heap.size+1) (.int .u32 0) (.int .u32 0) (.int .u32 0)):=H.other _ _ (by omega)
 have g:Hid (Acc w (C.setCell ⟨w.heap.size,1,none⟩ (.int .u32 y1)) B v2):=E.setNew _ _ _ zc;clear k H E d;go_wp2_with fail;rw[rounds_succ];go_wp2_with fail;refine(y.o _ g.o).mono ?_;rintro e J ⟨rfl,p⟩;have l:=z.o.acc p (by omega);have I:=s.o.acc p (by omega);have F:=g.o.trans p;clear c1 O N p;have c0:=l.c0;have T:=l.free 0;have b:=l.set0 (.int .u32 y0);have a:=I.other (G':=w.heap.size) 0 (.int .u32 y0) (by omega);have Q:=b.c0;have R:=b.c1;have S:=b.c2;have Y:=a.c0;have Z:=a.c1;have r2:=a.c2;have U:=a.free 0;have V:=a.free 1;have W:=a.free 2;have t:Hid (Trio (J.setCell ⟨w.heap.size,0,none⟩ (.int .u32 y0)) (w.heap.size+1) (.int .u32 0) (.int .u32 0) (.int .u32 0)):=a;have r:Hid (Acc w (J.setCell ⟨w.heap.size,0,none⟩ (.int .u32 y0)) B v3):=F.setNew _ _ _ zc;clear l I F b a;go_wp2_with fail;rw[rounds_succ];go_wp2_with fail;have A:=((t.o.set0 (.int .u32 y0)).set1 (.int .u32 y1)).set2 (.int .u32 y2);have L:=((r.o.setNew (w.heap.size+1) 0 (.int .u32 y0) (by omega)).setNew (w.heap.size+1) 1 (.int .u32 y1) (by omega)).setNew (w.heap.size+1) 2 (.int .u32 y2) (by omega);refine bodyPost_ret (v:=.agg #[.int .u32 y0,.int .u32 y1,.int .u32 y2]) (by simp[results,Tryz.results168,A.c0,A.c1,A.c2,go_sem]) rfl ⟨rfl,L⟩
end words
end Go.Proofs.YtoepgdhiepedeaaGreatDoor
