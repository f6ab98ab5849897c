import Derived.Test.YtoepgdhiepedeaaGreatDoorVVSls6
import Derived.Test.YtoepgdhiepedeaaGreatDoorVVSls7
set_option linter.unusedVariables false
set_option linter.unusedSimpArgs false
set_option maxHeartbeats 4000000
set_option maxRecDepth 100000
namespace Go.Proofs.YtoepgdhiepedeaaGreatDoor
section
open Go.RowKit
variable{t:TypeId}{w:World}{G:Nat}
theorem shN{w w':World}{cs:Array Value}(h:Hid (Blk w G cs t))(hb:Below w.heap.size w w'):Hid (Blk w' G cs t):=h.o.next hb
theorem shK{w W:World}{g G:Nat}{cs cs':Array Value}{t t':TypeId}(hU:Upd w W g cs t)(h:Hid (Blk w G cs' t'))(hne:G≠g):Hid (Blk W G cs' t'):=hU.keep h.o hne
theorem shB{w0 w w':World}(h:Hid (Below w0.heap.size w0 w))(hb:Below w.heap.size w w'):Hid (Below w0.heap.size w0 w'):=bel_step h.o hb
theorem shV{w W:World}{g:Nat}{cs:Array Value}{B:Nat}{w0:World}(hU:Upd w W g cs t)(h:Hid (Below B w0 w))(hB:B≤g):Hid (Below B w0 W):=hU.bel B w0 hB h.o
theorem sh1(w:World)(c0:Array Value)(t0:TypeId):∃W,Hid ((w.alloc (.cells c0 t0))=W)∧Hid (Blk W (w.heap.size) c0 t0)∧Hid (Below w.heap.size w W)∧w.heap.size<W.heap.size:=by
 refine⟨_,rfl,?_,?_,?_⟩
 ·have h:=Blk.new w c0 t0
  exact h
 ·exact(Below.refl w.heap.size w).alloc (by simp) _
 ·simp
theorem sh2(w:World)(c0:Array Value)(t0:TypeId)(c1:Array Value)(t1:TypeId):∃W,Hid (((w.alloc (.cells c0 t0)).alloc (.cells c1 t1))=W)∧Hid (Blk W (w.heap.size) c0 t0)∧Hid (Blk W (w.heap.size+1) c1 t1)∧Hid (Below w.heap.size w W)∧w.heap.size+1<W.heap.size:=by
 refine⟨_,rfl,?_,?_,?_,?_⟩
 ·have h:=Blk.new w c0 t0
  exact(h.alloc _)
 ·have h:=Blk.new (w.alloc (.cells c0 t0)) c1 t1
  rw[show (w.alloc (.cells c0 t0)).heap.size=w.heap.size+1 by simp] at h
  exact h
 ·exact((Below.refl w.heap.size w).alloc (by simp) _).alloc (by simp) _
 ·simp
theorem sh3(w:World)(c0:Array Value)(t0:TypeId)(c1:Array Value)(t1:TypeId)(c2:Array Value)(t2:TypeId):∃W,Hid ((((w.alloc (.cells c0 t0)).alloc (.cells c1 t1)).alloc (.cells c2 t2))=W)∧Hid (Blk W (w.heap.size) c0 t0)∧Hid (Blk W (w.heap.size+1) c1 t1)∧Hid (Blk W (w.heap.size+1+1) c2 t2)∧Hid (Below w.heap.size w W)∧w.heap.size+1+1<W.heap.size:=by
 refine⟨_,rfl,?_,?_,?_,?_,?_⟩
 ·have h:=Blk.new w c0 t0
  exact((h.alloc _).alloc _)
 ·have h:=Blk.new (w.alloc (.cells c0 t0)) c1 t1
  rw[show (w.alloc (.cells c0 t0)).heap.size=w.heap.size+1 by simp] at h
  exact(h.alloc _)
 ·have h:=Blk.new ((w.alloc (.cells c0 t0)).alloc (.cells c1 t1)) c2 t2
  rw[show ((w.alloc (.cells c0 t0)).alloc (.cells c1 t1)).heap.size=w.heap.size+1+1 by simp] at h
  exact h
 ·exact(((Below.refl w.heap.size w).alloc (by simp) _).alloc (by simp) _).alloc (by simp;omega) _
 ·simp
theorem sh4(w:World)(c0:Array Value)(t0:TypeId)(c1:Array Value)(t1:TypeId)(c2:Array Value)(t2:TypeId)(c3:Array Value)(t3:TypeId):∃W,Hid (((((w.alloc (.cells c0 t0)).alloc (.cells c1 t1)).alloc (.cells c2 t2)).alloc (.cells c3 t3))=W)∧Hid (Blk W (w.heap.size) c0 t0)∧Hid (Blk W (w.heap.size+1) c1 t1)∧Hid (Blk W (w.heap.size+1+1) c2 t2)∧Hid (Blk W (w.heap.size+1+1+1) c3 t3)∧Hid (Below w.heap.size w W)∧w.heap.size+1+1+1<W.heap.size:=by
 refine⟨_,rfl,?_,?_,?_,?_,?_,?_⟩
 ·have h:=Blk.new w c0 t0
  exact(((h.alloc _).alloc _).alloc _)
 ·have h:=Blk.new (w.alloc (.cells c0 t0)) c1 t1
  rw[show (w.alloc (.cells c0 t0)).heap.size=w.heap.size+1 by simp] at h
  exact((h.alloc _).alloc _)
 ·have h:=Blk.new ((w.alloc (.cells c0 t0)).alloc (.cells c1 t1)) c2 t2
  rw[show ((w.alloc (.cells c0 t0)).alloc (.cells c1 t1)).heap.size=w.heap.size+1+1 by simp] at h
  exact(h.alloc _)
 ·have h:=Blk.new (((w.alloc (.cells c0 t0)).alloc (.cells c1 t1)).alloc (.cells c2 t2)) c3 t3
  rw[show (((w.alloc (.cells c0 t0)).alloc (.cells c1 t1)).alloc (.cells c2 t2)).heap.size=w.heap.size+1+1+1 by simp] at h
  exact h
 ·exact((((Below.refl w.heap.size w).alloc (by simp) _).alloc (by simp) _).alloc (by simp;omega) _).alloc (by simp;omega) _
 ·simp
theorem sh5(w:World)(c0:Array Value)(t0:TypeId)(c1:Array Value)(t1:TypeId)(c2:Array Value)(t2:TypeId)(c3:Array Value)(t3:TypeId)(c4:Array Value)(t4:TypeId):∃W,Hid ((((((w.alloc (.cells c0 t0)).alloc (.cells c1 t1)).alloc (.cells c2 t2)).alloc (.cells c3 t3)).alloc (.cells c4 t4))=W)∧Hid (Blk W (w.heap.size) c0 t0)∧Hid (Blk W (w.heap.size+1) c1 t1)∧Hid (Blk W (w.heap.size+1+1) c2 t2)∧Hid (Blk W (w.heap.size+1+1+1) c3 t3)∧Hid (Blk W (w.heap.size+1+1+1+1) c4 t4)∧Hid (Below w.heap.size w W)∧w.heap.size+1+1+1+1<W.heap.size:=by
 refine⟨_,rfl,?_,?_,?_,?_,?_,?_,?_⟩
 ·have h:=Blk.new w c0 t0
  exact((((h.alloc _).alloc _).alloc _).alloc _)
 ·have h:=Blk.new (w.alloc (.cells c0 t0)) c1 t1
  rw[show (w.alloc (.cells c0 t0)).heap.size=w.heap.size+1 by simp] at h
  exact(((h.alloc _).alloc _).alloc _)
 ·have h:=Blk.new ((w.alloc (.cells c0 t0)).alloc (.cells c1 t1)) c2 t2
  rw[show ((w.alloc (.cells c0 t0)).alloc (.cells c1 t1)).heap.size=w.heap.size+1+1 by simp] at h
  exact((h.alloc _).alloc _)
 ·have h:=Blk.new (((w.alloc (.cells c0 t0)).alloc (.cells c1 t1)).alloc (.cells c2 t2)) c3 t3
  rw[show (((w.alloc (.cells c0 t0)).alloc (.cells c1 t1)).alloc (.cells c2 t2)).heap.size=w.heap.size+1+1+1 by simp] at h
  exact(h.alloc _)
 ·have h:=Blk.new ((((w.alloc (.cells c0 t0)).alloc (.cells c1 t1)).alloc (.cells c2 t2)).alloc (.cells c3 t3)) c4 t4
  rw[show ((((w.alloc (.cells c0 t0)).alloc (.cells c1 t1)).alloc (.cells c2 t2)).alloc (.cells c3 t3)).heap.size=w.heap.size+1+1+1+1 by simp] at h
  exact h
 ·exact(((((Below.refl w.heap.size w).alloc (by simp) _).alloc (by simp) _).alloc (by simp;omega) _).alloc (by simp;omega) _).alloc (by simp;omega) _
 ·simp
theorem scl3{a0 a1 a2:Value}(h:Hid (Blk w G #[a0,a1,a2] t)):w.cell? ⟨G,0,none⟩=some a0∧w.cell? ⟨G,1,none⟩=some a1∧w.cell? ⟨G,2,none⟩=some a2:=⟨h.o.cell 0,h.o.cell 1,h.o.cell 2⟩
theorem shc3{a0 a1 a2:Value}(h:Hid (Blk w G #[a0,a1,a2] t)):Hid (w.cell? ⟨G,0,none⟩=some a0)∧Hid (w.cell? ⟨G,1,none⟩=some a1)∧Hid (w.cell? ⟨G,2,none⟩=some a2):=⟨h.o.cell 0,h.o.cell 1,h.o.cell 2⟩
theorem scl4{a0 a1 a2 a3:Value}(h:Hid (Blk w G #[a0,a1,a2,a3] t)):w.cell? ⟨G,0,none⟩=some a0∧w.cell? ⟨G,1,none⟩=some a1∧w.cell? ⟨G,2,none⟩=some a2∧w.cell? ⟨G,3,none⟩=some a3:=⟨h.o.cell 0,h.o.cell 1,h.o.cell 2,h.o.cell 3⟩
theorem shc4{a0 a1 a2 a3:Value}(h:Hid (Blk w G #[a0,a1,a2,a3] t)):Hid (w.cell? ⟨G,0,none⟩=some a0)∧Hid (w.cell? ⟨G,1,none⟩=some a1)∧Hid (w.cell? ⟨G,2,none⟩=some a2)∧Hid (w.cell? ⟨G,3,none⟩=some a3):=⟨h.o.cell 0,h.o.cell 1,h.o.cell 2,h.o.cell 3⟩
theorem scl5{a0 a1 a2 a3 a4:Value}(h:Hid (Blk w G #[a0,a1,a2,a3,a4] t)):w.cell? ⟨G,0,none⟩=some a0∧w.cell? ⟨G,1,none⟩=some a1∧w.cell? ⟨G,2,none⟩=some a2∧w.cell? ⟨G,3,none⟩=some a3∧w.cell? ⟨G,4,none⟩=some a4:=⟨h.o.cell 0,h.o.cell 1,h.o.cell 2,h.o.cell 3,h.o.cell 4⟩
theorem shc5{a0 a1 a2 a3 a4:Value}(h:Hid (Blk w G #[a0,a1,a2,a3,a4] t)):Hid (w.cell? ⟨G,0,none⟩=some a0)∧Hid (w.cell? ⟨G,1,none⟩=some a1)∧Hid (w.cell? ⟨G,2,none⟩=some a2)∧Hid (w.cell? ⟨G,3,none⟩=some a3)∧Hid (w.cell? ⟨G,4,none⟩=some a4):=⟨h.o.cell 0,h.o.cell 1,h.o.cell 2,h.o.cell 3,h.o.cell 4⟩
theorem scl7{a0 a1 a2 a3 a4 a5 a6:Value}(h:Hid (Blk w G #[a0,a1,a2,a3,a4,a5,a6] t)):w.cell? ⟨G,0,none⟩=some a0∧w.cell? ⟨G,1,none⟩=some a1∧w.cell? ⟨G,2,none⟩=some a2∧w.cell? ⟨G,3,none⟩=some a3∧w.cell? ⟨G,4,none⟩=some a4∧w.cell? ⟨G,5,none⟩=some a5∧w.cell? ⟨G,6,none⟩=some a6:=⟨h.o.cell 0,h.o.cell 1,h.o.cell 2,h.o.cell 3,h.o.cell 4,h.o.cell 5,h.o.cell 6⟩
theorem shc7{a0 a1 a2 a3 a4 a5 a6:Value}(h:Hid (Blk w G #[a0,a1,a2,a3,a4,a5,a6] t)):Hid (w.cell? ⟨G,0,none⟩=some a0)∧Hid (w.cell? ⟨G,1,none⟩=some a1)∧Hid (w.cell? ⟨G,2,none⟩=some a2)∧Hid (w.cell? ⟨G,3,none⟩=some a3)∧Hid (w.cell? ⟨G,4,none⟩=some a4)∧Hid (w.cell? ⟨G,5,none⟩=some a5)∧Hid (w.cell? ⟨G,6,none⟩=some a6):=⟨h.o.cell 0,h.o.cell 1,h.o.cell 2,h.o.cell 3,h.o.cell 4,h.o.cell 5,h.o.cell 6⟩
theorem scl8{a0 a1 a2 a3 a4 a5 a6 a7:Value}(h:Hid (Blk w G #[a0,a1,a2,a3,a4,a5,a6,a7] t)):w.cell? ⟨G,0,none⟩=some a0∧w.cell? ⟨G,1,none⟩=some a1∧w.cell? ⟨G,2,none⟩=some a2∧w.cell? ⟨G,3,none⟩=some a3∧w.cell? ⟨G,4,none⟩=some a4∧w.cell? ⟨G,5,none⟩=some a5∧w.cell? ⟨G,6,none⟩=some a6∧w.cell? ⟨G,7,none⟩=some a7:=⟨h.o.cell 0,h.o.cell 1,h.o.cell 2,h.o.cell 3,h.o.cell 4,h.o.cell 5,h.o.cell 6,h.o.cell 7⟩
theorem shc8{a0 a1 a2 a3 a4 a5 a6 a7:Value}(h:Hid (Blk w G #[a0,a1,a2,a3,a4,a5,a6,a7] t)):Hid (w.cell? ⟨G,0,none⟩=some a0)∧Hid (w.cell? ⟨G,1,none⟩=some a1)∧Hid (w.cell? ⟨G,2,none⟩=some a2)∧Hid (w.cell? ⟨G,3,none⟩=some a3)∧Hid (w.cell? ⟨G,4,none⟩=some a4)∧Hid (w.cell? ⟨G,5,none⟩=some a5)∧Hid (w.cell? ⟨G,6,none⟩=some a6)∧Hid (w.cell? ⟨G,7,none⟩=some a7):=⟨h.o.cell 0,h.o.cell 1,h.o.cell 2,h.o.cell 3,h.o.cell 4,h.o.cell 5,h.o.cell 6,h.o.cell 7⟩
theorem scl9{a0 a1 a2 a3 a4 a5 a6 a7 a8:Value}(h:Hid (Blk w G #[a0,a1,a2,a3,a4,a5,a6,a7,a8] t)):w.cell? ⟨G,0,none⟩=some a0∧w.cell? ⟨G,1,none⟩=some a1∧w.cell? ⟨G,2,none⟩=some a2∧w.cell? ⟨G,3,none⟩=some a3∧w.cell? ⟨G,4,none⟩=some a4∧w.cell? ⟨G,5,none⟩=some a5∧w.cell? ⟨G,6,none⟩=some a6∧w.cell? ⟨G,7,none⟩=some a7∧w.cell? ⟨G,8,none⟩=some a8:=⟨h.o.cell 0,h.o.cell 1,h.o.cell 2,h.o.cell 3,h.o.cell 4,h.o.cell 5,h.o.cell 6,h.o.cell 7,h.o.cell 8⟩
theorem shc9{a0 a1 a2 a3 a4 a5 a6 a7 a8:Value}(h:Hid (Blk w G #[a0,a1,a2,a3,a4,a5,a6,a7,a8] t)):Hid (w.cell? ⟨G,0,none⟩=some a0)∧Hid (w.cell? ⟨G,1,none⟩=some a1)∧Hid (w.cell? ⟨G,2,none⟩=some a2)∧Hid (w.cell? ⟨G,3,none⟩=some a3)∧Hid (w.cell? ⟨G,4,none⟩=some a4)∧Hid (w.cell? ⟨G,5,none⟩=some a5)∧Hid (w.cell? ⟨G,6,none⟩=some a6)∧Hid (w.cell? ⟨G,7,none⟩=some a7)∧Hid (w.cell? ⟨G,8,none⟩=some a8):=⟨h.o.cell 0,h.o.cell 1,h.o.cell 2,h.o.cell 3,h.o.cell 4,h.o.cell 5,h.o.cell 6,h.o.cell 7,h.o.cell 8⟩
theorem scl13{a0 a1 a2 a3 a4 a5 a6 a7 a8 a9 a10 a11 a12:Value}(h:Hid (Blk w G #[a0,a1,a2,a3,a4,a5,a6,a7,a8,a9,a10,a11,a12] t)):w.cell? ⟨G,0,none⟩=some a0∧w.cell? ⟨G,1,none⟩=some a1∧w.cell? ⟨G,2,none⟩=some a2∧w.cell? ⟨G,3,none⟩=some a3∧w.cell? ⟨G,4,none⟩=some a4∧w.cell? ⟨G,5,none⟩=some a5∧w.cell? ⟨G,6,none⟩=some a6∧w.cell? ⟨G,7,none⟩=some a7∧w.cell? ⟨G,8,none⟩=some a8∧w.cell? ⟨G,9,none⟩=some a9∧w.cell? ⟨G,10,none⟩=some a10∧w.cell? ⟨G,11,none⟩=some a11∧w.cell? ⟨G,12,none⟩=some a12:=⟨h.o.cell 0,h.o.cell 1,h.o.cell 2,h.o.cell 3,h.o.cell 4,h.o.cell 5,h.o.cell 6,h.o.cell 7,h.o.cell 8,h.o.cell 9,h.o.cell 10,h.o.cell 11,h.o.cell 12⟩
theorem shc13{a0 a1 a2 a3 a4 a5 a6 a7 a8 a9 a10 a11 a12:Value}(h:Hid (Blk w G #[a0,a1,a2,a3,a4,a5,a6,a7,a8,a9,a10,a11,a12] t)):Hid (w.cell? ⟨G,0,none⟩=some a0)∧Hid (w.cell? ⟨G,1,none⟩=some a1)∧Hid (w.cell? ⟨G,2,none⟩=some a2)∧Hid (w.cell? ⟨G,3,none⟩=some a3)∧Hid (w.cell? ⟨G,4,none⟩=some a4)∧Hid (w.cell? ⟨G,5,none⟩=some a5)∧Hid (w.cell? ⟨G,6,none⟩=some a6)∧Hid (w.cell? ⟨G,7,none⟩=some a7)∧Hid (w.cell? ⟨G,8,none⟩=some a8)∧Hid (w.cell? ⟨G,9,none⟩=some a9)∧Hid (w.cell? ⟨G,10,none⟩=some a10)∧Hid (w.cell? ⟨G,11,none⟩=some a11)∧Hid (w.cell? ⟨G,12,none⟩=some a12):=⟨h.o.cell 0,h.o.cell 1,h.o.cell 2,h.o.cell 3,h.o.cell 4,h.o.cell 5,h.o.cell 6,h.o.cell 7,h.o.cell 8,h.o.cell 9,h.o.cell 10,h.o.cell 11,h.o.cell 12⟩
end
section
open Go.RowKit
variable {w w':World}{g0 g1 g2 g3 g4 g5:Nat}{c0 c1 c2 c3 c4 c5:Array Value}{t0 t1 t2 t3 t4 t5:TypeId}
theorem zn2 (b:Below w.heap.size w w')(a1:Hid (Blk w g1 c1 t1))(a2:Hid (Blk w g2 c2 t2)):Hid (Blk w' g1 c1 t1)∧Hid (Blk w' g2 c2 t2):=⟨shN a1 b,shN a2 b⟩
theorem zn3 (b:Below w.heap.size w w')(a1:Hid (Blk w g1 c1 t1))(a2:Hid (Blk w g2 c2 t2))(a3:Hid (Blk w g3 c3 t3)):Hid (Blk w' g1 c1 t1)∧Hid (Blk w' g2 c2 t2)∧Hid (Blk w' g3 c3 t3):=⟨shN a1 b,shN a2 b,shN a3 b⟩
theorem zn4 (b:Below w.heap.size w w')(a1:Hid (Blk w g1 c1 t1))(a2:Hid (Blk w g2 c2 t2))(a3:Hid (Blk w g3 c3 t3))(a4:Hid (Blk w g4 c4 t4)):Hid (Blk w' g1 c1 t1)∧Hid (Blk w' g2 c2 t2)∧Hid (Blk w' g3 c3 t3)∧Hid (Blk w' g4 c4 t4):=⟨shN a1 b,shN a2 b,shN a3 b,shN a4 b⟩
theorem zn5 (b:Below w.heap.size w w')(a1:Hid (Blk w g1 c1 t1))(a2:Hid (Blk w g2 c2 t2))(a3:Hid (Blk w g3 c3 t3))(a4:Hid (Blk w g4 c4 t4))(a5:Hid (Blk w g5 c5 t5)):Hid (Blk w' g1 c1 t1)∧Hid (Blk w' g2 c2 t2)∧Hid (Blk w' g3 c3 t3)∧Hid (Blk w' g4 c4 t4)∧Hid (Blk w' g5 c5 t5):=⟨shN a1 b,shN a2 b,shN a3 b,shN a4 b,shN a5 b⟩
theorem zk1 (b:Upd w w' g0 c0 t0)(a1:Hid (Blk w g1 c1 t1))(h1:g1≠g0:=by omega):Hid (Blk w' g1 c1 t1):=shK b a1 h1
theorem zk2 (b:Upd w w' g0 c0 t0)(a1:Hid (Blk w g1 c1 t1))(a2:Hid (Blk w g2 c2 t2))(h1:g1≠g0:=by omega)(h2:g2≠g0:=by omega):Hid (Blk w' g1 c1 t1)∧Hid (Blk w' g2 c2 t2):=⟨shK b a1 h1,shK b a2 h2⟩
theorem zk3 (b:Upd w w' g0 c0 t0)(a1:Hid (Blk w g1 c1 t1))(a2:Hid (Blk w g2 c2 t2))(a3:Hid (Blk w g3 c3 t3))(h1:g1≠g0:=by omega)(h2:g2≠g0:=by omega)(h3:g3≠g0:=by omega):Hid (Blk w' g1 c1 t1)∧Hid (Blk w' g2 c2 t2)∧Hid (Blk w' g3 c3 t3):=⟨shK b a1 h1,shK b a2 h2,shK b a3 h3⟩
theorem zk4 (b:Upd w w' g0 c0 t0)(a1:Hid (Blk w g1 c1 t1))(a2:Hid (Blk w g2 c2 t2))(a3:Hid (Blk w g3 c3 t3))(a4:Hid (Blk w g4 c4 t4))(h1:g1≠g0:=by omega)(h2:g2≠g0:=by omega)(h3:g3≠g0:=by omega)(h4:g4≠g0:=by omega):Hid (Blk w' g1 c1 t1)∧Hid (Blk w' g2 c2 t2)∧Hid (Blk w' g3 c3 t3)∧Hid (Blk w' g4 c4 t4):=⟨shK b a1 h1,shK b a2 h2,shK b a3 h3,shK b a4 h4⟩
theorem zk5 (b:Upd w w' g0 c0 t0)(a1:Hid (Blk w g1 c1 t1))(a2:Hid (Blk w g2 c2 t2))(a3:Hid (Blk w g3 c3 t3))(a4:Hid (Blk w g4 c4 t4))(a5:Hid (Blk w g5 c5 t5))(h1:g1≠g0:=by omega)(h2:g2≠g0:=by omega)(h3:g3≠g0:=by omega)(h4:g4≠g0:=by omega)(h5:g5≠g0:=by omega):Hid (Blk w' g1 c1 t1)∧Hid (Blk w' g2 c2 t2)∧Hid (Blk w' g3 c3 t3)∧Hid (Blk w' g4 c4 t4)∧Hid (Blk w' g5 c5 t5):=⟨shK b a1 h1,shK b a2 h2,shK b a3 h3,shK b a4 h4,shK b a5 h5⟩
theorem zk {B:Nat}{v:World}(b:Upd w w' g0 c0 t0)(h:Hid (Below B v w))(k:B≤g0:=by omega):Hid (Below B v w'):=shV b h k
end
namespace book
open Go.RowKit
theorem rfound(p:Option Addr)(n cap:Nat)(l:List Cu)(me:Int)(w:World)(h:RowC w p n l)(hn:n≤9223372036854775807):Calls Tryz.prog 21 #[.agg #[.slice p n cap],zI me] w λe w'=>∃x,e=.returned (zI x)∧FoundIs l me x∧zB w w':=by
 obtain⟨W,r,C,f,-⟩:=sh1 w #[.slice p n cap] 65;have B:Hid (RowC W p n l):=h.below f.o;have A:Hid (l.length=n):=h.1;clear h;go_enter Tryz.func21,Tryz.ntmps21;go_upto_region 1 with fail
 rw[r.o];have G:W.cell? ⟨w.heap.size,0,none⟩=some (.slice p n cap):=C.o.cell 0;go_wp2_with fail;go_loopw [5] (λi wr=>∃k:Nat,k≤n∧i=zI (k:Int)∧(∀j,j<k→(l.getD j cu0).me≠me)∧wr=W) (λi _=>n-(intOf i).toNat)
 case atStart=>exact⟨0,Nat.zero_le _,rfl,λj c=>absurd c (Nat.not_lt_zero _),rfl⟩
 case round=>
  obtain⟨k,F,rfl,hf,u⟩:=hrel;subst u;have g:Hid (∀j,j<k→(l.getD j cu0).me≠me):=hf;clear hf;by_cases d:k<n
  ·obtain⟨b,y,rfl,H,s⟩:=B.o.2.resolve_left (by omega);have c0:wr.cell? ⟨b,y+k*8,none⟩=some (zI (l.getD k cu0).me):=s k 0 d (by decide);have E:Hid ((l.getD k cu0).me=(l.getD k cu0).me):=rfl;have t:decide ((k:Int)<(n:Int))=true:=by simp;omega
   by_cases a:(l.getD k cu0).me=me
   ·have D:((l.getD k cu0).me==me)=true:=by simpa using a
    have q:Hid (FoundIs l me (k:Int)):=.inl ⟨k,by rw[A.o];exact d,a,g.o,rfl⟩;clear s a;generalize (l.getD k cu0).me=z at *;go_wp2_with fail;go_ret;exact⟨_,rfl,q.o,f.o⟩
   ·have D:((l.getD k cu0).me==me)=false:=by simpa using a
    have m:Hid (∀j,j<k+1→(l.getD j cu0).me≠me):=λj c=>by
     by_cases e:j=k
     ·subst e;exact a
     ·exact g.o j (by omega)
    clear s a;generalize (l.getD k cu0).me=z at *;go_wp2_with fail;go_roundw
    case rel=>exact⟨k+1,by omega,by go_num,m.o,by first|rfl|trivial⟩
    case measure=>simp[intOf];omega
  ·obtain rfl:k=n:=by omega
   have t:decide ((k:Int)<(k:Int))=false:=by simp
   have q:Hid (FoundIs l me (-1)):=.inr ⟨λj c=>g.o j (by rw[A.o] at c;exact c),rfl⟩;go_wp2_with fail;go_ret;exact⟨_,rfl,q.o,f.o⟩
end book
namespace deb
open tar (Du du0 Came RowD Ld ErrPost TwoPost PairT GaveD)
open Go.RowKit
theorem rfault(a:Option Addr)(n cap:Nat)(ls:List Du)(w:World)(hr:RowD w a n ls)(hn:n≤maxLen):Calls Tryz.prog 86 #[.slice a n cap] w λe w'=>∃f,e=.returned (zI f)∧FaultIs ls f∧w'=w:=by
 have d:=hr.1;have E:Hid (∀x W,zC 47 #[zI x,zI 0,zI 1000000000] W λe w'=>e=.returned (.bool (decide (0≤x∧x≤1000000000)))∧w'=W):=λx W=>cal.cin x 0 1000000000 W;have D:Hid (∀x W,zC 47 #[zI x,zI 0,zI 10000] W λe w'=>e=.returned (.bool (decide (0≤x∧x≤10000)))∧w'=W):=λx W=>cal.cin x 0 10000 W;have M:n≤9223372036854775807:=by unfold maxLen at hn;omega
 by_cases J:n≤8
 ·have s:Hid (ls.length≤8):=by show _≤_;rw[d];exact J
  have H:decide (8<(n:Int))=false:=decide_eq_false (by omega);have r:Hid (RowD w a n ls):=hr;have g:Hid (ls.length=n):=d;clear hr hn d;go_enter Tryz.func86,Tryz.ntmps86;go_wp2_with fail;go_loopw [3] (λx wr=>∃k:Nat,k≤n∧x=zI (k:Int)∧(∀i,i<k→Ok1 (ls.getD i du0))∧wr=w) (λx _=>n-(intOf x).toNat)
  case atStart=>exact⟨0,Nat.zero_le _,rfl,λi t=>absurd t (Nat.not_lt_zero _),rfl⟩
  case round=>
   obtain⟨k,P,rfl,hf,N⟩:=hrel;have K:Hid (∀i,i<k→Ok1 (ls.getD i du0)):=hf;subst wr;clear hf;by_cases l:k<n
   ·have I:decide ((k:Int)<(n:Int))=true:=by simp;omega
    obtain⟨b,O,rfl,L,G⟩:=r.o.at (by omega);have c0:=(G k l).1;have c1:=(G k l).2;have z:=E.o (ls.getD k du0).a;have u:=D.o (ls.getD k du0).b;clear G;by_cases p:0≤(ls.getD k du0).a∧(ls.getD k du0).a≤1000000000
    ·rw[decide_eq_true p] at z;have j:Hid (∀W,zC 47 #[zI (ls.getD k du0).a,zI 0,zI 1000000000] W λe w'=>e=.returned (.bool true)∧w'=W):=z;by_cases q:0≤(ls.getD k du0).b∧(ls.getD k du0).b≤10000
     ·rw[decide_eq_true q] at u
      have B:Hid (∀i,i<k+1→Ok1 (ls.getD i du0)):=λi t=>by
       by_cases e:i=k
       ·subst e;exact⟨p,q⟩
       ·exact K.o i (by omega)
      have m:Hid (∀W,zC 47 #[zI (ls.getD k du0).b,zI 0,zI 10000] W λe w'=>e=.returned (.bool true)∧w'=W):=u;clear p q;generalize (ls.getD k du0).a=x at *;generalize (ls.getD k du0).b=y at *;go_wp2_with fail;refine(j.o _).mono ?_;rintro e A ⟨rfl,c⟩;subst c;go_wp2_with fail;refine(m.o _).mono ?_;rintro e A ⟨rfl,c⟩;subst c;go_wp2_with fail;go_roundw
      case rel=>exact⟨k+1,by omega,by go_num,B.o,by first|rfl|trivial⟩
      case measure=>simp[intOf];omega
     ·rw[decide_eq_false q] at u;have F:Hid (¬ DFits ls):=λh=>q (h k (by rw[g.o];exact l)).2;have m:Hid (∀W,zC 47 #[zI (ls.getD k du0).b,zI 0,zI 10000] W λe w'=>e=.returned (.bool false)∧w'=W):=u;clear p q;generalize (ls.getD k du0).a=x at *;generalize (ls.getD k du0).b=y at *;go_wp2_with fail;refine(j.o _).mono ?_;rintro e A ⟨rfl,c⟩;subst c;go_wp2_with fail;refine(m.o _).mono ?_;rintro e A ⟨rfl,c⟩;subst c;go_wp2_with fail;go_ret;exact⟨_,rfl,.inr (.inl ⟨s.o,F.o,rfl⟩),rfl⟩
    ·rw[decide_eq_false p] at z;have F:Hid (¬ DFits ls):=λh=>p (h k (by rw[g.o];exact l)).1;have j:Hid (∀W,zC 47 #[zI (ls.getD k du0).a,zI 0,zI 1000000000] W λe w'=>e=.returned (.bool false)∧w'=W):=z;clear p;generalize (ls.getD k du0).a=x at *;generalize (ls.getD k du0).b=y at *;go_wp2_with fail;refine(j.o _).mono ?_;rintro e A ⟨rfl,c⟩;subst c;go_wp2_with fail;go_ret;exact⟨_,rfl,.inr (.inl ⟨s.o,F.o,rfl⟩),rfl⟩
   ·obtain rfl:k=n:=by omega
    have I:decide ((k:Int)<(k:Int))=false:=by simp
    have C:Hid (DFits ls):=λi t=>K.o i (by rw[g.o] at t;exact t);go_wp2_with fail;go_ret;exact⟨_,rfl,.inr (.inr ⟨⟨s.o,C.o⟩,rfl⟩),rfl⟩
 ·have s:Hid (¬ ls.length≤8):=by show ¬ _≤_;rw[d];exact J
  have H:decide (8<(n:Int))=true:=decide_eq_true (by omega);clear J hr d hn;go_enter Tryz.func86,Tryz.ntmps86;go_wp2_with fail;go_ret;exact⟨_,rfl,.inl ⟨s.o,rfl⟩,rfl⟩
end deb
namespace tar
open Go.RowKit
theorem rfault(a:Option Addr)(n cap:Nat)(ls:List Du)(w:World)(hr:RowD w a n ls)(hn:n≤maxLen):Calls Tryz.prog 87 #[.slice a n cap] w λe w'=>ErrPost w (FaultIs ls) e w':=by
 have g:=hr.1;have l:Hid (∀W,zC 47 #[zI (n:Int),zI 1,zI 8] W λe w'=>e=.returned (.bool (decide (1≤(n:Int)∧(n:Int)≤8)))∧w'=W):=λW=>cal.cin n 1 8 W;have P:Hid (∀x W,zC 47 #[zI x,zI 1,zI 10000000] W λe w'=>e=.returned (.bool (decide (1≤x∧x≤10000000)))∧w'=W):=λx W=>cal.cin x 1 10000000 W;have O:Hid (∀x W,zC 47 #[zI x,zI 1,zI 100000] W λe w'=>e=.returned (.bool (decide (1≤x∧x≤100000)))∧w'=W):=λx W=>cal.cin x 1 100000 W;by_cases X:1≤n∧n≤8
 ·have F:Hid (Sized ls):=by show 1≤ls.length∧ls.length≤8;rw[g];exact X
  rw[decide_eq_true (show 1≤(n:Int)∧(n:Int)≤8 by omega)] at l;obtain⟨T,a8⟩:=X;obtain⟨b,f,rfl,H,hc⟩:=hr.at T;have N:Hid (∀i,i<n→w.cell? ⟨b,f+i*2,none⟩=some (zI (ls.getD i du0).a)∧w.cell? ⟨b,f+i*2+1,none⟩=some (zI (ls.getD i du0).b)):=hc;have c:Hid (ls.length=n):=g;have a5:n≤9223372036854775807:=by omega
  clear hc hr hn g;go_enter Tryz.func87,Tryz.ntmps87;go_wp2_with fail;refine(l.o _).mono ?_;rintro e z ⟨rfl,J⟩;subst J;go_wp2_with fail;go_loopw [3] (λx wr=>∃k:Nat,k≤n∧x=zI (k:Int)∧(∀i,i<k→(1≤(ls.getD i du0).a∧(ls.getD i du0).a≤10000000)∧1≤(ls.getD i du0).b∧(ls.getD i du0).b≤100000)∧wr=z) (λx _=>n-(intOf x).toNat)
  case atStart=>exact⟨0,Nat.zero_le _,rfl,λi S=>absurd S (Nat.not_lt_zero _),rfl⟩
  case round=>
   obtain⟨k,hk,rfl,hf,a9⟩:=hrel;have r:Hid (∀i,i<k→(1≤(ls.getD i du0).a∧(ls.getD i du0).a≤10000000)∧1≤(ls.getD i du0).b∧(ls.getD i du0).b≤100000):=hf;subst wr;clear hf;by_cases s:k<n
   ·have a1:decide ((k:Int)<(n:Int))=true:=by simp;omega
    have c0:=(N.o k s).1;have c1:=(N.o k s).2;have t:=P.o (ls.getD k du0).a;have D:=O.o (ls.getD k du0).b;by_cases I:1≤(ls.getD k du0).a∧(ls.getD k du0).a≤10000000
    ·rw[decide_eq_true I] at t;by_cases L:1≤(ls.getD k du0).b∧(ls.getD k du0).b≤100000
     ·rw[decide_eq_true L] at D
      have A:Hid (∀i,i<k+1→(1≤(ls.getD i du0).a∧(ls.getD i du0).a≤10000000)∧1≤(ls.getD i du0).b∧(ls.getD i du0).b≤100000):=λi S=>by
       by_cases e:i=k
       ·subst e;exact⟨I,L⟩
       ·exact r.o i (by omega)
      have m:Hid (∀W,zC 47 #[zI (ls.getD k du0).a,zI 1,zI 10000000] W λe w'=>e=.returned (.bool true)∧w'=W):=t;have E:Hid (∀W,zC 47 #[zI (ls.getD k du0).b,zI 1,zI 100000] W λe w'=>e=.returned (.bool true)∧w'=W):=D;clear t D I L r;generalize (ls.getD k du0).a=x at *;generalize (ls.getD k du0).b=y at *;go_wp2_with fail;refine(m.o _).mono ?_;rintro e Y ⟨rfl,d⟩;subst d;go_wp2_with fail;refine(E.o _).mono ?_;rintro e Y ⟨rfl,d⟩;subst d;go_wp2_with fail;go_roundw
      case rel=>exact⟨k+1,by omega,by go_num,A.o,by first|rfl|trivial⟩
      case measure=>simp[intOf];omega
     ·rw[decide_eq_false L] at D;have C:Hid (¬ Fits ls):=λh=>L (h k (by rw[c.o];exact s)).2;have m:Hid (∀W,zC 47 #[zI (ls.getD k du0).a,zI 1,zI 10000000] W λe w'=>e=.returned (.bool true)∧w'=W):=t;have E:Hid (∀W,zC 47 #[zI (ls.getD k du0).b,zI 1,zI 100000] W λe w'=>e=.returned (.bool false)∧w'=W):=D;clear t D I L r;generalize (ls.getD k du0).a=x at *;generalize (ls.getD k du0).b=y at *;go_wp2_with fail;refine(m.o _).mono ?_;rintro e Y ⟨rfl,d⟩;subst d;go_wp2_with fail;refine(E.o _).mono ?_;rintro e Y ⟨rfl,d⟩;subst d;go_wp2_with fail;go_ret;exact⟨_,rfl,.inr (.inl ⟨F.o,C.o,rfl⟩),zb⟩
    ·rw[decide_eq_false I] at t;have C:Hid (¬ Fits ls):=λh=>I (h k (by rw[c.o];exact s)).1;have m:Hid (∀W,zC 47 #[zI (ls.getD k du0).a,zI 1,zI 10000000] W λe w'=>e=.returned (.bool false)∧w'=W):=t;clear t D I r;generalize (ls.getD k du0).a=x at *;generalize (ls.getD k du0).b=y at *;go_wp2_with fail;refine(m.o _).mono ?_;rintro e Y ⟨rfl,d⟩;subst d;go_wp2_with fail;go_ret;exact⟨_,rfl,.inr (.inl ⟨F.o,C.o,rfl⟩),zb⟩
   ·obtain rfl:k=n:=by omega
    have a1:decide ((k:Int)<(k:Int))=false:=by simp
    have B:Hid (Fits ls):=λi S=>r.o i (by rw[c.o] at S;exact S);clear r P O l;go_wp2_with fail;go_loopw [4] (λx a6=>∃j:Nat,1≤j∧j≤k∧x=zI (j:Int)∧(∀i,1≤i→i<j→(ls.getD (i-1) du0).a<(ls.getD i du0).a)∧zB z a6) (λx _=>k-(intOf x).toNat)
    case atStart=>exact⟨1,zc,T,rfl,λi V Q=>absurd Q (by omega),zb⟩
    case round=>
     obtain⟨j,a2,hj,rfl,hf,G⟩:=hrel;have r:Hid (∀i,1≤i→i<j→(ls.getD (i-1) du0).a<(ls.getD i du0).a):=hf;have HB:Hid (zB z wr):=G;by_cases u:j<k
     ·have R:decide ((j:Int)<(k:Int))=true:=by simp;omega
      have c0:wr.cell? ⟨b,f+j*2,none⟩=some (zI (ls.getD j du0).a):=(G.cell (p:=⟨b,f+j*2,none⟩) H).trans (N.o j u).1;have c1:wr.cell? ⟨b,f+(j-1)*2,none⟩=some (zI (ls.getD (j-1) du0).a):=(G.cell (p:=⟨b,f+(j-1)*2,none⟩) H).trans (N.o (j-1) (by omega)).1;have a7:wr.drew.cell? ⟨b,f+j*2,none⟩=some (zI (ls.getD j du0).a):=c0;have M:Hid (zB z wr.drew):=G.drew;have U:((j:Int)-1)=((j-1:Nat):Int):=by omega
      have a3:j-1<k:=by omega
      clear G hf;by_cases q:(ls.getD j du0).a≤(ls.getD (j-1) du0).a
      ·have a0:decide ((ls.getD j du0).a≤(ls.getD (j-1) du0).a)=true:=decide_eq_true q;have C:Hid (¬ (Rises ls∧Ends ls)):=rise_not a2 (by rw[c.o];exact u) q;clear q;generalize (ls.getD j du0).a=x at *;generalize (ls.getD (j-1) du0).a=y at *;generalize j-1=j1 at *;go_wp2_with fail;go_region
       all_goals go_wp2_with fail
       go_ret;exact⟨_,rfl,.inr (.inr (.inl ⟨F.o,B.o,C.o,rfl⟩)),M.o⟩
      ·have a0:decide ((ls.getD j du0).a≤(ls.getD (j-1) du0).a)=false:=decide_eq_false q
       have A:Hid (∀i,1≤i→i<j+1→(ls.getD (i-1) du0).a<(ls.getD i du0).a):=λi V Q=>by
        by_cases e:i=j
        ·subst e;omega
        ·exact r.o i V (by omega)
       clear q;generalize (ls.getD j du0).a=x at *;generalize (ls.getD (j-1) du0).a=y at *;generalize j-1=j1 at *;go_wp2_with fail;go_region
       all_goals go_wp2_with fail
       go_roundw
       case rel=>exact⟨j+1,by omega,by omega,by go_num,A.o,M.o⟩
       case measure=>simp[intOf];omega
     ·obtain rfl:j=k:=by omega
      have R:decide ((j:Int)<(j:Int))=false:=by simp
      have HR:Hid (Rises ls):=λi V Q=>r.o i V (by rw[c.o] at Q;exact Q);have c1:wr.cell? ⟨b,f+(j-1)*2,none⟩=some (zI (ls.getD (j-1) du0).a):=(G.cell (p:=⟨b,f+(j-1)*2,none⟩) H).trans (N.o (j-1) (by omega)).1;have U:((j:Int)-1)=((j-1:Nat):Int):=by omega
      have a3:j-1<j:=by omega
      have HE:Hid (Ends ls↔(ls.getD (j-1) du0).a=10000000):=by show Ends ls↔_;unfold Ends;rw[c.o]
      clear G hf;by_cases K:(ls.getD (j-1) du0).a=10000000
      ·have Z:Hid (Right ls):=⟨F.o,B.o,HR.o,HE.o.2 K⟩
       have a4:((ls.getD (j-1) du0).a != 10000000)=false:=by rw[K];rfl
       clear K;generalize (ls.getD (j-1) du0).a=y at *;generalize j-1=j1 at *;go_wp2_with fail;go_ret;exact⟨_,rfl,.inr (.inr (.inr ⟨Z.o,rfl⟩)),HB.o⟩
      ·have C:Hid (¬ (Rises ls∧Ends ls)):=λh=>K (HE.o.1 h.2);have a4:((ls.getD (j-1) du0).a != 10000000)=true:=by simpa using K
       clear K;generalize (ls.getD (j-1) du0).a=y at *;generalize j-1=j1 at *;go_wp2_with fail;go_ret;exact⟨_,rfl,.inr (.inr (.inl ⟨F.o,B.o,C.o,rfl⟩)),HB.o⟩
 ·have F:Hid (¬ Sized ls):=by show ¬ (1≤ls.length∧ls.length≤8);rw[g];exact X
  rw[decide_eq_false (show ¬ (1≤(n:Int)∧(n:Int)≤8) by omega)] at l;have a5:n≤9223372036854775807:=by unfold maxLen at hn;omega
  clear X hr g hn;go_enter Tryz.func87,Tryz.ntmps87;go_wp2_with fail;refine(l.o _).mono ?_;rintro e z ⟨rfl,J⟩;subst J;go_wp2_with fail;go_ret;exact⟨_,rfl,.inl ⟨F.o,rfl⟩,zb⟩
end tar
namespace words
theorem ofInt_nat(k a:Nat)(h:a<2^k):(BitVec.ofInt k (a:Int)).toNat=a:=by
 rw[BitVec.ofInt_natCast,BitVec.toNat_ofNat];exact Nat.mod_eq_of_lt h
theorem wrap_u32(n:Int):IntKind.u32.wrap n=n%4294967296:=by simp[IntKind.wrap,IntKind.bits,IntKind.signed]
theorem or64(a b:Nat)(ha:a<2^64)(hb:b<2^64):bits .or .u64 (a:Int) (b:Int)=((a ||| b:Nat):Int):=by
 have h:=Nat.or_lt_two_pow ha hb;show IntKind.u64.wrap ((BitVec.ofInt 64 (a:Int) ||| BitVec.ofInt 64 (b:Int)).toNat:Int)=_;rw[BitVec.toNat_or,ofInt_nat 64 a ha,ofInt_nat 64 b hb,IntKind.wrap_u64];omega
theorem and64(a b:Nat)(ha:a<2^64)(hb:b<2^64):bits .and .u64 (a:Int) (b:Int)=((a &&& b:Nat):Int):=by
 have h:a &&& b<2^64:=Nat.and_lt_two_pow a hb;show IntKind.u64.wrap ((BitVec.ofInt 64 (a:Int) &&& BitVec.ofInt 64 (b:Int)).toNat:Int)=_;rw[BitVec.toNat_and,ofInt_nat 64 a ha,ofInt_nat 64 b hb,IntKind.wrap_u64];omega
theorem or32(a b:Nat)(ha:a<2^32)(hb:b<2^32):bits .or .u32 (a:Int) (b:Int)=((a ||| b:Nat):Int):=by
 have h:=Nat.or_lt_two_pow ha hb;show IntKind.u32.wrap ((BitVec.ofInt 32 (a:Int) ||| BitVec.ofInt 32 (b:Int)).toNat:Int)=_;rw[BitVec.toNat_or,ofInt_nat 32 a ha,ofInt_nat 32 b hb,wrap_u32];omega
theorem andNot32(a b:Nat)(ha:a<2^32)(hb:b<2^32):bits .andNot .u32 (a:Int) (b:Int)=((a &&& (2^32-1-b):Nat):Int):=by
 have h:a &&& (2^32-1-b)<2^32:=Nat.and_lt_two_pow a (by omega);show IntKind.u32.wrap ((BitVec.ofInt 32 (a:Int) &&& ~~~ BitVec.ofInt 32 (b:Int)).toNat:Int)=_;rw[BitVec.toNat_and,BitVec.toNat_not,ofInt_nat 32 a ha,ofInt_nat 32 b hb,wrap_u32];omega
theorem or_words(n x:Int)(n0:0≤n)(n1:n<4294967296)(x0:0≤x)(x1:x<4294967296):bits .or .u64 (n*4294967296) x=n*4294967296+x:=by
 obtain⟨p,rfl⟩:=Int.eq_ofNat_of_zero_le n0;obtain⟨q,rfl⟩:=Int.eq_ofNat_of_zero_le x0;have e:((p:Int)*4294967296)=((p*4294967296:Nat):Int):=by simp
 rw[e,or64 _ _ (by omega) (by omega)];have h:=Nat.shiftLeft_add_eq_or_of_lt (show q<2^32 by omega) p;rw[Nat.shiftLeft_eq] at h;have a:p*4294967296 ||| q=p*4294967296+q:=h.symm
 rw[a];simp
end words
end Go.Proofs.YtoepgdhiepedeaaGreatDoor
