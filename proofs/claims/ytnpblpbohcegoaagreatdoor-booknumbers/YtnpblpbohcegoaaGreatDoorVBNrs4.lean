import Derived.Test.YtnpblpbohcegoaaGreatDoorVBNrs2
import Derived.Test.YtnpblpbohcegoaaGreatDoorVBNrs3
set_option linter.unusedVariables false
set_option linter.unusedSimpArgs false
set_option maxHeartbeats 4000000
set_option maxRecDepth 100000
namespace Go.Proofs.YtnpblpbohcegoaaGreatDoor
section
open Go.RowKit
theorem shN {w w':World} {G:Nat} {cs:Array Value} {t:TypeId} (h:Hid (Blk w G cs t)) (hb:Below w.heap.size w w'):Hid (Blk w' G cs t):=h.o.next hb
theorem shK {w W:World} {g G:Nat} {cs cs':Array Value} {t t':TypeId} (hU:Upd w W g cs t) (h:Hid (Blk w G cs' t')) (hne:G≠g):Hid (Blk W G cs' t'):=hU.keep h.o hne
theorem shB {w0 w w':World} (h:Hid (Below w0.heap.size w0 w)) (hb:Below w.heap.size w w'):Hid (Below w0.heap.size w0 w'):=bel_step h.o hb
theorem shV {w W:World} {g:Nat} {cs:Array Value} {t:TypeId} {B:Nat} {w0:World} (hU:Upd w W g cs t) (h:Hid (Below B w0 w)) (hB:B≤g):Hid (Below B w0 W):=hU.bel B w0 hB h.o
theorem sh1 (w:World) (c0:Array Value) (t0:TypeId):∃ W,Hid ((w.alloc (.cells c0 t0))=W)∧Hid (Blk W (w.heap.size) c0 t0)∧Hid (Below w.heap.size w W)∧w.heap.size<W.heap.size:=by
 refine ⟨_,rfl,?_,?_,?_⟩
 ·have h:=Blk.new w c0 t0;exact h
 ·exact (Below.refl w.heap.size w).alloc (by simp) _
 ·simp
theorem sh2 (w:World) (c0:Array Value) (t0:TypeId) (c1:Array Value) (t1:TypeId):∃ W,Hid (((w.alloc (.cells c0 t0)).alloc (.cells c1 t1))=W)∧Hid (Blk W (w.heap.size) c0 t0)∧Hid (Blk W (w.heap.size+1) c1 t1)∧Hid (Below w.heap.size w W)∧w.heap.size+1<W.heap.size:=by
 refine ⟨_,rfl,?_,?_,?_,?_⟩
 ·have h:=Blk.new w c0 t0;exact (h.alloc _)
 ·have h:=Blk.new (w.alloc (.cells c0 t0)) c1 t1;rw [show (w.alloc (.cells c0 t0)).heap.size=w.heap.size+1 by simp] at h;exact h
 ·exact ((Below.refl w.heap.size w).alloc (by simp) _).alloc (by simp) _
 ·simp
theorem sh3 (w:World) (c0:Array Value) (t0:TypeId) (c1:Array Value) (t1:TypeId) (c2:Array Value) (t2:TypeId):∃ W,Hid ((((w.alloc (.cells c0 t0)).alloc (.cells c1 t1)).alloc (.cells c2 t2))=W)∧Hid (Blk W (w.heap.size) c0 t0)∧Hid (Blk W (w.heap.size+1) c1 t1)∧Hid (Blk W (w.heap.size+1+1) c2 t2)∧Hid (Below w.heap.size w W)∧w.heap.size+1+1<W.heap.size:=by
 refine ⟨_,rfl,?_,?_,?_,?_,?_⟩
 ·have h:=Blk.new w c0 t0;exact ((h.alloc _).alloc _)
 ·have h:=Blk.new (w.alloc (.cells c0 t0)) c1 t1;rw [show (w.alloc (.cells c0 t0)).heap.size=w.heap.size+1 by simp] at h;exact (h.alloc _)
 ·have h:=Blk.new ((w.alloc (.cells c0 t0)).alloc (.cells c1 t1)) c2 t2;rw [show ((w.alloc (.cells c0 t0)).alloc (.cells c1 t1)).heap.size=w.heap.size+1+1 by simp] at h;exact h
 ·exact (((Below.refl w.heap.size w).alloc (by simp) _).alloc (by simp) _).alloc (by simp;omega) _
 ·simp
theorem sh4 (w:World) (c0:Array Value) (t0:TypeId) (c1:Array Value) (t1:TypeId) (c2:Array Value) (t2:TypeId) (c3:Array Value) (t3:TypeId):∃ W,Hid (((((w.alloc (.cells c0 t0)).alloc (.cells c1 t1)).alloc (.cells c2 t2)).alloc (.cells c3 t3))=W)∧Hid (Blk W (w.heap.size) c0 t0)∧Hid (Blk W (w.heap.size+1) c1 t1)∧Hid (Blk W (w.heap.size+1+1) c2 t2)∧Hid (Blk W (w.heap.size+1+1+1) c3 t3)∧Hid (Below w.heap.size w W)∧w.heap.size+1+1+1<W.heap.size:=by
 refine ⟨_,rfl,?_,?_,?_,?_,?_,?_⟩
 ·have h:=Blk.new w c0 t0;exact (((h.alloc _).alloc _).alloc _)
 ·have h:=Blk.new (w.alloc (.cells c0 t0)) c1 t1;rw [show (w.alloc (.cells c0 t0)).heap.size=w.heap.size+1 by simp] at h;exact ((h.alloc _).alloc _)
 ·have h:=Blk.new ((w.alloc (.cells c0 t0)).alloc (.cells c1 t1)) c2 t2;rw [show ((w.alloc (.cells c0 t0)).alloc (.cells c1 t1)).heap.size=w.heap.size+1+1 by simp] at h;exact (h.alloc _)
 ·have h:=Blk.new (((w.alloc (.cells c0 t0)).alloc (.cells c1 t1)).alloc (.cells c2 t2)) c3 t3;rw [show (((w.alloc (.cells c0 t0)).alloc (.cells c1 t1)).alloc (.cells c2 t2)).heap.size=w.heap.size+1+1+1 by simp] at h;exact h
 ·exact ((((Below.refl w.heap.size w).alloc (by simp) _).alloc (by simp) _).alloc (by simp;omega) _).alloc (by simp;omega) _
 ·simp
theorem sh5 (w:World) (c0:Array Value) (t0:TypeId) (c1:Array Value) (t1:TypeId) (c2:Array Value) (t2:TypeId) (c3:Array Value) (t3:TypeId) (c4:Array Value) (t4:TypeId):∃ W,Hid ((((((w.alloc (.cells c0 t0)).alloc (.cells c1 t1)).alloc (.cells c2 t2)).alloc (.cells c3 t3)).alloc (.cells c4 t4))=W)∧Hid (Blk W (w.heap.size) c0 t0)∧Hid (Blk W (w.heap.size+1) c1 t1)∧Hid (Blk W (w.heap.size+1+1) c2 t2)∧Hid (Blk W (w.heap.size+1+1+1) c3 t3)∧Hid (Blk W (w.heap.size+1+1+1+1) c4 t4)∧Hid (Below w.heap.size w W)∧w.heap.size+1+1+1+1<W.heap.size:=by
 refine ⟨_,rfl,?_,?_,?_,?_,?_,?_,?_⟩
 ·have h:=Blk.new w c0 t0;exact ((((h.alloc _).alloc _).alloc _).alloc _)
 ·have h:=Blk.new (w.alloc (.cells c0 t0)) c1 t1;rw [show (w.alloc (.cells c0 t0)).heap.size=w.heap.size+1 by simp] at h;exact (((h.alloc _).alloc _).alloc _)
 ·have h:=Blk.new ((w.alloc (.cells c0 t0)).alloc (.cells c1 t1)) c2 t2;rw [show ((w.alloc (.cells c0 t0)).alloc (.cells c1 t1)).heap.size=w.heap.size+1+1 by simp] at h;exact ((h.alloc _).alloc _)
 ·have h:=Blk.new (((w.alloc (.cells c0 t0)).alloc (.cells c1 t1)).alloc (.cells c2 t2)) c3 t3;rw [show (((w.alloc (.cells c0 t0)).alloc (.cells c1 t1)).alloc (.cells c2 t2)).heap.size=w.heap.size+1+1+1 by simp] at h;exact (h.alloc _)
 ·have h:=Blk.new ((((w.alloc (.cells c0 t0)).alloc (.cells c1 t1)).alloc (.cells c2 t2)).alloc (.cells c3 t3)) c4 t4;rw [show ((((w.alloc (.cells c0 t0)).alloc (.cells c1 t1)).alloc (.cells c2 t2)).alloc (.cells c3 t3)).heap.size=w.heap.size+1+1+1+1 by simp] at h;exact h
 ·exact (((((Below.refl w.heap.size w).alloc (by simp) _).alloc (by simp) _).alloc (by simp;omega) _).alloc (by simp;omega) _).alloc (by simp;omega) _
 ·simp
theorem shc3 {w:World} {G:Nat} {a0 a1 a2:Value} {t:TypeId} (h:Hid (Blk w G #[a0,a1,a2] t)):Hid (w.cell? ⟨G,0,none⟩=some a0)∧Hid (w.cell? ⟨G,1,none⟩=some a1)∧Hid (w.cell? ⟨G,2,none⟩=some a2):=⟨h.o.cell 0,h.o.cell 1,h.o.cell 2⟩
theorem shc4 {w:World} {G:Nat} {a0 a1 a2 a3:Value} {t:TypeId} (h:Hid (Blk w G #[a0,a1,a2,a3] t)):Hid (w.cell? ⟨G,0,none⟩=some a0)∧Hid (w.cell? ⟨G,1,none⟩=some a1)∧Hid (w.cell? ⟨G,2,none⟩=some a2)∧Hid (w.cell? ⟨G,3,none⟩=some a3):=⟨h.o.cell 0,h.o.cell 1,h.o.cell 2,h.o.cell 3⟩
theorem scl5 {w:World} {G:Nat} {a0 a1 a2 a3 a4:Value} {t:TypeId} (h:Hid (Blk w G #[a0,a1,a2,a3,a4] t)):w.cell? ⟨G,0,none⟩=some a0∧w.cell? ⟨G,1,none⟩=some a1∧w.cell? ⟨G,2,none⟩=some a2∧w.cell? ⟨G,3,none⟩=some a3∧w.cell? ⟨G,4,none⟩=some a4:=⟨h.o.cell 0,h.o.cell 1,h.o.cell 2,h.o.cell 3,h.o.cell 4⟩
theorem shc5 {w:World} {G:Nat} {a0 a1 a2 a3 a4:Value} {t:TypeId} (h:Hid (Blk w G #[a0,a1,a2,a3,a4] t)):Hid (w.cell? ⟨G,0,none⟩=some a0)∧Hid (w.cell? ⟨G,1,none⟩=some a1)∧Hid (w.cell? ⟨G,2,none⟩=some a2)∧Hid (w.cell? ⟨G,3,none⟩=some a3)∧Hid (w.cell? ⟨G,4,none⟩=some a4):=⟨h.o.cell 0,h.o.cell 1,h.o.cell 2,h.o.cell 3,h.o.cell 4⟩
theorem scl7 {w:World} {G:Nat} {a0 a1 a2 a3 a4 a5 a6:Value} {t:TypeId} (h:Hid (Blk w G #[a0,a1,a2,a3,a4,a5,a6] t)):w.cell? ⟨G,0,none⟩=some a0∧w.cell? ⟨G,1,none⟩=some a1∧w.cell? ⟨G,2,none⟩=some a2∧w.cell? ⟨G,3,none⟩=some a3∧w.cell? ⟨G,4,none⟩=some a4∧w.cell? ⟨G,5,none⟩=some a5∧w.cell? ⟨G,6,none⟩=some a6:=⟨h.o.cell 0,h.o.cell 1,h.o.cell 2,h.o.cell 3,h.o.cell 4,h.o.cell 5,h.o.cell 6⟩
theorem shc7 {w:World} {G:Nat} {a0 a1 a2 a3 a4 a5 a6:Value} {t:TypeId} (h:Hid (Blk w G #[a0,a1,a2,a3,a4,a5,a6] t)):Hid (w.cell? ⟨G,0,none⟩=some a0)∧Hid (w.cell? ⟨G,1,none⟩=some a1)∧Hid (w.cell? ⟨G,2,none⟩=some a2)∧Hid (w.cell? ⟨G,3,none⟩=some a3)∧Hid (w.cell? ⟨G,4,none⟩=some a4)∧Hid (w.cell? ⟨G,5,none⟩=some a5)∧Hid (w.cell? ⟨G,6,none⟩=some a6):=⟨h.o.cell 0,h.o.cell 1,h.o.cell 2,h.o.cell 3,h.o.cell 4,h.o.cell 5,h.o.cell 6⟩
theorem scl8 {w:World} {G:Nat} {a0 a1 a2 a3 a4 a5 a6 a7:Value} {t:TypeId} (h:Hid (Blk w G #[a0,a1,a2,a3,a4,a5,a6,a7] t)):w.cell? ⟨G,0,none⟩=some a0∧w.cell? ⟨G,1,none⟩=some a1∧w.cell? ⟨G,2,none⟩=some a2∧w.cell? ⟨G,3,none⟩=some a3∧w.cell? ⟨G,4,none⟩=some a4∧w.cell? ⟨G,5,none⟩=some a5∧w.cell? ⟨G,6,none⟩=some a6∧w.cell? ⟨G,7,none⟩=some a7:=⟨h.o.cell 0,h.o.cell 1,h.o.cell 2,h.o.cell 3,h.o.cell 4,h.o.cell 5,h.o.cell 6,h.o.cell 7⟩
theorem shc8 {w:World} {G:Nat} {a0 a1 a2 a3 a4 a5 a6 a7:Value} {t:TypeId} (h:Hid (Blk w G #[a0,a1,a2,a3,a4,a5,a6,a7] t)):Hid (w.cell? ⟨G,0,none⟩=some a0)∧Hid (w.cell? ⟨G,1,none⟩=some a1)∧Hid (w.cell? ⟨G,2,none⟩=some a2)∧Hid (w.cell? ⟨G,3,none⟩=some a3)∧Hid (w.cell? ⟨G,4,none⟩=some a4)∧Hid (w.cell? ⟨G,5,none⟩=some a5)∧Hid (w.cell? ⟨G,6,none⟩=some a6)∧Hid (w.cell? ⟨G,7,none⟩=some a7):=⟨h.o.cell 0,h.o.cell 1,h.o.cell 2,h.o.cell 3,h.o.cell 4,h.o.cell 5,h.o.cell 6,h.o.cell 7⟩
theorem shc9 {w:World} {G:Nat} {a0 a1 a2 a3 a4 a5 a6 a7 a8:Value} {t:TypeId} (h:Hid (Blk w G #[a0,a1,a2,a3,a4,a5,a6,a7,a8] t)):Hid (w.cell? ⟨G,0,none⟩=some a0)∧Hid (w.cell? ⟨G,1,none⟩=some a1)∧Hid (w.cell? ⟨G,2,none⟩=some a2)∧Hid (w.cell? ⟨G,3,none⟩=some a3)∧Hid (w.cell? ⟨G,4,none⟩=some a4)∧Hid (w.cell? ⟨G,5,none⟩=some a5)∧Hid (w.cell? ⟨G,6,none⟩=some a6)∧Hid (w.cell? ⟨G,7,none⟩=some a7)∧Hid (w.cell? ⟨G,8,none⟩=some a8):=⟨h.o.cell 0,h.o.cell 1,h.o.cell 2,h.o.cell 3,h.o.cell 4,h.o.cell 5,h.o.cell 6,h.o.cell 7,h.o.cell 8⟩
theorem scl13 {w:World} {G:Nat} {a0 a1 a2 a3 a4 a5 a6 a7 a8 a9 a10 a11 a12:Value} {t:TypeId} (h:Hid (Blk w G #[a0,a1,a2,a3,a4,a5,a6,a7,a8,a9,a10,a11,a12] t)):w.cell? ⟨G,0,none⟩=some a0∧w.cell? ⟨G,1,none⟩=some a1∧w.cell? ⟨G,2,none⟩=some a2∧w.cell? ⟨G,3,none⟩=some a3∧w.cell? ⟨G,4,none⟩=some a4∧w.cell? ⟨G,5,none⟩=some a5∧w.cell? ⟨G,6,none⟩=some a6∧w.cell? ⟨G,7,none⟩=some a7∧w.cell? ⟨G,8,none⟩=some a8∧w.cell? ⟨G,9,none⟩=some a9∧w.cell? ⟨G,10,none⟩=some a10∧w.cell? ⟨G,11,none⟩=some a11∧w.cell? ⟨G,12,none⟩=some a12:=⟨h.o.cell 0,h.o.cell 1,h.o.cell 2,h.o.cell 3,h.o.cell 4,h.o.cell 5,h.o.cell 6,h.o.cell 7,h.o.cell 8,h.o.cell 9,h.o.cell 10,h.o.cell 11,h.o.cell 12⟩
end
namespace book
open Go.RowKit
structure Ev where
 kd:Int
 me:Int
 mo:Int
 id:Int
 te:Int
 de:Int
 fe:Int
 pr:Int
 ch:Int
 un:Int
 tg:Int
 ow:Int
 bp:Int
def ev0:Ev:=⟨0,0,0,0,0,0,0,0,0,0,0,0,0⟩
def EMay (v:Ev):Prop:=(0≤v.me∧v.me≤49)∧((v.kd=1∧v.mo=0∧v.id=0∧v.te=0∧v.de=0∧v.fe=0∧v.pr=0∧v.ch=0∧v.un=0∧v.tg=0∧v.ow=0∧v.bp=0)∨(v.kd=5∧v.mo=0∧v.id=0∧v.te=0∧v.de=0∧v.fe=0∧v.pr=0∧v.ch=0∧v.un=0∧v.tg=0∧(1≤v.ow∧v.ow≤1000000000)∧0≤v.bp∧v.bp≤10000) ∨
 ((2≤v.kd∧v.kd≤4)∧(1≤v.id∧v.id≤1048575)∧(0≤v.tg∧v.tg≤65535)∧(v.ow=0∧v.bp=0)∧((v.kd=4∧v.mo=0∧v.te=0∧v.de=0∧v.fe=0∧v.pr=0∧v.ch=0∧v.un=0)∨(v.kd≠4∧(0≤v.mo∧v.mo≤2399)∧(1≤v.un∧v.un≤2097151) ∧
   ((v.kd=3∧v.te=0∧v.de=0∧v.fe=0∧v.pr=0∧v.ch=0)∨(v.kd≠3∧(1≤v.te∧v.te≤100000000)∧(0≤v.de∧v.de≤v.te)∧(0≤v.fe∧v.fe≤v.te)∧(0≤v.pr∧v.pr≤v.te)∧(0≤v.ch∧v.ch≤v.te)∧v.de+v.fe+v.pr+v.ch=v.te))))))
def evL (v:Ev):List Int:=[v.kd,v.me,v.mo,v.id,v.te,v.de,v.fe,v.pr,v.ch,v.un,v.tg,v.ow,v.bp]
theorem evL_len (v:Ev):(evL v).length=13:=rfl
theorem may_word {v:Ev} (h:EMay v):∀ x∈evL v,0≤x∧x<4294967296:=by
 intro x hx;unfold EMay at h;simp only [evL,List.mem_cons,List.not_mem_nil,or_false] at hx;rcases hx with rfl | rfl | rfl | rfl | rfl | rfl | rfl | rfl | rfl | rfl | rfl | rfl | rfl <;> omega
def evOf (l:List Int):Ev:=⟨l.getD 0 0,l.getD 1 0,l.getD 2 0,l.getD 3 0,l.getD 4 0,l.getD 5 0,l.getD 6 0,l.getD 7 0,l.getD 8 0,l.getD 9 0,l.getD 10 0,l.getD 11 0,l.getD 12 0⟩
theorem evOf_L (v:Ev):evOf (evL v)=v:=rfl
def EncIs (v:Ev) (ws:List Int) (e:Int):Prop:=(EMay v∧ws=evL v∧e=0)∨(¬ EMay v∧ws=[]∧e=5)
theorem EncIs.one {v:Ev} {a b:List Int} {e f:Int} (h:EncIs v a e) (h':EncIs v b f):a=b∧e=f:=by
 rcases h with ⟨q,rfl,rfl⟩ | ⟨q,rfl,rfl⟩ <;> rcases h' with ⟨q',rfl,rfl⟩ | ⟨q',rfl,rfl⟩ <;> first | exact ⟨rfl,rfl⟩ | contradiction
def DecIs (l:List Int) (v:Ev) (e:Int):Prop:=(l.length≠13∧v=ev0∧e=1)∨(l.length=13∧¬ EMay (evOf l)∧v=ev0∧e=5)∨(l.length=13∧EMay (evOf l)∧v=evOf l∧e=0)
theorem DecIs.one {l:List Int} {a b:Ev} {e f:Int} (h:DecIs l a e) (h':DecIs l b f):a=b∧e=f:=by
 rcases h with ⟨q,rfl,rfl⟩ | ⟨q,r,rfl,rfl⟩ | ⟨q,r,rfl,rfl⟩ <;> rcases h' with ⟨q',rfl,rfl⟩ | ⟨q',r',rfl,rfl⟩ | ⟨q',r',rfl,rfl⟩ <;> first | exact ⟨rfl,rfl⟩ | contradiction
end book
namespace ora
structure Pr where
 m:Int
 r:Int
 b:Int
 t:Int
def pr0:Pr:=⟨0,0,0,0⟩
def Pr.key (p:Pr) (m r b:Int):Prop:=p.m=m∧p.r=r∧p.b=b
structure At (l:List Pr) (m r b:Int) (i:Nat):Prop where
 lt:i<l.length
 is:(l.getD i pr0).key m r b
 first:∀ j,j<i→¬ (l.getD j pr0).key m r b
def No (l:List Pr) (m r b:Int):Prop:=∀ j,j<l.length→¬ (l.getD j pr0).key m r b
def Pr.may (p:Pr):Prop:=(0≤p.m∧p.m≤49)∧(0≤p.r∧p.r≤15)∧(0≤p.b∧p.b≤8796093022207)∧(0≤p.t∧p.t≤65535)
structure May (l:List Pr):Prop where
 few:l.length≤500
 each:∀ i,i<l.length→(l.getD i pr0).may∧At l (l.getD i pr0).m (l.getD i pr0).r (l.getD i pr0).b i
theorem find_or (l:List Pr) (m r b:Int):(∃ i,At l m r b i)∨No l m r b:=by
 have key:∀ k,k≤l.length→(∃ i,At l m r b i)∨∀ j,j<k→¬ (l.getD j pr0).key m r b:=by
  intro k
  induction k with
  | zero=>intro _;exact .inr fun j hj=>absurd hj (Nat.not_lt_zero _)
  | succ k ih=>
   intro hk;rcases ih (by omega) with h | h
   ·exact .inl h
   ·by_cases hx:(l.getD k pr0).key m r b
    ·exact .inl ⟨k,hk,hx,h⟩
    ·refine .inr fun j hj=>?_;by_cases e:j=k
     ·subst e;exact hx
     ·exact h j (by omega)
 rcases key l.length (Nat.le_refl _) with h | h
 ·exact .inl h
 ·exact .inr h
def IssueIs (l:List Pr) (m r b d:Int) (ls:List Pr) (x c:Int):Prop:=
 (¬ May l∧ls=[]∧x=0∧c=5)∨(May l∧¬ (Pr.mk m r b d).may∧ls=[]∧x=0∧c=2) ∨
  (May l∧(Pr.mk m r b d).may∧(∃ i,At l m r b i∧x=(l.getD i pr0).t)∧ls=l∧c=0) ∨
  (May l∧(Pr.mk m r b d).may∧No l m r b∧l.length=500∧ls=[]∧x=0∧c=16) ∨
  (May l∧(Pr.mk m r b d).may∧No l m r b∧l.length<500∧ls=l++[⟨m,r,b,d⟩]∧x=d∧c=0)
open Go.RowKit
def PrAt (w:World) (b o:Nat) (p:Pr):Prop:=w.cell? ⟨b,o,none⟩=some (zI p.m)∧w.cell? ⟨b,o+1,none⟩=some (zI p.r)∧w.cell? ⟨b,o+2,none⟩=some (zI p.b)∧w.cell? ⟨b,o+3,none⟩=some (zI p.t)
theorem PrAt.below {w w':World} {b o:Nat} {p:Pr} (h:PrAt w b o p) (hb:Below w.heap.size w w'):PrAt w' b o p:=by
 have hl:b<w.heap.size:=World.block_lt_of_cell? w _ h.1;exact ⟨(hb.cell (p:=⟨b,o,none⟩) hl).trans h.1,(hb.cell (p:=⟨b,o+1,none⟩) hl).trans h.2.1,(hb.cell (p:=⟨b,o+2,none⟩) hl).trans h.2.2.1,(hb.cell (p:=⟨b,o+3,none⟩) hl).trans h.2.2.2⟩
def RowP (w:World) (a:Option Addr) (len:Nat) (ps:List Pr):Prop:=
 ps.length=len∧(len=0∨∃ b off,a=some ⟨b,off,none⟩∧∀ i,i<len→PrAt w b (off+i*4) (ps.getD i pr0))
theorem RowP.below {w w':World} {a:Option Addr} {n:Nat} {ps:List Pr} (h:RowP w a n ps) (hb:Below w.heap.size w w'):RowP w' a n ps:=by
 refine ⟨h.1,?_⟩;rcases h.2 with h0 | ⟨b,off,rfl,hc⟩
 ·exact .inl h0
 ·exact .inr ⟨b,off,rfl,fun i hi=>(hc i hi).below hb⟩
theorem RowP.nil (w:World) (a:Option Addr):RowP w a 0 []:=⟨rfl,.inl rfl⟩
theorem RowP.at {w:World} {a:Option Addr} {n:Nat} {ps:List Pr} (h:RowP w a n ps) (h0:0<n):∃ b off,a=some ⟨b,off,none⟩∧b<w.heap.size∧∀ i,i<n→PrAt w b (off+i*4) (ps.getD i pr0):=by
 rcases h.2 with h1 | ⟨b,off,rfl,hc⟩
 ·omega
 ·exact ⟨b,off,rfl,World.block_lt_of_cell? w _ (hc 0 h0).1,hc⟩
def cellsP:List Pr→List Value
 | []=>[]
 | p :: l=>zI p.m :: zI p.r :: zI p.b :: zI p.t :: cellsP l
theorem cellsP_len (l:List Pr):(cellsP l).length=l.length*4:=by
 induction l with
 | nil=>rfl
 | cons e l ih=>simp [cellsP,ih];omega
theorem cellsP_app (l m:List Pr):cellsP (l++m)=cellsP l++cellsP m:=by
 induction l with
 | nil=>rfl
 | cons e l ih=>simp [cellsP,ih]
theorem oneP (l:List Pr):∀ u∈cellsP l,u.oneCell'=true:=by
 induction l with
 | nil=>intro u hu;cases hu
 | cons e l ih=>
  intro u hu;simp only [cellsP,List.mem_cons] at hu;rcases hu with rfl | rfl | rfl | rfl | hu
  ·rfl
  ·rfl
  ·rfl
  ·rfl
  ·exact ih u hu
theorem cellsP_at (l:List Pr) (k:Nat) (hk:k<l.length):(cellsP l)[k*4]?=some (zI (l.getD k pr0).m)∧(cellsP l)[k*4+1]?=some (zI (l.getD k pr0).r)∧(cellsP l)[k*4+2]?=some (zI (l.getD k pr0).b)∧(cellsP l)[k*4+3]?=some (zI (l.getD k pr0).t):=by
 induction l generalizing k with
 | nil=>simp at hk
 | cons x l ih=>
  cases k with
  | zero=>exact ⟨rfl,rfl,rfl,rfl⟩
  | succ k=>
   rw [show (k+1)*4=k*4+1+1+1+1 by omega];have:=ih k (by simpa using hk);simpa [cellsP] using this
theorem cellsP_get {w:World} {b off len:Nat} {ps:List Pr} (hz:ps.length=len) (hc:∀ i,i<len→PrAt w b (off+i*4) (ps.getD i pr0)) (j:Nat) (u:Value) (hu:(cellsP ps)[j]?=some u):w.cell? ⟨b,off+j,none⟩=some u:=by
 have hj:j<(cellsP ps).length:=by
  by_cases h:j<(cellsP ps).length
  ·exact h
  ·rw [List.getElem?_eq_none (by omega)] at hu;cases hu
 rw [cellsP_len] at hj;have h1:=cellsP_at ps (j / 4) (by omega);have h2:=hc (j / 4) (by omega);have e:j % 4=0∨j % 4=1∨j % 4=2∨j % 4=3:=by omega
 unfold PrAt at h2;rcases e with e | e | e | e
 ·have e2:j / 4*4=j:=by omega
  rw [e2] at h1 h2;rw [h1.1] at hu;rw [h2.1];exact hu
 ·have e2:j / 4*4+1=j:=by omega
  rw [Nat.add_assoc off,e2] at h2;rw [e2] at h1;rw [h1.2.1] at hu;rw [h2.2.1];exact hu
 ·have e2:j / 4*4+2=j:=by omega
  rw [Nat.add_assoc off (j / 4*4) 2,e2] at h2;rw [e2] at h1;rw [h1.2.2.1] at hu;rw [h2.2.2.1];exact hu
 ·have e2:j / 4*4+3=j:=by omega
  rw [Nat.add_assoc off (j / 4*4) 3,e2] at h2;rw [e2] at h1;rw [h1.2.2.2] at hu;rw [h2.2.2.2];exact hu
def Pw (w:World) (base:Nat) (v:Value) (l:List Pr):Prop:=w.ownsRow base 279 4 v l.length (cellsP l)
theorem Pw.zero (w:World) (base:Nat):Pw w base (zS) []:=World.ownsRow_nil _ _ _ _
theorem Pw.alloc {w:World} {base:Nat} {v:Value} {l:List Pr} (h:Pw w base v l) (o:Obj):Pw (w.alloc o) base v l:=World.ownsRow.alloc h o
theorem Pw.low {w:World} {base base':Nat} {v:Value} {l:List Pr} (h:Pw w base v l) (hb:base'≤base):Pw w base' v l:=by
 refine ⟨h.1,?_⟩;rcases h.2 with hn | ⟨g,cap,cur,hv,hg,rest⟩
 ·exact .inl hn
 ·exact .inr ⟨g,cap,cur,hv,by omega,rest⟩
theorem Pw.put {w:World} {base:Nat} {v:Value} {l:List Pr} (h:Pw w base v l) (G i:Nat) (u:Value) (hG:G<base):Pw (w.setCell ⟨G,i,none⟩ u) base v l:=by
 refine ⟨h.1,?_⟩;rcases h.2 with hn | ⟨g,cap,cur,hv,hg,hc,rest⟩
 ·exact .inl hn
 ·exact .inr ⟨g,cap,cur,hv,hg,Blk.other hc i u (by omega),rest⟩
theorem Pw.row {w:World} {base:Nat} {v:Value} {l:List Pr} (h:Pw w base v l):∃ a cap,v = .slice a l.length cap∧RowP w a l.length l∧(a=none→cap=0)∧l.length≤cap:=by
 rcases h.2 with ⟨hv,hn⟩ | ⟨g,cap,cur,hv,_,_,h1,_⟩
 ·exact ⟨none,0,by rw [hn];exact hv,⟨rfl,.inl hn⟩,fun _=>rfl,by omega⟩
 ·subst hv;refine ⟨_,cap,rfl,⟨rfl,.inr ⟨g,0,rfl,fun i hi=>?_⟩⟩,(fun h=>by cases h),h1⟩;have e1:=World.ownsRow.cellAt h (i*4) (by omega);have e2:=World.ownsRow.cellAt h (i*4+1) (by omega);have e3:=World.ownsRow.cellAt h (i*4+2) (by omega);have e4:=World.ownsRow.cellAt h (i*4+3) (by omega);unfold PrAt;rw [Nat.zero_add,e1,e2,e3,e4];exact cellsP_at l i hi
theorem pown_far {w:World} {base n k:Nat} {t:TypeId} {v:Value} {l:List Value} (h:w.ownsRow base t n v k l) {G:Nat} (hG:G<base):some G≠v.ownBlock:=by
 intro e;have:=(World.ownsRow.lt h G e.symm).1;omega
theorem pown_bel {w0 w w':World} {base B n k:Nat} {t:TypeId} {v:Value} {l:List Value} (h:w.ownsRow base t n v k l) (hg:w.grownBy w' v.ownBlock) (hb:Below B w0 w) (hB:B≤base) (hw:B≤w.heap.size):Below B w0 w':=by
 refine ⟨hg.os.trans hb.os,hg.tape.trans hb.tape,hg.output.trans hb.output,Nat.le_trans hb.size hg.size,fun k hk=>?_⟩;rw [← hb.block k hk];exact hg.block k (by omega) (pown_far h (by omega))
theorem palloc_le {w:World} {B:Nat} (h:B≤w.heap.size) (o:Obj):B≤(w.alloc o).heap.size:=by simp;omega
theorem pr_cell (w:World) (m r b t:Int):PrAt (w.alloc (.cells #[zI m,zI r,zI b,zI t] 279)) w.heap.size 0 ⟨m,r,b,t⟩:=
 ⟨(Blk.new w _ _).cell 0,(Blk.new w _ _).cell 1,(Blk.new w _ _).cell 2,(Blk.new w _ _).cell 3⟩
theorem info_pr:(Tryz.prog.info? 279).map (fun i=>(i.zero,i.size,i.bytes))=some (some (.agg #[zI 0,zI 0,zI 0,zI 0]),4,32):=by kernel_rfl
set_option maxRecDepth 100000
def Told (w : World) (P : Prop) (e : Ending) (w' : World) : Prop := ∃ r : Bool, e = .returned (.bool r) ∧ (r = true ↔ P) ∧ Below w.heap.size w w'
theorem Told.yes {w w' : World} {P : Prop} (h : P) (hb : Below w.heap.size w w') : Told w P (.returned (.bool true)) w' := ⟨true, rfl, by simp [h], hb⟩
theorem Told.no {w w' : World} {P : Prop} (h : ¬ P) (hb : Below w.heap.size w w') : Told w P (.returned (.bool false)) w' := ⟨false, rfl, by simp [h], hb⟩
structure Bo (w wr : World) (a : Option Addr) (n cap : Nat) (l : List Pr) : Prop where
 box : Blk wr w.heap.size #[.slice a n cap] 39
 row : RowP wr a n l
 bel : Below w.heap.size w wr
theorem Bo.next {w wr w' : World} {a : Option Addr} {n cap : Nat} {l : List Pr} (h : Bo w wr a n cap l) (hb : Below wr.heap.size wr w') : Bo w w' a n cap l := ⟨h.box.next hb, h.row.below hb, bel_step h.bel hb⟩
theorem Bo.alloc {w wr : World} {a : Option Addr} {n cap : Nat} {l : List Pr} (h : Bo w wr a n cap l) (o : Obj) : Bo w (wr.alloc o) a n cap l := h.next ((Below.refl _ _).alloc (Nat.le_refl _) _)
theorem Bo.new {w : World} {a : Option Addr} {n cap : Nat} {l : List Pr} (h : RowP w a n l) : Bo w (w.alloc (.cells #[.slice a n cap] 39)) a n cap l :=
 ⟨Blk.new w _ _, h.below ((Below.refl _ _).alloc (Nat.le_refl _) _), (Below.refl _ _).alloc (Nat.le_refl _) _⟩
theorem take_nextP (l : List Pr) (k : Nat) (h : k < l.length) : l.take k ++ [⟨(l.getD k pr0).m, (l.getD k pr0).r, (l.getD k pr0).b, (l.getD k pr0).t⟩] = l.take (k + 1) := by
 rw [List.take_succ_eq_append_getElem h]
 congr 2
 simp [List.getD, List.getElem?_eq_getElem h]
structure Bi (w wr : World) (a : Option Addr) (n cap : Nat) (l : List Pr) : Prop where
 bo : Bo w wr a n cap l
 out : Blk wr (w.heap.size + 1) #[.slice none 0 0] 39
theorem Bi.next {w wr w' : World} {a : Option Addr} {n cap : Nat} {l : List Pr} (h : Bi w wr a n cap l) (hb : Below wr.heap.size wr w') : Bi w w' a n cap l := ⟨h.bo.next hb, h.out.next hb⟩
theorem Bi.alloc {w wr : World} {a : Option Addr} {n cap : Nat} {l : List Pr} (h : Bi w wr a n cap l) (o : Obj) : Bi w (wr.alloc o) a n cap l := h.next ((Below.refl _ _).alloc (Nat.le_refl _) _)
theorem Pw.put2 {w : World} {base G : Nat} {v : Value} {l : List Pr} {cs : Array Value} {t : TypeId} (h : Pw w base v l) (hB : Blk w G cs t) (ht : t ≠ 279) (i : Nat) (u : Value) : Pw (w.setCell ⟨G, i, none⟩ u) base v l := by
 refine ⟨h.1, ?_⟩
 rcases h.2 with hn | ⟨g, cap, cur, hv, hg, hc, rest⟩
 ·exact .inl hn
 ·refine .inr ⟨g, cap, cur, hv, hg, Blk.other hc i u (fun e => ?_), rest⟩
  subst e
  have := hB.symm.trans hc
  simp only [Option.some.injEq, Obj.cells.injEq] at this
  exact ht this.2.1
structure Came (w : World) (a : Option Addr) (n cap : Nat) (l : List Pr) : Prop where
 row : RowP w a n l
 nil : a = none → cap = 0
 le : n ≤ cap
 small : n * 32 ≤ 140737488351232
theorem Came.below {w w' : World} {a : Option Addr} {n cap : Nat} {l : List Pr} (h : Came w a n cap l) (hb : Below w.heap.size w w') : Came w' a n cap l := ⟨h.row.below hb, h.nil, h.le, h.small⟩
end ora
namespace cell
open Go.RowKit
def arr (zs:List Int):Array Value:=(zs.map (Value.int .u32)).toArray
theorem arr_set (zs:List Int) (i:Nat) (v:Int):(arr zs).setIfInBounds i (.int .u32 v)=arr (zs.set i v):=by
 unfold arr;apply Array.ext';simp [List.map_set]
theorem Blk.rowU {w:World} {G n:Nat} {zs:List Int} {t:TypeId} (h:Blk w G (arr zs) t) (hn:zs.length=n):RowU w (some ⟨G,0,none⟩) n zs:=by
 refine ⟨hn,.inr ⟨G,0,rfl,fun i hi=>?_⟩⟩;rw [Nat.zero_add,h.cell i];unfold arr;simp [List.getD,show i<zs.length by omega]
theorem Blk.word {w:World} {G:Nat} {zs:List Int} {t:TypeId} (h:Blk w G (arr zs) t) (i:Nat) (hi:i<zs.length):w.cell? ⟨G,i,none⟩=some (.int .u32 (zs.getD i 0)):=by
 rw [h.cell i];unfold arr;simp [List.getD,hi]
theorem made_zero (n:Nat):madeCells (Value.int .u32 0).cells (n*1)=arr (List.replicate n 0):=by
 unfold madeCells arr;apply Array.ext';simp [Value.cells];apply List.ext_getElem
 ·simp
 ·intro i h1 h2;simp [Nat.mod_one]
theorem make_u32 (n:Nat) (h:n≤100000) (w:World):(Instr.makeSlice 25 (zI (n:Int)) (zI (n:Int))).run Tryz.prog w = .ok (.slice (some ⟨w.heap.size,0,none⟩) n n) (w.alloc (.cells (arr (List.replicate n 0)) 99)):=by
 obtain ⟨i0,hi,hz0,hz1,hz2⟩:=info_parts info_u32;have:=run_make (P:=Tryz.prog) w 25 99 i0 (.int .u32 0) Tryz.underlying25 hi hz0 .i64 .i64 n n (by omega) (by omega) (by rw [hz2];omega) (by omega);rw [hz1] at this;simp only [Int.toNat_natCast] at this;rw [made_zero] at this;exact this
end cell
namespace book
open Go.RowKit
def Ev.v (x:Ev):Value:= .agg #[zI x.kd,zI x.me,zI x.mo,zI x.id,zI x.te,zI x.de,zI x.fe,zI x.pr,zI x.ch,zI x.un,zI x.tg,zI x.ow,zI x.bp]
def Ev.cs (x:Ev):Array Value:=#[zI x.kd,zI x.me,zI x.mo,zI x.id,zI x.te,zI x.de,zI x.fe,zI x.pr,zI x.ch,zI x.un,zI x.tg,zI x.ow,zI x.bp]
def wf13 (x:Ev):Prop:=(Lit.int .i64 x.kd).wf=true∧(Lit.int .i64 x.me).wf=true∧(Lit.int .i64 x.mo).wf=true∧(Lit.int .i64 x.id).wf=true∧(Lit.int .i64 x.te).wf=true∧(Lit.int .i64 x.de).wf=true∧(Lit.int .i64 x.fe).wf=true∧(Lit.int .i64 x.pr).wf=true∧(Lit.int .i64 x.ch).wf=true∧(Lit.int .i64 x.un).wf=true∧(Lit.int .i64 x.tg).wf=true∧(Lit.int .i64 x.ow).wf=true∧(Lit.int .i64 x.bp).wf=true
theorem wf_may {x:Ev} (h:EMay x):wf13 x:=by
 have hh:=may_word h
 have q:∀ z,0≤z∧z<4294967296→(Lit.int .i64 z).wf=true:=fun z hz=>by
  simp only [Lit.wf,Bool.and_eq_true,decide_eq_true_eq];rw [show IntKind.i64.min=-9223372036854775808 from by decide,show IntKind.i64.max=9223372036854775807 from by decide];omega
 exact ⟨q _ (hh _ (by simp [evL])),q _ (hh _ (by simp [evL])),q _ (hh _ (by simp [evL])),q _ (hh _ (by simp [evL])),q _ (hh _ (by simp [evL])),q _ (hh _ (by simp [evL])),q _ (hh _ (by simp [evL])),q _ (hh _ (by simp [evL])),q _ (hh _ (by simp [evL])),q _ (hh _ (by simp [evL])),q _ (hh _ (by simp [evL])),q _ (hh _ (by simp [evL])),q _ (hh _ (by simp [evL]))⟩
end book
namespace cents
open Go.RowKit
def Row (w:World) (a:Option Addr) (len:Nat) (zs:List Int):Prop:=
 zs.length=len∧(len=0∨∃ b off,a=some ⟨b,off,none⟩∧∀ i,i<len→w.cell? ⟨b,off+i,none⟩=some (zI (zs.getD i 0)))
def okAll (lo hi:Int) (l:List Int):Bool:=l.all fun n=>decide (lo≤n) && decide (n≤hi)
theorem okAll_step (lo hi:Int) (zs:List Int) (k:Nat) (hk:k<zs.length) (h:okAll lo hi (zs.take k)=true) (h1:lo≤zs.getD k 0) (h2:zs.getD k 0≤hi):okAll lo hi (zs.take (k+1))=true:=by
 unfold okAll at *;rw [List.take_add_one,List.all_append,h];simp only [List.getD,List.getElem?_eq_getElem hk,Option.getD] at h1 h2 ⊢;simp [h1,h2]
theorem okAll_no (lo hi:Int) (zs:List Int) (k:Nat) (hk:k<zs.length) (h:zs.getD k 0<lo∨hi<zs.getD k 0):okAll lo hi zs=false:=by
 unfold okAll;rw [List.all_eq_false];refine ⟨zs[k],List.getElem_mem hk,?_⟩;simp only [List.getD,List.getElem?_eq_getElem hk,Option.getD] at h;simp;omega
theorem ret_bool {a b:Bool} (h:a=b):Ending.returned (.bool a) = .returned (.bool b):=by rw [h]
theorem within_any (lo hi:Int) (a:Option Addr) (len cap:Nat) (zs:List Int) (w:World) (hr:Row w a len zs) (hl:len≤maxLen) :
  Calls Tryz.prog 192 #[zI lo,zI hi,.slice a len cap] w fun e w'=>e = .returned (.bool (okAll lo hi zs))∧w'=w:=by
 unfold maxLen at hl;obtain ⟨hz,hr⟩:=hr;go_enter Tryz.func192,Tryz.ntmps192;go_wp2;go_loop [11] (fun i=>∃ k:Nat,k≤len∧i=zI k∧okAll lo hi (zs.take k)=true) (fun i=>len - (intOf i).toNat)
 case atStart=>exact ⟨0,Nat.zero_le _,rfl,rfl⟩
 case round=>
  obtain ⟨k,hk,rfl,hok⟩:=hrel;have HK:Hid (okAll lo hi (zs.take k)=true):=hok;clear hok;by_cases hlt:k<len
  ·rcases hr with h0 | ⟨b,off,rfl,hc⟩
   ·omega
   have hcell:=hc k hlt;clear hc;generalize hzk:zs.getD k 0=z at hcell;have HZ:Hid (zs.getD k 0=z):=hzk;clear hzk;by_cases h1:z<lo
   ·go_wp2;go_ret;exact ⟨ret_bool (okAll_no lo hi zs k (by omega) (.inl (by rw [HZ.o];exact h1))).symm,rfl⟩
   ·by_cases h2:hi<z
    ·go_wp2;go_ret;exact ⟨ret_bool (okAll_no lo hi zs k (by omega) (.inr (by rw [HZ.o];exact h2))).symm,rfl⟩
    ·go_wp2;go_round
     case rel=>exact ⟨k+1,by omega,by go_num,okAll_step lo hi zs k (by omega) HK.o (by rw [HZ.o];omega) (by rw [HZ.o];omega)⟩
     case measure=>simp [intOf];omega
  ·go_wp2;go_ret;refine ⟨ret_bool ?_,rfl⟩;have:=HK.o;rw [List.take_of_length_le (by omega)] at this;exact this.symm
theorem row_one (w:World) (z:Int) (t:TypeId):Row (w.alloc (.cells #[zI z] t)) (some ⟨w.heap.size,0,none⟩) 1 [z]:=by
 refine ⟨rfl,.inr ⟨_,_,rfl,fun i hi=>?_⟩⟩;obtain rfl:i=0:=by omega
 simp
theorem okAll_yes {lo hi z:Int} (h1:lo≤z) (h2:z≤hi):okAll lo hi [z]=true:=by simp [okAll,h1,h2]
theorem okAll_not {lo hi z:Int} (h:z<lo∨hi<z):okAll lo hi [z]=false:=by simp [okAll];omega
theorem within_one_yes (lo hi z:Int) (w:World) (b:Nat) (hb:b=w.heap.size) (h1:lo≤z) (h2:z≤hi) :
  Calls Tryz.prog 192 #[zI lo,zI hi,.slice (some ⟨b,0,none⟩) 1 1] (w.alloc (.cells #[zI z] 3)) fun e w'=>e = .returned (.bool true)∧w'=w.alloc (.cells #[zI z] 3):=by
 have h:=within_any lo hi _ 1 1 [z] _ (row_one w z 3) (by decide);rw [okAll_yes h1 h2] at h;rw [hb];exact h
theorem within_one_no (lo hi z:Int) (w:World) (b:Nat) (hb:b=w.heap.size) (h0:z<lo∨hi<z) :
  Calls Tryz.prog 192 #[zI lo,zI hi,.slice (some ⟨b,0,none⟩) 1 1] (w.alloc (.cells #[zI z] 3)) fun e w'=>e = .returned (.bool false)∧w'=w.alloc (.cells #[zI z] 3):=by
 have h:=within_any lo hi _ 1 1 [z] _ (row_one w z 3) (by decide);rw [okAll_not h0] at h;rw [hb];exact h
theorem prod_bd (a b A B:Int) (h1:0≤a) (h2:a≤A) (h3:0≤b) (h4:b≤B):0≤a*b∧a*b≤A*B:=
 ⟨Int.mul_nonneg h1 h3,Int.mul_le_mul h2 h4 h3 (by omega)⟩
theorem bel1 (w:World) (o:Obj):Below w.heap.size w (w.alloc o):=(Below.refl _ _).alloc (Nat.le_refl _) _
theorem bel2 (w:World) (o o':Obj):Below w.heap.size w ((w.alloc o).alloc o'):=(bel1 w o).alloc (by simp) _
theorem part_yes (a b:Int) (w:World) (h1:0≤a) (h2:a≤1000000000000) (h3:0≤b) (h4:b≤10000) :
  Calls Tryz.prog 165 #[zI a,zI b] w fun e w'=>e = .returned (.tuple #[zI (a*b / 10000),zI 0])∧Below w.heap.size w w':=by
 obtain ⟨hp1,hp2⟩:=prod_bd a b _ _ h1 h2 h3 h4;go_enter Tryz.func165,Tryz.ntmps165;go_wp2_with fail;refine (within_one_yes _ _ _ _ _ rfl h1 h2).mono ?_;rintro e w' ⟨rfl,rfl⟩;go_wp2_with fail;refine (within_one_yes _ _ _ _ _ (by simp) h3 h4).mono ?_;rintro e w' ⟨rfl,rfl⟩;go_wp2;go_ret2;exact ⟨rfl,bel2 _ _ _⟩
theorem part_no (a b:Int) (w:World) (h:(a<0∨1000000000000<a)∨(b<0∨10000<b)) :
  Calls Tryz.prog 165 #[zI a,zI b] w fun e w'=>e = .returned (.tuple #[zI 0,zI 2])∧Below w.heap.size w w':=by
 by_cases h0:a<0∨1000000000000<a
 ·clear h;go_enter Tryz.func165,Tryz.ntmps165;go_wp2_with fail;refine (within_one_no _ _ _ _ _ rfl h0).mono ?_;rintro e w' ⟨rfl,rfl⟩;go_wp2;go_ret2;exact ⟨rfl,bel1 _ _⟩
 ·have h5:b<0∨10000<b:=by omega
  have h1:0≤a:=by omega
  have h2:a≤1000000000000:=by omega
  clear h h0;go_enter Tryz.func165,Tryz.ntmps165;go_wp2_with fail;refine (within_one_yes _ _ _ _ _ rfl h1 h2).mono ?_;rintro e w' ⟨rfl,rfl⟩;go_wp2_with fail;refine (within_one_no _ _ _ _ _ (by simp) h5).mono ?_;rintro e w' ⟨rfl,rfl⟩;go_wp2;go_ret2;exact ⟨rfl,bel2 _ _ _⟩
end cents
namespace tar
open Go.RowKit
theorem run_min (x y m:Int) (h:min x y=m) (w:World):(Builtin.min_ #[3,3] 3 #[zI x,zI y]).run Tryz.prog w = .ok (zI m) w:=by
 subst h;unfold Builtin.min_;by_cases h:y<x
 ·rw [show min x y=y by omega];simp [Builtin.min2,go_sem];omega
 ·rw [show min x y=x by omega];simp [Builtin.min2,go_sem];omega
theorem pwithin (lo hi n:Int) (w:World):Calls Tryz.prog 113 #[zI lo,zI hi,zI n] w fun e w'=>e = .returned (.bool (decide (lo≤n∧n≤hi)))∧w'=w:=by
 by_cases h1:lo≤n
 ·by_cases h2:n≤hi
  ·have h3:decide (lo≤n∧n≤hi)=true:=by simp;omega
   rw [h3];clear h3;go_enter Tryz.func113,Tryz.ntmps113;go_wp2;go_ret;exact ⟨rfl,rfl⟩
  ·have h3:decide (lo≤n∧n≤hi)=false:=by simp;omega
   have h4:decide (n≤hi)=false:=by simp;omega
   rw [h3];clear h3 h2;go_enter Tryz.func113,Tryz.ntmps113;go_wp2;go_ret;exact ⟨rfl,rfl⟩
 ·have h3:decide (lo≤n∧n≤hi)=false:=by simp;omega
  have h4:decide (lo≤n)=false:=by simp;omega
  rw [h3];clear h3 h1;go_enter Tryz.func113,Tryz.ntmps113;go_wp2;go_ret;exact ⟨rfl,rfl⟩
end tar
namespace book
open Go.RowKit cell
def EncGot (w:World) (v:Ev) (e:Ending) (w':World):Prop:=∃ a n cap ws f,e = .returned (.tuple #[.slice a n cap,zI f])∧EncIs v ws f∧RowU w' a n ws∧(a=none→cap=0)∧n≤cap∧n≤13∧Below w.heap.size w w'
def KEnc:Prop:=∀ (W:World) (v:Ev),wf13 v→Calls Tryz.prog 107 #[v.v] W fun e w'=>EncGot W v e w'
end book
end Go.Proofs.YtnpblpbohcegoaaGreatDoor
