import Derived.Test.YtnpblpbohcegoaaGreatDoorVBGws3
set_option linter.unusedVariables false
set_option linter.unusedSimpArgs false
set_option maxHeartbeats 4000000
set_option maxRecDepth 100000
namespace Go.Proofs.YtnpblpbohcegoaaGreatDoor
section
open Go.RowKit
theorem shN {w w':World} {G:Nat} {cs:Array Value} {t:TypeId} (h:Hid (Blk w G cs t)) (hb:Below w.heap.size w w'):Hid (Blk w' G cs t):=h.o.next hb
theorem shK {w W:World} {g G:Nat} {cs cs':Array Value} {t t':TypeId} (hU:Upd w W g cs t) (h:Hid (Blk w G cs' t')) (hne:G≠g):Hid (Blk W G cs' t'):=hU.keep h.o hne
theorem shB {w0 w w':World} (h:Hid (Below w0.heap.size w0 w)) (hb:Below w.heap.size w w'):Hid (Below w0.heap.size w0 w'):=bel_step h.o hb
theorem shV {w W:World} {g:Nat} {cs:Array Value} {t:TypeId} {B:Nat} {w0:World} (hU:Upd w W g cs t) (h:Hid (Below B w0 w)) (hB:B≤g):Hid (Below B w0 W):=hU.bel B w0 hB h.o
theorem sh1 (w:World) (c0:Array Value) (t0:TypeId):∃ W,Hid ((w.alloc (.cells c0 t0))=W)∧Hid (Blk W (w.heap.size) c0 t0)∧Hid (Below w.heap.size w W)∧w.heap.size<W.heap.size:=by
 refine ⟨_,rfl,?_,?_,?_⟩
 ·have h:=Blk.new w c0 t0;exact h
 ·exact (Below.refl w.heap.size w).alloc (by simp) _
 ·simp
theorem sh2 (w:World) (c0:Array Value) (t0:TypeId) (c1:Array Value) (t1:TypeId):∃ W,Hid (((w.alloc (.cells c0 t0)).alloc (.cells c1 t1))=W)∧Hid (Blk W (w.heap.size) c0 t0)∧Hid (Blk W (w.heap.size+1) c1 t1)∧Hid (Below w.heap.size w W)∧w.heap.size+1<W.heap.size:=by
 refine ⟨_,rfl,?_,?_,?_,?_⟩
 ·have h:=Blk.new w c0 t0;exact (h.alloc _)
 ·have h:=Blk.new (w.alloc (.cells c0 t0)) c1 t1;rw [show (w.alloc (.cells c0 t0)).heap.size=w.heap.size+1 by simp] at h;exact h
 ·exact ((Below.refl w.heap.size w).alloc (by simp) _).alloc (by simp) _
 ·simp
theorem sh3 (w:World) (c0:Array Value) (t0:TypeId) (c1:Array Value) (t1:TypeId) (c2:Array Value) (t2:TypeId):∃ W,Hid ((((w.alloc (.cells c0 t0)).alloc (.cells c1 t1)).alloc (.cells c2 t2))=W)∧Hid (Blk W (w.heap.size) c0 t0)∧Hid (Blk W (w.heap.size+1) c1 t1)∧Hid (Blk W (w.heap.size+1+1) c2 t2)∧Hid (Below w.heap.size w W)∧w.heap.size+1+1<W.heap.size:=by
 refine ⟨_,rfl,?_,?_,?_,?_,?_⟩
 ·have h:=Blk.new w c0 t0;exact ((h.alloc _).alloc _)
 ·have h:=Blk.new (w.alloc (.cells c0 t0)) c1 t1;rw [show (w.alloc (.cells c0 t0)).heap.size=w.heap.size+1 by simp] at h;exact (h.alloc _)
 ·have h:=Blk.new ((w.alloc (.cells c0 t0)).alloc (.cells c1 t1)) c2 t2;rw [show ((w.alloc (.cells c0 t0)).alloc (.cells c1 t1)).heap.size=w.heap.size+1+1 by simp] at h;exact h
 ·exact (((Below.refl w.heap.size w).alloc (by simp) _).alloc (by simp) _).alloc (by simp;omega) _
 ·simp
theorem sh4 (w:World) (c0:Array Value) (t0:TypeId) (c1:Array Value) (t1:TypeId) (c2:Array Value) (t2:TypeId) (c3:Array Value) (t3:TypeId):∃ W,Hid (((((w.alloc (.cells c0 t0)).alloc (.cells c1 t1)).alloc (.cells c2 t2)).alloc (.cells c3 t3))=W)∧Hid (Blk W (w.heap.size) c0 t0)∧Hid (Blk W (w.heap.size+1) c1 t1)∧Hid (Blk W (w.heap.size+1+1) c2 t2)∧Hid (Blk W (w.heap.size+1+1+1) c3 t3)∧Hid (Below w.heap.size w W)∧w.heap.size+1+1+1<W.heap.size:=by
 refine ⟨_,rfl,?_,?_,?_,?_,?_,?_⟩
 ·have h:=Blk.new w c0 t0;exact (((h.alloc _).alloc _).alloc _)
 ·have h:=Blk.new (w.alloc (.cells c0 t0)) c1 t1;rw [show (w.alloc (.cells c0 t0)).heap.size=w.heap.size+1 by simp] at h;exact ((h.alloc _).alloc _)
 ·have h:=Blk.new ((w.alloc (.cells c0 t0)).alloc (.cells c1 t1)) c2 t2;rw [show ((w.alloc (.cells c0 t0)).alloc (.cells c1 t1)).heap.size=w.heap.size+1+1 by simp] at h;exact (h.alloc _)
 ·have h:=Blk.new (((w.alloc (.cells c0 t0)).alloc (.cells c1 t1)).alloc (.cells c2 t2)) c3 t3;rw [show (((w.alloc (.cells c0 t0)).alloc (.cells c1 t1)).alloc (.cells c2 t2)).heap.size=w.heap.size+1+1+1 by simp] at h;exact h
 ·exact ((((Below.refl w.heap.size w).alloc (by simp) _).alloc (by simp) _).alloc (by simp;omega) _).alloc (by simp;omega) _
 ·simp
theorem sh5 (w:World) (c0:Array Value) (t0:TypeId) (c1:Array Value) (t1:TypeId) (c2:Array Value) (t2:TypeId) (c3:Array Value) (t3:TypeId) (c4:Array Value) (t4:TypeId):∃ W,Hid ((((((w.alloc (.cells c0 t0)).alloc (.cells c1 t1)).alloc (.cells c2 t2)).alloc (.cells c3 t3)).alloc (.cells c4 t4))=W)∧Hid (Blk W (w.heap.size) c0 t0)∧Hid (Blk W (w.heap.size+1) c1 t1)∧Hid (Blk W (w.heap.size+1+1) c2 t2)∧Hid (Blk W (w.heap.size+1+1+1) c3 t3)∧Hid (Blk W (w.heap.size+1+1+1+1) c4 t4)∧Hid (Below w.heap.size w W)∧w.heap.size+1+1+1+1<W.heap.size:=by
 refine ⟨_,rfl,?_,?_,?_,?_,?_,?_,?_⟩
 ·have h:=Blk.new w c0 t0;exact ((((h.alloc _).alloc _).alloc _).alloc _)
 ·have h:=Blk.new (w.alloc (.cells c0 t0)) c1 t1;rw [show (w.alloc (.cells c0 t0)).heap.size=w.heap.size+1 by simp] at h;exact (((h.alloc _).alloc _).alloc _)
 ·have h:=Blk.new ((w.alloc (.cells c0 t0)).alloc (.cells c1 t1)) c2 t2;rw [show ((w.alloc (.cells c0 t0)).alloc (.cells c1 t1)).heap.size=w.heap.size+1+1 by simp] at h;exact ((h.alloc _).alloc _)
 ·have h:=Blk.new (((w.alloc (.cells c0 t0)).alloc (.cells c1 t1)).alloc (.cells c2 t2)) c3 t3;rw [show (((w.alloc (.cells c0 t0)).alloc (.cells c1 t1)).alloc (.cells c2 t2)).heap.size=w.heap.size+1+1+1 by simp] at h;exact (h.alloc _)
 ·have h:=Blk.new ((((w.alloc (.cells c0 t0)).alloc (.cells c1 t1)).alloc (.cells c2 t2)).alloc (.cells c3 t3)) c4 t4;rw [show ((((w.alloc (.cells c0 t0)).alloc (.cells c1 t1)).alloc (.cells c2 t2)).alloc (.cells c3 t3)).heap.size=w.heap.size+1+1+1+1 by simp] at h;exact h
 ·exact (((((Below.refl w.heap.size w).alloc (by simp) _).alloc (by simp) _).alloc (by simp;omega) _).alloc (by simp;omega) _).alloc (by simp;omega) _
 ·simp
theorem shc3 {w:World} {G:Nat} {a0 a1 a2:Value} {t:TypeId} (h:Hid (Blk w G #[a0,a1,a2] t)):Hid (w.cell? ⟨G,0,none⟩=some a0)∧Hid (w.cell? ⟨G,1,none⟩=some a1)∧Hid (w.cell? ⟨G,2,none⟩=some a2):=⟨h.o.cell 0,h.o.cell 1,h.o.cell 2⟩
theorem shc4 {w:World} {G:Nat} {a0 a1 a2 a3:Value} {t:TypeId} (h:Hid (Blk w G #[a0,a1,a2,a3] t)):Hid (w.cell? ⟨G,0,none⟩=some a0)∧Hid (w.cell? ⟨G,1,none⟩=some a1)∧Hid (w.cell? ⟨G,2,none⟩=some a2)∧Hid (w.cell? ⟨G,3,none⟩=some a3):=⟨h.o.cell 0,h.o.cell 1,h.o.cell 2,h.o.cell 3⟩
theorem scl5 {w:World} {G:Nat} {a0 a1 a2 a3 a4:Value} {t:TypeId} (h:Hid (Blk w G #[a0,a1,a2,a3,a4] t)):w.cell? ⟨G,0,none⟩=some a0∧w.cell? ⟨G,1,none⟩=some a1∧w.cell? ⟨G,2,none⟩=some a2∧w.cell? ⟨G,3,none⟩=some a3∧w.cell? ⟨G,4,none⟩=some a4:=⟨h.o.cell 0,h.o.cell 1,h.o.cell 2,h.o.cell 3,h.o.cell 4⟩
theorem shc5 {w:World} {G:Nat} {a0 a1 a2 a3 a4:Value} {t:TypeId} (h:Hid (Blk w G #[a0,a1,a2,a3,a4] t)):Hid (w.cell? ⟨G,0,none⟩=some a0)∧Hid (w.cell? ⟨G,1,none⟩=some a1)∧Hid (w.cell? ⟨G,2,none⟩=some a2)∧Hid (w.cell? ⟨G,3,none⟩=some a3)∧Hid (w.cell? ⟨G,4,none⟩=some a4):=⟨h.o.cell 0,h.o.cell 1,h.o.cell 2,h.o.cell 3,h.o.cell 4⟩
theorem scl7 {w:World} {G:Nat} {a0 a1 a2 a3 a4 a5 a6:Value} {t:TypeId} (h:Hid (Blk w G #[a0,a1,a2,a3,a4,a5,a6] t)):w.cell? ⟨G,0,none⟩=some a0∧w.cell? ⟨G,1,none⟩=some a1∧w.cell? ⟨G,2,none⟩=some a2∧w.cell? ⟨G,3,none⟩=some a3∧w.cell? ⟨G,4,none⟩=some a4∧w.cell? ⟨G,5,none⟩=some a5∧w.cell? ⟨G,6,none⟩=some a6:=⟨h.o.cell 0,h.o.cell 1,h.o.cell 2,h.o.cell 3,h.o.cell 4,h.o.cell 5,h.o.cell 6⟩
theorem shc7 {w:World} {G:Nat} {a0 a1 a2 a3 a4 a5 a6:Value} {t:TypeId} (h:Hid (Blk w G #[a0,a1,a2,a3,a4,a5,a6] t)):Hid (w.cell? ⟨G,0,none⟩=some a0)∧Hid (w.cell? ⟨G,1,none⟩=some a1)∧Hid (w.cell? ⟨G,2,none⟩=some a2)∧Hid (w.cell? ⟨G,3,none⟩=some a3)∧Hid (w.cell? ⟨G,4,none⟩=some a4)∧Hid (w.cell? ⟨G,5,none⟩=some a5)∧Hid (w.cell? ⟨G,6,none⟩=some a6):=⟨h.o.cell 0,h.o.cell 1,h.o.cell 2,h.o.cell 3,h.o.cell 4,h.o.cell 5,h.o.cell 6⟩
theorem scl8 {w:World} {G:Nat} {a0 a1 a2 a3 a4 a5 a6 a7:Value} {t:TypeId} (h:Hid (Blk w G #[a0,a1,a2,a3,a4,a5,a6,a7] t)):w.cell? ⟨G,0,none⟩=some a0∧w.cell? ⟨G,1,none⟩=some a1∧w.cell? ⟨G,2,none⟩=some a2∧w.cell? ⟨G,3,none⟩=some a3∧w.cell? ⟨G,4,none⟩=some a4∧w.cell? ⟨G,5,none⟩=some a5∧w.cell? ⟨G,6,none⟩=some a6∧w.cell? ⟨G,7,none⟩=some a7:=⟨h.o.cell 0,h.o.cell 1,h.o.cell 2,h.o.cell 3,h.o.cell 4,h.o.cell 5,h.o.cell 6,h.o.cell 7⟩
theorem shc8 {w:World} {G:Nat} {a0 a1 a2 a3 a4 a5 a6 a7:Value} {t:TypeId} (h:Hid (Blk w G #[a0,a1,a2,a3,a4,a5,a6,a7] t)):Hid (w.cell? ⟨G,0,none⟩=some a0)∧Hid (w.cell? ⟨G,1,none⟩=some a1)∧Hid (w.cell? ⟨G,2,none⟩=some a2)∧Hid (w.cell? ⟨G,3,none⟩=some a3)∧Hid (w.cell? ⟨G,4,none⟩=some a4)∧Hid (w.cell? ⟨G,5,none⟩=some a5)∧Hid (w.cell? ⟨G,6,none⟩=some a6)∧Hid (w.cell? ⟨G,7,none⟩=some a7):=⟨h.o.cell 0,h.o.cell 1,h.o.cell 2,h.o.cell 3,h.o.cell 4,h.o.cell 5,h.o.cell 6,h.o.cell 7⟩
theorem shc9 {w:World} {G:Nat} {a0 a1 a2 a3 a4 a5 a6 a7 a8:Value} {t:TypeId} (h:Hid (Blk w G #[a0,a1,a2,a3,a4,a5,a6,a7,a8] t)):Hid (w.cell? ⟨G,0,none⟩=some a0)∧Hid (w.cell? ⟨G,1,none⟩=some a1)∧Hid (w.cell? ⟨G,2,none⟩=some a2)∧Hid (w.cell? ⟨G,3,none⟩=some a3)∧Hid (w.cell? ⟨G,4,none⟩=some a4)∧Hid (w.cell? ⟨G,5,none⟩=some a5)∧Hid (w.cell? ⟨G,6,none⟩=some a6)∧Hid (w.cell? ⟨G,7,none⟩=some a7)∧Hid (w.cell? ⟨G,8,none⟩=some a8):=⟨h.o.cell 0,h.o.cell 1,h.o.cell 2,h.o.cell 3,h.o.cell 4,h.o.cell 5,h.o.cell 6,h.o.cell 7,h.o.cell 8⟩
theorem scl13 {w:World} {G:Nat} {a0 a1 a2 a3 a4 a5 a6 a7 a8 a9 a10 a11 a12:Value} {t:TypeId} (h:Hid (Blk w G #[a0,a1,a2,a3,a4,a5,a6,a7,a8,a9,a10,a11,a12] t)):w.cell? ⟨G,0,none⟩=some a0∧w.cell? ⟨G,1,none⟩=some a1∧w.cell? ⟨G,2,none⟩=some a2∧w.cell? ⟨G,3,none⟩=some a3∧w.cell? ⟨G,4,none⟩=some a4∧w.cell? ⟨G,5,none⟩=some a5∧w.cell? ⟨G,6,none⟩=some a6∧w.cell? ⟨G,7,none⟩=some a7∧w.cell? ⟨G,8,none⟩=some a8∧w.cell? ⟨G,9,none⟩=some a9∧w.cell? ⟨G,10,none⟩=some a10∧w.cell? ⟨G,11,none⟩=some a11∧w.cell? ⟨G,12,none⟩=some a12:=⟨h.o.cell 0,h.o.cell 1,h.o.cell 2,h.o.cell 3,h.o.cell 4,h.o.cell 5,h.o.cell 6,h.o.cell 7,h.o.cell 8,h.o.cell 9,h.o.cell 10,h.o.cell 11,h.o.cell 12⟩
end
namespace acc
open tar (Du du0 Right MostOf cost)
open deb (sumD recK ageAll)
structure Ac where
 me:Int
 rv:Int
 nx:Int
 mo:Int
 bo:Int
 fr:Int
 ds:List Du
def ac0:Ac:=⟨0,0,0,0,0,0,[]⟩
structure Tm where
 ts:List Du
 ff:Int
 fb:Int
 db:Int
 al:Int
structure Bi where
 id:Int
 te:Int
 de:Int
 fe:Int
 pr:Int
 ch:Int
 un:Int
def bi0:Bi:=⟨0,0,0,0,0,0,0⟩
def AMay (a:Ac):Prop:=deb.Mays a.ds∧(0≤a.me∧a.me≤49)∧(0≤a.rv∧a.rv≤15)∧(1≤a.nx∧a.nx≤1048576)∧(0≤a.mo∧a.mo≤2399)∧(0≤a.bo∧a.bo≤10000000)∧-1≤a.fr∧a.fr≤a.mo
def TOk (t:Tm):Prop:=(0≤t.ff∧t.ff≤100000)∧(0≤t.fb∧t.fb≤10000)∧(0≤t.db∧t.db≤10000)∧0≤t.al∧t.al≤2097151
def TRight (t:Tm):Prop:=Right t.ts∧TOk t
def TFault (t:Tm) (e:Int):Prop:=(¬ Right t.ts∧tar.FaultIs t.ts e)∨(Right t.ts∧¬ TOk t∧e=2)∨(TRight t∧e=0)
theorem TFault.one {t:Tm} {e f:Int} (h:TFault t e) (h':TFault t f):e=f:=by
 rcases h with ⟨a,b⟩ | ⟨a,b,rfl⟩ | ⟨⟨a,b⟩,rfl⟩ <;> rcases h' with ⟨a',b'⟩ | ⟨a',b',rfl⟩ | ⟨⟨a',b'⟩,rfl⟩ <;> first | rfl | exact b.one b' | contradiction
theorem TFault.ok {t:Tm} {e:Int} (h:TFault t e):e=0↔TRight t:=by
 rcases h with ⟨a,b⟩ | ⟨a,b,rfl⟩ | ⟨h,rfl⟩
 ·exact ⟨fun h=>absurd (b.ok.1 h) a,fun h=>absurd h.1 a⟩
 ·exact ⟨fun h=>absurd h (by decide),fun h=>absurd h.2 b⟩
 ·exact ⟨fun _=>h,fun _=>rfl⟩
def OpenIs (m:Int) (b:Ac) (e:Int):Prop:=((0≤m∧m≤49)∧b=⟨m,0,1,0,0,-1,[]⟩∧e=0)∨(¬ (0≤m∧m≤49)∧b=ac0∧e=2)
theorem OpenIs.one {m e e':Int} {b b':Ac} (h:OpenIs m b e) (h':OpenIs m b' e'):b=b'∧e=e':=by
 rcases h with ⟨a,rfl,rfl⟩ | ⟨a,rfl,rfl⟩ <;> rcases h' with ⟨a',rfl,rfl⟩ | ⟨a',rfl,rfl⟩ <;> first | exact ⟨rfl,rfl⟩ | contradiction
def rolled (a:Ac) (m:Int):Ac:=if m=a.mo then a else ⟨a.me,a.rv,a.nx,m,0,a.fr,ageAll a.ds (m - a.mo).toNat⟩
def RMay (a:Ac) (m:Int):Prop:=(0≤m∧m≤2399)∧a.mo≤m
def RErr (a:Ac) (m e:Int):Prop:=(¬ (0≤m∧m≤2399)∧e=2)∨((0≤m∧m≤2399)∧m<a.mo∧e=23)
theorem RErr.one {a:Ac} {m e f:Int} (h:RErr a m e) (h':RErr a m f):e=f:=by
 rcases h with ⟨p,rfl⟩ | ⟨p,q,rfl⟩ <;> rcases h' with ⟨p',rfl⟩ | ⟨p',q',rfl⟩ <;> first | rfl | contradiction
theorem RErr.ne {a:Ac} {m e:Int} (h:RErr a m e):e≠0:=by rcases h with ⟨_,rfl⟩ | ⟨_,_,rfl⟩ <;> decide
theorem rolled_may {a:Ac} {m:Int} (h:AMay a) (hr:RMay a m):AMay (rolled a m):=by
 obtain ⟨h1,h2,h3,h4,h5,h6,h7⟩:=h;obtain ⟨⟨r1,r2⟩,r3⟩:=hr;unfold rolled;by_cases e:m=a.mo
 ·rw [if_pos e];exact ⟨h1,h2,h3,h4,h5,h6,h7⟩
 ·rw [if_neg e];exact ⟨deb.ageAll_mays h1 _,h2,h3,h4,⟨r1,r2⟩,⟨(by decide:(0:Int)≤0),(by decide:(0:Int)≤10000000)⟩,h7.1,by show a.fr≤m;omega⟩
theorem rolled_same (a:Ac) (m:Int):(rolled a m).me=a.me∧(rolled a m).rv=a.rv∧(rolled a m).nx=a.nx∧(rolled a m).mo=m∧(rolled a m).fr=a.fr:=by
 unfold rolled;by_cases e:m=a.mo
 ·rw [if_pos e];exact ⟨rfl,rfl,rfl,e.symm,rfl⟩
 ·rw [if_neg e];exact ⟨rfl,rfl,rfl,rfl,rfl⟩
def share (t:Tm) (te:Int):Int:=te*t.db / 10000
def paid (a:Ac) (t:Tm) (te m:Int):Int:=min (share t te) (sumD (rolled a m).ds)
def fee (t:Tm) (te:Int):Int:=t.ff+te*t.fb / 10000
def rest (a:Ac) (t:Tm) (te m:Int):Int:=te - paid a t te m - fee t te
def Ready (a:Ac) (t:Tm) (m:Int):Prop:=AMay a∧TRight t∧RMay a m
def Refused (a:Ac) (t:Tm) (m e:Int):Prop:=(¬ AMay a∧e=5)∨(AMay a∧¬ TRight t∧TFault t e)∨(AMay a∧TRight t∧¬ RMay a m∧RErr a m e)
theorem Refused.one {a:Ac} {t:Tm} {m e f:Int} (h:Refused a t m e) (h':Refused a t m f):e=f:=by
 rcases h with ⟨p,rfl⟩ | ⟨p,q,r⟩ | ⟨p,q,r,s⟩ <;> rcases h' with ⟨p',rfl⟩ | ⟨p',q',r'⟩ | ⟨p',q',r',s'⟩ <;> first | rfl | exact r.one r' | exact s.one s' | contradiction
theorem Refused.not {a:Ac} {t:Tm} {m e:Int} (h:Refused a t m e):¬ Ready a t m:=fun hr=>by
 rcases h with ⟨p,_⟩ | ⟨_,q,_⟩ | ⟨_,_,r,_⟩
 ·exact p hr.1
 ·exact q hr.2.1
 ·exact r hr.2.2
def TenOk (a:Ac) (t:Tm) (te m:Int):Prop:=(1≤te∧te≤100000000)∧0≤rest a t te m∧¬ MostOf t.ts (rolled a m).bo (rest a t te m) 0
def sold (a:Ac) (t:Tm) (te m u:Int):Ac:=⟨a.me,a.rv,a.nx+1,m,(rolled a m).bo+u,a.fr,recK (rolled a m).ds (share t te) (rolled a m).ds.length⟩
def bill (a:Ac) (t:Tm) (te m u:Int):Bi:=⟨a.nx,te,paid a t te m,fee t te,cost t.ts (rolled a m).bo ((rolled a m).bo+u),rest a t te m - cost t.ts (rolled a m).bo ((rolled a m).bo+u),u⟩
def SellIs (a:Ac) (t:Tm) (te m:Int) (b:Ac) (l:Bi) (e:Int):Prop:=
 (Refused a t m e∧b=ac0∧l=bi0)∨(Ready a t m∧¬ TenOk a t te m∧e=19∧b=ac0∧l=bi0)∨(Ready a t m∧TenOk a t te m∧¬ a.nx≤1048575∧e=20∧b=ac0∧l=bi0)∨(Ready a t m∧TenOk a t te m∧a.nx≤1048575∧e=0∧∃ u,MostOf t.ts (rolled a m).bo (rest a t te m) u∧b=sold a t te m u∧l=bill a t te m u)
theorem SellIs.one {a:Ac} {t:Tm} {te m e e':Int} {b b':Ac} {l l':Bi} (h:SellIs a t te m b l e) (h':SellIs a t te m b' l' e'):b=b'∧l=l'∧e=e':=by
 rcases h with ⟨p,rfl,rfl⟩ | ⟨p,q,rfl,rfl,rfl⟩ | ⟨p,q,r,rfl,rfl,rfl⟩ | ⟨p,q,r,rfl,u,hu,rfl,rfl⟩ <;> rcases h' with ⟨p',rfl,rfl⟩ | ⟨p',q',rfl,rfl,rfl⟩ | ⟨p',q',r',rfl,rfl,rfl⟩ | ⟨p',q',r',rfl,u',hu',rfl,rfl⟩ <;> first | exact ⟨rfl,rfl,rfl⟩ | exact ⟨rfl,rfl,p.one p'⟩ | exact absurd p' p.not | exact absurd p p'.not | contradiction | skip
 obtain rfl:=hu.one p.2.1.1 (rolled_may p.1 p.2.2).2.2.2.2.2.1.1 hu';exact ⟨rfl,rfl,rfl⟩
def granted (a:Ac) (m:Int):Ac:=⟨a.me,a.rv,a.nx+1,m,(rolled a m).bo,m,(rolled a m).ds⟩
def GrantIs (a:Ac) (t:Tm) (m:Int) (b:Ac) (l:Bi) (e:Int):Prop:=
 (Refused a t m e∧b=ac0∧l=bi0)∨(Ready a t m∧t.al=0∧e=22∧b=ac0∧l=bi0)∨(Ready a t m∧¬ t.al=0∧a.fr=m∧e=21∧b=ac0∧l=bi0)∨(Ready a t m∧¬ t.al=0∧¬ a.fr=m∧¬ a.nx≤1048575∧e=20∧b=ac0∧l=bi0)∨(Ready a t m∧¬ t.al=0∧¬ a.fr=m∧a.nx≤1048575∧e=0∧b=granted a m∧l=⟨a.nx,0,0,0,0,0,t.al⟩)
theorem GrantIs.one {a:Ac} {t:Tm} {m e e':Int} {b b':Ac} {l l':Bi} (h:GrantIs a t m b l e) (h':GrantIs a t m b' l' e'):b=b'∧l=l'∧e=e':=by
 rcases h with ⟨p,rfl,rfl⟩ | ⟨p,q,rfl,rfl,rfl⟩ | ⟨p,q,r,rfl,rfl,rfl⟩ | ⟨p,q,r,s,rfl,rfl,rfl⟩ | ⟨p,q,r,s,rfl,rfl,rfl⟩ <;> rcases h' with ⟨p',rfl,rfl⟩ | ⟨p',q',rfl,rfl,rfl⟩ | ⟨p',q',r',rfl,rfl,rfl⟩ | ⟨p',q',r',s',rfl,rfl,rfl⟩ | ⟨p',q',r',s',rfl,rfl,rfl⟩ <;> first | exact ⟨rfl,rfl,rfl⟩ | exact ⟨rfl,rfl,p.one p'⟩ | exact absurd p' p.not | exact absurd p p'.not | contradiction
def OweIs (a:Ac) (d:Du) (b:Ac) (e:Int):Prop:=
 (¬ AMay a∧b=ac0∧e=5)∨(AMay a∧¬ ((1≤d.a∧d.a≤1000000000)∧0≤d.b∧d.b≤10000)∧b=ac0∧e=2)∨(AMay a∧((1≤d.a∧d.a≤1000000000)∧0≤d.b∧d.b≤10000)∧¬ a.ds.length<8∧b=ac0∧e=16)∨(AMay a∧((1≤d.a∧d.a≤1000000000)∧0≤d.b∧d.b≤10000)∧a.ds.length<8∧b=⟨a.me,a.rv,a.nx,a.mo,a.bo,a.fr,a.ds++[d]⟩∧e=0)
theorem OweIs.one {a:Ac} {d:Du} {e e':Int} {b b':Ac} (h:OweIs a d b e) (h':OweIs a d b' e'):b=b'∧e=e':=by
 rcases h with ⟨p,rfl,rfl⟩ | ⟨p,q,rfl,rfl⟩ | ⟨p,q,r,rfl,rfl⟩ | ⟨p,q,r,rfl,rfl⟩ <;> rcases h' with ⟨p',rfl,rfl⟩ | ⟨p',q',rfl,rfl⟩ | ⟨p',q',r',rfl,rfl⟩ | ⟨p',q',r',rfl,rfl⟩ <;> first | exact ⟨rfl,rfl⟩ | contradiction
def RekeyIs (a:Ac) (b:Ac) (l:Bi) (e:Int):Prop:=
 (¬ AMay a∧b=ac0∧l=bi0∧e=5)∨(AMay a∧¬ a.rv<15∧b=ac0∧l=bi0∧e=24)∨(AMay a∧a.rv<15∧¬ a.nx≤1048575∧b=ac0∧l=bi0∧e=20)∨(AMay a∧a.rv<15∧a.nx≤1048575∧b=⟨a.me,a.rv+1,a.nx+1,a.mo,a.bo,a.fr,a.ds⟩∧l=⟨a.nx,0,0,0,0,0,0⟩∧e=0)
theorem RekeyIs.one {a:Ac} {e e':Int} {b b':Ac} {l l':Bi} (h:RekeyIs a b l e) (h':RekeyIs a b' l' e'):b=b'∧l=l'∧e=e':=by
 rcases h with ⟨p,rfl,rfl,rfl⟩ | ⟨p,q,rfl,rfl,rfl⟩ | ⟨p,q,r,rfl,rfl,rfl⟩ | ⟨p,q,r,rfl,rfl,rfl⟩ <;> rcases h' with ⟨p',rfl,rfl,rfl⟩ | ⟨p',q',rfl,rfl,rfl⟩ | ⟨p',q',r',rfl,rfl,rfl⟩ | ⟨p',q',r',rfl,rfl,rfl⟩ <;> first | exact ⟨rfl,rfl,rfl⟩ | contradiction
end acc
namespace tar
open Go.RowKit
def RowL (w:World) (a:Option Addr) (len:Nat) (ls:List Tr):Prop:=
 ls.length=len∧(len=0∨∃ b off,a=some ⟨b,off,none⟩∧∀ i,i<len→w.cell? ⟨b,off+i*3,none⟩=some (zI (ls.getD i tr0).a)∧w.cell? ⟨b,off+i*3+1,none⟩=some (zI (ls.getD i tr0).b)∧w.cell? ⟨b,off+i*3+2,none⟩=some (zI (ls.getD i tr0).c))
theorem RowL.at {w:World} {a:Option Addr} {n:Nat} {zs:List Tr} (h:RowL w a n zs) (h0:0<n):∃ b off,a=some ⟨b,off,none⟩∧b<w.heap.size∧∀ i,i<n→w.cell? ⟨b,off+i*3,none⟩=some (zI (zs.getD i tr0).a)∧w.cell? ⟨b,off+i*3+1,none⟩=some (zI (zs.getD i tr0).b)∧w.cell? ⟨b,off+i*3+2,none⟩=some (zI (zs.getD i tr0).c):=by
 rcases h.2 with h1 | ⟨b,off,rfl,hc⟩
 ·omega
 ·exact ⟨b,off,rfl,World.block_lt_of_cell? w _ (hc 0 h0).1,hc⟩
def ErrPost (w:World) (R:Int→Prop) (e:Ending) (w':World):Prop:=∃ f,e = .returned (zI f)∧R f∧Below w.heap.size w w'
def TwoPost (w:World) (R:Int→Int→Prop) (e:Ending) (w':World):Prop:=∃ p f,e = .returned (.tuple #[zI p,zI f])∧R p f∧Below w.heap.size w w'
def ThreePost (w:World) (R:Int→Int→Int→Prop) (e:Ending) (w':World):Prop:=∃ u p f,e = .returned (.tuple #[zI u,zI p,zI f])∧R u p f∧Below w.heap.size w w'
structure Came (w:World) (a:Option Addr) (len cap:Nat) (ls:List Du):Prop where
 row:RowD w a len ls
 nil:a=none→cap=0
 room:len≤cap
 bytes:len*16≤140737488351232
 wf:∀ x∈ls,(Lit.int .i64 x.a).wf=true∧(Lit.int .i64 x.b).wf=true
theorem Came.below {w w':World} {a:Option Addr} {len cap:Nat} {ls:List Du} (h:Came w a len cap ls) (hb:Below w.heap.size w w'):Came w' a len cap ls:=⟨h.row.below hb,h.nil,h.room,h.bytes,h.wf⟩
theorem Came.most {w:World} {a:Option Addr} {len cap:Nat} {ls:List Du} (h:Came w a len cap ls):len≤maxLen:=by have:=h.bytes;unfold maxLen;omega
theorem Ld.came {T:TypeId} {w:World} {base:Nat} {v:Value} {l:List Du} (h:Ld T w base v l) (hl:l.length*16≤140737488351232) (hw:∀ x∈l,(Lit.int .i64 x.a).wf=true∧(Lit.int .i64 x.b).wf=true):∃ a cap,v = .slice a l.length cap∧Came w a l.length cap l:=by
 obtain ⟨a,cap,hv,hr,hn,hc,_⟩:=h.row;exact ⟨a,cap,hv,hr,hn,hc,hl,hw⟩
theorem wf_mid {z:Int} (h0:0≤z) (h1:z≤4000000000000):(Lit.int .i64 z).wf=true:=by
 have h1:IntKind.i64.min≤z:=by
  have e:IntKind.i64.min=-9223372036854775808:=by decide
  omega
 have h2:z≤IntKind.i64.max:=by
  have e:IntKind.i64.max=9223372036854775807:=by decide
  omega
 show (decide (IntKind.i64.min≤z) && decide (z≤IntKind.i64.max))=true;rw [Bool.and_eq_true];exact ⟨decide_eq_true h1,decide_eq_true h2⟩
theorem MostIs.got {l:List Du} {x m u p e:Int} (h:MostIs l x m u p e) (hR:Right l) (hM:MayMost x m):e=0∧MostOf l x m u∧p=cost l x (x+u):=by
 rcases h with ⟨a,_⟩ | ⟨_,b,_⟩ | ⟨_,_,c,d⟩
 ·exact absurd hR a
 ·exact absurd hM b
 ·exact ⟨c,d⟩
end tar
namespace ora
structure Pr where
 m:Int
 r:Int
 b:Int
 t:Int
def pr0:Pr:=⟨0,0,0,0⟩
def Pr.key (p:Pr) (m r b:Int):Prop:=p.m=m∧p.r=r∧p.b=b
structure At (l:List Pr) (m r b:Int) (i:Nat):Prop where
 lt:i<l.length
 is:(l.getD i pr0).key m r b
 first:∀ j,j<i→¬ (l.getD j pr0).key m r b
def No (l:List Pr) (m r b:Int):Prop:=∀ j,j<l.length→¬ (l.getD j pr0).key m r b
def Pr.may (p:Pr):Prop:=(0≤p.m∧p.m≤49)∧(0≤p.r∧p.r≤15)∧(0≤p.b∧p.b≤8796093022207)∧(0≤p.t∧p.t≤65535)
structure May (l:List Pr):Prop where
 few:l.length≤500
 each:∀ i,i<l.length→(l.getD i pr0).may∧At l (l.getD i pr0).m (l.getD i pr0).r (l.getD i pr0).b i
theorem find_or (l:List Pr) (m r b:Int):(∃ i,At l m r b i)∨No l m r b:=by
 have key:∀ k,k≤l.length→(∃ i,At l m r b i)∨∀ j,j<k→¬ (l.getD j pr0).key m r b:=by
  intro k
  induction k with
  | zero=>intro _;exact .inr fun j hj=>absurd hj (Nat.not_lt_zero _)
  | succ k ih=>
   intro hk;rcases ih (by omega) with h | h
   ·exact .inl h
   ·by_cases hx:(l.getD k pr0).key m r b
    ·exact .inl ⟨k,hk,hx,h⟩
    ·refine .inr fun j hj=>?_;by_cases e:j=k
     ·subst e;exact hx
     ·exact h j (by omega)
 rcases key l.length (Nat.le_refl _) with h | h
 ·exact .inl h
 ·exact .inr h
def IssueIs (l:List Pr) (m r b d:Int) (ls:List Pr) (x c:Int):Prop:=
 (¬ May l∧ls=[]∧x=0∧c=5)∨(May l∧¬ (Pr.mk m r b d).may∧ls=[]∧x=0∧c=2) ∨
  (May l∧(Pr.mk m r b d).may∧(∃ i,At l m r b i∧x=(l.getD i pr0).t)∧ls=l∧c=0) ∨
  (May l∧(Pr.mk m r b d).may∧No l m r b∧l.length=500∧ls=[]∧x=0∧c=16) ∨
  (May l∧(Pr.mk m r b d).may∧No l m r b∧l.length<500∧ls=l++[⟨m,r,b,d⟩]∧x=d∧c=0)
end ora
namespace check
open Go.RowKit
def pick (n many:Int):Int:=(if n<0 then -(n+1) else n) % many
theorem pick_nonneg (n many:Int) (h:0<many):0≤pick n many:=Int.emod_nonneg _ (by omega)
theorem pick_lt (n many:Int) (h:0<many):pick n many<many:=Int.emod_lt_of_pos _ h
theorem picked_any (n many:Int) (w:World) (hn:(Lit.int .i64 n).wf=true) (hm:0<many) (hm':many≤4000000000000) :
  Calls Tryz.prog 18 #[zI n,zI many] w fun e w'=>e = .returned (zI (pick n many))∧w'=w:=by
 have hb:-9223372036854775808≤n∧n≤9223372036854775807:=bounds_i64 hn;obtain ⟨hb1,hb2⟩:=hb;by_cases h:n<0
 ·have e0:pick n many=(-(n+1)) % many:=by unfold pick;rw [if_pos h]
  rw [e0];go_enter Tryz.func18,Tryz.ntmps18;go_wp2;go_ret;exact ⟨by rw [← Int.neg_tmod,Int.tmod_eq_emod_of_nonneg (by omega)];rfl,rfl⟩
 ·have e0:pick n many=n % many:=by unfold pick;rw [if_neg h]
  rw [e0];go_enter Tryz.func18,Tryz.ntmps18;go_wp2;go_ret;exact ⟨rfl,rfl⟩
end check
section
open Go.RowKit
theorem wp_runOp {P:Program} {o:Oper} {a:Act} {w w':World} {v:Value} {K:Act→World→Prop} {Q:Exit→Act→World→Prop} (d:Nat) (hd:o.dst=some d) (hrun:(execOp a.eval o).run P w = .ok (.value v) w') (h:K (a.put (some d) v) w'):o.wp P a w K Q:=by
 rw [← hd] at h;unfold Oper.wp;rw [hrun,Oper.upon_value];exact h
theorem wp_callOp {P:Program} {o:Oper} {a:Act} {w:World} {f:FuncId} {args:Array Value} {R:Ending→World→Prop} {K:Act→World→Prop} {Q:Exit→Act→World→Prop} (d:Nat) (hd:o.dst=some d) (hrun:(execOp a.eval o).run P w = .ok (.enter f args) w) (hc:Calls P f args w R)
  (h:∀ e w',R e w'→∃ v,e = .returned v∧K (a.put (some d) v) w'):o.wp P a w K Q:=by
 rw [← hd] at h;unfold Oper.wp;rw [hrun,Oper.upon_enter];refine hc.mono fun e w' hr=>?_;obtain ⟨v,rfl,hk⟩:=h e w' hr;exact hk
end
namespace disk
open Go.RowKit
structure Sli where
 a:Option Addr
 n:Nat
 c:Nat
def Sli.v (s:Sli):Value:= .slice s.a s.n s.c
def sl0:Sli:=⟨none,0,0⟩
def cellsR (l:List Sli):List Value:=l.map Sli.v
theorem oneR (l:List Sli):∀ u∈cellsR l,u.oneCell'=true:=fun u hu=>by
 obtain ⟨s,_,rfl⟩:=List.mem_map.1 hu;rfl
def Lr (T:TypeId) (w:World) (base:Nat) (v:Value) (l:List Sli):Prop:=w.ownsRow base T 1 v l.length (cellsR l)
theorem Lr.zero (T:TypeId) (w:World) (base:Nat):Lr T w base (zS) []:=World.ownsRow_nil _ _ _ _
theorem Lr.next {T:TypeId} {w w':World} {base:Nat} {v:Value} {l:List Sli} (h:Lr T w base v l) (hb:Below w.heap.size w w'):Lr T w' base v l:=by
 refine ⟨h.1,?_⟩;rcases h.2 with hn | ⟨g,cap,cur,hv,hg,hc,rest⟩
 ·exact .inl hn
 ·exact .inr ⟨g,cap,cur,hv,hg,Blk.next hc hb,rest⟩
theorem Lr.row {T:TypeId} {w:World} {base:Nat} {v:Value} {l:List Sli} (h:Lr T w base v l) (h0:0<l.length):∃ g cap,v = .slice (some ⟨g,0,none⟩) l.length cap∧base≤g∧g<w.heap.size∧l.length≤cap∧∀ i,i<l.length→w.cell? ⟨g,i,none⟩=some (l.getD i sl0).v:=by
 rcases h.2 with ⟨hv,hn⟩ | ⟨g,cap,cur,hv,hg,hc,h1,_⟩
 ·omega
 ·subst hv;refine ⟨g,cap,rfl,hg,Blk.lt hc,h1,fun i hi=>?_⟩;have e1:=World.ownsRow.cellAt h i (by omega);rw [e1];simp [cellsR,List.getD,hi]
theorem Lr.len {T:TypeId} {w:World} {base:Nat} {v:Value} {l:List Sli} (h:Lr T w base v l):∃ a cap,v = .slice a l.length cap:=by
 rcases h.2 with ⟨hv,hn⟩ | ⟨g,cap,cur,hv,_⟩
 ·exact ⟨none,0,by rw [hn];exact hv⟩
 ·exact ⟨_,cap,hv⟩
structure SliT (P:Program) (T S:TypeId):Prop where
 info:(P.info? T).map (fun i=>(i.zero,i.size,i.bytes))=some (some (sl0.v),1,24)
 under:P.underlying S=some (.slice T)
def Recs (w:World) (own:Option Nat) (l:List Sli) (zs:List (List Int)):Prop:=l.length=zs.length∧∀ i,i<l.length→(∃ b off,(l.getD i sl0).a=some ⟨b,off,none⟩∧b<w.heap.size∧some b≠own)∧cell.RowU w (l.getD i sl0).a (l.getD i sl0).n (zs.getD i [])
theorem Recs.nil (w:World) (own:Option Nat):Recs w own [] []:=⟨rfl,fun i hi=>by cases hi⟩
theorem Recs.below {w w':World} {own:Option Nat} {l:List Sli} {zs:List (List Int)} (h:Recs w own l zs) (hb:Below w.heap.size w w'):Recs w' own l zs:=⟨h.1,fun i hi=>by
 obtain ⟨⟨b,off,h1,h2,h3⟩,h4⟩:=h.2 i hi
 exact ⟨⟨b,off,h1,Nat.lt_of_lt_of_le h2 hb.size,h3⟩,h4.below hb⟩⟩
theorem Recs.snoc {w:World} {own:Option Nat} {l:List Sli} {zs:List (List Int)} (h:Recs w own l zs) {s:Sli} {z:List Int} (hs:(∃ b off,s.a=some ⟨b,off,none⟩∧b<w.heap.size∧some b≠own)∧cell.RowU w s.a s.n z):Recs w own (l++[s]) (zs++[z]):=by
 refine ⟨by rw [List.length_append,List.length_append,h.1];rfl,fun i hi=>?_⟩;by_cases h1:i<l.length
 ·have e1:(l++[s]).getD i sl0=l.getD i sl0:=by simp [List.getD,List.getElem?_append_left h1]
  have e2:(zs++[z]).getD i []=zs.getD i []:=by simp [List.getD,List.getElem?_append_left (show i<zs.length from h.1 ▸ h1)]
  rw [e1,e2];exact h.2 i h1
 ·have hi':i=l.length:=by simp at hi;omega
  have e1:(l++[s]).getD i sl0=s:=by rw [hi'];simp [List.getD]
  have e2:(zs++[z]).getD i []=z:=by rw [hi',h.1];simp [List.getD]
  rw [e1,e2];exact hs
theorem Recs.grown {w w':World} {own own':Option Nat} {l:List Sli} {zs:List (List Int)} (h:Recs w own l zs) (hg:w.grownBy w' own) (ho:own'=own∨own'=some w.heap.size):Recs w' own' l zs:=⟨h.1,fun i hi=>by
 obtain ⟨⟨b,off,h1,h2,h3⟩,h4⟩:=h.2 i hi;have hb:=hg.block b h2 h3;refine ⟨⟨b,off,h1,Nat.lt_of_lt_of_le h2 hg.size,?_⟩,h4.1,?_⟩
 ·rcases ho with rfl | rfl
  ·exact h3
  ·intro e;have:=Option.some.inj e;omega
 ·rcases h4.2 with h0 | ⟨b',off',e,hc⟩
  ·exact .inl h0
  ·rw [h1] at e;have e1:=Option.some.inj e;have e2:b=b':=congrArg Addr.block e1;subst e2;refine .inr ⟨b,off',by rw [h1,e1],fun i hi=>?_⟩;rw [← hc i hi]
   simp [World.cell?,hb]⟩
open cell
def Reads (w:World) (a:Option Addr) (n:Nat) (zs:List (List Int)):Prop:=
 zs.length=n∧(n=0∨∃ b off,a=some ⟨b,off,none⟩∧b<w.heap.size∧∀ i,i<n→∃ s:Sli,w.cell? ⟨b,off+i,none⟩=some s.v∧RowU w s.a s.n (zs.getD i [])∧s.n≤100000)
def ReadsF (w:World) (base:Nat) (a:Option Addr) (n:Nat) (zs:List (List Int)):Prop:=
 zs.length=n∧(n=0∨∃ b off,a=some ⟨b,off,none⟩∧base≤b∧b<w.heap.size∧∀ i,i<n→∃ s:Sli,w.cell? ⟨b,off+i,none⟩=some s.v∧RowU w s.a s.n (zs.getD i [])∧(s.n≤100000∧s.n≤s.c∧(s.a=none→s.c=0))∧∀ x,s.a=some x→base≤x.block)
theorem ReadsF.reads {w:World} {base:Nat} {a:Option Addr} {n:Nat} {zs:List (List Int)} (h:ReadsF w base a n zs):Reads w a n zs:=by
 refine ⟨h.1,?_⟩;rcases h.2 with h0 | ⟨b,off,rfl,_,lb,hc⟩
 ·exact .inl h0
 ·exact .inr ⟨b,off,rfl,lb,fun i hi=>by obtain ⟨s,h1,h2,h3,_⟩:=hc i hi;exact ⟨s,h1,h2,h3.1⟩⟩
end disk
namespace words
theorem ofInt_nat (k a:Nat) (h:a<2 ^ k):(BitVec.ofInt k (a:Int)).toNat=a:=by
 rw [BitVec.ofInt_natCast,BitVec.toNat_ofNat];exact Nat.mod_eq_of_lt h
theorem wrap_u32 (n:Int):IntKind.u32.wrap n=n % 4294967296:=by simp [IntKind.wrap,IntKind.bits,IntKind.signed]
theorem or64 (a b:Nat) (ha:a<2 ^ 64) (hb:b<2 ^ 64):bits .or .u64 (a:Int) (b:Int)=((a ||| b:Nat):Int):=by
 have h:=Nat.or_lt_two_pow ha hb;show IntKind.u64.wrap ((BitVec.ofInt 64 (a:Int) ||| BitVec.ofInt 64 (b:Int)).toNat:Int)=_;rw [BitVec.toNat_or,ofInt_nat 64 a ha,ofInt_nat 64 b hb,IntKind.wrap_u64];omega
theorem and64 (a b:Nat) (ha:a<2 ^ 64) (hb:b<2 ^ 64):bits .and .u64 (a:Int) (b:Int)=((a &&& b:Nat):Int):=by
 have h:a &&& b<2 ^ 64:=Nat.and_lt_two_pow a hb;show IntKind.u64.wrap ((BitVec.ofInt 64 (a:Int) &&& BitVec.ofInt 64 (b:Int)).toNat:Int)=_;rw [BitVec.toNat_and,ofInt_nat 64 a ha,ofInt_nat 64 b hb,IntKind.wrap_u64];omega
theorem or32 (a b:Nat) (ha:a<2 ^ 32) (hb:b<2 ^ 32):bits .or .u32 (a:Int) (b:Int)=((a ||| b:Nat):Int):=by
 have h:=Nat.or_lt_two_pow ha hb;show IntKind.u32.wrap ((BitVec.ofInt 32 (a:Int) ||| BitVec.ofInt 32 (b:Int)).toNat:Int)=_;rw [BitVec.toNat_or,ofInt_nat 32 a ha,ofInt_nat 32 b hb,wrap_u32];omega
theorem andNot32 (a b:Nat) (ha:a<2 ^ 32) (hb:b<2 ^ 32):bits .andNot .u32 (a:Int) (b:Int)=((a &&& (2 ^ 32 - 1 - b):Nat):Int):=by
 have h:a &&& (2 ^ 32 - 1 - b)<2 ^ 32:=Nat.and_lt_two_pow a (by omega);show IntKind.u32.wrap ((BitVec.ofInt 32 (a:Int) &&& ~~~ BitVec.ofInt 32 (b:Int)).toNat:Int)=_;rw [BitVec.toNat_and,BitVec.toNat_not,ofInt_nat 32 a ha,ofInt_nat 32 b hb,wrap_u32];omega
theorem or_words (n x:Int) (n0:0≤n) (n1:n<4294967296) (x0:0≤x) (x1:x<4294967296):bits .or .u64 (n*4294967296) x=n*4294967296+x:=by
 obtain ⟨p,rfl⟩:=Int.eq_ofNat_of_zero_le n0;obtain ⟨q,rfl⟩:=Int.eq_ofNat_of_zero_le x0;have e:((p:Int)*4294967296)=((p*4294967296:Nat):Int):=by simp
 rw [e,or64 _ _ (by omega) (by omega)];have h:=Nat.shiftLeft_add_eq_or_of_lt (show q<2 ^ 32 by omega) p;rw [Nat.shiftLeft_eq] at h;have h2:p*4294967296 ||| q=p*4294967296+q:=h.symm
 rw [h2];simp
end words
end Go.Proofs.YtnpblpbohcegoaaGreatDoor
