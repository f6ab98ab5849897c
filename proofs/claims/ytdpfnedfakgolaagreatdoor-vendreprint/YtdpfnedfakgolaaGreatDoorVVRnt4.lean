import Derived.Test.YtdpfnedfakgolaaGreatDoorVVRnt2
import Derived.Test.YtdpfnedfakgolaaGreatDoorVVRnt3
set_option linter.unusedVariables false
set_option linter.unusedSimpArgs false
set_option maxHeartbeats 4000000
set_option maxRecDepth 100000
namespace Go.Proofs.YtdpfnedfakgolaaGreatDoor
section
open Go.RowKit
theorem shN {w w':World} {G:Nat} {cs:Array Value} {t:TypeId} (h:Hid (Blk w G cs t)) (hb:Below w.heap.size w w'):Hid (Blk w' G cs t):=h.o.next hb
theorem shK {w W:World} {g G:Nat} {cs cs':Array Value} {t t':TypeId} (hU:Upd w W g cs t) (h:Hid (Blk w G cs' t')) (hne:G≠g):Hid (Blk W G cs' t'):=hU.keep h.o hne
theorem shB {w0 w w':World} (h:Hid (Below w0.heap.size w0 w)) (hb:Below w.heap.size w w'):Hid (Below w0.heap.size w0 w'):=bel_step h.o hb
theorem shV {w W:World} {g:Nat} {cs:Array Value} {t:TypeId} {B:Nat} {w0:World} (hU:Upd w W g cs t) (h:Hid (Below B w0 w)) (hB:B≤g):Hid (Below B w0 W):=hU.bel B w0 hB h.o
theorem sh1 (w:World) (c0:Array Value) (t0:TypeId):∃ W,Hid ((w.alloc (.cells c0 t0))=W)∧Hid (Blk W (w.heap.size) c0 t0)∧Hid (Below w.heap.size w W)∧w.heap.size<W.heap.size:=by
 refine ⟨_,rfl,?_,?_,?_⟩
 ·have h:=Blk.new w c0 t0;exact h
 ·exact (Below.refl w.heap.size w).alloc (by simp) _
 ·simp
theorem sh2 (w:World) (c0:Array Value) (t0:TypeId) (c1:Array Value) (t1:TypeId):∃ W,Hid (((w.alloc (.cells c0 t0)).alloc (.cells c1 t1))=W)∧Hid (Blk W (w.heap.size) c0 t0)∧Hid (Blk W (w.heap.size+1) c1 t1)∧Hid (Below w.heap.size w W)∧w.heap.size+1<W.heap.size:=by
 refine ⟨_,rfl,?_,?_,?_,?_⟩
 ·have h:=Blk.new w c0 t0;exact (h.alloc _)
 ·have h:=Blk.new (w.alloc (.cells c0 t0)) c1 t1;rw [show (w.alloc (.cells c0 t0)).heap.size=w.heap.size+1 by simp] at h;exact h
 ·exact ((Below.refl w.heap.size w).alloc (by simp) _).alloc (by simp) _
 ·simp
theorem sh3 (w:World) (c0:Array Value) (t0:TypeId) (c1:Array Value) (t1:TypeId) (c2:Array Value) (t2:TypeId):∃ W,Hid ((((w.alloc (.cells c0 t0)).alloc (.cells c1 t1)).alloc (.cells c2 t2))=W)∧Hid (Blk W (w.heap.size) c0 t0)∧Hid (Blk W (w.heap.size+1) c1 t1)∧Hid (Blk W (w.heap.size+1+1) c2 t2)∧Hid (Below w.heap.size w W)∧w.heap.size+1+1<W.heap.size:=by
 refine ⟨_,rfl,?_,?_,?_,?_,?_⟩
 ·have h:=Blk.new w c0 t0;exact ((h.alloc _).alloc _)
 ·have h:=Blk.new (w.alloc (.cells c0 t0)) c1 t1;rw [show (w.alloc (.cells c0 t0)).heap.size=w.heap.size+1 by simp] at h;exact (h.alloc _)
 ·have h:=Blk.new ((w.alloc (.cells c0 t0)).alloc (.cells c1 t1)) c2 t2;rw [show ((w.alloc (.cells c0 t0)).alloc (.cells c1 t1)).heap.size=w.heap.size+1+1 by simp] at h;exact h
 ·exact (((Below.refl w.heap.size w).alloc (by simp) _).alloc (by simp) _).alloc (by simp;omega) _
 ·simp
theorem sh4 (w:World) (c0:Array Value) (t0:TypeId) (c1:Array Value) (t1:TypeId) (c2:Array Value) (t2:TypeId) (c3:Array Value) (t3:TypeId):∃ W,Hid (((((w.alloc (.cells c0 t0)).alloc (.cells c1 t1)).alloc (.cells c2 t2)).alloc (.cells c3 t3))=W)∧Hid (Blk W (w.heap.size) c0 t0)∧Hid (Blk W (w.heap.size+1) c1 t1)∧Hid (Blk W (w.heap.size+1+1) c2 t2)∧Hid (Blk W (w.heap.size+1+1+1) c3 t3)∧Hid (Below w.heap.size w W)∧w.heap.size+1+1+1<W.heap.size:=by
 refine ⟨_,rfl,?_,?_,?_,?_,?_,?_⟩
 ·have h:=Blk.new w c0 t0;exact (((h.alloc _).alloc _).alloc _)
 ·have h:=Blk.new (w.alloc (.cells c0 t0)) c1 t1;rw [show (w.alloc (.cells c0 t0)).heap.size=w.heap.size+1 by simp] at h;exact ((h.alloc _).alloc _)
 ·have h:=Blk.new ((w.alloc (.cells c0 t0)).alloc (.cells c1 t1)) c2 t2;rw [show ((w.alloc (.cells c0 t0)).alloc (.cells c1 t1)).heap.size=w.heap.size+1+1 by simp] at h;exact (h.alloc _)
 ·have h:=Blk.new (((w.alloc (.cells c0 t0)).alloc (.cells c1 t1)).alloc (.cells c2 t2)) c3 t3;rw [show (((w.alloc (.cells c0 t0)).alloc (.cells c1 t1)).alloc (.cells c2 t2)).heap.size=w.heap.size+1+1+1 by simp] at h;exact h
 ·exact ((((Below.refl w.heap.size w).alloc (by simp) _).alloc (by simp) _).alloc (by simp;omega) _).alloc (by simp;omega) _
 ·simp
theorem sh5 (w:World) (c0:Array Value) (t0:TypeId) (c1:Array Value) (t1:TypeId) (c2:Array Value) (t2:TypeId) (c3:Array Value) (t3:TypeId) (c4:Array Value) (t4:TypeId):∃ W,Hid ((((((w.alloc (.cells c0 t0)).alloc (.cells c1 t1)).alloc (.cells c2 t2)).alloc (.cells c3 t3)).alloc (.cells c4 t4))=W)∧Hid (Blk W (w.heap.size) c0 t0)∧Hid (Blk W (w.heap.size+1) c1 t1)∧Hid (Blk W (w.heap.size+1+1) c2 t2)∧Hid (Blk W (w.heap.size+1+1+1) c3 t3)∧Hid (Blk W (w.heap.size+1+1+1+1) c4 t4)∧Hid (Below w.heap.size w W)∧w.heap.size+1+1+1+1<W.heap.size:=by
 refine ⟨_,rfl,?_,?_,?_,?_,?_,?_,?_⟩
 ·have h:=Blk.new w c0 t0;exact ((((h.alloc _).alloc _).alloc _).alloc _)
 ·have h:=Blk.new (w.alloc (.cells c0 t0)) c1 t1;rw [show (w.alloc (.cells c0 t0)).heap.size=w.heap.size+1 by simp] at h;exact (((h.alloc _).alloc _).alloc _)
 ·have h:=Blk.new ((w.alloc (.cells c0 t0)).alloc (.cells c1 t1)) c2 t2;rw [show ((w.alloc (.cells c0 t0)).alloc (.cells c1 t1)).heap.size=w.heap.size+1+1 by simp] at h;exact ((h.alloc _).alloc _)
 ·have h:=Blk.new (((w.alloc (.cells c0 t0)).alloc (.cells c1 t1)).alloc (.cells c2 t2)) c3 t3;rw [show (((w.alloc (.cells c0 t0)).alloc (.cells c1 t1)).alloc (.cells c2 t2)).heap.size=w.heap.size+1+1+1 by simp] at h;exact (h.alloc _)
 ·have h:=Blk.new ((((w.alloc (.cells c0 t0)).alloc (.cells c1 t1)).alloc (.cells c2 t2)).alloc (.cells c3 t3)) c4 t4;rw [show ((((w.alloc (.cells c0 t0)).alloc (.cells c1 t1)).alloc (.cells c2 t2)).alloc (.cells c3 t3)).heap.size=w.heap.size+1+1+1+1 by simp] at h;exact h
 ·exact (((((Below.refl w.heap.size w).alloc (by simp) _).alloc (by simp) _).alloc (by simp;omega) _).alloc (by simp;omega) _).alloc (by simp;omega) _
 ·simp
theorem shc3 {w:World} {G:Nat} {a0 a1 a2:Value} {t:TypeId} (h:Hid (Blk w G #[a0,a1,a2] t)):Hid (w.cell? ⟨G,0,none⟩=some a0)∧Hid (w.cell? ⟨G,1,none⟩=some a1)∧Hid (w.cell? ⟨G,2,none⟩=some a2):=⟨h.o.cell 0,h.o.cell 1,h.o.cell 2⟩
theorem shc4 {w:World} {G:Nat} {a0 a1 a2 a3:Value} {t:TypeId} (h:Hid (Blk w G #[a0,a1,a2,a3] t)):Hid (w.cell? ⟨G,0,none⟩=some a0)∧Hid (w.cell? ⟨G,1,none⟩=some a1)∧Hid (w.cell? ⟨G,2,none⟩=some a2)∧Hid (w.cell? ⟨G,3,none⟩=some a3):=⟨h.o.cell 0,h.o.cell 1,h.o.cell 2,h.o.cell 3⟩
theorem scl5 {w:World} {G:Nat} {a0 a1 a2 a3 a4:Value} {t:TypeId} (h:Hid (Blk w G #[a0,a1,a2,a3,a4] t)):w.cell? ⟨G,0,none⟩=some a0∧w.cell? ⟨G,1,none⟩=some a1∧w.cell? ⟨G,2,none⟩=some a2∧w.cell? ⟨G,3,none⟩=some a3∧w.cell? ⟨G,4,none⟩=some a4:=⟨h.o.cell 0,h.o.cell 1,h.o.cell 2,h.o.cell 3,h.o.cell 4⟩
theorem shc5 {w:World} {G:Nat} {a0 a1 a2 a3 a4:Value} {t:TypeId} (h:Hid (Blk w G #[a0,a1,a2,a3,a4] t)):Hid (w.cell? ⟨G,0,none⟩=some a0)∧Hid (w.cell? ⟨G,1,none⟩=some a1)∧Hid (w.cell? ⟨G,2,none⟩=some a2)∧Hid (w.cell? ⟨G,3,none⟩=some a3)∧Hid (w.cell? ⟨G,4,none⟩=some a4):=⟨h.o.cell 0,h.o.cell 1,h.o.cell 2,h.o.cell 3,h.o.cell 4⟩
theorem scl7 {w:World} {G:Nat} {a0 a1 a2 a3 a4 a5 a6:Value} {t:TypeId} (h:Hid (Blk w G #[a0,a1,a2,a3,a4,a5,a6] t)):w.cell? ⟨G,0,none⟩=some a0∧w.cell? ⟨G,1,none⟩=some a1∧w.cell? ⟨G,2,none⟩=some a2∧w.cell? ⟨G,3,none⟩=some a3∧w.cell? ⟨G,4,none⟩=some a4∧w.cell? ⟨G,5,none⟩=some a5∧w.cell? ⟨G,6,none⟩=some a6:=⟨h.o.cell 0,h.o.cell 1,h.o.cell 2,h.o.cell 3,h.o.cell 4,h.o.cell 5,h.o.cell 6⟩
theorem shc7 {w:World} {G:Nat} {a0 a1 a2 a3 a4 a5 a6:Value} {t:TypeId} (h:Hid (Blk w G #[a0,a1,a2,a3,a4,a5,a6] t)):Hid (w.cell? ⟨G,0,none⟩=some a0)∧Hid (w.cell? ⟨G,1,none⟩=some a1)∧Hid (w.cell? ⟨G,2,none⟩=some a2)∧Hid (w.cell? ⟨G,3,none⟩=some a3)∧Hid (w.cell? ⟨G,4,none⟩=some a4)∧Hid (w.cell? ⟨G,5,none⟩=some a5)∧Hid (w.cell? ⟨G,6,none⟩=some a6):=⟨h.o.cell 0,h.o.cell 1,h.o.cell 2,h.o.cell 3,h.o.cell 4,h.o.cell 5,h.o.cell 6⟩
theorem scl8 {w:World} {G:Nat} {a0 a1 a2 a3 a4 a5 a6 a7:Value} {t:TypeId} (h:Hid (Blk w G #[a0,a1,a2,a3,a4,a5,a6,a7] t)):w.cell? ⟨G,0,none⟩=some a0∧w.cell? ⟨G,1,none⟩=some a1∧w.cell? ⟨G,2,none⟩=some a2∧w.cell? ⟨G,3,none⟩=some a3∧w.cell? ⟨G,4,none⟩=some a4∧w.cell? ⟨G,5,none⟩=some a5∧w.cell? ⟨G,6,none⟩=some a6∧w.cell? ⟨G,7,none⟩=some a7:=⟨h.o.cell 0,h.o.cell 1,h.o.cell 2,h.o.cell 3,h.o.cell 4,h.o.cell 5,h.o.cell 6,h.o.cell 7⟩
theorem shc8 {w:World} {G:Nat} {a0 a1 a2 a3 a4 a5 a6 a7:Value} {t:TypeId} (h:Hid (Blk w G #[a0,a1,a2,a3,a4,a5,a6,a7] t)):Hid (w.cell? ⟨G,0,none⟩=some a0)∧Hid (w.cell? ⟨G,1,none⟩=some a1)∧Hid (w.cell? ⟨G,2,none⟩=some a2)∧Hid (w.cell? ⟨G,3,none⟩=some a3)∧Hid (w.cell? ⟨G,4,none⟩=some a4)∧Hid (w.cell? ⟨G,5,none⟩=some a5)∧Hid (w.cell? ⟨G,6,none⟩=some a6)∧Hid (w.cell? ⟨G,7,none⟩=some a7):=⟨h.o.cell 0,h.o.cell 1,h.o.cell 2,h.o.cell 3,h.o.cell 4,h.o.cell 5,h.o.cell 6,h.o.cell 7⟩
theorem shc9 {w:World} {G:Nat} {a0 a1 a2 a3 a4 a5 a6 a7 a8:Value} {t:TypeId} (h:Hid (Blk w G #[a0,a1,a2,a3,a4,a5,a6,a7,a8] t)):Hid (w.cell? ⟨G,0,none⟩=some a0)∧Hid (w.cell? ⟨G,1,none⟩=some a1)∧Hid (w.cell? ⟨G,2,none⟩=some a2)∧Hid (w.cell? ⟨G,3,none⟩=some a3)∧Hid (w.cell? ⟨G,4,none⟩=some a4)∧Hid (w.cell? ⟨G,5,none⟩=some a5)∧Hid (w.cell? ⟨G,6,none⟩=some a6)∧Hid (w.cell? ⟨G,7,none⟩=some a7)∧Hid (w.cell? ⟨G,8,none⟩=some a8):=⟨h.o.cell 0,h.o.cell 1,h.o.cell 2,h.o.cell 3,h.o.cell 4,h.o.cell 5,h.o.cell 6,h.o.cell 7,h.o.cell 8⟩
theorem scl13 {w:World} {G:Nat} {a0 a1 a2 a3 a4 a5 a6 a7 a8 a9 a10 a11 a12:Value} {t:TypeId} (h:Hid (Blk w G #[a0,a1,a2,a3,a4,a5,a6,a7,a8,a9,a10,a11,a12] t)):w.cell? ⟨G,0,none⟩=some a0∧w.cell? ⟨G,1,none⟩=some a1∧w.cell? ⟨G,2,none⟩=some a2∧w.cell? ⟨G,3,none⟩=some a3∧w.cell? ⟨G,4,none⟩=some a4∧w.cell? ⟨G,5,none⟩=some a5∧w.cell? ⟨G,6,none⟩=some a6∧w.cell? ⟨G,7,none⟩=some a7∧w.cell? ⟨G,8,none⟩=some a8∧w.cell? ⟨G,9,none⟩=some a9∧w.cell? ⟨G,10,none⟩=some a10∧w.cell? ⟨G,11,none⟩=some a11∧w.cell? ⟨G,12,none⟩=some a12:=⟨h.o.cell 0,h.o.cell 1,h.o.cell 2,h.o.cell 3,h.o.cell 4,h.o.cell 5,h.o.cell 6,h.o.cell 7,h.o.cell 8,h.o.cell 9,h.o.cell 10,h.o.cell 11,h.o.cell 12⟩
end
namespace disk
open cell (Wr wr0 wrt wrt_app wrt_one wrt_len wrt_step set_at list_ext)
def lenAt (c:List Int) (a:Nat):Int:=if a=c.length∨c.getD a 0=0 then 0 else if 64<c.getD a 0 then -1 else if (c.length:Int)≤a+c.getD a 0 then -1 else c.getD a 0
def recAt (c:List Int) (a:Nat):List Int:=(c.drop (a+1)).take (c.getD a 0).toNat
theorem len_pos {c:List Int} {a:Nat} (h:0<lenAt c a):lenAt c a=c.getD a 0∧0<c.getD a 0∧c.getD a 0≤64∧a+c.getD a 0<c.length:=by
 unfold lenAt at h ⊢;by_cases h1:a=c.length∨c.getD a 0=0
 ·rw [if_pos h1] at h;omega
 ·by_cases h2:64<c.getD a 0
  ·rw [if_neg h1,if_pos h2] at h;omega
  ·by_cases h3:(c.length:Int)≤a+c.getD a 0
   ·rw [if_neg h1,if_neg h2,if_pos h3] at h;omega
   ·rw [if_neg h1,if_neg h2,if_neg h3] at h ⊢;exact ⟨rfl,h,by omega,by omega⟩
theorem len_of {c:List Int} {a:Nat} (h0:0<c.getD a 0) (h1:c.getD a 0≤64) (h2:a+c.getD a 0<c.length):lenAt c a=c.getD a 0:=by
 unfold lenAt;rw [if_neg (by omega),if_neg (by omega),if_neg (by omega)]
def stepD (c:List Int) (s:List (List Int) × Nat):List (List Int) × Nat:=if 0<lenAt c s.2 then (s.1++[recAt c s.2],s.2+(lenAt c s.2).toNat+1) else s
def itD (c:List Int):Nat→List (List Int) × Nat
 | 0=>([],0)
 | k+1=>stepD c (itD c k)
theorem it_live {c:List Int} {k:Nat} (h:0<lenAt c (itD c k).2):itD c (k+1)=((itD c k).1++[recAt c (itD c k).2],(itD c k).2+(lenAt c (itD c k).2).toNat+1):=by
 show stepD c (itD c k)=_;unfold stepD;rw [if_pos h]
theorem it_dead {c:List Int} {k:Nat} (h:¬ 0<lenAt c (itD c k).2):∀ m,itD c (k+m)=itD c k
 | 0=>rfl
 | m+1=>by
  show stepD c (itD c (k+m))=_;rw [it_dead h m];unfold stepD;rw [if_neg h]
theorem it_bound (c:List Int) (k:Nat):(itD c k).2≤c.length∧((∀ i,i<k→0<lenAt c (itD c i).2)→k≤(itD c k).2):=by
 induction k with
 | zero=>exact ⟨Nat.zero_le _,fun _=>Nat.le_refl _⟩
 | succ k ih=>
  by_cases h:0<lenAt c (itD c k).2
  ·rw [it_live h];obtain ⟨e,p0,p1,p2⟩:=len_pos h;refine ⟨by show (itD c k).2+_+1≤_;omega,fun hl=>?_⟩;have:=ih.2 fun i hi=>hl i (by omega);show k+1≤(itD c k).2+_+1;omega
  ·rw [it_dead h 1];exact ⟨ih.1,fun hl=>absurd (hl k (by omega)) h⟩
theorem it_mono (c:List Int) (k m:Nat):(itD c k).2≤(itD c (k+m)).2:=by
 induction m with
 | zero=>exact Nat.le_refl _
 | succ m ih=>
  refine Nat.le_trans ih ?_;show _≤(stepD c (itD c (k+m))).2;unfold stepD;by_cases h:0<lenAt c (itD c (k+m)).2
  ·rw [if_pos h];show _≤(itD c (k+m)).2+_+1;omega
  ·rw [if_neg h];exact Nat.le_refl _
def repD (c:List Int):List (List Int) × Nat:=itD c (c.length+1)
theorem rep_dead (c:List Int):¬ 0<lenAt c (repD c).2:=fun h=>by
 have all:∀ i,i<c.length+1→0<lenAt c (itD c i).2:=fun i hi=>by
  refine Classical.byContradiction fun hn=>?_;have e:=it_dead hn (c.length+1 - i);rw [show i+(c.length+1 - i)=c.length+1 by omega] at e;unfold repD at h;rw [e] at h;exact hn h
 have:=(it_bound c (c.length+1)).2 all;have:=(it_bound c (c.length+1)).1;omega
theorem rep_of {c:List Int} {k:Nat} (h:¬ 0<lenAt c (itD c k).2):repD c=itD c k:=by
 by_cases hk:k≤c.length+1
 ·have e:=it_dead h (c.length+1 - k);rw [show k+(c.length+1 - k)=c.length+1 by omega] at e;exact e
 ·have e:=it_dead (rep_dead c) (k - (c.length+1));rw [show c.length+1+(k - (c.length+1))=k by omega] at e;exact e.symm
def May (c:List Int):Prop:=1≤c.length∧c.length≤2048
def RepIs (c:List Int) (out:List (List Int)) (e:Int) (f:Int):Prop:=
 (¬ May c∧out=[]∧e=0∧f=1)∨(May c∧lenAt c (repD c).2<0∧out=[]∧e=0∧f=3)∨(May c∧lenAt c (repD c).2=0∧out=(repD c).1∧e=((repD c).2:Int)∧f=0)
theorem RepIs.one {c:List Int} {o o':List (List Int)} {e e' f f':Int} (h:RepIs c o e f) (h':RepIs c o' e' f'):o=o'∧e=e'∧f=f':=by
 rcases h with ⟨a,rfl,rfl,rfl⟩ | ⟨a,b,rfl,rfl,rfl⟩ | ⟨a,b,rfl,rfl,rfl⟩ <;> rcases h' with ⟨a',rfl,rfl,rfl⟩ | ⟨a',b',rfl,rfl,rfl⟩ | ⟨a',b',rfl,rfl,rfl⟩ <;> first | exact ⟨rfl,rfl,rfl⟩ | contradiction | omega
def putW (at_:Nat) (rec:List Int):Nat→List Wr
 | 0=>[]
 | k+1=>putW at_ rec k++[⟨((at_+k+1:Nat):Int),rec.getD k 0⟩]
def zeroW (c:List Int) (p:Nat):List Wr:=if p<c.length then [⟨(p:Int),0⟩] else []
def appW (c:List Int) (a:Nat) (rec:List Int):List Wr:=putW a rec rec.length++(zeroW c (a+rec.length+1)++[⟨(a:Int),(rec.length:Int)⟩])
def RMay (r:List Int):Prop:=1≤r.length∧r.length≤64
def AppIs (c rec:List Int) (ls:List Wr) (f:Int):Prop:=
 (¬ RMay rec∧ls=[]∧f=1)∨(RMay rec∧¬ May c∧ls=[]∧f=1)∨(RMay rec∧May c∧lenAt c (repD c).2<0∧ls=[]∧f=3) ∨
 (RMay rec∧May c∧lenAt c (repD c).2=0∧c.length≤(repD c).2+rec.length∧ls=[]∧f=16)∨(RMay rec∧May c∧lenAt c (repD c).2=0∧(repD c).2+rec.length<c.length∧ls=appW c (repD c).2 rec∧f=0)
theorem rec_same {c d:List Int} (hl:c.length=d.length) {a e:Nat} (h:∀ j,j<e→c.getD j 0=d.getD j 0) (ha:a<e) (hb:a+(c.getD a 0).toNat+1≤e):recAt c a=recAt d a:=by
 unfold recAt;rw [← h a ha];generalize (c.getD a 0).toNat=n at hb ⊢;refine list_ext (by simp [hl]) fun j hj=>?_;have hj':j<n:=by simp at hj;omega
 have:=h (a+1+j) (by omega);simpa [List.getD,List.getElem?_take,List.getElem?_drop,hj'] using this
theorem len_same {c d:List Int} (hl:c.length=d.length) {a:Nat} (h:c.getD a 0=d.getD a 0):lenAt c a=lenAt d a:=by
 unfold lenAt;rw [h,hl]
theorem it_same {c d:List Int} (hl:c.length=d.length) {K:Nat} (h:∀ j,j<(itD c K).2→c.getD j 0=d.getD j 0):∀ k,k≤K→(∀ i,i<k→0<lenAt c (itD c i).2)→itD d k=itD c k
 | 0,_,_=>rfl
 | k+1,hk,hv=>by
  have ih:=it_same hl h k (by omega) fun i hi=>hv i (by omega);have hp:=hv k (by omega);obtain ⟨e,p0,p1,p2⟩:=len_pos hp;have hm:=it_mono c (k+1) (K - (k+1));rw [show k+1+(K - (k+1))=K by omega,it_live hp] at hm;have hm':(itD c k).2+(lenAt c (itD c k).2).toNat+1≤(itD c K).2:=hm;have hlt:(itD c k).2<(itD c K).2:=by omega
  have e1:=len_same hl (h _ hlt);have e2:=rec_same hl h hlt (by rw [e] at hm';exact hm');have hq:0<lenAt d (itD d k).2:=by rw [ih,← e1];exact hp
  rw [it_live hp,it_live hq,ih,← e1,← e2]
theorem first_dead (c:List Int):∃ K,(∀ i,i<K→0<lenAt c (itD c i).2)∧¬ 0<lenAt c (itD c K).2:=by
 have h0:∃ K,¬ 0<lenAt c (itD c K).2:=⟨c.length+1,rep_dead c⟩
 have step:∀ n,(∃ K,K≤n∧(∀ i,i<K→0<lenAt c (itD c i).2)∧¬ 0<lenAt c (itD c K).2)∨(∀ i,i≤n→0<lenAt c (itD c i).2):=fun n=>by
  induction n with
  | zero=>
   by_cases h:0<lenAt c (itD c 0).2
   ·exact .inr fun i hi=>by
     obtain rfl:i=0:=by omega
     exact h
   ·exact .inl ⟨0,Nat.le_refl _,fun i hi=>by omega,h⟩
  | succ n ih=>
   rcases ih with ⟨K,hk,ha,hb⟩ | ha
   ·exact .inl ⟨K,by omega,ha,hb⟩
   ·by_cases h:0<lenAt c (itD c (n+1)).2
    ·exact .inr fun i hi=>by
      by_cases hi':i=n+1
      ·rw [hi'];exact h
      ·exact ha i (by omega)
    ·exact .inl ⟨n+1,Nat.le_refl _,fun i hi=>ha i (by omega),h⟩
 obtain ⟨K,hK⟩:=h0;rcases step K with ⟨K',_,ha,hb⟩ | ha
 ·exact ⟨K',ha,hb⟩
 ·exact absurd (ha K (Nat.le_refl _)) hK
theorem rep_bound (c:List Int):(repD c).2≤c.length:=(it_bound c _).1
theorem rep_keep {c d:List Int} (hl:c.length=d.length) (h:∀ j,j≤(repD c).2→c.getD j 0=d.getD j 0):repD d=repD c∧lenAt d (repD c).2=lenAt c (repD c).2:=by
 obtain ⟨K,ha,hb⟩:=first_dead c;have e:=rep_of hb;rw [e] at h ⊢;have e1:=it_same hl (K:=K) (fun j hj=>h j (by omega)) K (Nat.le_refl _) ha;have e2:=(len_same hl (h _ (Nat.le_refl _))).symm;refine ⟨?_,e2⟩;rw [rep_of (k:=K) (by rw [e1,e2];exact hb),e1]
theorem rep_more {c d:List Int} (hl:c.length=d.length) (h:∀ j,j<(repD c).2→c.getD j 0=d.getD j 0) {r:List Int} (hr:RMay r) (h1:d.getD (repD c).2 0=(r.length:Int)) (h2:recAt d (repD c).2=r) (hf:(repD c).2+r.length<c.length) (h3:lenAt d ((repD c).2+r.length+1)=0) :
  repD d=((repD c).1++[r],(repD c).2+r.length+1):=by
 obtain ⟨K,ha,hb⟩:=first_dead c;have e:=rep_of hb;rw [e] at h h1 h2 hf h3 ⊢;have e1:=it_same hl (K:=K) h K (Nat.le_refl _) ha;have hp:lenAt d (itD c K).2=(r.length:Int):=by rw [len_of (by rw [h1];have:=hr.1;omega) (by rw [h1];have:=hr.2;omega) (by rw [h1];omega),h1]
 have hq:itD d (K+1)=((itD c K).1++[r],(itD c K).2+r.length+1):=by
  rw [it_live (by rw [e1,hp];have:=hr.1;omega),e1,h2,hp];rfl
 rw [rep_of (k:=K+1) (by rw [hq];show ¬ 0<lenAt d _;rw [h3];omega),hq]
theorem put_at (c rec:List Int) (a k:Nat) (hk:a+k<c.length):∀ j,(wrt c (putW a rec k)).getD j 0=if a<j∧j≤a+k then rec.getD (j - a - 1) 0 else c.getD j 0:=by
 induction k with
 | zero=>intro j;rw [if_neg (by omega)];rfl
 | succ k ih=>
  intro j;rw [putW,wrt_app,wrt_one,set_at,wrt_len];show (if j=((a+k+1:Nat):Int).toNat∧((a+k+1:Nat):Int).toNat<c.length then rec.getD k 0 else _)=_;rw [Int.toNat_natCast];by_cases hj:j=a+k+1
  ·rw [if_pos ⟨hj,by omega⟩,if_pos ⟨by omega,by omega⟩,show j - a - 1=k by omega]
  ·rw [if_neg (by omega),ih (by omega)];by_cases h2:a<j∧j≤a+k
   ·rw [if_pos h2,if_pos ⟨h2.1,by omega⟩]
   ·rw [if_neg h2,if_neg (by omega)]
theorem put_len (a:Nat) (rec:List Int) (k:Nat):(putW a rec k).length=k:=by
 induction k with
 | zero=>rfl
 | succ k ih=>rw [putW,List.length_append,ih];rfl
theorem put_take (a:Nat) (rec:List Int) {k n:Nat} (h:k≤n):(putW a rec n).take k=putW a rec k:=by
 induction n with
 | zero=>
  obtain rfl:k=0:=by omega
  rfl
 | succ n ih=>
  by_cases hk:k=n+1
  ·rw [hk,List.take_of_length_le (by rw [put_len];omega)]
  ·rw [putW,List.take_append_of_le_length (by rw [put_len];omega),ih (by omega)]
theorem zero_at (c d:List Int) (hl:c.length=d.length) (p:Nat) (j:Nat):(wrt d (zeroW c p)).getD j 0=if j=p∧p<c.length then 0 else d.getD j 0:=by
 unfold zeroW;by_cases h:p<c.length
 ·rw [if_pos h,wrt_one,set_at,Int.toNat_natCast,← hl]
 ·rw [if_neg h,if_neg (by omega)];rfl
theorem app_len (c:List Int) (a:Nat) (r:List Int):(appW c a r).length=r.length+(if a+r.length+1<c.length then 2 else 1):=by
 unfold appW zeroW;rw [List.length_append,put_len];split <;> rfl
theorem app_cut (c r:List Int) (a k:Nat) (hf:a+r.length<c.length) (hk:k<(appW c a r).length) (j:Nat) (hj:j≤a):(wrt c ((appW c a r).take k)).getD j 0=c.getD j 0:=by
 have hk':k<r.length+((zeroW c (a+r.length+1)).length+1):=by unfold appW at hk;rw [List.length_append,List.length_append,put_len] at hk;exact hk
 have e:(appW c a r).take k=(putW a r r.length++zeroW c (a+r.length+1)).take k:=by
  unfold appW;rw [← List.append_assoc,List.take_append_of_le_length (by rw [List.length_append,put_len];omega)]
 rw [e];by_cases h1:k≤r.length
 ·rw [List.take_append_of_le_length (by rw [put_len];exact h1),put_take a r h1,put_at c r a k (by omega),if_neg (by omega)]
 ·rw [List.take_of_length_le (by rw [List.length_append,put_len];unfold zeroW at hk' ⊢;split <;> simp_all <;> omega),wrt_app,zero_at c _ (by rw [wrt_len]),if_neg (by omega),put_at c r a _ hf,if_neg (by omega)]
theorem app_all (c r:List Int) (a:Nat) (hf:a+r.length<c.length) (j:Nat):(wrt c (appW c a r)).getD j 0=if j=a then (r.length:Int) else if a<j∧j≤a+r.length then r.getD (j - a - 1) 0 else if j=a+r.length+1∧a+r.length+1<c.length then 0 else c.getD j 0:=by
 unfold appW;rw [wrt_app,wrt_app,wrt_one,set_at,wrt_len,wrt_len];show (if j=(a:Int).toNat∧(a:Int).toNat<c.length then _ else _)=_;rw [Int.toNat_natCast];by_cases h:j=a
 ·rw [if_pos ⟨h,by omega⟩,if_pos h]
 ·rw [if_neg (by omega),if_neg h,zero_at c _ (by rw [wrt_len])];by_cases h1:j=a+r.length+1∧a+r.length+1<c.length
  ·rw [if_pos h1,if_neg (by omega),if_pos h1]
  ·rw [if_neg h1,put_at c r a _ hf];by_cases h2:a<j∧j≤a+r.length
   ·rw [if_pos h2,if_pos h2]
   ·rw [if_neg h2,if_neg h2,if_neg h1]
def Tape (c:List Int) (l:List (List Int)) (e:Nat):Prop:=May c∧repD c=(l,e)∧lenAt c e=0
theorem Tape.cut {c:List Int} {l:List (List Int)} {e:Nat} (h:Tape c l e) {r:List Int} (hf:e+r.length<c.length) {k:Nat} (hk:k<(appW c e r).length):Tape (wrt c ((appW c e r).take k)) l e:=by
 obtain ⟨hm,hr,hl⟩:=h;have e2:(repD c).2=e:=by rw [hr]
 obtain ⟨a,b⟩:=rep_keep (c:=c) (d:=wrt c ((appW c e r).take k)) (by rw [wrt_len]) (fun j hj=>(app_cut c r e k hf hk j (by omega)).symm);exact ⟨by unfold May;rw [wrt_len];exact hm,by rw [a,hr],by rw [e2] at b;rw [b];exact hl⟩
theorem Tape.all {c:List Int} {l:List (List Int)} {e:Nat} (h:Tape c l e) {r:List Int} (hr:RMay r) (hf:e+r.length<c.length):Tape (wrt c (appW c e r)) (l++[r]) (e+r.length+1):=by
 obtain ⟨hm,hrep,hl⟩:=h;have e2:(repD c).2=e:=by rw [hrep]
 have e1:(repD c).1=l:=by rw [hrep]
 have at0:=app_all c r e hf;have hlen:(wrt c (appW c e r)).length=c.length:=wrt_len _ _;have h0:(wrt c (appW c e r)).getD e 0=(r.length:Int):=by rw [at0,if_pos rfl]
 have h3:lenAt (wrt c (appW c e r)) (e+r.length+1)=0:=by
  unfold lenAt;rw [hlen];by_cases hz:e+r.length+1=c.length
  ·rw [if_pos (.inl hz)]
  ·rw [if_pos (.inr (by rw [at0,if_neg (by omega),if_neg (by omega),if_pos ⟨rfl,by omega⟩]))]
 have h2:recAt (wrt c (appW c e r)) e=r:=by
  unfold recAt;rw [h0,Int.toNat_natCast];refine list_ext (by rw [List.length_take,List.length_drop,hlen];omega) fun j hj=>?_;have hj':j<r.length:=by rw [List.length_take] at hj;omega
  have q:=at0 (e+1+j);rw [if_neg (by omega),if_pos ⟨by omega,by omega⟩,show e+1+j - e - 1=j by omega] at q;rw [← q];simp [List.getD,List.getElem?_drop,hj']
 have:=rep_more (c:=c) (d:=wrt c (appW c e r)) hlen.symm (fun j hj=>by rw [at0,if_neg (by omega),if_neg (by omega),if_neg (by omega)]) hr (by rw [e2];exact h0) (by rw [e2];exact h2) (by rw [e2];exact hf) (by rw [e2];exact h3);rw [e1,e2] at this;exact ⟨by unfold May;rw [hlen];exact hm,this,h3⟩
theorem Tape.app {c:List Int} {l:List (List Int)} {e:Nat} (h:Tape c l e) {r:List Int} {ls:List Wr} {f:Int} (ha:AppIs c r ls f) (hr:RMay r):(e+r.length<c.length∧ls=appW c e r∧f=0)∨(c.length≤e+r.length∧ls=[]∧f=16):=by
 obtain ⟨hm,hrep,hl⟩:=h;have e2:(repD c).2=e:=by rw [hrep]
 unfold AppIs at ha;rw [e2,hl] at ha;rcases ha with ⟨a,_⟩ | ⟨_,a,_⟩ | ⟨_,_,a,_⟩ | ⟨_,_,_,a,b,c⟩ | ⟨_,_,_,a,b,c⟩
 ·exact absurd hr a
 ·exact absurd hm a
 ·omega
 ·exact .inr ⟨a,b,c⟩
 ·exact .inl ⟨a,b,c⟩
theorem Tape.blank {n:Nat} (h0:1≤n) (h1:n≤2048):Tape (List.replicate n 0) [] 0:=by
 have hz:lenAt (List.replicate n 0) 0=0:=by
  unfold lenAt;rw [if_pos (.inr (by simp [List.getD,List.getElem?_replicate];split <;> rfl))]
 have e:repD (List.replicate n 0)=([],0):=rep_of (k:=0) (by show ¬ 0<lenAt _ 0;rw [hz];omega);exact ⟨⟨by simpa using h0,by simpa using h1⟩,e,hz⟩
end disk
namespace book
structure So where
 id:Int
 cl:Int
 am:Int
 tg:Int
 rv:Int
def so0:So:=⟨0,0,0,0,0⟩
end book
namespace acc
open tar (Du du0 Right MostOf cost)
open deb (sumD recK ageAll)
structure Ac where
 me:Int
 rv:Int
 nx:Int
 mo:Int
 bo:Int
 fr:Int
 ds:List Du
def ac0:Ac:=⟨0,0,0,0,0,0,[]⟩
structure Tm where
 ts:List Du
 ff:Int
 fb:Int
 db:Int
 al:Int
structure Bi where
 id:Int
 te:Int
 de:Int
 fe:Int
 pr:Int
 ch:Int
 un:Int
def bi0:Bi:=⟨0,0,0,0,0,0,0⟩
def AMay (a:Ac):Prop:=deb.Mays a.ds∧(0≤a.me∧a.me≤49)∧(0≤a.rv∧a.rv≤15)∧(1≤a.nx∧a.nx≤1048576)∧(0≤a.mo∧a.mo≤2399)∧(0≤a.bo∧a.bo≤10000000)∧-1≤a.fr∧a.fr≤a.mo
def TOk (t:Tm):Prop:=(0≤t.ff∧t.ff≤100000)∧(0≤t.fb∧t.fb≤10000)∧(0≤t.db∧t.db≤10000)∧0≤t.al∧t.al≤2097151
def TRight (t:Tm):Prop:=Right t.ts∧TOk t
def TFault (t:Tm) (e:Int):Prop:=(¬ Right t.ts∧tar.FaultIs t.ts e)∨(Right t.ts∧¬ TOk t∧e=2)∨(TRight t∧e=0)
theorem TFault.one {t:Tm} {e f:Int} (h:TFault t e) (h':TFault t f):e=f:=by
 rcases h with ⟨a,b⟩ | ⟨a,b,rfl⟩ | ⟨⟨a,b⟩,rfl⟩ <;> rcases h' with ⟨a',b'⟩ | ⟨a',b',rfl⟩ | ⟨⟨a',b'⟩,rfl⟩ <;> first | rfl | exact b.one b' | contradiction
theorem TFault.ok {t:Tm} {e:Int} (h:TFault t e):e=0↔TRight t:=by
 rcases h with ⟨a,b⟩ | ⟨a,b,rfl⟩ | ⟨h,rfl⟩
 ·exact ⟨fun h=>absurd (b.ok.1 h) a,fun h=>absurd h.1 a⟩
 ·exact ⟨fun h=>absurd h (by decide),fun h=>absurd h.2 b⟩
 ·exact ⟨fun _=>h,fun _=>rfl⟩
def OpenIs (m:Int) (b:Ac) (e:Int):Prop:=((0≤m∧m≤49)∧b=⟨m,0,1,0,0,-1,[]⟩∧e=0)∨(¬ (0≤m∧m≤49)∧b=ac0∧e=2)
theorem OpenIs.one {m e e':Int} {b b':Ac} (h:OpenIs m b e) (h':OpenIs m b' e'):b=b'∧e=e':=by
 rcases h with ⟨a,rfl,rfl⟩ | ⟨a,rfl,rfl⟩ <;> rcases h' with ⟨a',rfl,rfl⟩ | ⟨a',rfl,rfl⟩ <;> first | exact ⟨rfl,rfl⟩ | contradiction
def rolled (a:Ac) (m:Int):Ac:=if m=a.mo then a else ⟨a.me,a.rv,a.nx,m,0,a.fr,ageAll a.ds (m - a.mo).toNat⟩
def RMay (a:Ac) (m:Int):Prop:=(0≤m∧m≤2399)∧a.mo≤m
def RErr (a:Ac) (m e:Int):Prop:=(¬ (0≤m∧m≤2399)∧e=2)∨((0≤m∧m≤2399)∧m<a.mo∧e=23)
theorem RErr.one {a:Ac} {m e f:Int} (h:RErr a m e) (h':RErr a m f):e=f:=by
 rcases h with ⟨p,rfl⟩ | ⟨p,q,rfl⟩ <;> rcases h' with ⟨p',rfl⟩ | ⟨p',q',rfl⟩ <;> first | rfl | contradiction
theorem RErr.ne {a:Ac} {m e:Int} (h:RErr a m e):e≠0:=by rcases h with ⟨_,rfl⟩ | ⟨_,_,rfl⟩ <;> decide
theorem rolled_may {a:Ac} {m:Int} (h:AMay a) (hr:RMay a m):AMay (rolled a m):=by
 obtain ⟨h1,h2,h3,h4,h5,h6,h7⟩:=h;obtain ⟨⟨r1,r2⟩,r3⟩:=hr;unfold rolled;by_cases e:m=a.mo
 ·rw [if_pos e];exact ⟨h1,h2,h3,h4,h5,h6,h7⟩
 ·rw [if_neg e];exact ⟨deb.ageAll_mays h1 _,h2,h3,h4,⟨r1,r2⟩,⟨(by decide:(0:Int)≤0),(by decide:(0:Int)≤10000000)⟩,h7.1,by show a.fr≤m;omega⟩
theorem rolled_same (a:Ac) (m:Int):(rolled a m).me=a.me∧(rolled a m).rv=a.rv∧(rolled a m).nx=a.nx∧(rolled a m).mo=m∧(rolled a m).fr=a.fr:=by
 unfold rolled;by_cases e:m=a.mo
 ·rw [if_pos e];exact ⟨rfl,rfl,rfl,e.symm,rfl⟩
 ·rw [if_neg e];exact ⟨rfl,rfl,rfl,rfl,rfl⟩
def share (t:Tm) (te:Int):Int:=te*t.db / 10000
def paid (a:Ac) (t:Tm) (te m:Int):Int:=min (share t te) (sumD (rolled a m).ds)
def fee (t:Tm) (te:Int):Int:=t.ff+te*t.fb / 10000
def rest (a:Ac) (t:Tm) (te m:Int):Int:=te - paid a t te m - fee t te
def Ready (a:Ac) (t:Tm) (m:Int):Prop:=AMay a∧TRight t∧RMay a m
def Refused (a:Ac) (t:Tm) (m e:Int):Prop:=(¬ AMay a∧e=5)∨(AMay a∧¬ TRight t∧TFault t e)∨(AMay a∧TRight t∧¬ RMay a m∧RErr a m e)
theorem Refused.one {a:Ac} {t:Tm} {m e f:Int} (h:Refused a t m e) (h':Refused a t m f):e=f:=by
 rcases h with ⟨p,rfl⟩ | ⟨p,q,r⟩ | ⟨p,q,r,s⟩ <;> rcases h' with ⟨p',rfl⟩ | ⟨p',q',r'⟩ | ⟨p',q',r',s'⟩ <;> first | rfl | exact r.one r' | exact s.one s' | contradiction
theorem Refused.not {a:Ac} {t:Tm} {m e:Int} (h:Refused a t m e):¬ Ready a t m:=fun hr=>by
 rcases h with ⟨p,_⟩ | ⟨_,q,_⟩ | ⟨_,_,r,_⟩
 ·exact p hr.1
 ·exact q hr.2.1
 ·exact r hr.2.2
def TenOk (a:Ac) (t:Tm) (te m:Int):Prop:=(1≤te∧te≤100000000)∧0≤rest a t te m∧¬ MostOf t.ts (rolled a m).bo (rest a t te m) 0
def sold (a:Ac) (t:Tm) (te m u:Int):Ac:=⟨a.me,a.rv,a.nx+1,m,(rolled a m).bo+u,a.fr,recK (rolled a m).ds (share t te) (rolled a m).ds.length⟩
def bill (a:Ac) (t:Tm) (te m u:Int):Bi:=⟨a.nx,te,paid a t te m,fee t te,cost t.ts (rolled a m).bo ((rolled a m).bo+u),rest a t te m - cost t.ts (rolled a m).bo ((rolled a m).bo+u),u⟩
def SellIs (a:Ac) (t:Tm) (te m:Int) (b:Ac) (l:Bi) (e:Int):Prop:=
 (Refused a t m e∧b=ac0∧l=bi0)∨(Ready a t m∧¬ TenOk a t te m∧e=19∧b=ac0∧l=bi0)∨(Ready a t m∧TenOk a t te m∧¬ a.nx≤1048575∧e=20∧b=ac0∧l=bi0)∨(Ready a t m∧TenOk a t te m∧a.nx≤1048575∧e=0∧∃ u,MostOf t.ts (rolled a m).bo (rest a t te m) u∧b=sold a t te m u∧l=bill a t te m u)
theorem SellIs.one {a:Ac} {t:Tm} {te m e e':Int} {b b':Ac} {l l':Bi} (h:SellIs a t te m b l e) (h':SellIs a t te m b' l' e'):b=b'∧l=l'∧e=e':=by
 rcases h with ⟨p,rfl,rfl⟩ | ⟨p,q,rfl,rfl,rfl⟩ | ⟨p,q,r,rfl,rfl,rfl⟩ | ⟨p,q,r,rfl,u,hu,rfl,rfl⟩ <;> rcases h' with ⟨p',rfl,rfl⟩ | ⟨p',q',rfl,rfl,rfl⟩ | ⟨p',q',r',rfl,rfl,rfl⟩ | ⟨p',q',r',rfl,u',hu',rfl,rfl⟩ <;> first | exact ⟨rfl,rfl,rfl⟩ | exact ⟨rfl,rfl,p.one p'⟩ | exact absurd p' p.not | exact absurd p p'.not | contradiction | skip
 obtain rfl:=hu.one p.2.1.1 (rolled_may p.1 p.2.2).2.2.2.2.2.1.1 hu';exact ⟨rfl,rfl,rfl⟩
def granted (a:Ac) (m:Int):Ac:=⟨a.me,a.rv,a.nx+1,m,(rolled a m).bo,m,(rolled a m).ds⟩
def GrantIs (a:Ac) (t:Tm) (m:Int) (b:Ac) (l:Bi) (e:Int):Prop:=
 (Refused a t m e∧b=ac0∧l=bi0)∨(Ready a t m∧t.al=0∧e=22∧b=ac0∧l=bi0)∨(Ready a t m∧¬ t.al=0∧a.fr=m∧e=21∧b=ac0∧l=bi0)∨(Ready a t m∧¬ t.al=0∧¬ a.fr=m∧¬ a.nx≤1048575∧e=20∧b=ac0∧l=bi0)∨(Ready a t m∧¬ t.al=0∧¬ a.fr=m∧a.nx≤1048575∧e=0∧b=granted a m∧l=⟨a.nx,0,0,0,0,0,t.al⟩)
theorem GrantIs.one {a:Ac} {t:Tm} {m e e':Int} {b b':Ac} {l l':Bi} (h:GrantIs a t m b l e) (h':GrantIs a t m b' l' e'):b=b'∧l=l'∧e=e':=by
 rcases h with ⟨p,rfl,rfl⟩ | ⟨p,q,rfl,rfl,rfl⟩ | ⟨p,q,r,rfl,rfl,rfl⟩ | ⟨p,q,r,s,rfl,rfl,rfl⟩ | ⟨p,q,r,s,rfl,rfl,rfl⟩ <;> rcases h' with ⟨p',rfl,rfl⟩ | ⟨p',q',rfl,rfl,rfl⟩ | ⟨p',q',r',rfl,rfl,rfl⟩ | ⟨p',q',r',s',rfl,rfl,rfl⟩ | ⟨p',q',r',s',rfl,rfl,rfl⟩ <;> first | exact ⟨rfl,rfl,rfl⟩ | exact ⟨rfl,rfl,p.one p'⟩ | exact absurd p' p.not | exact absurd p p'.not | contradiction
def OweIs (a:Ac) (d:Du) (b:Ac) (e:Int):Prop:=
 (¬ AMay a∧b=ac0∧e=5)∨(AMay a∧¬ ((1≤d.a∧d.a≤1000000000)∧0≤d.b∧d.b≤10000)∧b=ac0∧e=2)∨(AMay a∧((1≤d.a∧d.a≤1000000000)∧0≤d.b∧d.b≤10000)∧¬ a.ds.length<8∧b=ac0∧e=16)∨(AMay a∧((1≤d.a∧d.a≤1000000000)∧0≤d.b∧d.b≤10000)∧a.ds.length<8∧b=⟨a.me,a.rv,a.nx,a.mo,a.bo,a.fr,a.ds++[d]⟩∧e=0)
theorem OweIs.one {a:Ac} {d:Du} {e e':Int} {b b':Ac} (h:OweIs a d b e) (h':OweIs a d b' e'):b=b'∧e=e':=by
 rcases h with ⟨p,rfl,rfl⟩ | ⟨p,q,rfl,rfl⟩ | ⟨p,q,r,rfl,rfl⟩ | ⟨p,q,r,rfl,rfl⟩ <;> rcases h' with ⟨p',rfl,rfl⟩ | ⟨p',q',rfl,rfl⟩ | ⟨p',q',r',rfl,rfl⟩ | ⟨p',q',r',rfl,rfl⟩ <;> first | exact ⟨rfl,rfl⟩ | contradiction
def RekeyIs (a:Ac) (b:Ac) (l:Bi) (e:Int):Prop:=
 (¬ AMay a∧b=ac0∧l=bi0∧e=5)∨(AMay a∧¬ a.rv<15∧b=ac0∧l=bi0∧e=24)∨(AMay a∧a.rv<15∧¬ a.nx≤1048575∧b=ac0∧l=bi0∧e=20)∨(AMay a∧a.rv<15∧a.nx≤1048575∧b=⟨a.me,a.rv+1,a.nx+1,a.mo,a.bo,a.fr,a.ds⟩∧l=⟨a.nx,0,0,0,0,0,0⟩∧e=0)
theorem RekeyIs.one {a:Ac} {e e':Int} {b b':Ac} {l l':Bi} (h:RekeyIs a b l e) (h':RekeyIs a b' l' e'):b=b'∧l=l'∧e=e':=by
 rcases h with ⟨p,rfl,rfl,rfl⟩ | ⟨p,q,rfl,rfl,rfl⟩ | ⟨p,q,r,rfl,rfl,rfl⟩ | ⟨p,q,r,rfl,rfl,rfl⟩ <;> rcases h' with ⟨p',rfl,rfl,rfl⟩ | ⟨p',q',rfl,rfl,rfl⟩ | ⟨p',q',r',rfl,rfl,rfl⟩ | ⟨p',q',r',rfl,rfl,rfl⟩ <;> first | exact ⟨rfl,rfl,rfl⟩ | contradiction
end acc
namespace tar
open Go.RowKit
def RowL (w:World) (a:Option Addr) (len:Nat) (ls:List Tr):Prop:=
 ls.length=len∧(len=0∨∃ b off,a=some ⟨b,off,none⟩∧∀ i,i<len→w.cell? ⟨b,off+i*3,none⟩=some (zI (ls.getD i tr0).a)∧w.cell? ⟨b,off+i*3+1,none⟩=some (zI (ls.getD i tr0).b)∧w.cell? ⟨b,off+i*3+2,none⟩=some (zI (ls.getD i tr0).c))
theorem RowL.at {w:World} {a:Option Addr} {n:Nat} {zs:List Tr} (h:RowL w a n zs) (h0:0<n):∃ b off,a=some ⟨b,off,none⟩∧b<w.heap.size∧∀ i,i<n→w.cell? ⟨b,off+i*3,none⟩=some (zI (zs.getD i tr0).a)∧w.cell? ⟨b,off+i*3+1,none⟩=some (zI (zs.getD i tr0).b)∧w.cell? ⟨b,off+i*3+2,none⟩=some (zI (zs.getD i tr0).c):=by
 rcases h.2 with h1 | ⟨b,off,rfl,hc⟩
 ·omega
 ·exact ⟨b,off,rfl,World.block_lt_of_cell? w _ (hc 0 h0).1,hc⟩
def ErrPost (w:World) (R:Int→Prop) (e:Ending) (w':World):Prop:=∃ f,e = .returned (zI f)∧R f∧Below w.heap.size w w'
def TwoPost (w:World) (R:Int→Int→Prop) (e:Ending) (w':World):Prop:=∃ p f,e = .returned (.tuple #[zI p,zI f])∧R p f∧Below w.heap.size w w'
def ThreePost (w:World) (R:Int→Int→Int→Prop) (e:Ending) (w':World):Prop:=∃ u p f,e = .returned (.tuple #[zI u,zI p,zI f])∧R u p f∧Below w.heap.size w w'
structure Came (w:World) (a:Option Addr) (len cap:Nat) (ls:List Du):Prop where
 row:RowD w a len ls
 nil:a=none→cap=0
 room:len≤cap
 bytes:len*16≤140737488351232
 wf:∀ x∈ls,(Lit.int .i64 x.a).wf=true∧(Lit.int .i64 x.b).wf=true
theorem Came.below {w w':World} {a:Option Addr} {len cap:Nat} {ls:List Du} (h:Came w a len cap ls) (hb:Below w.heap.size w w'):Came w' a len cap ls:=⟨h.row.below hb,h.nil,h.room,h.bytes,h.wf⟩
theorem Came.most {w:World} {a:Option Addr} {len cap:Nat} {ls:List Du} (h:Came w a len cap ls):len≤maxLen:=by have:=h.bytes;unfold maxLen;omega
theorem Ld.came {T:TypeId} {w:World} {base:Nat} {v:Value} {l:List Du} (h:Ld T w base v l) (hl:l.length*16≤140737488351232) (hw:∀ x∈l,(Lit.int .i64 x.a).wf=true∧(Lit.int .i64 x.b).wf=true):∃ a cap,v = .slice a l.length cap∧Came w a l.length cap l:=by
 obtain ⟨a,cap,hv,hr,hn,hc,_⟩:=h.row;exact ⟨a,cap,hv,hr,hn,hc,hl,hw⟩
theorem wf_mid {z:Int} (h0:0≤z) (h1:z≤4000000000000):(Lit.int .i64 z).wf=true:=by
 have h1:IntKind.i64.min≤z:=by
  have e:IntKind.i64.min=-9223372036854775808:=by decide
  omega
 have h2:z≤IntKind.i64.max:=by
  have e:IntKind.i64.max=9223372036854775807:=by decide
  omega
 show (decide (IntKind.i64.min≤z) && decide (z≤IntKind.i64.max))=true;rw [Bool.and_eq_true];exact ⟨decide_eq_true h1,decide_eq_true h2⟩
theorem MostIs.got {l:List Du} {x m u p e:Int} (h:MostIs l x m u p e) (hR:Right l) (hM:MayMost x m):e=0∧MostOf l x m u∧p=cost l x (x+u):=by
 rcases h with ⟨a,_⟩ | ⟨_,b,_⟩ | ⟨_,_,c,d⟩
 ·exact absurd hR a
 ·exact absurd hM b
 ·exact ⟨c,d⟩
end tar
namespace deb
open tar (Du du0 Came RowD Ld ErrPost TwoPost PairT)
open Go.RowKit
structure Fresh (w:World) (base:Nat) (a:Option Addr) (len cap:Nat) (ls:List Du):Prop where
 came:Came w a len cap ls
 new:0<len→∀ x,a=some x→base≤x.block
def RecPost (w:World) (l:List Du) (t bp:Int) (e:Ending) (w':World):Prop:=∃ a len cap z p f,e = .returned (.tuple #[.slice a len cap,zI p,zI f])∧RecIs l t bp z p f∧Fresh w' w.heap.size a len cap z∧Below w.heap.size w w'
def AgePost (w:World) (l:List Du) (m:Int) (e:Ending) (w':World):Prop:=∃ a len cap z f,e = .returned (.tuple #[.slice a len cap,zI f])∧AgeIs l m z f∧Fresh w' w.heap.size a len cap z∧Below w.heap.size w w'
theorem Mays.wf {l:List Du} (h:Mays l):∀ x∈l,(Lit.int .i64 x.a).wf=true∧(Lit.int .i64 x.b).wf=true:=fun x hx=>by
 obtain ⟨⟨a1,a2⟩,b1,b2⟩:=mem_fits h.2 x hx;exact ⟨tar.wf_mid a1 (by omega),tar.wf_mid b1 (by omega)⟩
theorem ld_mays {T:TypeId} {w:World} {base:Nat} {v:Value} {l:List Du} (h:Ld T w base v l) (hm:Mays l):∃ a cap,v = .slice a l.length cap∧Came w a l.length cap l:=h.came (by have:=hm.1;omega) hm.wf
theorem ld_new {T:TypeId} {w:World} {base:Nat} {a:Option Addr} {n cap:Nat} {l:List Du} (h:Ld T w base (.slice a n cap) l):0<n→∀ x,a=some x→base≤x.block:=fun hn x hx=>by
 subst hx;exact (World.ownsRow.lt h x.block rfl).1
theorem ld_fresh {T:TypeId} {w:World} {base:Nat} {v:Value} {l:List Du} (h:Ld T w base v l) (hm:Mays l):∃ a cap,v = .slice a l.length cap∧Fresh w base a l.length cap l:=by
 obtain ⟨a,cap,rfl,hc⟩:=ld_mays h hm;exact ⟨a,cap,rfl,hc,ld_new h⟩
theorem Fresh.low {w:World} {base base':Nat} {a:Option Addr} {len cap:Nat} {ls:List Du} (h:Fresh w base a len cap ls) (hb:base'≤base):Fresh w base' a len cap ls:=⟨h.came,fun hn x hx=>Nat.le_trans hb (h.new hn x hx)⟩
theorem Fresh.below {w w':World} {base:Nat} {a:Option Addr} {len cap:Nat} {ls:List Du} (h:Fresh w base a len cap ls) (hb:Below w.heap.size w w'):Fresh w' base a len cap ls:=⟨h.came.below hb,h.new⟩
theorem came_nil (w:World):Came w none 0 0 []:=⟨tar.RowD.nil _ _,fun _=>rfl,Nat.le_refl _,by omega,fun x hx=>by cases hx⟩
theorem fresh_nil (w:World) (base:Nat):Fresh w base none 0 0 []:=⟨came_nil w,fun h=>absurd h (Nat.lt_irrefl _)⟩
end deb
namespace words
def decF:Nat→Nat→List Int
 | 0,u=>[48+(u:Int)]
 | k+1,u=>if u<10 then [48+(u:Int)] else decF k (u / 10)++[48+((u % 10:Nat):Int)]
def decL (u:Nat):List Int:=decF u u
theorem decF_same:∀ (k j u:Nat),u≤k→u≤j→decF k u=decF j u:=by
 intro k
 induction k with
 | zero=>
  intro j u h1 h2;have:u=0:=by omega
  subst this;cases j with
  | zero=>rfl
  | succ j=>simp [decF]
 | succ k ih=>
  intro j u h1 h2;by_cases h0:u<10
  ·cases j with
   | zero=>
    have:u=0:=by omega
    subst this;simp [decF]
   | succ j=>rw [decF,decF,if_pos h0,if_pos h0]
  ·obtain ⟨j',rfl⟩:∃ j',j=j'+1:=⟨j - 1,by omega⟩
   rw [decF,decF,if_neg h0,if_neg h0,ih j' (u / 10) (by omega) (by omega)]
theorem decL_one {u:Nat} (h:u<10):decL u=[48+(u:Int)]:=by
 unfold decL;cases u with
 | zero=>rfl
 | succ k=>rw [decF,if_pos h]
theorem decL_more {u:Nat} (h:¬ u<10):decL u=decL (u / 10)++[48+((u % 10:Nat):Int)]:=by
 obtain ⟨k,rfl⟩:∃ k,u=k+1:=⟨u - 1,by omega⟩
 unfold decL;rw [decF,if_neg h,decF_same k _ _ (by omega) (Nat.le_refl _)]
theorem decL_len (k:Nat):∀ u:Nat,u<10 ^ (k+1)→1≤(decL u).length∧(decL u).length≤k+1:=by
 induction k with
 | zero=>intro u h;rw [decL_one (by omega)];simp
 | succ k ih=>
  intro u h;by_cases h1:u<10
  ·rw [decL_one h1];simp
  ·rw [decL_more h1];have:=ih (u / 10) (by rw [Nat.pow_succ] at h;omega);simp;omega
theorem decL_len29 (u:Nat) (h:(u:Int)<top):1≤(decL u).length∧(decL u).length≤29:=decL_len 28 u (by unfold top at h;omega)
end words
namespace check
open Go.RowKit
theorem len_eq (s:ByteArray):s.data.toList.length=s.size:=Array.length_toList
def pick (n many:Int):Int:=(if n<0 then -(n+1) else n) % many
theorem pick_nonneg (n many:Int) (h:0<many):0≤pick n many:=Int.emod_nonneg _ (by omega)
theorem pick_lt (n many:Int) (h:0<many):pick n many<many:=Int.emod_lt_of_pos _ h
theorem picked_any (n many:Int) (w:World) (hn:(Lit.int .i64 n).wf=true) (hm:0<many) (hm':many≤4000000000000) :
  Calls Tryz.prog 7 #[zI n,zI many] w fun e w'=>e = .returned (zI (pick n many))∧w'=w:=by
 have hb:-9223372036854775808≤n∧n≤9223372036854775807:=bounds_i64 hn;obtain ⟨hb1,hb2⟩:=hb;by_cases h:n<0
 ·have e0:pick n many=(-(n+1)) % many:=by unfold pick;rw [if_pos h]
  rw [e0];go_enter Tryz.func7,Tryz.ntmps7;go_wp2;go_ret;exact ⟨by rw [← Int.neg_tmod,Int.tmod_eq_emod_of_nonneg (by omega)];rfl,rfl⟩
 ·have e0:pick n many=n % many:=by unfold pick;rw [if_neg h]
  rw [e0];go_enter Tryz.func7,Tryz.ntmps7;go_wp2;go_ret;exact ⟨rfl,rfl⟩
end check
namespace disk
open Go.RowKit
structure Sli where
 a:Option Addr
 n:Nat
 c:Nat
def Sli.v (s:Sli):Value:= .slice s.a s.n s.c
def sl0:Sli:=⟨none,0,0⟩
def cellsR (l:List Sli):List Value:=l.map Sli.v
theorem oneR (l:List Sli):∀ u∈cellsR l,u.oneCell'=true:=fun u hu=>by
 obtain ⟨s,_,rfl⟩:=List.mem_map.1 hu;rfl
def Lr (T:TypeId) (w:World) (base:Nat) (v:Value) (l:List Sli):Prop:=w.ownsRow base T 1 v l.length (cellsR l)
theorem Lr.zero (T:TypeId) (w:World) (base:Nat):Lr T w base (zS) []:=World.ownsRow_nil _ _ _ _
theorem Lr.next {T:TypeId} {w w':World} {base:Nat} {v:Value} {l:List Sli} (h:Lr T w base v l) (hb:Below w.heap.size w w'):Lr T w' base v l:=by
 refine ⟨h.1,?_⟩;rcases h.2 with hn | ⟨g,cap,cur,hv,hg,hc,rest⟩
 ·exact .inl hn
 ·exact .inr ⟨g,cap,cur,hv,hg,Blk.next hc hb,rest⟩
theorem Lr.row {T:TypeId} {w:World} {base:Nat} {v:Value} {l:List Sli} (h:Lr T w base v l) (h0:0<l.length):∃ g cap,v = .slice (some ⟨g,0,none⟩) l.length cap∧base≤g∧g<w.heap.size∧l.length≤cap∧∀ i,i<l.length→w.cell? ⟨g,i,none⟩=some (l.getD i sl0).v:=by
 rcases h.2 with ⟨hv,hn⟩ | ⟨g,cap,cur,hv,hg,hc,h1,_⟩
 ·omega
 ·subst hv;refine ⟨g,cap,rfl,hg,Blk.lt hc,h1,fun i hi=>?_⟩;have e1:=World.ownsRow.cellAt h i (by omega);rw [e1];simp [cellsR,List.getD,hi]
theorem Lr.len {T:TypeId} {w:World} {base:Nat} {v:Value} {l:List Sli} (h:Lr T w base v l):∃ a cap,v = .slice a l.length cap:=by
 rcases h.2 with ⟨hv,hn⟩ | ⟨g,cap,cur,hv,_⟩
 ·exact ⟨none,0,by rw [hn];exact hv⟩
 ·exact ⟨_,cap,hv⟩
structure SliT (P:Program) (T S:TypeId):Prop where
 info:(P.info? T).map (fun i=>(i.zero,i.size,i.bytes))=some (some (sl0.v),1,24)
 under:P.underlying S=some (.slice T)
def Recs (w:World) (own:Option Nat) (l:List Sli) (zs:List (List Int)):Prop:=l.length=zs.length∧∀ i,i<l.length→(∃ b off,(l.getD i sl0).a=some ⟨b,off,none⟩∧b<w.heap.size∧some b≠own)∧cell.RowU w (l.getD i sl0).a (l.getD i sl0).n (zs.getD i [])
theorem Recs.nil (w:World) (own:Option Nat):Recs w own [] []:=⟨rfl,fun i hi=>by cases hi⟩
theorem Recs.below {w w':World} {own:Option Nat} {l:List Sli} {zs:List (List Int)} (h:Recs w own l zs) (hb:Below w.heap.size w w'):Recs w' own l zs:=⟨h.1,fun i hi=>by
 obtain ⟨⟨b,off,h1,h2,h3⟩,h4⟩:=h.2 i hi
 exact ⟨⟨b,off,h1,Nat.lt_of_lt_of_le h2 hb.size,h3⟩,h4.below hb⟩⟩
theorem Recs.snoc {w:World} {own:Option Nat} {l:List Sli} {zs:List (List Int)} (h:Recs w own l zs) {s:Sli} {z:List Int} (hs:(∃ b off,s.a=some ⟨b,off,none⟩∧b<w.heap.size∧some b≠own)∧cell.RowU w s.a s.n z):Recs w own (l++[s]) (zs++[z]):=by
 refine ⟨by rw [List.length_append,List.length_append,h.1];rfl,fun i hi=>?_⟩;by_cases h1:i<l.length
 ·have e1:(l++[s]).getD i sl0=l.getD i sl0:=by simp [List.getD,List.getElem?_append_left h1]
  have e2:(zs++[z]).getD i []=zs.getD i []:=by simp [List.getD,List.getElem?_append_left (show i<zs.length from h.1 ▸ h1)]
  rw [e1,e2];exact h.2 i h1
 ·have hi':i=l.length:=by simp at hi;omega
  have e1:(l++[s]).getD i sl0=s:=by rw [hi'];simp [List.getD]
  have e2:(zs++[z]).getD i []=z:=by rw [hi',h.1];simp [List.getD]
  rw [e1,e2];exact hs
theorem Recs.grown {w w':World} {own own':Option Nat} {l:List Sli} {zs:List (List Int)} (h:Recs w own l zs) (hg:w.grownBy w' own) (ho:own'=own∨own'=some w.heap.size):Recs w' own' l zs:=⟨h.1,fun i hi=>by
 obtain ⟨⟨b,off,h1,h2,h3⟩,h4⟩:=h.2 i hi;have hb:=hg.block b h2 h3;refine ⟨⟨b,off,h1,Nat.lt_of_lt_of_le h2 hg.size,?_⟩,h4.1,?_⟩
 ·rcases ho with rfl | rfl
  ·exact h3
  ·intro e;have:=Option.some.inj e;omega
 ·rcases h4.2 with h0 | ⟨b',off',e,hc⟩
  ·exact .inl h0
  ·rw [h1] at e;have e1:=Option.some.inj e;have e2:b=b':=congrArg Addr.block e1;subst e2;refine .inr ⟨b,off',by rw [h1,e1],fun i hi=>?_⟩;rw [← hc i hi]
   simp [World.cell?,hb]⟩
end disk
namespace words
open Go.RowKit
theorem cutWord_any (B:Nat) (n:Int) (w:World) (hc:w.cell? ⟨B,0,none⟩=some (.int .u64 n)) (hf:w.frozen? ⟨B,0,none⟩=false) :
  Calls Tryz.prog 91 #[.pointer (some ⟨B,0,none⟩)] w fun e w'=>e = .returned (.int .u32 (n % 4294967296))∧w'=w.setCell ⟨B,0,none⟩ (.int .u64 (n / 4294967296)):=by
 go_enter Tryz.func91,Tryz.ntmps91;go_wp2;go_ret;exact ⟨rfl,rfl⟩
abbrev wv (w:W3):Value:= .agg #[.int .u32 w.a,.int .u32 w.b,.int .u32 w.c]
end words
namespace disk
open cell
theorem it_short (c:List Int) (k:Nat):∀ z∈(itD c k).1,z.length≤64:=by
 induction k with
 | zero=>intro z hz;cases hz
 | succ k ih=>
  intro z hz;by_cases h:0<lenAt c (itD c k).2
  ·rw [it_live h] at hz;rcases List.mem_append.1 hz with hz | hz
   ·exact ih z hz
   ·obtain rfl:=List.mem_singleton.1 hz;obtain ⟨_,_,p1,_⟩:=len_pos h;unfold recAt;rw [List.length_take];omega
  ·rw [it_dead h 1] at hz;exact ih z hz
theorem it_count (c:List Int) (k:Nat):(itD c k).1.length≤(itD c k).2:=by
 induction k with
 | zero=>exact Nat.le_refl _
 | succ k ih=>
  by_cases h:0<lenAt c (itD c k).2
  ·rw [it_live h];show ((itD c k).1++[_]).length≤(itD c k).2+_+1;rw [List.length_append];simp only [List.length_cons,List.length_nil];omega
  ·rw [it_dead h 1];exact ih
theorem rep_few {c:List Int} {o:List (List Int)} {x f:Int} (h:RepIs c o x f):o.length≤2048∧∀ z∈o,z.length≤64:=by
 rcases h with ⟨_,rfl,_⟩ | ⟨_,_,rfl,_⟩ | ⟨hm,_,rfl,_⟩
 ·exact ⟨Nat.zero_le _,fun z hz=>by cases hz⟩
 ·exact ⟨Nat.zero_le _,fun z hz=>by cases hz⟩
 ·exact ⟨Nat.le_trans (it_count c _) (Nat.le_trans (it_bound c _).1 hm.2),it_short c _⟩
theorem app_few {c r:List Int} {l:List Wr} {f:Int} (h:AppIs c r l f):l.length≤66:=by
 rcases h with ⟨_,rfl,_⟩ | ⟨_,_,rfl,_⟩ | ⟨_,_,_,rfl,_⟩ | ⟨_,_,_,_,rfl,_⟩ | ⟨hr,_,_,_,rfl,_⟩
 ·exact Nat.zero_le _
 ·exact Nat.zero_le _
 ·exact Nat.zero_le _
 ·exact Nat.zero_le _
 ·rw [app_len];have:=hr.2;split <;> omega
open Go.RowKit
theorem sliT:SliT Tryz.prog 31 173:=⟨by kernel_rfl,Tryz.underlying173⟩
def Reads (w:World) (a:Option Addr) (n:Nat) (zs:List (List Int)):Prop:=
 zs.length=n∧(n=0∨∃ b off,a=some ⟨b,off,none⟩∧b<w.heap.size∧∀ i,i<n→∃ s:Sli,w.cell? ⟨b,off+i,none⟩=some s.v∧RowU w s.a s.n (zs.getD i [])∧s.n≤100000)
def ReadsF (w:World) (base:Nat) (a:Option Addr) (n:Nat) (zs:List (List Int)):Prop:=
 zs.length=n∧(n=0∨∃ b off,a=some ⟨b,off,none⟩∧base≤b∧b<w.heap.size∧∀ i,i<n→∃ s:Sli,w.cell? ⟨b,off+i,none⟩=some s.v∧RowU w s.a s.n (zs.getD i [])∧(s.n≤100000∧s.n≤s.c∧(s.a=none→s.c=0))∧∀ x,s.a=some x→base≤x.block)
theorem ReadsF.reads {w:World} {base:Nat} {a:Option Addr} {n:Nat} {zs:List (List Int)} (h:ReadsF w base a n zs):Reads w a n zs:=by
 refine ⟨h.1,?_⟩;rcases h.2 with h0 | ⟨b,off,rfl,_,lb,hc⟩
 ·exact .inl h0
 ·exact .inr ⟨b,off,rfl,lb,fun i hi=>by obtain ⟨s,h1,h2,h3,_⟩:=hc i hi;exact ⟨s,h1,h2,h3.1⟩⟩
def RepNew (w:World) (c:List Int) (e:Ending) (w':World):Prop:=
 ∃ a n cap out x f,e = .returned (.tuple #[.slice a n cap,zI x,zI f])∧ReadsF w' w.heap.size a n out∧n≤100000∧RepIs c out x f∧Below w.heap.size w w'
def AppGot (w:World) (c r:List Int) (e:Ending) (w':World):Prop:=
 ∃ a n cap ls f,e = .returned (.tuple #[.slice a n cap,zI f])∧RowW w' a n ls∧(∀ x,a=some x→w.heap.size≤x.block)∧n≤cap∧n≤100000∧AppIs c r ls f∧Below w.heap.size w w'
end disk
namespace deb
open tar (Du du0 Came RowD Ld ErrPost TwoPost PairT)
open Go.RowKit
theorem dwithin (lo hi n:Int) (w:World):Calls Tryz.prog 153 #[zI lo,zI hi,zI n] w fun e w'=>e = .returned (.bool (decide (lo≤n∧n≤hi)))∧w'=w:=by
 by_cases h1:lo≤n
 ·by_cases h2:n≤hi
  ·have h3:decide (lo≤n∧n≤hi)=true:=by simp;omega
   rw [h3];clear h3;go_enter Tryz.func153,Tryz.ntmps153;go_wp2;go_ret;exact ⟨rfl,rfl⟩
  ·have h3:decide (lo≤n∧n≤hi)=false:=by simp;omega
   have h4:decide (n≤hi)=false:=by simp;omega
   rw [h3];clear h3 h2;go_enter Tryz.func153,Tryz.ntmps153;go_wp2;go_ret;exact ⟨rfl,rfl⟩
 ·have h3:decide (lo≤n∧n≤hi)=false:=by simp;omega
  have h4:decide (lo≤n)=false:=by simp;omega
  rw [h3];clear h3 h1;go_enter Tryz.func153,Tryz.ntmps153;go_wp2;go_ret;exact ⟨rfl,rfl⟩
end deb
namespace tar
open Go.RowKit
def KtCheck:Prop:=∀ (W:World) (a:Option Addr) (len cap:Nat) (ls:List Du),Came W a len cap ls→Calls Tryz.prog 113 #[.slice a len cap] W fun e w'=>ErrPost W (FaultIs ls) e w'
end tar
namespace book
open Go.RowKit
def FindPost (w:World) (l:List Cu) (me:Int) (e:Ending) (w':World):Prop:=∃ x f,e = .returned (.tuple #[zI x,zI f])∧FindIs l me x f∧Below w.heap.size w w'
end book
end Go.Proofs.YtdpfnedfakgolaaGreatDoor
