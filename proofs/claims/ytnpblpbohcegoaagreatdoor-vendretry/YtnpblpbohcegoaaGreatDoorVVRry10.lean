import Derived.Test.YtnpblpbohcegoaaGreatDoorVVRry5
set_option linter.unusedVariables false
set_option linter.unusedSimpArgs false
set_option maxHeartbeats 4000000
set_option maxRecDepth 100000
namespace Go.Proofs.YtnpblpbohcegoaaGreatDoor
section
open Go.RowKit
theorem shN {w w':World} {G:Nat} {cs:Array Value} {t:TypeId} (h:Hid (Blk w G cs t)) (hb:Below w.heap.size w w'):Hid (Blk w' G cs t):=h.o.next hb
theorem shK {w W:World} {g G:Nat} {cs cs':Array Value} {t t':TypeId} (hU:Upd w W g cs t) (h:Hid (Blk w G cs' t')) (hne:G≠g):Hid (Blk W G cs' t'):=hU.keep h.o hne
theorem shB {w0 w w':World} (h:Hid (Below w0.heap.size w0 w)) (hb:Below w.heap.size w w'):Hid (Below w0.heap.size w0 w'):=bel_step h.o hb
theorem shV {w W:World} {g:Nat} {cs:Array Value} {t:TypeId} {B:Nat} {w0:World} (hU:Upd w W g cs t) (h:Hid (Below B w0 w)) (hB:B≤g):Hid (Below B w0 W):=hU.bel B w0 hB h.o
theorem sh1 (w:World) (c0:Array Value) (t0:TypeId):∃ W,Hid ((w.alloc (.cells c0 t0))=W)∧Hid (Blk W (w.heap.size) c0 t0)∧Hid (Below w.heap.size w W)∧w.heap.size<W.heap.size:=by
 refine ⟨_,rfl,?_,?_,?_⟩
 ·have h:=Blk.new w c0 t0;exact h
 ·exact (Below.refl w.heap.size w).alloc (by simp) _
 ·simp
theorem sh2 (w:World) (c0:Array Value) (t0:TypeId) (c1:Array Value) (t1:TypeId):∃ W,Hid (((w.alloc (.cells c0 t0)).alloc (.cells c1 t1))=W)∧Hid (Blk W (w.heap.size) c0 t0)∧Hid (Blk W (w.heap.size+1) c1 t1)∧Hid (Below w.heap.size w W)∧w.heap.size+1<W.heap.size:=by
 refine ⟨_,rfl,?_,?_,?_,?_⟩
 ·have h:=Blk.new w c0 t0;exact (h.alloc _)
 ·have h:=Blk.new (w.alloc (.cells c0 t0)) c1 t1;rw [show (w.alloc (.cells c0 t0)).heap.size=w.heap.size+1 by simp] at h;exact h
 ·exact ((Below.refl w.heap.size w).alloc (by simp) _).alloc (by simp) _
 ·simp
theorem sh3 (w:World) (c0:Array Value) (t0:TypeId) (c1:Array Value) (t1:TypeId) (c2:Array Value) (t2:TypeId):∃ W,Hid ((((w.alloc (.cells c0 t0)).alloc (.cells c1 t1)).alloc (.cells c2 t2))=W)∧Hid (Blk W (w.heap.size) c0 t0)∧Hid (Blk W (w.heap.size+1) c1 t1)∧Hid (Blk W (w.heap.size+1+1) c2 t2)∧Hid (Below w.heap.size w W)∧w.heap.size+1+1<W.heap.size:=by
 refine ⟨_,rfl,?_,?_,?_,?_,?_⟩
 ·have h:=Blk.new w c0 t0;exact ((h.alloc _).alloc _)
 ·have h:=Blk.new (w.alloc (.cells c0 t0)) c1 t1;rw [show (w.alloc (.cells c0 t0)).heap.size=w.heap.size+1 by simp] at h;exact (h.alloc _)
 ·have h:=Blk.new ((w.alloc (.cells c0 t0)).alloc (.cells c1 t1)) c2 t2;rw [show ((w.alloc (.cells c0 t0)).alloc (.cells c1 t1)).heap.size=w.heap.size+1+1 by simp] at h;exact h
 ·exact (((Below.refl w.heap.size w).alloc (by simp) _).alloc (by simp) _).alloc (by simp;omega) _
 ·simp
theorem sh4 (w:World) (c0:Array Value) (t0:TypeId) (c1:Array Value) (t1:TypeId) (c2:Array Value) (t2:TypeId) (c3:Array Value) (t3:TypeId):∃ W,Hid (((((w.alloc (.cells c0 t0)).alloc (.cells c1 t1)).alloc (.cells c2 t2)).alloc (.cells c3 t3))=W)∧Hid (Blk W (w.heap.size) c0 t0)∧Hid (Blk W (w.heap.size+1) c1 t1)∧Hid (Blk W (w.heap.size+1+1) c2 t2)∧Hid (Blk W (w.heap.size+1+1+1) c3 t3)∧Hid (Below w.heap.size w W)∧w.heap.size+1+1+1<W.heap.size:=by
 refine ⟨_,rfl,?_,?_,?_,?_,?_,?_⟩
 ·have h:=Blk.new w c0 t0;exact (((h.alloc _).alloc _).alloc _)
 ·have h:=Blk.new (w.alloc (.cells c0 t0)) c1 t1;rw [show (w.alloc (.cells c0 t0)).heap.size=w.heap.size+1 by simp] at h;exact ((h.alloc _).alloc _)
 ·have h:=Blk.new ((w.alloc (.cells c0 t0)).alloc (.cells c1 t1)) c2 t2;rw [show ((w.alloc (.cells c0 t0)).alloc (.cells c1 t1)).heap.size=w.heap.size+1+1 by simp] at h;exact (h.alloc _)
 ·have h:=Blk.new (((w.alloc (.cells c0 t0)).alloc (.cells c1 t1)).alloc (.cells c2 t2)) c3 t3;rw [show (((w.alloc (.cells c0 t0)).alloc (.cells c1 t1)).alloc (.cells c2 t2)).heap.size=w.heap.size+1+1+1 by simp] at h;exact h
 ·exact ((((Below.refl w.heap.size w).alloc (by simp) _).alloc (by simp) _).alloc (by simp;omega) _).alloc (by simp;omega) _
 ·simp
theorem sh5 (w:World) (c0:Array Value) (t0:TypeId) (c1:Array Value) (t1:TypeId) (c2:Array Value) (t2:TypeId) (c3:Array Value) (t3:TypeId) (c4:Array Value) (t4:TypeId):∃ W,Hid ((((((w.alloc (.cells c0 t0)).alloc (.cells c1 t1)).alloc (.cells c2 t2)).alloc (.cells c3 t3)).alloc (.cells c4 t4))=W)∧Hid (Blk W (w.heap.size) c0 t0)∧Hid (Blk W (w.heap.size+1) c1 t1)∧Hid (Blk W (w.heap.size+1+1) c2 t2)∧Hid (Blk W (w.heap.size+1+1+1) c3 t3)∧Hid (Blk W (w.heap.size+1+1+1+1) c4 t4)∧Hid (Below w.heap.size w W)∧w.heap.size+1+1+1+1<W.heap.size:=by
 refine ⟨_,rfl,?_,?_,?_,?_,?_,?_,?_⟩
 ·have h:=Blk.new w c0 t0;exact ((((h.alloc _).alloc _).alloc _).alloc _)
 ·have h:=Blk.new (w.alloc (.cells c0 t0)) c1 t1;rw [show (w.alloc (.cells c0 t0)).heap.size=w.heap.size+1 by simp] at h;exact (((h.alloc _).alloc _).alloc _)
 ·have h:=Blk.new ((w.alloc (.cells c0 t0)).alloc (.cells c1 t1)) c2 t2;rw [show ((w.alloc (.cells c0 t0)).alloc (.cells c1 t1)).heap.size=w.heap.size+1+1 by simp] at h;exact ((h.alloc _).alloc _)
 ·have h:=Blk.new (((w.alloc (.cells c0 t0)).alloc (.cells c1 t1)).alloc (.cells c2 t2)) c3 t3;rw [show (((w.alloc (.cells c0 t0)).alloc (.cells c1 t1)).alloc (.cells c2 t2)).heap.size=w.heap.size+1+1+1 by simp] at h;exact (h.alloc _)
 ·have h:=Blk.new ((((w.alloc (.cells c0 t0)).alloc (.cells c1 t1)).alloc (.cells c2 t2)).alloc (.cells c3 t3)) c4 t4;rw [show ((((w.alloc (.cells c0 t0)).alloc (.cells c1 t1)).alloc (.cells c2 t2)).alloc (.cells c3 t3)).heap.size=w.heap.size+1+1+1+1 by simp] at h;exact h
 ·exact (((((Below.refl w.heap.size w).alloc (by simp) _).alloc (by simp) _).alloc (by simp;omega) _).alloc (by simp;omega) _).alloc (by simp;omega) _
 ·simp
theorem shc3 {w:World} {G:Nat} {a0 a1 a2:Value} {t:TypeId} (h:Hid (Blk w G #[a0,a1,a2] t)):Hid (w.cell? ⟨G,0,none⟩=some a0)∧Hid (w.cell? ⟨G,1,none⟩=some a1)∧Hid (w.cell? ⟨G,2,none⟩=some a2):=⟨h.o.cell 0,h.o.cell 1,h.o.cell 2⟩
theorem shc4 {w:World} {G:Nat} {a0 a1 a2 a3:Value} {t:TypeId} (h:Hid (Blk w G #[a0,a1,a2,a3] t)):Hid (w.cell? ⟨G,0,none⟩=some a0)∧Hid (w.cell? ⟨G,1,none⟩=some a1)∧Hid (w.cell? ⟨G,2,none⟩=some a2)∧Hid (w.cell? ⟨G,3,none⟩=some a3):=⟨h.o.cell 0,h.o.cell 1,h.o.cell 2,h.o.cell 3⟩
theorem scl5 {w:World} {G:Nat} {a0 a1 a2 a3 a4:Value} {t:TypeId} (h:Hid (Blk w G #[a0,a1,a2,a3,a4] t)):w.cell? ⟨G,0,none⟩=some a0∧w.cell? ⟨G,1,none⟩=some a1∧w.cell? ⟨G,2,none⟩=some a2∧w.cell? ⟨G,3,none⟩=some a3∧w.cell? ⟨G,4,none⟩=some a4:=⟨h.o.cell 0,h.o.cell 1,h.o.cell 2,h.o.cell 3,h.o.cell 4⟩
theorem shc5 {w:World} {G:Nat} {a0 a1 a2 a3 a4:Value} {t:TypeId} (h:Hid (Blk w G #[a0,a1,a2,a3,a4] t)):Hid (w.cell? ⟨G,0,none⟩=some a0)∧Hid (w.cell? ⟨G,1,none⟩=some a1)∧Hid (w.cell? ⟨G,2,none⟩=some a2)∧Hid (w.cell? ⟨G,3,none⟩=some a3)∧Hid (w.cell? ⟨G,4,none⟩=some a4):=⟨h.o.cell 0,h.o.cell 1,h.o.cell 2,h.o.cell 3,h.o.cell 4⟩
theorem scl7 {w:World} {G:Nat} {a0 a1 a2 a3 a4 a5 a6:Value} {t:TypeId} (h:Hid (Blk w G #[a0,a1,a2,a3,a4,a5,a6] t)):w.cell? ⟨G,0,none⟩=some a0∧w.cell? ⟨G,1,none⟩=some a1∧w.cell? ⟨G,2,none⟩=some a2∧w.cell? ⟨G,3,none⟩=some a3∧w.cell? ⟨G,4,none⟩=some a4∧w.cell? ⟨G,5,none⟩=some a5∧w.cell? ⟨G,6,none⟩=some a6:=⟨h.o.cell 0,h.o.cell 1,h.o.cell 2,h.o.cell 3,h.o.cell 4,h.o.cell 5,h.o.cell 6⟩
theorem shc7 {w:World} {G:Nat} {a0 a1 a2 a3 a4 a5 a6:Value} {t:TypeId} (h:Hid (Blk w G #[a0,a1,a2,a3,a4,a5,a6] t)):Hid (w.cell? ⟨G,0,none⟩=some a0)∧Hid (w.cell? ⟨G,1,none⟩=some a1)∧Hid (w.cell? ⟨G,2,none⟩=some a2)∧Hid (w.cell? ⟨G,3,none⟩=some a3)∧Hid (w.cell? ⟨G,4,none⟩=some a4)∧Hid (w.cell? ⟨G,5,none⟩=some a5)∧Hid (w.cell? ⟨G,6,none⟩=some a6):=⟨h.o.cell 0,h.o.cell 1,h.o.cell 2,h.o.cell 3,h.o.cell 4,h.o.cell 5,h.o.cell 6⟩
theorem scl8 {w:World} {G:Nat} {a0 a1 a2 a3 a4 a5 a6 a7:Value} {t:TypeId} (h:Hid (Blk w G #[a0,a1,a2,a3,a4,a5,a6,a7] t)):w.cell? ⟨G,0,none⟩=some a0∧w.cell? ⟨G,1,none⟩=some a1∧w.cell? ⟨G,2,none⟩=some a2∧w.cell? ⟨G,3,none⟩=some a3∧w.cell? ⟨G,4,none⟩=some a4∧w.cell? ⟨G,5,none⟩=some a5∧w.cell? ⟨G,6,none⟩=some a6∧w.cell? ⟨G,7,none⟩=some a7:=⟨h.o.cell 0,h.o.cell 1,h.o.cell 2,h.o.cell 3,h.o.cell 4,h.o.cell 5,h.o.cell 6,h.o.cell 7⟩
theorem shc8 {w:World} {G:Nat} {a0 a1 a2 a3 a4 a5 a6 a7:Value} {t:TypeId} (h:Hid (Blk w G #[a0,a1,a2,a3,a4,a5,a6,a7] t)):Hid (w.cell? ⟨G,0,none⟩=some a0)∧Hid (w.cell? ⟨G,1,none⟩=some a1)∧Hid (w.cell? ⟨G,2,none⟩=some a2)∧Hid (w.cell? ⟨G,3,none⟩=some a3)∧Hid (w.cell? ⟨G,4,none⟩=some a4)∧Hid (w.cell? ⟨G,5,none⟩=some a5)∧Hid (w.cell? ⟨G,6,none⟩=some a6)∧Hid (w.cell? ⟨G,7,none⟩=some a7):=⟨h.o.cell 0,h.o.cell 1,h.o.cell 2,h.o.cell 3,h.o.cell 4,h.o.cell 5,h.o.cell 6,h.o.cell 7⟩
theorem shc9 {w:World} {G:Nat} {a0 a1 a2 a3 a4 a5 a6 a7 a8:Value} {t:TypeId} (h:Hid (Blk w G #[a0,a1,a2,a3,a4,a5,a6,a7,a8] t)):Hid (w.cell? ⟨G,0,none⟩=some a0)∧Hid (w.cell? ⟨G,1,none⟩=some a1)∧Hid (w.cell? ⟨G,2,none⟩=some a2)∧Hid (w.cell? ⟨G,3,none⟩=some a3)∧Hid (w.cell? ⟨G,4,none⟩=some a4)∧Hid (w.cell? ⟨G,5,none⟩=some a5)∧Hid (w.cell? ⟨G,6,none⟩=some a6)∧Hid (w.cell? ⟨G,7,none⟩=some a7)∧Hid (w.cell? ⟨G,8,none⟩=some a8):=⟨h.o.cell 0,h.o.cell 1,h.o.cell 2,h.o.cell 3,h.o.cell 4,h.o.cell 5,h.o.cell 6,h.o.cell 7,h.o.cell 8⟩
theorem scl13 {w:World} {G:Nat} {a0 a1 a2 a3 a4 a5 a6 a7 a8 a9 a10 a11 a12:Value} {t:TypeId} (h:Hid (Blk w G #[a0,a1,a2,a3,a4,a5,a6,a7,a8,a9,a10,a11,a12] t)):w.cell? ⟨G,0,none⟩=some a0∧w.cell? ⟨G,1,none⟩=some a1∧w.cell? ⟨G,2,none⟩=some a2∧w.cell? ⟨G,3,none⟩=some a3∧w.cell? ⟨G,4,none⟩=some a4∧w.cell? ⟨G,5,none⟩=some a5∧w.cell? ⟨G,6,none⟩=some a6∧w.cell? ⟨G,7,none⟩=some a7∧w.cell? ⟨G,8,none⟩=some a8∧w.cell? ⟨G,9,none⟩=some a9∧w.cell? ⟨G,10,none⟩=some a10∧w.cell? ⟨G,11,none⟩=some a11∧w.cell? ⟨G,12,none⟩=some a12:=⟨h.o.cell 0,h.o.cell 1,h.o.cell 2,h.o.cell 3,h.o.cell 4,h.o.cell 5,h.o.cell 6,h.o.cell 7,h.o.cell 8,h.o.cell 9,h.o.cell 10,h.o.cell 11,h.o.cell 12⟩
end
namespace deb
open tar (Du du0 Came RowD Ld ErrPost TwoPost PairT)
open Go.RowKit
def mixK (l:List Du) (m k:Nat):List Du:=ageAll (l.take k) m++l.drop k
theorem mix_all (l:List Du) (m k:Nat) (h:l.length=k):mixK l m k=ageAll l m:=by
 subst h;unfold mixK;rw [List.take_length,List.drop_length,List.append_nil]
theorem mix_len (l:List Du) (m k:Nat) (hk:k≤l.length):(mixK l m k).length=l.length:=by
 unfold mixK;rw [List.length_append,ageAll_len,List.length_take,List.length_drop];omega
theorem drop_one (l:List Du) (k:Nat) (hk:k<l.length):l.drop k=l.getD k du0 :: l.drop (k+1):=by
 rw [List.drop_eq_getElem_cons hk];simp [List.getD,List.getElem?_eq_getElem hk]
theorem mix_at (l:List Du) (m k:Nat) (hk:k<l.length):(mixK l m k).getD k du0=l.getD k du0:=by
 unfold mixK;have e:(ageAll (l.take k) m).length=k:=by rw [ageAll_len,List.length_take];omega
 rw [drop_one l k hk,List.getD,List.getElem?_append_right (by omega),e,Nat.sub_self];simp
theorem mix_set (l:List Du) (m k:Nat) (hk:k<l.length) (d:Du):(mixK l m k).set k d=ageAll (l.take k) m++d :: l.drop (k+1):=by
 unfold mixK;have e:(ageAll (l.take k) m).length=k:=by rw [ageAll_len,List.length_take];omega
 rw [drop_one l k hk,List.set_append_right _ _ (by omega),e,Nat.sub_self,List.set_cons_zero]
theorem mix_next (l:List Du) (m k:Nat) (hk:k<l.length):(mixK l m k).set k ⟨growN (l.getD k du0).b m (l.getD k du0).a,(l.getD k du0).b⟩=mixK l m (k+1):=by
 rw [mix_set l m k hk];unfold mixK;rw [ageAll_take l m k hk];simp
theorem mix_same (l:List Du) (m k:Nat) (hk:k<l.length):(mixK l m k).set k ⟨growN (l.getD k du0).b 0 (l.getD k du0).a,(l.getD k du0).b⟩=mixK l m k:=by
 rw [mix_set l m k hk];show ageAll (l.take k) m++l.getD k du0 :: l.drop (k+1)=mixK l m k;unfold mixK;rw [drop_one l k hk]
theorem cells_set (l:List Du) (k:Nat) (hk:k<l.length) (x b:Int) (hb:(l.getD k du0).b=b):tar.cellsD (l.set k ⟨x,b⟩)=(tar.cellsD l).set (k*2) (zI x):=by
 induction l generalizing k with
 | nil=>simp at hk
 | cons d l ih=>
  cases k with
  | zero=>
   have e:d.b=b:=by simpa using hb
   subst e;rfl
  | succ k=>
   rw [show (k+1)*2=k*2+1+1 by omega];have h1:k<l.length:=by simpa using hk
   have h2:=ih k h1 (by simpa using hb);show tar.cellsD (d :: l.set k ⟨x,b⟩)=_;simp only [tar.cellsD,List.set_cons_succ,h2]
theorem ld_put {T:TypeId} {w W:World} {base g n cap:Nat} {l:List Du} {cur:Array Value} (h:Ld T w base (.slice (some ⟨g,0,none⟩) n cap) l) (hB:Blk w g cur T) (k:Nat) (hk:k<l.length) (x b:Int) (hb:(l.getD k du0).b=b) (hU:Upd w W g (cur.setIfInBounds (k*2) (zI x)) T):Ld T W base (.slice (some ⟨g,0,none⟩) n cap) (l.set k ⟨x,b⟩):=by
 unfold Ld at *;rw [List.length_set,cells_set l k hk x b hb];refine ⟨by rw [List.length_set];exact h.1,?_⟩;rcases h.2 with ⟨h',_⟩ | ⟨g',cap',cur',hv,hg,hc,hn,hm,hz,ht⟩
 ·cases h'
 ·simp only [Value.slice.injEq,Option.some.injEq,Addr.mk.injEq,and_true] at hv;obtain ⟨rfl,rfl,rfl⟩:=hv
  have e:cur'=cur:=by
   have h1:w.heap[g]?=some (.cells cur T (0,0)):=hB;rw [h1] at hc;injection hc with hc
   injection hc with hc
   exact hc.symm
  subst e;exact .inr ⟨g,cap,_,rfl,hg,hU.blk,hn,hm,by simpa using hz,by rw [Array.toList_setIfInBounds,← ht,List.take_set]⟩
theorem ld_lies {T:TypeId} {w:World} {base n cap:Nat} {a:Option Addr} {l:List Du} (h:Ld T w base (.slice a n cap) l) (hn:0<n):∃ g cur,a=some ⟨g,0,none⟩∧base≤g∧Blk w g cur T∧n*2≤cur.size∧(∀ k,k<l.length→w.cell? ⟨g,k*2,none⟩=some (zI (l.getD k du0).a)∧w.cell? ⟨g,k*2+1,none⟩=some (zI (l.getD k du0).b)):=by
 rcases h.2 with ⟨h',h0⟩ | ⟨g,cap',cur,hv,hg,hc,hle,hm,hz,ht⟩
 ·simp only [Value.slice.injEq] at h';omega
 ·simp only [Value.slice.injEq] at hv;obtain ⟨rfl,rfl,rfl⟩:=hv;refine ⟨g,cur,rfl,hg,hc,by omega,fun k hk=>?_⟩;have e1:=World.ownsRow.cellAt h (k*2) (by omega);have e2:=World.ownsRow.cellAt h (k*2+1) (by omega);rw [e1,e2];exact tar.cellsD_at l k hk
end deb
namespace tar
open Go.RowKit
open Classical in
theorem prises (b off k cap:Nat) (ls:List Du) (w1:World) (hs1:1≤k) (hs2:k≤8) (hlen:ls.length=k) (hbl:b<w1.heap.size) (hc:∀ i,i<k→w1.cell? ⟨b,off+i*2,none⟩=some (zI (ls.getD i du0).a)∧w1.cell? ⟨b,off+i*2+1,none⟩=some (zI (ls.getD i du0).b)):Calls Tryz.prog 114 #[.slice (some ⟨b,off,none⟩) k cap] w1 fun e w'=>e = .returned (.bool (decide (Rises ls)))∧Below w1.heap.size w1 w':=by
 have HC:Hid (∀ i,i<k→w1.cell? ⟨b,off+i*2,none⟩=some (zI (ls.getD i du0).a)∧w1.cell? ⟨b,off+i*2+1,none⟩=some (zI (ls.getD i du0).b)):=hc;have HLEN:Hid (ls.length=k):=hlen;have hnm:k≤9223372036854775807:=by omega
 clear hc hlen;go_enter Tryz.func114,Tryz.ntmps114;go_wp2_with fail;go_loopw [3] (fun x wr2=>∃ j:Nat,1≤j∧j≤k∧x=zI (j:Int)∧(∀ i,1≤i→i<j→(ls.getD (i - 1) du0).a<(ls.getD i du0).a)∧Below w1.heap.size w1 wr2) (fun x _=>k - (intOf x).toNat)
 case atStart=>exact ⟨1,Nat.le_refl _,hs1,rfl,fun i h1 h2=>absurd h2 (by omega),Below.refl _ _⟩
 case round=>
  obtain ⟨j,hj1,hj,rfl,hf,hb⟩:=hrel;have HF:Hid (∀ i,1≤i→i<j→(ls.getD (i - 1) du0).a<(ls.getD i du0).a):=hf;have HB:Hid (Below w1.heap.size w1 wr):=hb;by_cases hlt2:j<k
  ·have hdl2:decide ((j:Int)<(k:Int))=true:=by simp;omega
   have c0:wr.cell? ⟨b,off+j*2,none⟩=some (zI (ls.getD j du0).a):=(hb.cell (p:=⟨b,off+j*2,none⟩) hbl).trans (HC.o j hlt2).1;have c1:wr.cell? ⟨b,off+(j - 1)*2,none⟩=some (zI (ls.getD (j - 1) du0).a):=(hb.cell (p:=⟨b,off+(j - 1)*2,none⟩) hbl).trans (HC.o (j - 1) (by omega)).1;have hs2':wr.drew.cell? ⟨b,off+j*2,none⟩=some (zI (ls.getD j du0).a):=c0;have HBD:Hid (Below w1.heap.size w1 wr.drew):=hb.drew;have hsub:((j:Int) - 1)=((j - 1:Nat):Int):=by omega
   have hjm:j - 1<k:=by omega
   clear hb hf;by_cases hle:(ls.getD j du0).a≤(ls.getD (j - 1) du0).a
   ·have hde:decide ((ls.getD j du0).a≤(ls.getD (j - 1) du0).a)=true:=decide_eq_true hle
    have HN:Hid (decide (Rises ls)=false):=decide_eq_false fun h=>by
     have:=h j hj1 (by rw [HLEN.o];exact hlt2);omega
    clear hle;generalize (ls.getD j du0).a=x at *;generalize (ls.getD (j - 1) du0).a=y at *;generalize j - 1=j1 at *;go_wp2_with fail;go_region
    all_goals go_wp2_with fail
    go_ret;exact ⟨by rw [HN.o];rfl,HBD.o⟩
   ·have hde:decide ((ls.getD j du0).a≤(ls.getD (j - 1) du0).a)=false:=decide_eq_false hle
    have HF2:Hid (∀ i,1≤i→i<j+1→(ls.getD (i - 1) du0).a<(ls.getD i du0).a):=fun i h1 h2=>by
     by_cases e:i=j
     ·subst e;omega
     ·exact HF.o i h1 (by omega)
    clear hle;generalize (ls.getD j du0).a=x at *;generalize (ls.getD (j - 1) du0).a=y at *;generalize j - 1=j1 at *;go_wp2_with fail;go_region
    all_goals go_wp2_with fail
    go_roundw
    case rel=>exact ⟨j+1,by omega,by omega,by go_num,HF2.o,HBD.o⟩
    case measure=>simp [intOf];omega
  ·obtain rfl:j=k:=by omega
   have hdl2:decide ((j:Int)<(j:Int))=false:=by simp
   have HR:Hid (decide (Rises ls)=true):=decide_eq_true fun i h1 h2=>HF.o i h1 (by rw [HLEN.o] at h2;exact h2);clear hb hf;go_wp2_with fail;go_ret;exact ⟨by rw [HR.o];rfl,HB.o⟩
end tar
namespace ora
open Go.RowKit
open Go.ChangeMaps (setBlock heap_setBlock_same heap_setBlock_other)
def ent (p:Pr) (i:Nat):MapEntry:={ key:= .agg #[zI p.m,zI p.r,zI p.b],val:=zI p.t,born:=i }
def ents:List Pr→Nat→List MapEntry
 | [],_=>[]
 | p :: l,i=>ent p i :: ents l (i+1)
theorem ents_app (l:List Pr) (p:Pr) (i:Nat):ents (l++[p]) i=ents l i++[ent p (i+l.length)]:=by
 induction l generalizing i with
 | nil=>rfl
 | cons x l ih=>simp only [List.cons_append,ents,ih,List.length_cons];rw [show i+1+l.length=i+(l.length+1) by omega]
def Mp (w:World) (B:Nat) (l:List Pr):Prop:=w.heap[B]?=some (.map (ents l 0).toArray l.length)
theorem Mp.lt {w:World} {B:Nat} {l:List Pr} (h:Mp w B l):B<w.heap.size:=by
 unfold Mp at h;by_cases hh:B<w.heap.size
 ·exact hh
 ·rw [Array.getElem?_eq_none (by omega)] at h;cases h
theorem Mp.below {w w':World} {B:Nat} {l:List Pr} (h:Mp w B l) (hb:Below w.heap.size w w'):Mp w' B l:=by
 have hl:=h.lt;unfold Mp at *;rw [hb.block B hl];exact h
theorem Mp.new (w:World):Mp (w.alloc (.map #[] 0)) w.heap.size []:=by
 show (w.heap.push _)[w.heap.size]?=_;rw [Array.getElem?_push_size];rfl
def look:List Pr→Int→Int→Int→Option Int
 | [],_,_,_=>none
 | p :: l,m,r,b=>if m=p.m∧r=p.r∧b=p.b then some p.t else look l m r b
theorem look_no {l:List Pr} {m r b:Int} (h:No l m r b):look l m r b=none:=by
 induction l with
 | nil=>rfl
 | cons p l ih=>
  have h0:=h 0 (by simp);rw [look,if_neg (fun e=>h0 ⟨e.1.symm,e.2.1.symm,e.2.2.symm⟩)];exact ih fun j hj=>h (j+1) (by simpa using hj)
theorem look_at {l:List Pr} {m r b:Int} {i:Nat} (h:At l m r b i):look l m r b=some (l.getD i pr0).t:=by
 induction l generalizing i with
 | nil=>exact absurd h.lt (Nat.not_lt_zero _)
 | cons p l ih=>
  cases i with
  | zero=>
   have h0:=h.is;rw [look,if_pos ⟨h0.1.symm,h0.2.1.symm,h0.2.2.symm⟩];rfl
  | succ i=>
   have h0:=h.first 0 (by omega);rw [look,if_neg (fun e=>h0 ⟨e.1.symm,e.2.1.symm,e.2.2.symm⟩)];exact ih ⟨by have:=h.lt;simpa using this,h.is,fun j hj=>h.first (j+1) (by omega)⟩
theorem look_take {l:List Pr} {m r b:Int} {k:Nat} (hk:k≤l.length):look (l.take k) m r b=none↔∀ j,j<k→¬ (l.getD j pr0).key m r b:=by
 have hg:∀ j,j<k→(l.take k).getD j pr0=l.getD j pr0:=fun j hj=>by simp [List.getD,List.getElem?_take,hj]
 rcases find_or (l.take k) m r b with ⟨i,hi⟩ | hn
 ·constructor
  ·intro h;rw [look_at hi] at h;cases h
  ·intro h;have hl:=hi.lt;rw [List.length_take] at hl;have:=hi.is;rw [hg i (by omega)] at this;exact absurd this (h i (by omega))
 ·constructor
  ·intro _ j hj;have:=hn j (by rw [List.length_take];omega)
   rwa [hg j hj] at this
  ·intro _;exact look_no hn
theorem skq (d:Nat) (a b:Int) (w:World):(Op.equalIn (d+1) 3 (zI a) (zI b)).run Tryz.prog w = .ok (a == b) w:=run_equalIn_int w d _ _ _ a b Tryz.underlying3
theorem sk0 (s t c:Int) (w:World):(part 3 #[zI s,zI t,zI c] 0).run Tryz.prog w = .ok (zI s) w:=by kernel_rfl
theorem sk1 (s t c:Int) (w:World):(part 3 #[zI s,zI t,zI c] 1).run Tryz.prog w = .ok (zI t) w:=by kernel_rfl
theorem sk2 (s t c:Int) (w:World):(part 3 #[zI s,zI t,zI c] 2).run Tryz.prog w = .ok (zI c) w:=by kernel_rfl
theorem eqSub (m r b:Int) (p:Pr) (w:World) :
  (Op.equal 282 (.agg #[zI m,zI r,zI b]) (.agg #[zI p.m,zI p.r,zI p.b])).run Tryz.prog w = .ok (decide (m=p.m∧r=p.r∧b=p.b)) w:=by
 unfold Op.equal;rw [show Op.maxDepth=9999+1 from rfl,run_equalIn_agg w 9999 282 _ _ (by kernel_rfl) (by kernel_rfl)];simp only [Program.fieldsOf,Tryz.underlying282,Op.eqFields,Sem.run_bind,Sem.run_ite];by_cases h1:m=p.m <;> by_cases h2:r=p.r <;> by_cases h3:b=p.b <;> simp [sk0,sk1,sk2,show (9999:Nat)=9998+1 from rfl,skq,h1,h2,h3]
theorem chk (em:Bool) (m r b:Int) (w:World):(Instr.checkKey em 10000 282 (.agg #[zI m,zI r,zI b])).run Tryz.prog w = .ok () w:=by kernel_rfl
theorem asking (m r b:Int) (w:World):∀ (l:List Pr) (i j:Nat),(look l m r b=none→(Instr.findAsking 282 (.agg #[zI m,zI r,zI b]) (ents l i) j).run Tryz.prog w = .ok none w) ∧
  ∀ t,look l m r b=some t→∃ q,(Instr.findAsking 282 (.agg #[zI m,zI r,zI b]) (ents l i) j).run Tryz.prog w = .ok (some (q,zI t)) w
 | [],i,j=>⟨fun _=>rfl,fun t h=>by cases h⟩
 | p :: l,i,j=>by
  have ih:=asking m r b w l (i+1) (j+1);unfold look;by_cases hp:m=p.m∧r=p.r∧b=p.b
  ·refine ⟨fun h=>(by rw [if_pos hp] at h;cases h),fun t h=>⟨j,?_⟩⟩;rw [if_pos hp] at h;cases h;simp [ents,Instr.findAsking,ent,eqSub,hp,Sem.run_bind]
  ·rw [if_neg hp]
   have e:∀ X,(Instr.findAsking 282 (.agg #[zI m,zI r,zI b]) (ents (p :: l) i) j).run Tryz.prog w=X↔(Instr.findAsking 282 (.agg #[zI m,zI r,zI b]) (ents l (i+1)) (j+1)).run Tryz.prog w=X:=fun X=>by
    simp [ents,Instr.findAsking,ent,eqSub,hp,Sem.run_bind]
   exact ⟨fun h=>(e _).2 (ih.1 h),fun t h=>(ih.2 t h).imp fun q hq=>(e _).2 hq⟩
theorem finding (m r b:Int) (w:World) (l:List Pr):(look l m r b=none→(Instr.findKey 282 (.agg #[zI m,zI r,zI b]) (ents l 0)).run Tryz.prog w = .ok none w) ∧
  ∀ t,look l m r b=some t→∃ q,(Instr.findKey 282 (.agg #[zI m,zI r,zI b]) (ents l 0)).run Tryz.prog w = .ok (some (q,zI t)) w:=by
 cases l with
 | nil=>exact ⟨fun _=>by simp [Instr.findKey,ents,Instr.findNow,run_underlying Tryz.underlying282,Sem.run_bind],fun t h=>by cases h⟩
 | cons p l=>
  have e:(Instr.findKey 282 (.agg #[zI m,zI r,zI b]) (ents (p :: l) 0)).run Tryz.prog w=(Instr.findAsking 282 (.agg #[zI m,zI r,zI b]) (ents (p :: l) 0)).run Tryz.prog w:=by
   simp [Instr.findKey,ents,Instr.findNow,Instr.sameNow,run_underlying Tryz.underlying282,Sem.run_bind]
  rw [e];exact asking m r b w (p :: l) 0 0
theorem zint (w:World):(zeroValue 3).run Tryz.prog w = .ok (zI 0) w:=by kernel_rfl
theorem look_run {w:World} {B:Nat} {l:List Pr} (h:Mp w B l) (m r b:Int) :
  (Instr.lookup 275 (.map (some B)) (.agg #[zI m,zI r,zI b]) true).run Tryz.prog w = .ok (.tuple #[zI ((look l m r b).getD 0),.bool (look l m r b).isSome]) w:=by
 have hf:=finding m r b w l;cases hl:look l m r b with
 | none=>simp [Instr.lookup,run_underlying Tryz.underlying275,MapKept.run_getObj_map h,chk,hf.1 hl,zint,Result.andThen,Sem.run_bind]
 | some t=>
  obtain ⟨q,hq⟩:=hf.2 t hl;simp [Instr.lookup,run_underlying Tryz.underlying275,MapKept.run_getObj_map h,chk,hq,Result.andThen,Sem.run_bind]
theorem upd_run {w:World} {B:Nat} {l:List Pr} (h:Mp w B l) (m r b t:Int) (hn:look l m r b=none) :
  ∃ W,(Instr.mapUpdate 275 (.map (some B)) (.agg #[zI m,zI r,zI b]) (zI t)).run Tryz.prog w = .ok () W∧Mp W B (l++[⟨m,r,b,t⟩])∧(∀ G,G≠B→W.heap[G]?=w.heap[G]?)∧(∀ B0 w0,B0≤B→Below B0 w0 w→Below B0 w0 W)∧W.heap.size=w.heap.size:=by
 have hf:=(finding m r b w l).1 hn;refine ⟨setBlock w B (.map ((ents l 0).toArray.push ⟨.agg #[zI m,zI r,zI b],zI t,l.length⟩) (l.length+1)),?_,?_,fun G hG=>heap_setBlock_other h _ hG,fun B0 w0 hB hb=>?_,by simp [setBlock]⟩
 ·simp [Instr.mapUpdate,run_underlying Tryz.underlying275,MapKept.run_getObj_map h,chk,hf,MapKept.run_setObj_map _ h,Result.andThen,setBlock,Sem.run_bind]
 ·unfold Mp;rw [heap_setBlock_same h,ents_app,List.length_append];simp [ent]
 ·refine ⟨hb.os,hb.tape,hb.output,by simp [setBlock];exact hb.size,fun k hk=>?_⟩;rw [heap_setBlock_other h _ (by omega)];exact hb.block k hk
theorem run_mkMap (w:World) (n:Int):(Instr.makeMap 275 (some (zI n))).run Tryz.prog w = .ok (.map (some w.heap.size)) (w.alloc (.map #[] 0)):=by kernel_rfl
theorem of_any (m r b t:Int) (w:World) :
  Calls Tryz.prog 189 #[.agg #[zI m,zI r,zI b,zI t]] w fun e w'=>e = .returned (.agg #[zI m,zI r,zI b])∧Below w.heap.size w w':=by
 have hN:=(Blk.new w #[zI m,zI r,zI b,zI t] 279).alloc (.cells #[zI 0,zI 0,zI 0] 282);have c0:=hN.cell 0;have c1:=hN.cell 1;have c2:=hN.cell 2;have hM:=Blk.new1 w (.cells #[zI m,zI r,zI b,zI t] 279) #[zI 0,zI 0,zI 0] 282;have HM:Hid (Blk _ _ _ _):=hM;have HB:Hid (Below w.heap.size w ((w.alloc (.cells #[zI m,zI r,zI b,zI t] 279)).alloc (.cells #[zI 0,zI 0,zI 0] 282))):=((Below.refl _ _).alloc (Nat.le_refl _) _).alloc (by simp) _;clear hN hM;go_enter Tryz.func189,Tryz.ntmps189
 go_wp2_with (first
  | (refine wp_letAll rfl 282 _ _ rfl (w.heap.size+1) rfl _ rfl (by kernel_rfl) (by simp [Value.oneCell']) _ _ HM.o rfl ?_;intro W hu)
  | fail)
 have d0:=hu.blk.cell 0;have d1:=hu.blk.cell 1;have d2:=hu.blk.cell 2;have HBB:=shV hu HB (by omega);clear hu HM HB c0 c1 c2;go_wp2_with fail;exact bodyPost_ret (v:= .agg #[zI m,zI r,zI b]) (by simp [results,Tryz.results189,d0,d1,d2,go_sem]) rfl ⟨rfl,HBB.o⟩
theorem within_any (m r b t:Int) (w:World) :
  Calls Tryz.prog 188 #[.agg #[zI m,zI r,zI b,zI t]] w fun e w'=>Told w (Pr.mk m r b t).may e w':=by
 have hN:=Blk.new w #[zI m,zI r,zI b,zI t] 279;have c0:=hN.cell 0;have c1:=hN.cell 1;have c2:=hN.cell 2;have c3:=hN.cell 3;have HB:Hid (Below w.heap.size w (w.alloc (.cells #[zI m,zI r,zI b,zI t] 279))):=(Below.refl _ _).alloc (Nat.le_refl _) _;clear hN;by_cases h0:0≤m
 ·skip
  by_cases h1:m<50
  ·skip
   by_cases h2:0≤r
   ·skip
    by_cases h3:r≤15
    ·skip
     by_cases h4:0≤b
     ·skip
      by_cases h5:b≤8796093022207
      ·skip
       by_cases h6:0≤t
       ·skip
        by_cases h7:t≤65535
        ·skip
         have HF:Hid ((Pr.mk m r b t).may):=⟨⟨h0,by show m≤49;omega⟩,⟨h2,h3⟩,⟨h4,h5⟩,⟨h6,h7⟩⟩
         have q0:decide (0≤m)=true:=by simp;omega
         have q1:decide (m<50)=true:=by simp;omega
         have q2:decide (0≤r)=true:=by simp;omega
         have q3:decide (r≤15)=true:=by simp;omega
         have q4:decide (0≤b)=true:=by simp;omega
         have q5:decide (b≤8796093022207)=true:=by simp;omega
         have q6:decide (0≤t)=true:=by simp;omega
         have q7:decide (t≤65535)=true:=by simp;omega
         clear h0 h1 h2 h3 h4 h5 h6 h7;go_enter Tryz.func188,Tryz.ntmps188;go_wp2_with fail;go_ret;exact Told.yes HF.o HB.o
        ·have q7:decide (t≤65535)=false:=by simp;omega
         have HF:Hid (¬ (Pr.mk m r b t).may):=fun h=>by unfold Pr.may at h;simp only at h;omega
         have q0:decide (0≤m)=true:=by simp;omega
         have q1:decide (m<50)=true:=by simp;omega
         have q2:decide (0≤r)=true:=by simp;omega
         have q3:decide (r≤15)=true:=by simp;omega
         have q4:decide (0≤b)=true:=by simp;omega
         have q5:decide (b≤8796093022207)=true:=by simp;omega
         have q6:decide (0≤t)=true:=by simp;omega
         clear h0 h1 h2 h3 h4 h5 h6 h7;go_enter Tryz.func188,Tryz.ntmps188;go_wp2_with fail;go_ret;exact Told.no HF.o HB.o
       ·have q6:decide (0≤t)=false:=by simp;omega
        have HF:Hid (¬ (Pr.mk m r b t).may):=fun h=>by unfold Pr.may at h;simp only at h;omega
        have q0:decide (0≤m)=true:=by simp;omega
        have q1:decide (m<50)=true:=by simp;omega
        have q2:decide (0≤r)=true:=by simp;omega
        have q3:decide (r≤15)=true:=by simp;omega
        have q4:decide (0≤b)=true:=by simp;omega
        have q5:decide (b≤8796093022207)=true:=by simp;omega
        clear h0 h1 h2 h3 h4 h5 h6;go_enter Tryz.func188,Tryz.ntmps188;go_wp2_with fail;go_ret;exact Told.no HF.o HB.o
      ·have q5:decide (b≤8796093022207)=false:=by simp;omega
       have HF:Hid (¬ (Pr.mk m r b t).may):=fun h=>by unfold Pr.may at h;simp only at h;omega
       have q0:decide (0≤m)=true:=by simp;omega
       have q1:decide (m<50)=true:=by simp;omega
       have q2:decide (0≤r)=true:=by simp;omega
       have q3:decide (r≤15)=true:=by simp;omega
       have q4:decide (0≤b)=true:=by simp;omega
       clear h0 h1 h2 h3 h4 h5;go_enter Tryz.func188,Tryz.ntmps188;go_wp2_with fail;go_ret;exact Told.no HF.o HB.o
     ·have q4:decide (0≤b)=false:=by simp;omega
      have HF:Hid (¬ (Pr.mk m r b t).may):=fun h=>by unfold Pr.may at h;simp only at h;omega
      have q0:decide (0≤m)=true:=by simp;omega
      have q1:decide (m<50)=true:=by simp;omega
      have q2:decide (0≤r)=true:=by simp;omega
      have q3:decide (r≤15)=true:=by simp;omega
      clear h0 h1 h2 h3 h4;go_enter Tryz.func188,Tryz.ntmps188;go_wp2_with fail;go_ret;exact Told.no HF.o HB.o
    ·have q3:decide (r≤15)=false:=by simp;omega
     have HF:Hid (¬ (Pr.mk m r b t).may):=fun h=>by unfold Pr.may at h;simp only at h;omega
     have q0:decide (0≤m)=true:=by simp;omega
     have q1:decide (m<50)=true:=by simp;omega
     have q2:decide (0≤r)=true:=by simp;omega
     clear h0 h1 h2 h3;go_enter Tryz.func188,Tryz.ntmps188;go_wp2_with fail;go_ret;exact Told.no HF.o HB.o
   ·have q2:decide (0≤r)=false:=by simp;omega
    have HF:Hid (¬ (Pr.mk m r b t).may):=fun h=>by unfold Pr.may at h;simp only at h;omega
    have q0:decide (0≤m)=true:=by simp;omega
    have q1:decide (m<50)=true:=by simp;omega
    clear h0 h1 h2;go_enter Tryz.func188,Tryz.ntmps188;go_wp2_with fail;go_ret;exact Told.no HF.o HB.o
  ·have q1:decide (m<50)=false:=by simp;omega
   have HF:Hid (¬ (Pr.mk m r b t).may):=fun h=>by unfold Pr.may at h;simp only at h;omega
   have q0:decide (0≤m)=true:=by simp;omega
   clear h0 h1;go_enter Tryz.func188,Tryz.ntmps188;go_wp2_with fail;go_ret;exact Told.no HF.o HB.o
 ·have q0:decide (0≤m)=false:=by simp;omega
  have HF:Hid (¬ (Pr.mk m r b t).may):=fun h=>by unfold Pr.may at h;simp only at h;omega
  clear h0;go_enter Tryz.func188,Tryz.ntmps188;go_wp2_with fail;go_ret;exact Told.no HF.o HB.o
end ora
end Go.Proofs.YtnpblpbohcegoaaGreatDoor
