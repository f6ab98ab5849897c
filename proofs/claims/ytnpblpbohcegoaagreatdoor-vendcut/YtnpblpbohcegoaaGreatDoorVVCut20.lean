import Derived.Test.YtnpblpbohcegoaaGreatDoorVVCut15
import Derived.Test.YtnpblpbohcegoaaGreatDoorVVCut19
set_option linter.unusedVariables false
set_option linter.unusedSimpArgs false
set_option maxHeartbeats 4000000
set_option maxRecDepth 100000
namespace Go.Proofs.YtnpblpbohcegoaaGreatDoor
namespace token
open Go.RowKit
structure Rdy (w W:World) (c i a t:Int):Prop where
 below:Below w.heap.size w W
 b0:W.cell? ⟨w.heap.size,0,none⟩=some (zI c)
 b1:W.cell? ⟨w.heap.size,1,none⟩=some (zI i)
 b2:W.cell? ⟨w.heap.size,2,none⟩=some (zI a)
 b3:W.cell? ⟨w.heap.size,3,none⟩=some (zI t)
 i0:W.cell? ⟨w.heap.size+1,0,none⟩=some (zI 1)
 i1:W.cell? ⟨w.heap.size+1,1,none⟩=some (zI 1048575)
 t0:W.cell? ⟨w.heap.size+1+1,0,none⟩=some (zI 0)
 t1:W.cell? ⟨w.heap.size+1+1,1,none⟩=some (zI 65535)
theorem rdy_of (w:World) (c i a t:Int):Rdy w (((w.alloc (.cells #[zI c,zI i,zI a,zI t] 96)).alloc (.cells #[zI 1,zI 1048575] 221)).alloc (.cells #[zI 0,zI 65535] 221)) c i a t:=by
 have h0:=((Blk.new w #[zI c,zI i,zI a,zI t] 96).alloc (.cells #[zI 1,zI 1048575] 221)).alloc (.cells #[zI 0,zI 65535] 221);have h1:=(Blk.new1 w (.cells #[zI c,zI i,zI a,zI t] 96) #[zI 1,zI 1048575] 221).alloc (.cells #[zI 0,zI 65535] 221);have h2:=Blk.new2 w (.cells #[zI c,zI i,zI a,zI t] 96) (.cells #[zI 1,zI 1048575] 221) #[zI 0,zI 65535] 221;exact ⟨((((Below.refl _ _).alloc (Nat.le_refl _) _).alloc (by simp) _).alloc (by simp;omega) _),h0.cell 0,h0.cell 1,h0.cell 2,h0.cell 3,h1.cell 0,h1.cell 1,h2.cell 0,h2.cell 1⟩
theorem flaw_class (c i a t:Int) (w:World) (h:c<0∨3<c) :
  Calls Tryz.prog 85 #[.agg #[zI c,zI i,zI a,zI t]] w fun e w'=>e = .returned (zI 9)∧Below w.heap.size w w':=by
 have hb:Below w.heap.size w (w.alloc (.cells #[zI c,zI i,zI a,zI t] 96)):=(Below.refl _ _).alloc (Nat.le_refl _) _;by_cases h0:c<0
 ·clear h;go_enter Tryz.func85,Tryz.ntmps85;go_wp2;go_ret;exact ⟨rfl,hb⟩
 ·have h1:0≤c:=by omega
  have h2:4≤c:=by omega
  clear h;go_enter Tryz.func85,Tryz.ntmps85;go_wp2;go_ret;exact ⟨rfl,hb⟩
theorem flaw_in (c:Nat) (lo hi i a t:Int) (w:World) (hc:c<4) (g0:w.cell? ⟨0,c*2,none⟩=some (zI lo)) (g1:w.cell? ⟨0,c*2+1,none⟩=some (zI hi)) :
  Calls Tryz.prog 85 #[.agg #[zI (c:Int),zI i,zI a,zI t]] w fun e w'=>e = .returned (zI (if hasI 1 1048575 i && (hasI lo hi a && hasI 0 65535 t) then 0 else 2))∧Below w.heap.size w w':=by
 have HR:Hid (Rdy w (((w.alloc (.cells #[zI (c:Int),zI i,zI a,zI t] 96)).alloc (.cells #[zI 1,zI 1048575] 221)).alloc (.cells #[zI 0,zI 65535] 221)) c i a t):=rdy_of w c i a t;have g0':=HR.o.below.cell (World.block_lt_of_cell? w _ g0);rw [g0] at g0';have g1':=HR.o.below.cell (World.block_lt_of_cell? w _ g1);rw [g1] at g1';have HI:Hid (∀ W,Calls Tryz.prog 128 #[.agg #[zI 1,zI 1048575],zI i] W fun e w'=>e = .returned (.bool (hasI 1 1048575 i))∧Below W.heap.size W w'):=fun W=>has_any _ _ _ W;have HA:Hid (∀ W,Calls Tryz.prog 128 #[.agg #[zI lo,zI hi],zI a] W fun e w'=>e = .returned (.bool (hasI lo hi a))∧Below W.heap.size W w'):=fun W=>has_any _ _ _ W;have HU:Hid (∀ W,Calls Tryz.prog 128 #[.agg #[zI 0,zI 65535],zI t] W fun e w'=>e = .returned (.bool (hasI 0 65535 t))∧Below W.heap.size W w'):=fun W=>has_any _ _ _ W;clear g0 g1;have c0:¬ (c:Int)<0:=by omega
 have c1:¬ 4≤(c:Int):=by omega
 have c2:(c:Int)<4:=by omega
 generalize hasI 1 1048575 i=bi at *;generalize hasI lo hi a=ba at *;generalize hasI 0 65535 t=bt at *;cases bi with
 | false=>
  go_enter Tryz.func85,Tryz.ntmps85;go_wp2_with fail;generalize (((w.alloc (.cells #[zI (c:Int),zI i,zI a,zI t] 96)).alloc (.cells #[zI 1,zI 1048575] 221)).alloc (.cells #[zI 0,zI 65535] 221))=W at *;have k0:=cell_regrown HR.o.b0;have k1:=cell_regrown HR.o.b1;have k2:=cell_regrown HR.o.b2;have k3:=cell_regrown HR.o.b3;have k4:=cell_regrown HR.o.i0;have k5:=cell_regrown HR.o.i1;have k6:=cell_regrown HR.o.t0;have k7:=cell_regrown HR.o.t1;have k8:=cell_regrown g0';have k9:=cell_regrown g1';have HB:Hid (Below w.heap.size w W):=HR.o.below;clear HR g0' g1';refine wq_below (by kernel_rfl) (by kernel_rfl) ?_
  iterate 3 (refine wq_step (fun K hK=>?_);go_simp;refine hK _ ?_;clear hK K)
  refine wq_step (fun K hK=>?_);go_simp;apply Exists.intro;refine ⟨fun _=>?_,hK _ ?_⟩;exact Calls.regrown_of (HI.o _);clear hK K
  iterate 2 (refine wq_step (fun K hK=>?_);go_simp;refine hK _ ?_;clear hK K)
  iterate 8 (refine wq_skip (by kernel_rfl) ?_;simp only [zq])
  iterate 2 (refine wq_step (fun K hK=>?_);go_simp;refine hK _ ?_;clear hK K)
  iterate 5 (refine wq_skip (by kernel_rfl) ?_;simp only [zq])
  iterate 1 (refine wq_step (fun K hK=>?_);go_simp;refine hK _ ?_;clear hK K)
  refine wq_nil ?_;intro _ hw';obtain ⟨⟨dq,osq⟩,hw''⟩:=hw';subst hw'';go_wp2_with fail;go_ret;exact ⟨rfl,HB.o.trans ((below_regrown W dq osq).mono HB.o.size)⟩
 | true=>
  cases ba with
  | false=>
   go_enter Tryz.func85,Tryz.ntmps85;go_wp2_with fail;generalize (((w.alloc (.cells #[zI (c:Int),zI i,zI a,zI t] 96)).alloc (.cells #[zI 1,zI 1048575] 221)).alloc (.cells #[zI 0,zI 65535] 221))=W at *;have k0:=cell_regrown HR.o.b0;have k1:=cell_regrown HR.o.b1;have k2:=cell_regrown HR.o.b2;have k3:=cell_regrown HR.o.b3;have k4:=cell_regrown HR.o.i0;have k5:=cell_regrown HR.o.i1;have k6:=cell_regrown HR.o.t0;have k7:=cell_regrown HR.o.t1;have k8:=cell_regrown g0';have k9:=cell_regrown g1';have HB:Hid (Below w.heap.size w W):=HR.o.below;clear HR g0' g1';refine wq_below (by kernel_rfl) (by kernel_rfl) ?_
   iterate 3 (refine wq_step (fun K hK=>?_);go_simp;refine hK _ ?_;clear hK K)
   refine wq_step (fun K hK=>?_);go_simp;apply Exists.intro;refine ⟨fun _=>?_,hK _ ?_⟩;exact Calls.regrown_of (HI.o _);clear hK K
   iterate 8 (refine wq_step (fun K hK=>?_);go_simp;refine hK _ ?_;clear hK K)
   refine wq_step (fun K hK=>?_);go_simp;apply Exists.intro;refine ⟨fun _=>?_,hK _ ?_⟩;exact Calls.regrown_of (HA.o _);clear hK K
   iterate 3 (refine wq_step (fun K hK=>?_);go_simp;refine hK _ ?_;clear hK K)
   iterate 5 (refine wq_skip (by kernel_rfl) ?_;simp only [zq])
   iterate 1 (refine wq_step (fun K hK=>?_);go_simp;refine hK _ ?_;clear hK K)
   refine wq_nil ?_;intro _ hw';obtain ⟨⟨dq,osq⟩,hw''⟩:=hw';subst hw'';go_wp2_with fail;go_ret;exact ⟨rfl,HB.o.trans ((below_regrown W dq osq).mono HB.o.size)⟩
  | true=>
   cases bt with
   | false=>
    go_enter Tryz.func85,Tryz.ntmps85;go_wp2_with fail;generalize (((w.alloc (.cells #[zI (c:Int),zI i,zI a,zI t] 96)).alloc (.cells #[zI 1,zI 1048575] 221)).alloc (.cells #[zI 0,zI 65535] 221))=W at *;have k0:=cell_regrown HR.o.b0;have k1:=cell_regrown HR.o.b1;have k2:=cell_regrown HR.o.b2;have k3:=cell_regrown HR.o.b3;have k4:=cell_regrown HR.o.i0;have k5:=cell_regrown HR.o.i1;have k6:=cell_regrown HR.o.t0;have k7:=cell_regrown HR.o.t1;have k8:=cell_regrown g0';have k9:=cell_regrown g1';have HB:Hid (Below w.heap.size w W):=HR.o.below;clear HR g0' g1';refine wq_below (by kernel_rfl) (by kernel_rfl) ?_
    iterate 3 (refine wq_step (fun K hK=>?_);go_simp;refine hK _ ?_;clear hK K)
    refine wq_step (fun K hK=>?_);go_simp;apply Exists.intro;refine ⟨fun _=>?_,hK _ ?_⟩;exact Calls.regrown_of (HI.o _);clear hK K
    iterate 8 (refine wq_step (fun K hK=>?_);go_simp;refine hK _ ?_;clear hK K)
    refine wq_step (fun K hK=>?_);go_simp;apply Exists.intro;refine ⟨fun _=>?_,hK _ ?_⟩;exact Calls.regrown_of (HA.o _);clear hK K
    iterate 6 (refine wq_step (fun K hK=>?_);go_simp;refine hK _ ?_;clear hK K)
    refine wq_step (fun K hK=>?_);go_simp;apply Exists.intro;refine ⟨fun _=>?_,hK _ ?_⟩;exact Calls.regrown_of (HU.o _);clear hK K
    iterate 2 (refine wq_step (fun K hK=>?_);go_simp;refine hK _ ?_;clear hK K)
    refine wq_nil ?_;intro _ hw';obtain ⟨⟨dq,osq⟩,hw''⟩:=hw';subst hw'';go_wp2_with fail;go_ret;exact ⟨rfl,HB.o.trans ((below_regrown W dq osq).mono HB.o.size)⟩
   | true=>
    go_enter Tryz.func85,Tryz.ntmps85;go_wp2_with fail;generalize (((w.alloc (.cells #[zI (c:Int),zI i,zI a,zI t] 96)).alloc (.cells #[zI 1,zI 1048575] 221)).alloc (.cells #[zI 0,zI 65535] 221))=W at *;have k0:=cell_regrown HR.o.b0;have k1:=cell_regrown HR.o.b1;have k2:=cell_regrown HR.o.b2;have k3:=cell_regrown HR.o.b3;have k4:=cell_regrown HR.o.i0;have k5:=cell_regrown HR.o.i1;have k6:=cell_regrown HR.o.t0;have k7:=cell_regrown HR.o.t1;have k8:=cell_regrown g0';have k9:=cell_regrown g1';have HB:Hid (Below w.heap.size w W):=HR.o.below;clear HR g0' g1';refine wq_below (by kernel_rfl) (by kernel_rfl) ?_
    iterate 3 (refine wq_step (fun K hK=>?_);go_simp;refine hK _ ?_;clear hK K)
    refine wq_step (fun K hK=>?_);go_simp;apply Exists.intro;refine ⟨fun _=>?_,hK _ ?_⟩;exact Calls.regrown_of (HI.o _);clear hK K
    iterate 8 (refine wq_step (fun K hK=>?_);go_simp;refine hK _ ?_;clear hK K)
    refine wq_step (fun K hK=>?_);go_simp;apply Exists.intro;refine ⟨fun _=>?_,hK _ ?_⟩;exact Calls.regrown_of (HA.o _);clear hK K
    iterate 6 (refine wq_step (fun K hK=>?_);go_simp;refine hK _ ?_;clear hK K)
    refine wq_step (fun K hK=>?_);go_simp;apply Exists.intro;refine ⟨fun _=>?_,hK _ ?_⟩;exact Calls.regrown_of (HU.o _);clear hK K
    iterate 2 (refine wq_step (fun K hK=>?_);go_simp;refine hK _ ?_;clear hK K)
    refine wq_nil ?_;intro _ hw';obtain ⟨⟨dq,osq⟩,hw''⟩:=hw';subst hw'';go_wp2_with fail;go_ret;exact ⟨rfl,HB.o.trans ((below_regrown W dq osq).mono HB.o.size)⟩
theorem flaw_any (c i a t:Int) (w:World) (ht:TTab w) :
  Calls Tryz.prog 85 #[.agg #[zI c,zI i,zI a,zI t]] w fun e w'=>e = .returned (zI (flawT c i a t))∧Below w.heap.size w w':=by
 by_cases h:c<0∨3<c
 ·rw [flawT_class h];exact flaw_class c i a t w h
 ·have h8:=ht.amounts.cell;rw [flawT_in h];rcases (by omega:c=0∨c=1∨c=2∨c=3) with rfl | rfl | rfl | rfl
  ·exact flaw_in 0 1 2097151 i a t w (by omega) h8.1 h8.2.1
  ·exact flaw_in 1 0 0 i a t w (by omega) h8.2.2.1 h8.2.2.2.1
  ·exact flaw_in 2 1 15 i a t w (by omega) h8.2.2.2.2.1 h8.2.2.2.2.2.1
  ·exact flaw_in 3 0 0 i a t w (by omega) h8.2.2.2.2.2.2.1 h8.2.2.2.2.2.2.2
end token
namespace ora
open Go.RowKit
def Given (w:World) (l:List Pr) (e:Ending) (w':World):Prop:=
 Below w.heap.size w w'∧((May l∧∃ B,e = .returned (.tuple #[.map (some B),.bool true])∧Mp w' B l)∨(¬ May l∧e = .returned (.tuple #[.map none,.bool false])))
def Seen (l:List Pr) (k:Nat):Prop:=∀ i,i<k→(l.getD i pr0).may∧At l (l.getD i pr0).m (l.getD i pr0).r (l.getD i pr0).b i
structure Bg (w wr:World) (B:Nat) (a:Option Addr) (n cap:Nat) (l:List Pr) (k:Nat):Prop where
 bo:Bo w wr a n cap l
 mp:Mp wr B (l.take k)
 hB:w.heap.size≤B
theorem Bg.next {w wr w':World} {B:Nat} {a:Option Addr} {n cap:Nat} {l:List Pr} {k:Nat} (h:Bg w wr B a n cap l k) (hb:Below wr.heap.size wr w'):Bg w w' B a n cap l k:=⟨h.bo.next hb,h.mp.below hb,h.hB⟩
theorem Bg.alloc {w wr:World} {B:Nat} {a:Option Addr} {n cap:Nat} {l:List Pr} {k:Nat} (h:Bg w wr B a n cap l k) (o:Obj):Bg w (wr.alloc o) B a n cap l k:=h.next ((Below.refl _ _).alloc (Nat.le_refl _) _)
theorem Bg.drew {w wr:World} {B:Nat} {a:Option Addr} {n cap:Nat} {l:List Pr} {k:Nat} (h:Bg w wr B a n cap l k) (q:Nat):Bg w (wr.drewN q) B a n cap l k:=h.next (bel_drew (Below.refl _ _) q)
theorem rowP_oth {w W:World} {a:Option Addr} {n:Nat} {l:List Pr} {B:Nat} {l':List Pr} (h:RowP w a n l) (hM:Mp w B l') (ho:∀ G,G≠B→W.heap[G]?=w.heap[G]?):RowP W a n l:=by
 refine ⟨h.1,?_⟩;rcases h.2 with h0 | ⟨b,off,rfl,hc⟩
 ·exact .inl h0
 ·refine .inr ⟨b,off,rfl,fun i hi=>?_⟩;obtain ⟨h1,h2,h3,h4⟩:=hc i hi
  have hb:b≠B:=by
   rintro rfl;unfold Mp at hM;simp [World.cell?,hM] at h1
  have e:∀ o,W.cell? ⟨b,o,none⟩=w.cell? ⟨b,o,none⟩:=fun o=>by simp only [World.cell?,ho b hb]
  exact ⟨(e _).trans h1,(e _).trans h2,(e _).trans h3,(e _).trans h4⟩
theorem blk_oth {w W:World} {G B:Nat} {cs:Array Value} {t:TypeId} {l':List Pr} (h:Blk w G cs t) (hM:Mp w B l') (ho:∀ G,G≠B→W.heap[G]?=w.heap[G]?):Blk W G cs t:=by
 have hb:G≠B:=by
  rintro rfl;unfold Mp at hM;unfold Blk at h;rw [h] at hM;cases hM
 unfold Blk at *;rw [ho G hb];exact h
theorem Bg.put {w wr W:World} {B:Nat} {a:Option Addr} {n cap:Nat} {l:List Pr} {k:Nat} (h:Bg w wr B a n cap l k) (hk:k<l.length) (hM:Mp W B (l.take k++[⟨(l.getD k pr0).m,(l.getD k pr0).r,(l.getD k pr0).b,(l.getD k pr0).t⟩]))
  (ho:∀ G,G≠B→W.heap[G]?=wr.heap[G]?) (hb:∀ B0 w0,B0≤B→Below B0 w0 wr→Below B0 w0 W):Bg w W B a n cap l (k+1):=
 ⟨⟨blk_oth h.bo.box h.mp ho,rowP_oth h.bo.row h.mp ho,hb _ _ h.hB h.bo.bel⟩,by rw [take_nextP l k hk] at hM;exact hM,h.hB⟩
theorem seen_no {l:List Pr} {k:Nat} (hk:k<l.length) (hm:May l):look (l.take k) (l.getD k pr0).m (l.getD k pr0).r (l.getD k pr0).b=none:=(look_take (by omega)).2 (hm.each k hk).2.first
theorem seen_yes {l:List Pr} {k:Nat} (hk:k<l.length) (hs:Seen l k) (hl:look (l.take k) (l.getD k pr0).m (l.getD k pr0).r (l.getD k pr0).b=none) (hp:(Pr.mk (l.getD k pr0).m (l.getD k pr0).r (l.getD k pr0).b (l.getD k pr0).t).may):Seen l (k+1):=fun i hi=>by
 by_cases e:i=k
 ·subst e;exact ⟨hp,hk,⟨rfl,rfl,rfl⟩,(look_take (by omega)).1 hl⟩
 ·exact hs i (by omega)
theorem given_any (a:Option Addr) (n cap:Nat) (l:List Pr) (w:World) (hr:RowP w a n l) :
  Calls Tryz.prog 187 #[.agg #[.slice a n cap]] w fun e w'=>Given w l e w':=by
 have HB0:Hid (Bo w (w.alloc (.cells #[.slice a n cap] 39)) a n cap l):=Bo.new hr;have HL:Hid (l.length=n):=hr.1;clear hr;have c0:=HB0.o.box.cell 0;by_cases hn:n≤500
 ·have hgt':decide ((500:Int)<(n:Int))=false:=by simp;omega
  obtain ⟨B,hBe⟩:∃ B,B=w.heap.size+1:=⟨_,rfl⟩
  have hmk:∀ z:Int,(Instr.makeMap 275 (some (zI z))).run Tryz.prog (w.alloc (.cells #[.slice a n cap] 39)) = .ok (.map (some B)) ((w.alloc (.cells #[.slice a n cap] 39)).alloc (.map #[] 0)):=fun z=>by rw [run_mkMap,hBe];simp
  have HG0:Hid (Bg w ((w.alloc (.cells #[.slice a n cap] 39)).alloc (.map #[] 0)) B a n cap l 0):=⟨HB0.o.alloc _,by
   have:=Mp.new (w.alloc (.cells #[.slice a n cap] 39));rw [show (w.alloc (.cells #[.slice a n cap] 39)).heap.size=B by rw [hBe];simp] at this
   rw [List.take_zero];exact this,by omega⟩
  have d0:=HG0.o.bo.box.cell 0;clear hBe HB0;have HPM:Hid (∀ W m r b t,Calls Tryz.prog 188 #[.agg #[zI m,zI r,zI b,zI t]] W fun e w'=>Told W (Pr.mk m r b t).may e w'):=fun W m r b t=>within_any m r b t W;have HOF:Hid (∀ W m r b t,Calls Tryz.prog 189 #[.agg #[zI m,zI r,zI b,zI t]] W fun e w'=>e = .returned (.agg #[zI m,zI r,zI b])∧Below W.heap.size W w'):=fun W m r b t=>of_any m r b t W;go_enter Tryz.func187,Tryz.ntmps187;go_wp2_with fail;clear c0 d0 hmk hgt';generalize (w.alloc (.cells #[.slice a n cap] 39)).alloc (.map #[] 0)=W0 at *;go_loopw [20] (fun j wr=>∃ k:Nat,k≤n∧j=zI (k:Int)∧Hid (Seen l k)∧Bg w wr B a n cap l k) (fun j _=>n - (intOf j).toNat)
  case atStart=>exact ⟨0,Nat.zero_le _,rfl,fun i hi=>absurd hi (Nat.not_lt_zero _),HG0.o⟩
  case round=>
   obtain ⟨k,hk,rfl,HA,hbo⟩:=hrel;have HI:Hid (Bg w wr B a n cap l k):=hbo;clear hbo HG0;by_cases hlt:k<n
   ·obtain ⟨bl,off,rfl,_,hc⟩:=HI.o.bo.row.at (by omega);obtain ⟨f0,f1,f2,f3⟩:=hc k hlt;have hkl:k<l.length:=by rw [HL.o];exact hlt
    have HNO:Hid (look (l.take k) (l.getD k pr0).m (l.getD k pr0).r (l.getD k pr0).b≠none→¬ May l):=fun h hm=>h (seen_no hkl hm);have HN1:Hid (May l→(Pr.mk (l.getD k pr0).m (l.getD k pr0).r (l.getD k pr0).b (l.getD k pr0).t).may):=fun hm=>(hm.each k hkl).1;have HNX:Hid (look (l.take k) (l.getD k pr0).m (l.getD k pr0).r (l.getD k pr0).b=none→(Pr.mk (l.getD k pr0).m (l.getD k pr0).r (l.getD k pr0).b (l.getD k pr0).t).may→Seen l (k+1)):=fun h1 h2=>seen_yes hkl HA.o h1 h2;have HPUT:Hid (∀ v W,Bg w v B (some ⟨bl,off,none⟩) n cap l k→Mp W B (l.take k++[⟨(l.getD k pr0).m,(l.getD k pr0).r,(l.getD k pr0).b,(l.getD k pr0).t⟩])→(∀ G,G≠B→W.heap[G]?=v.heap[G]?)→(∀ B0 w0,B0≤B→Below B0 w0 v→Below B0 w0 W)→Bg w W B (some ⟨bl,off,none⟩) n cap l (k+1)):=fun v W h1 h2 h3 h4=>h1.put hkl h2 h3 h4;clear hc HA hkl;generalize (l.getD k pr0).m=pm at *;generalize (l.getD k pr0).r=prr at *;generalize (l.getD k pr0).b=pb at *;generalize (l.getD k pr0).t=pt at *;have hN:=Blk.new wr #[zI pm,zI prr,zI pb,zI pt] 279;have n0:=hN.cell 0;have n1:=hN.cell 1;have n2:=hN.cell 2;have n3:=hN.cell 3;have HNB:Hid (Blk (wr.alloc (.cells #[zI pm,zI prr,zI pb,zI pt] 279)) wr.heap.size #[zI pm,zI prr,zI pb,zI pt] 279):=hN;have HI2:Hid (Bg w (wr.alloc (.cells #[zI pm,zI prr,zI pb,zI pt] 279)) B (some ⟨bl,off,none⟩) n cap l k):=HI.o.alloc _;clear hN HI;go_wp2_with fail;refine (HOF.o _ _ _ _ _).mono ?_;rintro e w2 ⟨rfl,hb2⟩;have HI3:Hid (Bg w w2 B (some ⟨bl,off,none⟩) n cap l k):=HI2.o.next hb2;have HM:=shN HNB hb2;have m0:=HM.o.cell 0;have m1:=HM.o.cell 1;have m2:=HM.o.cell 2;have m3:=HM.o.cell 3;have hlk:=look_run HI3.o.mp pm prr pb;clear HNB hb2 n0 n1 n2 n3 HI2 f0 f1 f2 f3;generalize wr.heap.size=gn at *;cases hlo:look (l.take k) pm prr pb with
    | some x=>
     rw [hlo] at hlk;simp only [Option.getD_some,Option.isSome_some] at hlk;have HF:Hid (¬ May l):=HNO.o (by rw [hlo];exact fun h=>by cases h);clear hlo;go_wp2_with fail;go_ret2;exact ⟨HI3.o.bo.bel,.inr ⟨HF.o,rfl⟩⟩
    | none=>
     rw [hlo] at hlk;simp only [Option.getD_none,Option.isSome_none] at hlk;have HLO:Hid (look (l.take k) pm prr pb=none):=hlo;clear hlo;go_wp2_with fail;refine (HPM.o _ _ _ _ _).mono ?_;rintro e w3 ⟨rr,rfl,hrr,hb3⟩;have HI4:Hid (Bg w w3 B (some ⟨bl,off,none⟩) n cap l k):=HI3.o.next hb3;have HM3:=shN HM hb3;clear hlk m0 m1 m2 m3 HM HI3 hb3;cases rr with
     | false=>
      have HF:Hid (¬ May l):=fun hm=>by have:=hrr.2 (HN1.o hm);cases this
      clear hrr;go_wp2_with fail;go_ret2;exact ⟨HI4.o.bo.bel,.inr ⟨HF.o,rfl⟩⟩
     | true=>
      have HPY:Hid ((Pr.mk pm prr pb pt).may):=hrr.1 rfl;clear hrr;have K3:Hid (w3.drew.cell? ⟨gn,0,none⟩=some (zI pm)∧w3.drew.cell? ⟨gn,0+1,none⟩=some (zI prr)∧w3.drew.cell? ⟨gn,0+2,none⟩=some (zI pb)∧w3.drew.cell? ⟨gn,0+3,none⟩=some (zI pt)):=⟨HM3.o.cell 0,HM3.o.cell 1,HM3.o.cell 2,HM3.o.cell 3⟩
      have HI5:Hid (Bg w w3.drew B (some ⟨bl,off,none⟩) n cap l k):=HI4.o.drew 1;have HM5:Hid (Blk w3.drew gn #[zI pm,zI prr,zI pb,zI pt] 279):=HM3.o;go_wp2_with fail
      go_region_held_law (fun v=>v.cell? ⟨gn,0,none⟩=some (zI pm)∧v.cell? ⟨gn,0+1,none⟩=some (zI prr)∧v.cell? ⟨gn,0+2,none⟩=some (zI pb)∧v.cell? ⟨gn,0+3,none⟩=some (zI pt))
       (first | with_reducible exact K3.o | with_reducible exact K4.o | with_reducible exact K5.o)
       (first
        | (go_at_call 189;refine (HOF.o _ _ _ _ _).mono ?_;rintro e w4 ⟨rfl,hb4⟩
           have HI6:Hid (Bg w w4 B (some ⟨bl,off,none⟩) n cap l k):=HI5.o.next hb4;have HM6:=shN HM5 hb4;have K4:Hid (w4.cell? ⟨gn,0,none⟩=some (zI pm)∧w4.cell? ⟨gn,0+1,none⟩=some (zI prr)∧w4.cell? ⟨gn,0+2,none⟩=some (zI pb)∧w4.cell? ⟨gn,0+3,none⟩=some (zI pt)):=⟨HM6.o.cell 0,HM6.o.cell 1,HM6.o.cell 2,HM6.o.cell 3⟩
           obtain ⟨W5,hu5,hm5,ho5,hb5,hs5⟩:=upd_run HI6.o.mp pm prr pb pt HLO.o;have HI7:Hid (Bg w W5 B (some ⟨bl,off,none⟩) n cap l (k+1)):=HPUT.o _ _ HI6.o hm5 ho5 hb5;have hM7:=blk_oth HM6.o HI6.o.mp ho5;have K5:Hid (W5.cell? ⟨gn,0,none⟩=some (zI pm)∧W5.cell? ⟨gn,0+1,none⟩=some (zI prr)∧W5.cell? ⟨gn,0+2,none⟩=some (zI pb)∧W5.cell? ⟨gn,0+3,none⟩=some (zI pt)):=⟨hM7.cell 0,hM7.cell 1,hM7.cell 2,hM7.cell 3⟩
           clear hm5 ho5 hb5 hs5 hM7 hb4))
      all_goals go_wp2_with fail
      all_goals go_roundw
      case rel=>exact ⟨k+1,by omega,by go_num,HNX.o HLO.o HPY.o,HI7.o⟩
      case measure=>simp [intOf];omega
   ·obtain rfl:k=n:=by omega
    have hlt':decide ((k:Int)<(k:Int))=false:=by simp
    have HF:Hid (May l):=⟨by rw [HL.o];exact hn,fun i hi=>HA.o i (by rw [← HL.o];exact hi)⟩
    have HM:Hid (Mp wr B l):=by have:=HI.o.mp;rw [List.take_of_length_le (by rw [HL.o];exact Nat.le_refl _)] at this;exact this
    clear hlt HA;go_wp2_with fail;go_ret2;exact ⟨HI.o.bo.bel,.inl ⟨HF.o,B,rfl,HM.o⟩⟩
 ·have hgt':decide ((500:Int)<(n:Int))=true:=by simp;omega
  have HF:Hid (¬ May l):=fun h=>by have:=h.few;rw [HL.o] at this;omega
  clear hn HL;go_enter Tryz.func187,Tryz.ntmps187;go_wp2_with fail;go_ret2;exact ⟨HB0.o.bel,.inr ⟨HF.o,rfl⟩⟩
end ora
end Go.Proofs.YtnpblpbohcegoaaGreatDoor
