import Derived.Test.YtnpblpbohcegoaaGreatDoorVVRts24
set_option linter.unusedVariables false
set_option linter.unusedSimpArgs false
set_option maxHeartbeats 4000000
set_option maxRecDepth 100000
namespace Go.Proofs.YtnpblpbohcegoaaGreatDoor
namespace token
open Go.RowKit
structure Rdy (w W:World) (c i a t:Int):Prop where
 below:Below w.heap.size w W
 b0:W.cell? ⟨w.heap.size,0,none⟩=some (zI c)
 b1:W.cell? ⟨w.heap.size,1,none⟩=some (zI i)
 b2:W.cell? ⟨w.heap.size,2,none⟩=some (zI a)
 b3:W.cell? ⟨w.heap.size,3,none⟩=some (zI t)
 i0:W.cell? ⟨w.heap.size+1,0,none⟩=some (zI 1)
 i1:W.cell? ⟨w.heap.size+1,1,none⟩=some (zI 1048575)
 t0:W.cell? ⟨w.heap.size+1+1,0,none⟩=some (zI 0)
 t1:W.cell? ⟨w.heap.size+1+1,1,none⟩=some (zI 65535)
theorem rdy_of (w:World) (c i a t:Int):Rdy w (((w.alloc (.cells #[zI c,zI i,zI a,zI t] 96)).alloc (.cells #[zI 1,zI 1048575] 221)).alloc (.cells #[zI 0,zI 65535] 221)) c i a t:=by
 have h0:=((Blk.new w #[zI c,zI i,zI a,zI t] 96).alloc (.cells #[zI 1,zI 1048575] 221)).alloc (.cells #[zI 0,zI 65535] 221);have h1:=(Blk.new1 w (.cells #[zI c,zI i,zI a,zI t] 96) #[zI 1,zI 1048575] 221).alloc (.cells #[zI 0,zI 65535] 221);have h2:=Blk.new2 w (.cells #[zI c,zI i,zI a,zI t] 96) (.cells #[zI 1,zI 1048575] 221) #[zI 0,zI 65535] 221;exact ⟨((((Below.refl _ _).alloc (Nat.le_refl _) _).alloc (by simp) _).alloc (by simp;omega) _),h0.cell 0,h0.cell 1,h0.cell 2,h0.cell 3,h1.cell 0,h1.cell 1,h2.cell 0,h2.cell 1⟩
theorem flaw_class (c i a t:Int) (w:World) (h:c<0∨3<c) :
  Calls Tryz.prog 85 #[.agg #[zI c,zI i,zI a,zI t]] w fun e w'=>e = .returned (zI 9)∧Below w.heap.size w w':=by
 have hb:Below w.heap.size w (w.alloc (.cells #[zI c,zI i,zI a,zI t] 96)):=(Below.refl _ _).alloc (Nat.le_refl _) _;by_cases h0:c<0
 ·clear h;go_enter Tryz.func85,Tryz.ntmps85;go_wp2;go_ret;exact ⟨rfl,hb⟩
 ·have h1:0≤c:=by omega
  have h2:4≤c:=by omega
  clear h;go_enter Tryz.func85,Tryz.ntmps85;go_wp2;go_ret;exact ⟨rfl,hb⟩
theorem flaw_in (c:Nat) (lo hi i a t:Int) (w:World) (hc:c<4) (g0:w.cell? ⟨0,c*2,none⟩=some (zI lo)) (g1:w.cell? ⟨0,c*2+1,none⟩=some (zI hi)) :
  Calls Tryz.prog 85 #[.agg #[zI (c:Int),zI i,zI a,zI t]] w fun e w'=>e = .returned (zI (if hasI 1 1048575 i && (hasI lo hi a && hasI 0 65535 t) then 0 else 2))∧Below w.heap.size w w':=by
 have HR:Hid (Rdy w (((w.alloc (.cells #[zI (c:Int),zI i,zI a,zI t] 96)).alloc (.cells #[zI 1,zI 1048575] 221)).alloc (.cells #[zI 0,zI 65535] 221)) c i a t):=rdy_of w c i a t;have g0':=HR.o.below.cell (World.block_lt_of_cell? w _ g0);rw [g0] at g0';have g1':=HR.o.below.cell (World.block_lt_of_cell? w _ g1);rw [g1] at g1';have HI:Hid (∀ W,Calls Tryz.prog 128 #[.agg #[zI 1,zI 1048575],zI i] W fun e w'=>e = .returned (.bool (hasI 1 1048575 i))∧Below W.heap.size W w'):=fun W=>has_any _ _ _ W;have HA:Hid (∀ W,Calls Tryz.prog 128 #[.agg #[zI lo,zI hi],zI a] W fun e w'=>e = .returned (.bool (hasI lo hi a))∧Below W.heap.size W w'):=fun W=>has_any _ _ _ W;have HU:Hid (∀ W,Calls Tryz.prog 128 #[.agg #[zI 0,zI 65535],zI t] W fun e w'=>e = .returned (.bool (hasI 0 65535 t))∧Below W.heap.size W w'):=fun W=>has_any _ _ _ W;clear g0 g1;have c0:¬ (c:Int)<0:=by omega
 have c1:¬ 4≤(c:Int):=by omega
 have c2:(c:Int)<4:=by omega
 generalize hasI 1 1048575 i=bi at *;generalize hasI lo hi a=ba at *;generalize hasI 0 65535 t=bt at *;cases bi with
 | false=>
  go_enter Tryz.func85,Tryz.ntmps85;go_wp2_with fail;generalize (((w.alloc (.cells #[zI (c:Int),zI i,zI a,zI t] 96)).alloc (.cells #[zI 1,zI 1048575] 221)).alloc (.cells #[zI 0,zI 65535] 221))=W at *;have k0:=cell_regrown HR.o.b0;have k1:=cell_regrown HR.o.b1;have k2:=cell_regrown HR.o.b2;have k3:=cell_regrown HR.o.b3;have k4:=cell_regrown HR.o.i0;have k5:=cell_regrown HR.o.i1;have k6:=cell_regrown HR.o.t0;have k7:=cell_regrown HR.o.t1;have k8:=cell_regrown g0';have k9:=cell_regrown g1';have HB:Hid (Below w.heap.size w W):=HR.o.below;clear HR g0' g1';refine wq_below (by kernel_rfl) (by kernel_rfl) ?_
  iterate 3 (refine wq_step (fun K hK=>?_);go_simp;refine hK _ ?_;clear hK K)
  refine wq_step (fun K hK=>?_);go_simp;apply Exists.intro;refine ⟨fun _=>?_,hK _ ?_⟩;exact Calls.regrown_of (HI.o _);clear hK K
  iterate 2 (refine wq_step (fun K hK=>?_);go_simp;refine hK _ ?_;clear hK K)
  iterate 8 (refine wq_skip (by kernel_rfl) ?_;simp only [zq])
  iterate 2 (refine wq_step (fun K hK=>?_);go_simp;refine hK _ ?_;clear hK K)
  iterate 5 (refine wq_skip (by kernel_rfl) ?_;simp only [zq])
  iterate 1 (refine wq_step (fun K hK=>?_);go_simp;refine hK _ ?_;clear hK K)
  refine wq_nil ?_;intro _ hw';obtain ⟨⟨dq,osq⟩,hw''⟩:=hw';subst hw'';go_wp2_with fail;go_ret;exact ⟨rfl,HB.o.trans ((below_regrown W dq osq).mono HB.o.size)⟩
 | true=>
  cases ba with
  | false=>
   go_enter Tryz.func85,Tryz.ntmps85;go_wp2_with fail;generalize (((w.alloc (.cells #[zI (c:Int),zI i,zI a,zI t] 96)).alloc (.cells #[zI 1,zI 1048575] 221)).alloc (.cells #[zI 0,zI 65535] 221))=W at *;have k0:=cell_regrown HR.o.b0;have k1:=cell_regrown HR.o.b1;have k2:=cell_regrown HR.o.b2;have k3:=cell_regrown HR.o.b3;have k4:=cell_regrown HR.o.i0;have k5:=cell_regrown HR.o.i1;have k6:=cell_regrown HR.o.t0;have k7:=cell_regrown HR.o.t1;have k8:=cell_regrown g0';have k9:=cell_regrown g1';have HB:Hid (Below w.heap.size w W):=HR.o.below;clear HR g0' g1';refine wq_below (by kernel_rfl) (by kernel_rfl) ?_
   iterate 3 (refine wq_step (fun K hK=>?_);go_simp;refine hK _ ?_;clear hK K)
   refine wq_step (fun K hK=>?_);go_simp;apply Exists.intro;refine ⟨fun _=>?_,hK _ ?_⟩;exact Calls.regrown_of (HI.o _);clear hK K
   iterate 8 (refine wq_step (fun K hK=>?_);go_simp;refine hK _ ?_;clear hK K)
   refine wq_step (fun K hK=>?_);go_simp;apply Exists.intro;refine ⟨fun _=>?_,hK _ ?_⟩;exact Calls.regrown_of (HA.o _);clear hK K
   iterate 3 (refine wq_step (fun K hK=>?_);go_simp;refine hK _ ?_;clear hK K)
   iterate 5 (refine wq_skip (by kernel_rfl) ?_;simp only [zq])
   iterate 1 (refine wq_step (fun K hK=>?_);go_simp;refine hK _ ?_;clear hK K)
   refine wq_nil ?_;intro _ hw';obtain ⟨⟨dq,osq⟩,hw''⟩:=hw';subst hw'';go_wp2_with fail;go_ret;exact ⟨rfl,HB.o.trans ((below_regrown W dq osq).mono HB.o.size)⟩
  | true=>
   cases bt with
   | false=>
    go_enter Tryz.func85,Tryz.ntmps85;go_wp2_with fail;generalize (((w.alloc (.cells #[zI (c:Int),zI i,zI a,zI t] 96)).alloc (.cells #[zI 1,zI 1048575] 221)).alloc (.cells #[zI 0,zI 65535] 221))=W at *;have k0:=cell_regrown HR.o.b0;have k1:=cell_regrown HR.o.b1;have k2:=cell_regrown HR.o.b2;have k3:=cell_regrown HR.o.b3;have k4:=cell_regrown HR.o.i0;have k5:=cell_regrown HR.o.i1;have k6:=cell_regrown HR.o.t0;have k7:=cell_regrown HR.o.t1;have k8:=cell_regrown g0';have k9:=cell_regrown g1';have HB:Hid (Below w.heap.size w W):=HR.o.below;clear HR g0' g1';refine wq_below (by kernel_rfl) (by kernel_rfl) ?_
    iterate 3 (refine wq_step (fun K hK=>?_);go_simp;refine hK _ ?_;clear hK K)
    refine wq_step (fun K hK=>?_);go_simp;apply Exists.intro;refine ⟨fun _=>?_,hK _ ?_⟩;exact Calls.regrown_of (HI.o _);clear hK K
    iterate 8 (refine wq_step (fun K hK=>?_);go_simp;refine hK _ ?_;clear hK K)
    refine wq_step (fun K hK=>?_);go_simp;apply Exists.intro;refine ⟨fun _=>?_,hK _ ?_⟩;exact Calls.regrown_of (HA.o _);clear hK K
    iterate 6 (refine wq_step (fun K hK=>?_);go_simp;refine hK _ ?_;clear hK K)
    refine wq_step (fun K hK=>?_);go_simp;apply Exists.intro;refine ⟨fun _=>?_,hK _ ?_⟩;exact Calls.regrown_of (HU.o _);clear hK K
    iterate 2 (refine wq_step (fun K hK=>?_);go_simp;refine hK _ ?_;clear hK K)
    refine wq_nil ?_;intro _ hw';obtain ⟨⟨dq,osq⟩,hw''⟩:=hw';subst hw'';go_wp2_with fail;go_ret;exact ⟨rfl,HB.o.trans ((below_regrown W dq osq).mono HB.o.size)⟩
   | true=>
    go_enter Tryz.func85,Tryz.ntmps85;go_wp2_with fail;generalize (((w.alloc (.cells #[zI (c:Int),zI i,zI a,zI t] 96)).alloc (.cells #[zI 1,zI 1048575] 221)).alloc (.cells #[zI 0,zI 65535] 221))=W at *;have k0:=cell_regrown HR.o.b0;have k1:=cell_regrown HR.o.b1;have k2:=cell_regrown HR.o.b2;have k3:=cell_regrown HR.o.b3;have k4:=cell_regrown HR.o.i0;have k5:=cell_regrown HR.o.i1;have k6:=cell_regrown HR.o.t0;have k7:=cell_regrown HR.o.t1;have k8:=cell_regrown g0';have k9:=cell_regrown g1';have HB:Hid (Below w.heap.size w W):=HR.o.below;clear HR g0' g1';refine wq_below (by kernel_rfl) (by kernel_rfl) ?_
    iterate 3 (refine wq_step (fun K hK=>?_);go_simp;refine hK _ ?_;clear hK K)
    refine wq_step (fun K hK=>?_);go_simp;apply Exists.intro;refine ⟨fun _=>?_,hK _ ?_⟩;exact Calls.regrown_of (HI.o _);clear hK K
    iterate 8 (refine wq_step (fun K hK=>?_);go_simp;refine hK _ ?_;clear hK K)
    refine wq_step (fun K hK=>?_);go_simp;apply Exists.intro;refine ⟨fun _=>?_,hK _ ?_⟩;exact Calls.regrown_of (HA.o _);clear hK K
    iterate 6 (refine wq_step (fun K hK=>?_);go_simp;refine hK _ ?_;clear hK K)
    refine wq_step (fun K hK=>?_);go_simp;apply Exists.intro;refine ⟨fun _=>?_,hK _ ?_⟩;exact Calls.regrown_of (HU.o _);clear hK K
    iterate 2 (refine wq_step (fun K hK=>?_);go_simp;refine hK _ ?_;clear hK K)
    refine wq_nil ?_;intro _ hw';obtain ⟨⟨dq,osq⟩,hw''⟩:=hw';subst hw'';go_wp2_with fail;go_ret;exact ⟨rfl,HB.o.trans ((below_regrown W dq osq).mono HB.o.size)⟩
theorem flaw_any (c i a t:Int) (w:World) (ht:TTab w) :
  Calls Tryz.prog 85 #[.agg #[zI c,zI i,zI a,zI t]] w fun e w'=>e = .returned (zI (flawT c i a t))∧Below w.heap.size w w':=by
 by_cases h:c<0∨3<c
 ·rw [flawT_class h];exact flaw_class c i a t w h
 ·have h8:=ht.amounts.cell;rw [flawT_in h];rcases (by omega:c=0∨c=1∨c=2∨c=3) with rfl | rfl | rfl | rfl
  ·exact flaw_in 0 1 2097151 i a t w (by omega) h8.1 h8.2.1
  ·exact flaw_in 1 0 0 i a t w (by omega) h8.2.2.1 h8.2.2.2.1
  ·exact flaw_in 2 1 15 i a t w (by omega) h8.2.2.2.2.1 h8.2.2.2.2.2.1
  ·exact flaw_in 3 0 0 i a t w (by omega) h8.2.2.2.2.2.2.1 h8.2.2.2.2.2.2.2
end token
namespace words
open Go.RowKit
def Dg (w:World) (D:Nat) (d:Nat→Int):Prop:=w.heap[D]?=some (.cells ((List.range 29).map fun i=>Value.int .u8 (d i)).toArray 174 (0,0))
variable {w w':World} {D:Nat} {d:Nat→Int}
theorem Dg.cell (h:Dg w D d) {i:Nat} (hi:i<29):w.cell? ⟨D,i,none⟩=some (.int .u8 (d i)):=by unfold Dg at h;simp [World.cell?,h,hi]
theorem Dg.free (h:Dg w D d) (i:Nat):w.frozen? ⟨D,i,none⟩=false:=by unfold Dg at h;simp [World.frozen?,h]
theorem Dg.lt (h:Dg w D d):D<w.heap.size:=by
 by_cases hh:D<w.heap.size
 ·exact hh
 ·unfold Dg at h;rw [Array.getElem?_eq_none (by omega)] at h;cases h
theorem Dg.below (h:Dg w D d) (hb:Below w.heap.size w w'):Dg w' D d:=by
 have hlt:=h.lt;unfold Dg at *;rw [hb.block D hlt];exact h
theorem Dg.other (h:Dg w D d) {G:Nat} (i:Nat) (u:Value) (hne:G≠D):Dg (w.setCell ⟨G,i,none⟩ u) D d:=by
 unfold Dg at *;simp only [World.setCell,Array.getElem?_modify];rw [if_neg hne];exact h
def updd (d:Nat→Int) (i:Nat) (v:Int):Nat→Int:=fun k=>if k=i then v else d k
theorem Dg.set (h:Dg w D d) (i:Nat) (v:Int):Dg (w.setCell ⟨D,i,none⟩ (.int .u8 v)) D (updd d i v):=by
 unfold Dg at *;simp only [World.setCell,Array.getElem?_modify,h,if_true,Option.map_some]
 congr 2
 simp only [Option.isSome_none,Bool.false_eq_true,if_false];apply Array.ext';simp only [Array.toList_setIfInBounds];apply List.ext_getElem?;intro k;by_cases hk:k<29
 ·by_cases e:k=i
  ·subst e;simp [updd,hk]
  ·rw [List.getElem?_set_ne (by omega)];simp [updd,hk,e]
 ·rw [List.getElem?_eq_none (by simp;omega),List.getElem?_eq_none (by simp;omega)]
def dsOf (d:Nat→Int) (t:Nat):List Int:=(List.range t).map fun i=>d (29 - t+i)
theorem dsOf_len (d:Nat→Int) (t:Nat):(dsOf d t).length=t:=by simp [dsOf]
theorem dsOf_upd (d:Nat→Int) (t:Nat) (v:Int) (ht:t<29):dsOf (updd d (28 - t) v) (t+1)=v :: dsOf d t:=by
 unfold dsOf;rw [List.range_succ_eq_map,List.map_cons,List.map_map]
 congr 1
 ·simp [updd]
 ·apply List.map_congr_left;intro i hi;simp [updd]
  congr 1
  omega
theorem dg_new (w:World) (o:Obj):Dg ((w.alloc o).alloc (.cells ((List.range 29).map fun _=>Value.int .u8 0).toArray 174)) (w.heap.size+1) (fun _=>0):=by
 show ((w.heap.push o).push _)[w.heap.size+1]?=_;have:w.heap.size+1=(w.heap.push o).size:=by simp
 rw [this,Array.getElem?_push_size]
def ShowInv (V:Nat) (X:W3) (d:Nat→Int) (t:Nat):Prop:=
 (t=0∧X.val=V)∨(0<t∧X.val=0∧decL V=dsOf d t)∨(0<t∧0<X.val∧decL V=decL X.val.toNat++dsOf d t)
theorem show_more {V:Nat} {X:W3} {d:Nat→Int} {t:Nat} (hV:(V:Int)<top) (h:ShowInv V X d t) (hgo:t=0∨0<X.val) (hX:X.ok) :
  t<29∧ShowInv V (overW X 10) (updd d (28 - t) (48+overR X 10)) (t+1):=by
 have hv:=over_val X 10;have hr:=over_left (w:=X) 10 (by omega);have hq:=(W3.bd (over_ok hX (d:=10) (by omega))).1;have hlen:=decL_len29 V hV
 have ht:t<29:=by
  rcases h with ⟨h1,_⟩ | ⟨h1,h2,h3⟩ | ⟨h1,h2,h3⟩
  ·omega
  ·omega
  ·rw [h3,List.length_append,dsOf_len] at hlen;have h5:1≤(decL X.val.toNat).length:=(decL_len29 _ (by have:=(W3.bd hX).2;omega)).1;omega
 refine ⟨ht,?_⟩
 have hn:decL V=decL X.val.toNat++dsOf d t:=by
  rcases h with ⟨h1,h2⟩ | ⟨h1,h2,h3⟩ | ⟨_,_,h3⟩
  ·subst h1;rw [h2];simp [dsOf]
  ·omega
  ·exact h3
 have hds:=dsOf_upd d t (48+overR X 10) ht;by_cases h10:X.val<10
 ·right;left;have e0:(overW X 10).val=0:=by omega
  have e1:overR X 10=X.val:=by omega
  refine ⟨by omega,e0,?_⟩;rw [hn,hds,decL_one (by omega),e1];have hx0:=(W3.bd hX).1;rw [show ((X.val.toNat:Nat):Int)=X.val by omega];rfl
 ·right;right;refine ⟨by omega,by omega,?_⟩;rw [hn,hds,decL_more (by omega)];have e1:X.val.toNat / 10=(overW X 10).val.toNat:=by omega
  have e2:((X.val.toNat % 10:Nat):Int)=overR X 10:=by omega
  rw [e1,e2,List.append_assoc];rfl
theorem zero_iff {X:W3} (hX:X.ok):X.val=0↔X=⟨0,0,0⟩:=by
 obtain ⟨⟨h1,_⟩,⟨h2,_⟩,h3,_⟩:=hX;constructor
 ·intro h;unfold W3.val at h;obtain ⟨a,b,c⟩:=X;simp only at *;have:a=0:=by omega
  have:b=0:=by omega
  have:c=0:=by omega
  subst_vars;rfl
 ·intro h;rw [h];rfl
def strOf (ns:List Int):ByteArray:=ns.foldl (fun r n=>r.push (UInt8.ofNat n.toNat)) ByteArray.empty
theorem conv_ds (w:World) (D:Nat) (d:Nat→Int) (t:Nat) (ht:t≤29) (h:Dg w D d) :
  (convert 177 9 (.slice (some ⟨D,29 - t,none⟩) t t)).run Tryz.prog w = .ok (.string (strOf (dsOf d t))) w:=by
 rw [run_convert_bytes_string _ _ _ _ _ _ _ Tryz.underlying177 Tryz.underlying5 Tryz.underlying9,run_bytesToString _ _ _ _ (dsOf d t)]
 ·rfl
 ·have:=run_loadCells (P:=Tryz.prog) w ⟨D,29 - t,none⟩ t (fun i=> .int .u8 (d (29 - t+i))) (fun j hj=>by rw [Addr.add_lit];exact h.cell (by omega));rw [this]
  congr 2
  simp [dsOf]
theorem slice_ds (D t:Nat) (w:World) (h0:0<t) (h1:t≤29) :
  (Instr.sliceAt 174 (.pointer (some ⟨D,0,none⟩)) (some (zI ((29 - t:Nat):Int))) none none).run Tryz.prog w = .ok (.slice (some ⟨D,29 - t,none⟩) t t) w:=by
 have e2:29 - (29 - t)=t:=by omega
 simp [Instr.sliceAt,Instr.sliceBounds,Instr.sliceBound,asIntOf,run_underlying Tryz.underlying174,go_sem,e2];omega
theorem show_any (x:W3) (w:World) (hx:x.ok) :
  Calls Tryz.prog 53 #[wv x] w fun e w'=>e = .returned (.string (strOf (decL x.val.toNat)))∧Below w.heap.size w w':=by
 have hxb:=W3.bd hx;have HX:Hid (x.ok):=hx;have HB0:Hid (∀ o1 o2:Obj,Below w.heap.size w ((w.alloc o1).alloc o2)):=fun o1 o2=>bel2 w o1 o2;clear hx;go_enter Tryz.func53,Tryz.ntmps53;go_wp2_with fail;go_loopw [4] (fun v wr=>∃ (t:Nat) (X:W3) (d:Nat→Int),t≤29∧v=zI ((29 - t:Nat):Int)∧X.ok∧Wat wr w.heap.size X∧Dg wr (w.heap.size+1) d∧Below w.heap.size w wr∧ShowInv x.val.toNat X d t) (fun v _=>(intOf v).toNat)
 case atStart=>exact ⟨0,x,fun _=>0,by omega,rfl,HX.o,trio_a _ _ _ _ _,dg_new _ _,bel2 _ _ _,.inl ⟨rfl,by omega⟩⟩
 case round=>
  obtain ⟨t,X,d,ht,rfl,hX,hT,hD,hb,hi⟩:=hrel;by_cases hgo:t=0∨0<X.val
  ·obtain ⟨ht29,hm⟩:=show_more (by omega) hi hgo hX;have HM:Hid (ShowInv x.val.toNat (overW X 10) (updd d (28 - t) (48+overR X 10)) (t+1)):=hm;have hz:=(zero_iff hX)
   have HT:Hid (Wat wr w.heap.size X):=hT;have HD:Hid (Dg wr (w.heap.size+1) d):=hD;have HB:Hid (Below w.heap.size w wr):=hb;have c0:=hT.c0;have c1:=hT.c1;have c2:=hT.c2;clear hT hD hb hi hm;have e28:((29 - t:Nat):Int) - 1=((28 - t:Nat):Int):=by omega
   have g29:28 - t<29:=by omega
   have HG:Hid (29 - (t+1)=28 - t):=(by omega:29 - (t+1)=28 - t)
   by_cases h0:t=0
   ·have e29:(((29 - t:Nat):Int) == 29)=true:=by simp;omega
    have f29:((29 - t:Nat):Int)≤29:=by omega
    clear hgo hz ht;generalize 29 - t=f at *;generalize 28 - t=g at *;go_wp2_with fail;refine (over_any X 10 _ hX (by omega) (by omega)).mono ?_;rintro e w2 ⟨rfl,hb2⟩;have hQ:=over_ok hX (d:=10) (by omega);have hr:=over_left (w:=X) 10 (by omega);have T2:=HT.o.below hb2;have D2:=HD.o.below hb2;have B2:=HB.o.trans (hb2.mono HB.o.size);clear hb2 HT HD HB c0 c1 c2;generalize overW X 10=Q at *;generalize overR X 10=r at *;have c0:=T2.c0;have c1:=T2.c1;have c2:=T2.c2;have f0:=T2.free 0;have f1:=T2.free 1;have f2:=T2.free 2;have T3:=T2.put (.int .u32 Q.a) (.int .u32 Q.b) (.int .u32 Q.c);have D3:=((D2.other (G:=w.heap.size) 0 (.int .u32 Q.a) (by omega)).other (G:=w.heap.size) 1 (.int .u32 Q.b) (by omega)).other (G:=w.heap.size) 2 (.int .u32 Q.c) (by omega);have B3:=below_put3 B2 w.heap.size (.int .u32 Q.a) (.int .u32 Q.b) (.int .u32 Q.c) (Nat.le_refl _);have d1:=D3.cell (i:=g) (by omega);have d2:=D3.free g;have HT:Hid (Wat ((put3 w2 w.heap.size (.int .u32 Q.a) (.int .u32 Q.b) (.int .u32 Q.c)).setCell ⟨w.heap.size+1,g,none⟩ (.int .u8 (48+r))) w.heap.size Q):=T3.other _ _ (by omega);have HD:Hid (Dg ((put3 w2 w.heap.size (.int .u32 Q.a) (.int .u32 Q.b) (.int .u32 Q.c)).setCell ⟨w.heap.size+1,g,none⟩ (.int .u8 (48+r))) (w.heap.size+1) (updd d g (48+r))):=D3.set _ _;have HB:Hid (Below w.heap.size w ((put3 w2 w.heap.size (.int .u32 Q.a) (.int .u32 Q.b) (.int .u32 Q.c)).setCell ⟨w.heap.size+1,g,none⟩ (.int .u8 (48+r)))):=below_set B3 _ _ _ (by omega);clear T2 D2 B2 T3 D3 B3;obtain ⟨r0,r1⟩:=hr;generalize d g=dd at *;go_wp2_with fail;go_roundw
    case rel=>exact ⟨t+1,Q,_,by omega,by rw [HG.o],hQ,HT.o,HD.o,HB.o,HM.o⟩
    case measure=>simp [intOf];omega
   ·have hne:X≠⟨0,0,0⟩:=fun e=>by have:=hz.2 e;omega
    have q:=eq3_other hne;have e29:(((29 - t:Nat):Int) == 29)=false:=by simp;omega
    have f29:((29 - t:Nat):Int)≤29:=by omega
    clear hgo hz;generalize 29 - t=f at *;generalize 28 - t=g at *;go_wp2_with fail;refine (over_any X 10 _ hX (by omega) (by omega)).mono ?_;rintro e w2 ⟨rfl,hb2⟩;have hQ:=over_ok hX (d:=10) (by omega);have hr:=over_left (w:=X) 10 (by omega);have T2:=HT.o.below hb2;have D2:=HD.o.below hb2;have B2:=HB.o.trans (hb2.mono HB.o.size);clear hb2 HT HD HB c0 c1 c2;generalize overW X 10=Q at *;generalize overR X 10=r at *;have c0:=T2.c0;have c1:=T2.c1;have c2:=T2.c2;have f0:=T2.free 0;have f1:=T2.free 1;have f2:=T2.free 2;have T3:=T2.put (.int .u32 Q.a) (.int .u32 Q.b) (.int .u32 Q.c);have D3:=((D2.other (G:=w.heap.size) 0 (.int .u32 Q.a) (by omega)).other (G:=w.heap.size) 1 (.int .u32 Q.b) (by omega)).other (G:=w.heap.size) 2 (.int .u32 Q.c) (by omega);have B3:=below_put3 B2 w.heap.size (.int .u32 Q.a) (.int .u32 Q.b) (.int .u32 Q.c) (Nat.le_refl _);have d1:=D3.cell (i:=g) (by omega);have d2:=D3.free g;have HT:Hid (Wat ((put3 w2 w.heap.size (.int .u32 Q.a) (.int .u32 Q.b) (.int .u32 Q.c)).setCell ⟨w.heap.size+1,g,none⟩ (.int .u8 (48+r))) w.heap.size Q):=T3.other _ _ (by omega);have HD:Hid (Dg ((put3 w2 w.heap.size (.int .u32 Q.a) (.int .u32 Q.b) (.int .u32 Q.c)).setCell ⟨w.heap.size+1,g,none⟩ (.int .u8 (48+r))) (w.heap.size+1) (updd d g (48+r))):=D3.set _ _;have HB:Hid (Below w.heap.size w ((put3 w2 w.heap.size (.int .u32 Q.a) (.int .u32 Q.b) (.int .u32 Q.c)).setCell ⟨w.heap.size+1,g,none⟩ (.int .u8 (48+r)))):=below_set B3 _ _ _ (by omega);clear T2 D2 B2 T3 D3 B3;obtain ⟨r0,r1⟩:=hr;generalize d g=dd at *;go_wp2_with fail;go_roundw
    case rel=>exact ⟨t+1,Q,_,by omega,by rw [HG.o],hQ,HT.o,HD.o,HB.o,HM.o⟩
    case measure=>simp [intOf];omega
  ·have ht0:0<t:=by omega
   have hX0:X.val=0:=by have:=(W3.bd hX).1;omega
   have hXz:=(zero_iff hX).1 hX0
   have hfin:decL x.val.toNat=dsOf d t:=by
    rcases hi with h | ⟨_,_,h⟩ | h
    ·omega
    ·exact h
    ·omega
   subst hXz;have c0:=hT.c0;have c1:=hT.c1;have c2:=hT.c2;have q:=eq3_same ⟨0,0,0⟩;have e29:(((29 - t:Nat):Int) == 29)=false:=by simp;omega
   have hsl:=slice_ds (w.heap.size+1) t wr ht0 ht;have hcv:=conv_ds wr (w.heap.size+1) d t ht hD;rw [← hfin] at hcv;have HB:Hid (Below w.heap.size w wr):=hb;clear hi hgo hX0 hfin hT hD hb hX;go_wp2_with fail;go_ret;exact ⟨rfl,HB.o⟩
end words
end Go.Proofs.YtnpblpbohcegoaaGreatDoor
