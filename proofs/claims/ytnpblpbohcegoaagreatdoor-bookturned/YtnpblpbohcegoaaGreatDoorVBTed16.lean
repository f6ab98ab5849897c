import Derived.Test.YtnpblpbohcegoaaGreatDoorVBTed10
import Derived.Test.YtnpblpbohcegoaaGreatDoorVBTed11
set_option linter.unusedVariables false
set_option linter.unusedSimpArgs false
set_option maxHeartbeats 4000000
set_option maxRecDepth 100000
namespace Go.Proofs.YtnpblpbohcegoaaGreatDoor
namespace acc
open tar (Du du0 Came RowD Ld PairT)
open Go.RowKit
def RollR (x:Ac) (m:Int) (b0:Bi) (y:Ac) (b:Bi) (f:Int):Prop:=((¬ RMay x m∧RErr x m f∧y=x)∨(RMay x m∧y=rolled x m∧f=0))∧b=b0
theorem proll (g:Nat) (x:Ac) (b:Bi) (p:Option Addr) (len cap:Nat) (m:Int) (w:World) (hw:Blk w g (wcs x b p len cap) 252) (hd:deb.Fresh w (g+1) p len cap x.ds) (ha:AMay x):Calls Tryz.prog 185 #[.pointer (some ⟨g,0,none⟩),zI m] w fun e w'=>DPost w g (RollR x m b) e w':=by
 have hgl:=hw.lt;have hmo:=ha.2.2.2.2.1;have HMA:Hid (deb.Mays x.ds):=ha.1;obtain ⟨me,rv,nx,mo,bo,fr,ds⟩:=x;obtain ⟨id,te,de,fe,pr,ch,un⟩:=b;simp only [] at hmo;have HI:Hid (Blk w g #[zI me,zI rv,zI nx,zI mo,zI bo,zI fr,.slice p len cap,zI id,zI te,zI de,zI fe,zI pr,zI ch,zI un] 252):=hw;have HD:Hid (deb.Fresh w (g+1) p len cap ds):=hd;have HIM:Hid (∀ W,Calls Tryz.prog 69 #[zI 0,zI 2399,zI m] W fun e w'=>e = .returned (.bool (decide (0≤m∧m≤2399)))∧w'=W):=fun W=>awithin 0 2399 m W;have q3:w.cell? ⟨g,3,none⟩=some (zI mo):=HI.o.cell 3;clear hw hd ha;by_cases h1:0≤m∧m≤2399
 ·rw [decide_eq_true h1] at HIM;by_cases h2:m<mo
  ·have d2:decide (m<mo)=true:=decide_eq_true h2;have HV:Hid (RollR ⟨me,rv,nx,mo,bo,fr,ds⟩ m ⟨id,te,de,fe,pr,ch,un⟩ ⟨me,rv,nx,mo,bo,fr,ds⟩ ⟨id,te,de,fe,pr,ch,un⟩ 23):=⟨.inl ⟨fun hh=>by have:mo≤m:=hh.2;omega,.inr ⟨h1,h2,rfl⟩,rfl⟩,rfl⟩
   clear h1 h2 hmo;go_enter Tryz.func185,Tryz.ntmps185;go_wp2_with fail;refine (HIM.o _).mono ?_;rintro e w2 ⟨rfl,hw2⟩;subst w2;go_wp2_with fail;go_ret;exact ⟨_,_,p,len,cap,23,rfl,HV.o,HI.o,HD.o,Chg.refl _ _⟩
  ·have d2:decide (m<mo)=false:=decide_eq_false h2;have HRM:Hid (RMay ⟨me,rv,nx,mo,bo,fr,ds⟩ m):=⟨h1,by show mo≤m;omega⟩
   by_cases h3:mo<m
   ·have d3:decide (mo<m)=true:=decide_eq_true h3;have hwr:IntKind.i64.wrap (m - mo)=m - mo:=by rw [IntKind.wrap_i64];omega
    have HAG:Hid (Calls Tryz.prog 201 #[.slice p len cap,zI (m - mo)] w.drew fun e w'=>deb.AgePost w.drew ds (m - mo) e w'):=deb.kage _ p len cap ds (m - mo) (fresh_drew HD.o).came (tar.wf_mid (by omega) (by omega));have HMR:Hid (0≤m - mo∧m - mo≤2400):=⟨by omega,by omega⟩
    have HNE:Hid (¬ m=mo):=by show ¬ _=_;omega
    clear h1 h2 h3;go_enter Tryz.func185,Tryz.ntmps185;go_wp2_with fail;refine (HIM.o _).mono ?_;rintro e w2 ⟨rfl,hw2⟩;subst w2;go_wp2_with fail;clear HIM d2 d3 q3;have q6:w.drew.cell? ⟨g,6,none⟩=some (.slice p len cap):=HI.o.cell 6;refine wp_region_held_drew (S:=fun v=>v.cell? ⟨g,3,none⟩=some (zI mo)) (by kernel_rfl) (show w.drew.cell? _=_ from HI.o.cell 3) (fun hHeld=>?_);refine zqs 0 26 (.pointer (some ⟨g,0,none⟩)) rfl rfl (by kernel_rfl) zid rfl (fun v hv=>by clear hv;go_simp) hHeld ?_;simp only [zq];refine zqs 1 27 (.pointer (some ⟨g,0,none⟩)) rfl rfl (by kernel_rfl) zid rfl (fun v hv=>by clear hv;go_simp) hHeld ?_;simp only [zq];refine zqs 2 28 (.pointer (some ⟨g,0,none⟩)) rfl rfl (by kernel_rfl) zid rfl (fun v hv=>by clear hv;go_simp) hHeld ?_;simp only [zq];refine zqs 3 29 (.pointer (some ⟨g,0,none⟩)) rfl rfl (by kernel_rfl) zid rfl (fun v hv=>by clear hv;go_simp) hHeld ?_;simp only [zq];refine zqs 4 30 (.pointer (some ⟨g,6,none⟩)) rfl rfl (by kernel_rfl) zid rfl (fun v hv=>by clear hv;go_simp) hHeld ?_;simp only [zq];refine zqs 6 32 (zI m) rfl rfl (by kernel_rfl) zid rfl (fun v hv=>by clear hv;go_simp) hHeld ?_;simp only [zq];refine zqs 7 33 (.pointer (some ⟨g,0,none⟩)) rfl rfl (by kernel_rfl) zid rfl (fun v hv=>by clear hv;go_simp) hHeld ?_;simp only [zq];refine zqs 8 34 (.pointer (some ⟨g,0,none⟩)) rfl rfl (by kernel_rfl) zid rfl (fun v hv=>by clear hv;go_simp) hHeld ?_;simp only [zq];refine zqs 9 35 (.pointer (some ⟨g,0,none⟩)) rfl rfl (by kernel_rfl) zid rfl (fun v hv=>by clear hv;go_simp) hHeld ?_;simp only [zq];refine zqs 10 36 (.pointer (some ⟨g,3,none⟩)) rfl rfl (by kernel_rfl) zid rfl (fun v hv=>by clear hv;go_simp) hHeld ?_;simp only [zq];refine zqt 11 37 (zI mo) rfl rfl (by kernel_rfl) zid (Or.inl ⟨by rfl,fun v hv=>by have g0:=hv;clear hv;go_simp⟩) hHeld ?_;simp only [zq];refine zqs 12 38 (zI (m - mo)) rfl rfl (by kernel_rfl) zid rfl (fun v hv=>by clear hv;go_simp) hHeld ?_
    simp only [zq];refine zqo 5 (by kernel_rfl) rfl (fun K hK=>?_);rw [if_pos (by rfl)];refine wp_runOp (v:= .slice p len cap) (w':=w.drew) 31 rfl (by clear hK;go_simp) ?_;refine hK.o _ _ (show w.drew.cell? _=_ from HI.o.cell 3) (fun hHeld=>?_);clear hK K q6;simp only [zq];refine zqo 13 (by kernel_rfl) rfl (fun K hK=>?_);rw [if_pos (by rfl)];refine wp_callOp 39 rfl (by clear hK;go_simp) HAG.o ?_;rintro e w1 ⟨q,n,c,z,f,rfl,hz,hf,hb1⟩;obtain ⟨rfl,hz2⟩:=hz.got HMA.o HMR.o;have HI1:Hid (Blk w1 g #[zI me,zI rv,zI nx,zI mo,zI bo,zI fr,.slice p len cap,zI id,zI te,zI de,zI fe,zI pr,zI ch,zI un] 252):=(Blk.drew HI.o 1).next hb1;have HC1:Hid (Chg w w1 g):=(Chg.of (bel_drew (Below.refl _ _) 1)).trans (.of hb1);have HF1:Hid (deb.Fresh w1 (g+1) q n c z):=hf.low (by show g+1≤w.heap.size;omega);have HZ:Hid (z=deb.ageAll ds (m - mo).toNat):=hz2;refine ⟨_,rfl,hK.o _ _ (HI1.o.cell 3) (fun hHeld=>?_)⟩;clear hK K hz hf hb1 hz2 HAG HI HD;simp only [zq];refine zqs 14 25 (.tuple #[.slice q n c,zI 0]) rfl rfl (by kernel_rfl) zid rfl (fun v hv=>by clear hv;go_simp) hHeld ?_;simp only [zq];refine zqs 15 40 (.slice q n c) rfl rfl (by kernel_rfl) zid rfl (fun v hv=>by clear hv;go_simp) hHeld ?_;simp only [zq];refine zqs 16 41 (zI 0) rfl rfl (by kernel_rfl) zid rfl (fun v hv=>by clear hv;go_simp) hHeld ?_;simp only [zq];refine zqs 17 42 (.pointer (some ⟨g,0,none⟩)) rfl rfl (by kernel_rfl) zid rfl (fun v hv=>by clear hv;go_simp) hHeld ?_;simp only [zq];refine zqs 18 43 (.pointer (some ⟨g,0,none⟩)) rfl rfl (by kernel_rfl) zid rfl (fun v hv=>by clear hv;go_simp) hHeld ?_;simp only [zq];refine zqs 19 44 (.pointer (some ⟨g,6,none⟩)) rfl rfl (by kernel_rfl) zid rfl (fun v hv=>by clear hv;go_simp) hHeld ?_;simp only [zq];refine zqo 20 (by kernel_rfl) rfl (fun K hK=>?_);rw [if_pos (by rfl)];refine wp_letOp1 49 _ _ rfl g 6 rfl (.slice q n c) rfl rfl (by kernel_rfl) rfl #[zI me,zI rv,zI nx,zI mo,zI bo,zI fr,.slice p len cap,zI id,zI te,zI de,zI fe,zI pr,zI ch,zI un] 252 HI1.o (by simp) rfl ?_
    intro W2 hU;have HI2:Hid (Blk W2 g #[zI me,zI rv,zI nx,zI mo,zI bo,zI fr,.slice q n c,zI id,zI te,zI de,zI fe,zI pr,zI ch,zI un] 252):=hU.blk;have HC2:Hid (Chg w W2 g):=HC1.o.trans (.upd hU);have HF2:Hid (deb.Fresh W2 (g+1) q n c z):=fresh_chg HF1.o (.upd hU);clear hU HF1 HC1;refine hK.o _ _ (HI2.o.cell 3) (fun hHeld=>?_);clear hK K HI1;refine wpAnyH_done (by kernel_rfl) ?_ _;clear hHeld;go_wp2_with (first | (refine wp_let1 rfl 3 _ _ rfl g 3 rfl .i64 m rfl (by kernel_rfl) #[zI me,zI rv,zI nx,zI mo,zI bo,zI fr,.slice q n c,zI id,zI te,zI de,zI fe,zI pr,zI ch,zI un] 252 HI2.o (by simp) ?_) | fail)
    intro W3 hU;have HI3:Hid (Blk W3 g #[zI me,zI rv,zI nx,zI m,zI bo,zI fr,.slice q n c,zI id,zI te,zI de,zI fe,zI pr,zI ch,zI un] 252):=hU.blk;have HC3:Hid (Chg w W3 g):=HC2.o.trans (.upd hU);have HF3:Hid (deb.Fresh W3 (g+1) q n c z):=fresh_chg HF2.o (.upd hU);clear hU HF2 HC2 HI2;go_wp2_with (first | (refine wp_let1 rfl 3 _ _ rfl g 4 rfl .i64 0 rfl (by kernel_rfl) #[zI me,zI rv,zI nx,zI m,zI bo,zI fr,.slice q n c,zI id,zI te,zI de,zI fe,zI pr,zI ch,zI un] 252 HI3.o (by simp) ?_) | fail)
    intro W4 hU;have HI4:Hid (Blk W4 g #[zI me,zI rv,zI nx,zI m,zI 0,zI fr,.slice q n c,zI id,zI te,zI de,zI fe,zI pr,zI ch,zI un] 252):=hU.blk;have HC4:Hid (Chg w W4 g):=HC3.o.trans (.upd hU);have HF4:Hid (deb.Fresh W4 (g+1) q n c z):=fresh_chg HF3.o (.upd hU);have HV:Hid (RollR ⟨me,rv,nx,mo,bo,fr,ds⟩ m ⟨id,te,de,fe,pr,ch,un⟩ ⟨me,rv,nx,m,0,fr,z⟩ ⟨id,te,de,fe,pr,ch,un⟩ 0):=⟨.inr ⟨HRM.o,by unfold rolled;rw [if_neg HNE.o,HZ.o],rfl⟩,rfl⟩
    clear hU HF3 HC3 HI3;go_wp2_with fail;go_ret;exact ⟨⟨me,rv,nx,m,0,fr,z⟩,_,q,n,c,0,rfl,HV.o,HI4.o,HF4.o,HC4.o⟩
   ·have d3:decide (mo<m)=false:=decide_eq_false h3;have HV:Hid (RollR ⟨me,rv,nx,mo,bo,fr,ds⟩ m ⟨id,te,de,fe,pr,ch,un⟩ ⟨me,rv,nx,mo,bo,fr,ds⟩ ⟨id,te,de,fe,pr,ch,un⟩ 0):=⟨.inr ⟨HRM.o,by unfold rolled;rw [if_pos (by show m=mo;omega)],rfl⟩,rfl⟩
    clear h1 h2 h3 hmo;go_enter Tryz.func185,Tryz.ntmps185;go_wp2_with fail;refine (HIM.o _).mono ?_;rintro e w2 ⟨rfl,hw2⟩;subst w2;go_wp2_with fail;go_ret;exact ⟨_,_,p,len,cap,0,rfl,HV.o,HI.o,HD.o,Chg.refl _ _⟩
 ·rw [decide_eq_false h1] at HIM;have HV:Hid (RollR ⟨me,rv,nx,mo,bo,fr,ds⟩ m ⟨id,te,de,fe,pr,ch,un⟩ ⟨me,rv,nx,mo,bo,fr,ds⟩ ⟨id,te,de,fe,pr,ch,un⟩ 2):=⟨.inl ⟨fun hh=>h1 hh.1,.inl ⟨h1,rfl⟩,rfl⟩,rfl⟩
  clear h1 hmo q3;go_enter Tryz.func185,Tryz.ntmps185;go_wp2_with fail;refine (HIM.o _).mono ?_;rintro e w2 ⟨rfl,hw2⟩;subst w2;go_wp2_with fail;go_ret;exact ⟨_,_,p,len,cap,2,rfl,HV.o,HI.o,HD.o,Chg.refl _ _⟩
end acc
namespace token
open Go.RowKit
structure Rdy (w W:World) (c i a t:Int):Prop where
 below:Below w.heap.size w W
 b0:W.cell? ⟨w.heap.size,0,none⟩=some (zI c)
 b1:W.cell? ⟨w.heap.size,1,none⟩=some (zI i)
 b2:W.cell? ⟨w.heap.size,2,none⟩=some (zI a)
 b3:W.cell? ⟨w.heap.size,3,none⟩=some (zI t)
 i0:W.cell? ⟨w.heap.size+1,0,none⟩=some (zI 1)
 i1:W.cell? ⟨w.heap.size+1,1,none⟩=some (zI 1048575)
 t0:W.cell? ⟨w.heap.size+1+1,0,none⟩=some (zI 0)
 t1:W.cell? ⟨w.heap.size+1+1,1,none⟩=some (zI 65535)
theorem rdy_of (w:World) (c i a t:Int):Rdy w (((w.alloc (.cells #[zI c,zI i,zI a,zI t] 96)).alloc (.cells #[zI 1,zI 1048575] 221)).alloc (.cells #[zI 0,zI 65535] 221)) c i a t:=by
 have h0:=((Blk.new w #[zI c,zI i,zI a,zI t] 96).alloc (.cells #[zI 1,zI 1048575] 221)).alloc (.cells #[zI 0,zI 65535] 221);have h1:=(Blk.new1 w (.cells #[zI c,zI i,zI a,zI t] 96) #[zI 1,zI 1048575] 221).alloc (.cells #[zI 0,zI 65535] 221);have h2:=Blk.new2 w (.cells #[zI c,zI i,zI a,zI t] 96) (.cells #[zI 1,zI 1048575] 221) #[zI 0,zI 65535] 221;exact ⟨((((Below.refl _ _).alloc (Nat.le_refl _) _).alloc (by simp) _).alloc (by simp;omega) _),h0.cell 0,h0.cell 1,h0.cell 2,h0.cell 3,h1.cell 0,h1.cell 1,h2.cell 0,h2.cell 1⟩
theorem flaw_class (c i a t:Int) (w:World) (h:c<0∨3<c) :
  Calls Tryz.prog 85 #[.agg #[zI c,zI i,zI a,zI t]] w fun e w'=>e = .returned (zI 9)∧Below w.heap.size w w':=by
 have hb:Below w.heap.size w (w.alloc (.cells #[zI c,zI i,zI a,zI t] 96)):=(Below.refl _ _).alloc (Nat.le_refl _) _;by_cases h0:c<0
 ·clear h;go_enter Tryz.func85,Tryz.ntmps85;go_wp2;go_ret;exact ⟨rfl,hb⟩
 ·have h1:0≤c:=by omega
  have h2:4≤c:=by omega
  clear h;go_enter Tryz.func85,Tryz.ntmps85;go_wp2;go_ret;exact ⟨rfl,hb⟩
theorem flaw_in (c:Nat) (lo hi i a t:Int) (w:World) (hc:c<4) (g0:w.cell? ⟨0,c*2,none⟩=some (zI lo)) (g1:w.cell? ⟨0,c*2+1,none⟩=some (zI hi)) :
  Calls Tryz.prog 85 #[.agg #[zI (c:Int),zI i,zI a,zI t]] w fun e w'=>e = .returned (zI (if hasI 1 1048575 i && (hasI lo hi a && hasI 0 65535 t) then 0 else 2))∧Below w.heap.size w w':=by
 have HR:Hid (Rdy w (((w.alloc (.cells #[zI (c:Int),zI i,zI a,zI t] 96)).alloc (.cells #[zI 1,zI 1048575] 221)).alloc (.cells #[zI 0,zI 65535] 221)) c i a t):=rdy_of w c i a t;have g0':=HR.o.below.cell (World.block_lt_of_cell? w _ g0);rw [g0] at g0';have g1':=HR.o.below.cell (World.block_lt_of_cell? w _ g1);rw [g1] at g1';have HI:Hid (∀ W,Calls Tryz.prog 128 #[.agg #[zI 1,zI 1048575],zI i] W fun e w'=>e = .returned (.bool (hasI 1 1048575 i))∧Below W.heap.size W w'):=fun W=>has_any _ _ _ W;have HA:Hid (∀ W,Calls Tryz.prog 128 #[.agg #[zI lo,zI hi],zI a] W fun e w'=>e = .returned (.bool (hasI lo hi a))∧Below W.heap.size W w'):=fun W=>has_any _ _ _ W;have HU:Hid (∀ W,Calls Tryz.prog 128 #[.agg #[zI 0,zI 65535],zI t] W fun e w'=>e = .returned (.bool (hasI 0 65535 t))∧Below W.heap.size W w'):=fun W=>has_any _ _ _ W;clear g0 g1;have c0:¬ (c:Int)<0:=by omega
 have c1:¬ 4≤(c:Int):=by omega
 have c2:(c:Int)<4:=by omega
 generalize hasI 1 1048575 i=bi at *;generalize hasI lo hi a=ba at *;generalize hasI 0 65535 t=bt at *;cases bi with
 | false=>
  go_enter Tryz.func85,Tryz.ntmps85;go_wp2_with fail;generalize (((w.alloc (.cells #[zI (c:Int),zI i,zI a,zI t] 96)).alloc (.cells #[zI 1,zI 1048575] 221)).alloc (.cells #[zI 0,zI 65535] 221))=W at *;have k0:=cell_regrown HR.o.b0;have k1:=cell_regrown HR.o.b1;have k2:=cell_regrown HR.o.b2;have k3:=cell_regrown HR.o.b3;have k4:=cell_regrown HR.o.i0;have k5:=cell_regrown HR.o.i1;have k6:=cell_regrown HR.o.t0;have k7:=cell_regrown HR.o.t1;have k8:=cell_regrown g0';have k9:=cell_regrown g1';have HB:Hid (Below w.heap.size w W):=HR.o.below;clear HR g0' g1';refine wq_below (by kernel_rfl) (by kernel_rfl) ?_
  iterate 3 (refine wq_step (fun K hK=>?_);go_simp;refine hK _ ?_;clear hK K)
  refine wq_step (fun K hK=>?_);go_simp;apply Exists.intro;refine ⟨fun _=>?_,hK _ ?_⟩;exact Calls.regrown_of (HI.o _);clear hK K
  iterate 2 (refine wq_step (fun K hK=>?_);go_simp;refine hK _ ?_;clear hK K)
  iterate 8 (refine wq_skip (by kernel_rfl) ?_;simp only [zq])
  iterate 2 (refine wq_step (fun K hK=>?_);go_simp;refine hK _ ?_;clear hK K)
  iterate 5 (refine wq_skip (by kernel_rfl) ?_;simp only [zq])
  iterate 1 (refine wq_step (fun K hK=>?_);go_simp;refine hK _ ?_;clear hK K)
  refine wq_nil ?_;intro _ hw';obtain ⟨⟨dq,osq⟩,hw''⟩:=hw';subst hw'';go_wp2_with fail;go_ret;exact ⟨rfl,HB.o.trans ((below_regrown W dq osq).mono HB.o.size)⟩
 | true=>
  cases ba with
  | false=>
   go_enter Tryz.func85,Tryz.ntmps85;go_wp2_with fail;generalize (((w.alloc (.cells #[zI (c:Int),zI i,zI a,zI t] 96)).alloc (.cells #[zI 1,zI 1048575] 221)).alloc (.cells #[zI 0,zI 65535] 221))=W at *;have k0:=cell_regrown HR.o.b0;have k1:=cell_regrown HR.o.b1;have k2:=cell_regrown HR.o.b2;have k3:=cell_regrown HR.o.b3;have k4:=cell_regrown HR.o.i0;have k5:=cell_regrown HR.o.i1;have k6:=cell_regrown HR.o.t0;have k7:=cell_regrown HR.o.t1;have k8:=cell_regrown g0';have k9:=cell_regrown g1';have HB:Hid (Below w.heap.size w W):=HR.o.below;clear HR g0' g1';refine wq_below (by kernel_rfl) (by kernel_rfl) ?_
   iterate 3 (refine wq_step (fun K hK=>?_);go_simp;refine hK _ ?_;clear hK K)
   refine wq_step (fun K hK=>?_);go_simp;apply Exists.intro;refine ⟨fun _=>?_,hK _ ?_⟩;exact Calls.regrown_of (HI.o _);clear hK K
   iterate 8 (refine wq_step (fun K hK=>?_);go_simp;refine hK _ ?_;clear hK K)
   refine wq_step (fun K hK=>?_);go_simp;apply Exists.intro;refine ⟨fun _=>?_,hK _ ?_⟩;exact Calls.regrown_of (HA.o _);clear hK K
   iterate 3 (refine wq_step (fun K hK=>?_);go_simp;refine hK _ ?_;clear hK K)
   iterate 5 (refine wq_skip (by kernel_rfl) ?_;simp only [zq])
   iterate 1 (refine wq_step (fun K hK=>?_);go_simp;refine hK _ ?_;clear hK K)
   refine wq_nil ?_;intro _ hw';obtain ⟨⟨dq,osq⟩,hw''⟩:=hw';subst hw'';go_wp2_with fail;go_ret;exact ⟨rfl,HB.o.trans ((below_regrown W dq osq).mono HB.o.size)⟩
  | true=>
   cases bt with
   | false=>
    go_enter Tryz.func85,Tryz.ntmps85;go_wp2_with fail;generalize (((w.alloc (.cells #[zI (c:Int),zI i,zI a,zI t] 96)).alloc (.cells #[zI 1,zI 1048575] 221)).alloc (.cells #[zI 0,zI 65535] 221))=W at *;have k0:=cell_regrown HR.o.b0;have k1:=cell_regrown HR.o.b1;have k2:=cell_regrown HR.o.b2;have k3:=cell_regrown HR.o.b3;have k4:=cell_regrown HR.o.i0;have k5:=cell_regrown HR.o.i1;have k6:=cell_regrown HR.o.t0;have k7:=cell_regrown HR.o.t1;have k8:=cell_regrown g0';have k9:=cell_regrown g1';have HB:Hid (Below w.heap.size w W):=HR.o.below;clear HR g0' g1';refine wq_below (by kernel_rfl) (by kernel_rfl) ?_
    iterate 3 (refine wq_step (fun K hK=>?_);go_simp;refine hK _ ?_;clear hK K)
    refine wq_step (fun K hK=>?_);go_simp;apply Exists.intro;refine ⟨fun _=>?_,hK _ ?_⟩;exact Calls.regrown_of (HI.o _);clear hK K
    iterate 8 (refine wq_step (fun K hK=>?_);go_simp;refine hK _ ?_;clear hK K)
    refine wq_step (fun K hK=>?_);go_simp;apply Exists.intro;refine ⟨fun _=>?_,hK _ ?_⟩;exact Calls.regrown_of (HA.o _);clear hK K
    iterate 6 (refine wq_step (fun K hK=>?_);go_simp;refine hK _ ?_;clear hK K)
    refine wq_step (fun K hK=>?_);go_simp;apply Exists.intro;refine ⟨fun _=>?_,hK _ ?_⟩;exact Calls.regrown_of (HU.o _);clear hK K
    iterate 2 (refine wq_step (fun K hK=>?_);go_simp;refine hK _ ?_;clear hK K)
    refine wq_nil ?_;intro _ hw';obtain ⟨⟨dq,osq⟩,hw''⟩:=hw';subst hw'';go_wp2_with fail;go_ret;exact ⟨rfl,HB.o.trans ((below_regrown W dq osq).mono HB.o.size)⟩
   | true=>
    go_enter Tryz.func85,Tryz.ntmps85;go_wp2_with fail;generalize (((w.alloc (.cells #[zI (c:Int),zI i,zI a,zI t] 96)).alloc (.cells #[zI 1,zI 1048575] 221)).alloc (.cells #[zI 0,zI 65535] 221))=W at *;have k0:=cell_regrown HR.o.b0;have k1:=cell_regrown HR.o.b1;have k2:=cell_regrown HR.o.b2;have k3:=cell_regrown HR.o.b3;have k4:=cell_regrown HR.o.i0;have k5:=cell_regrown HR.o.i1;have k6:=cell_regrown HR.o.t0;have k7:=cell_regrown HR.o.t1;have k8:=cell_regrown g0';have k9:=cell_regrown g1';have HB:Hid (Below w.heap.size w W):=HR.o.below;clear HR g0' g1';refine wq_below (by kernel_rfl) (by kernel_rfl) ?_
    iterate 3 (refine wq_step (fun K hK=>?_);go_simp;refine hK _ ?_;clear hK K)
    refine wq_step (fun K hK=>?_);go_simp;apply Exists.intro;refine ⟨fun _=>?_,hK _ ?_⟩;exact Calls.regrown_of (HI.o _);clear hK K
    iterate 8 (refine wq_step (fun K hK=>?_);go_simp;refine hK _ ?_;clear hK K)
    refine wq_step (fun K hK=>?_);go_simp;apply Exists.intro;refine ⟨fun _=>?_,hK _ ?_⟩;exact Calls.regrown_of (HA.o _);clear hK K
    iterate 6 (refine wq_step (fun K hK=>?_);go_simp;refine hK _ ?_;clear hK K)
    refine wq_step (fun K hK=>?_);go_simp;apply Exists.intro;refine ⟨fun _=>?_,hK _ ?_⟩;exact Calls.regrown_of (HU.o _);clear hK K
    iterate 2 (refine wq_step (fun K hK=>?_);go_simp;refine hK _ ?_;clear hK K)
    refine wq_nil ?_;intro _ hw';obtain ⟨⟨dq,osq⟩,hw''⟩:=hw';subst hw'';go_wp2_with fail;go_ret;exact ⟨rfl,HB.o.trans ((below_regrown W dq osq).mono HB.o.size)⟩
theorem flaw_any (c i a t:Int) (w:World) (ht:TTab w) :
  Calls Tryz.prog 85 #[.agg #[zI c,zI i,zI a,zI t]] w fun e w'=>e = .returned (zI (flawT c i a t))∧Below w.heap.size w w':=by
 by_cases h:c<0∨3<c
 ·rw [flawT_class h];exact flaw_class c i a t w h
 ·have h8:=ht.amounts.cell;rw [flawT_in h];rcases (by omega:c=0∨c=1∨c=2∨c=3) with rfl | rfl | rfl | rfl
  ·exact flaw_in 0 1 2097151 i a t w (by omega) h8.1 h8.2.1
  ·exact flaw_in 1 0 0 i a t w (by omega) h8.2.2.1 h8.2.2.2.1
  ·exact flaw_in 2 1 15 i a t w (by omega) h8.2.2.2.2.1 h8.2.2.2.2.2.1
  ·exact flaw_in 3 0 0 i a t w (by omega) h8.2.2.2.2.2.2.1 h8.2.2.2.2.2.2.2
end token
end Go.Proofs.YtnpblpbohcegoaaGreatDoor
