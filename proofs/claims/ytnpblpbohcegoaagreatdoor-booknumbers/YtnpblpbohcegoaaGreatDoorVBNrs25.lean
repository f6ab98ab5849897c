import Derived.Test.YtnpblpbohcegoaaGreatDoorVBNrs16
import Derived.Test.YtnpblpbohcegoaaGreatDoorVBNrs24
set_option linter.unusedVariables false
set_option linter.unusedSimpArgs false
set_option maxHeartbeats 4000000
set_option maxRecDepth 100000
namespace Go.Proofs.YtnpblpbohcegoaaGreatDoor
namespace book
open Go.RowKit
theorem bleft2 (kd me mo id te de fe pr ch un tg ow bp:Int) (w:World) (q2:(kd == 2)=true):Calls Tryz.prog 111 #[.agg #[zI kd,zI me,zI mo,zI id,zI te,zI de,zI fe,zI pr,zI ch,zI un,zI tg,zI ow,zI bp]] w fun e w'=>e = .returned (.agg #[zI 0,zI 0,zI 0,zI 0,zI 0,zI 0,zI 0,zI 0,zI 0,zI 0,zI 0,zI ow,zI bp])∧Below w.heap.size w w':=by
 go_enter Tryz.func111,Tryz.ntmps111;go_wp2;exact bodyPost_ret (v:= .agg #[zI 0,zI 0,zI 0,zI 0,zI 0,zI 0,zI 0,zI 0,zI 0,zI 0,zI 0,zI ow,zI bp]) (by simp [results,Tryz.results111,go_sem]) rfl ⟨rfl,bki.bel2 _ _ _⟩
theorem bleft3 (kd me mo id te de fe pr ch un tg ow bp:Int) (w:World) (q2:(kd == 2)=false) (q3:(kd == 3)=true):Calls Tryz.prog 111 #[.agg #[zI kd,zI me,zI mo,zI id,zI te,zI de,zI fe,zI pr,zI ch,zI un,zI tg,zI ow,zI bp]] w fun e w'=>e = .returned (.agg #[zI 0,zI 0,zI 0,zI 0,zI te,zI de,zI fe,zI pr,zI ch,zI 0,zI 0,zI ow,zI bp])∧Below w.heap.size w w':=by
 go_enter Tryz.func111,Tryz.ntmps111;go_wp2;exact bodyPost_ret (v:= .agg #[zI 0,zI 0,zI 0,zI 0,zI te,zI de,zI fe,zI pr,zI ch,zI 0,zI 0,zI ow,zI bp]) (by simp [results,Tryz.results111,go_sem]) rfl ⟨rfl,bki.bel2 _ _ _⟩
theorem bleft4 (kd me mo id te de fe pr ch un tg ow bp:Int) (w:World) (q2:(kd == 2)=false) (q3:(kd == 3)=false) (q4:(kd == 4)=true):Calls Tryz.prog 111 #[.agg #[zI kd,zI me,zI mo,zI id,zI te,zI de,zI fe,zI pr,zI ch,zI un,zI tg,zI ow,zI bp]] w fun e w'=>e = .returned (.agg #[zI 0,zI 0,zI mo,zI 0,zI te,zI de,zI fe,zI pr,zI ch,zI un,zI 0,zI ow,zI bp])∧Below w.heap.size w w':=by
 go_enter Tryz.func111,Tryz.ntmps111;go_wp2;exact bodyPost_ret (v:= .agg #[zI 0,zI 0,zI mo,zI 0,zI te,zI de,zI fe,zI pr,zI ch,zI un,zI 0,zI ow,zI bp]) (by simp [results,Tryz.results111,go_sem]) rfl ⟨rfl,bki.bel2 _ _ _⟩
theorem bleft5 (kd me mo id te de fe pr ch un tg ow bp:Int) (w:World) (q2:(kd == 2)=false) (q3:(kd == 3)=false) (q4:(kd == 4)=false) (q5:(kd == 5)=true):Calls Tryz.prog 111 #[.agg #[zI kd,zI me,zI mo,zI id,zI te,zI de,zI fe,zI pr,zI ch,zI un,zI tg,zI ow,zI bp]] w fun e w'=>e = .returned (.agg #[zI 0,zI 0,zI mo,zI id,zI te,zI de,zI fe,zI pr,zI ch,zI un,zI tg,zI 0,zI 0])∧Below w.heap.size w w':=by
 go_enter Tryz.func111,Tryz.ntmps111;go_wp2;exact bodyPost_ret (v:= .agg #[zI 0,zI 0,zI mo,zI id,zI te,zI de,zI fe,zI pr,zI ch,zI un,zI tg,zI 0,zI 0]) (by simp [results,Tryz.results111,go_sem]) rfl ⟨rfl,bki.bel2 _ _ _⟩
theorem bleft0 (kd me mo id te de fe pr ch un tg ow bp:Int) (w:World) (q2:(kd == 2)=false) (q3:(kd == 3)=false) (q4:(kd == 4)=false) (q5:(kd == 5)=false):Calls Tryz.prog 111 #[.agg #[zI kd,zI me,zI mo,zI id,zI te,zI de,zI fe,zI pr,zI ch,zI un,zI tg,zI ow,zI bp]] w fun e w'=>e = .returned (.agg #[zI 0,zI 0,zI mo,zI id,zI te,zI de,zI fe,zI pr,zI ch,zI un,zI tg,zI ow,zI bp])∧Below w.heap.size w w':=by
 go_enter Tryz.func111,Tryz.ntmps111;go_wp2;exact bodyPost_ret (v:= .agg #[zI 0,zI 0,zI mo,zI id,zI te,zI de,zI fe,zI pr,zI ch,zI un,zI tg,zI ow,zI bp]) (by simp [results,Tryz.results111,go_sem]) rfl ⟨rfl,bki.bel2 _ _ _⟩
theorem bleft (v:Ev) (w:World):Calls Tryz.prog 111 #[v.v] w fun e w'=>e = .returned (leftE v).v∧Below w.heap.size w w':=by
 obtain ⟨kd,me,mo,id,te,de,fe,pr,ch,un,tg,ow,bp⟩:=v;unfold leftE Ev.v;simp only;by_cases k2:kd=2
 ·rw [if_pos k2];exact bleft2 kd me mo id te de fe pr ch un tg ow bp w (by simpa using k2)
 rw [if_neg k2];by_cases k3:kd=3
 ·rw [if_pos k3];exact bleft3 kd me mo id te de fe pr ch un tg ow bp w (by simpa using k2) (by simpa using k3)
 rw [if_neg k3];by_cases k4:kd=4
 ·rw [if_pos k4];exact bleft4 kd me mo id te de fe pr ch un tg ow bp w (by simpa using k2) (by simpa using k3) (by simpa using k4)
 rw [if_neg k4];by_cases k5:kd=5
 ·rw [if_pos k5];exact bleft5 kd me mo id te de fe pr ch un tg ow bp w (by simpa using k2) (by simpa using k3) (by simpa using k4) (by simpa using k5)
 rw [if_neg k5];exact bleft0 kd me mo id te de fe pr ch un tg ow bp w (by simpa using k2) (by simpa using k3) (by simpa using k4) (by simpa using k5)
end book
namespace acc
open tar (Du du0 Came RowD Ld PairT)
open Go.RowKit
def RollR (x:Ac) (m:Int) (b0:Bi) (y:Ac) (b:Bi) (f:Int):Prop:=((¬ RMay x m∧RErr x m f∧y=x)∨(RMay x m∧y=rolled x m∧f=0))∧b=b0
theorem proll (g:Nat) (x:Ac) (b:Bi) (p:Option Addr) (len cap:Nat) (m:Int) (w:World) (hw:Blk w g (wcs x b p len cap) 252) (hd:deb.Fresh w (g+1) p len cap x.ds) (ha:AMay x):Calls Tryz.prog 185 #[.pointer (some ⟨g,0,none⟩),zI m] w fun e w'=>DPost w g (RollR x m b) e w':=by
 have hgl:=hw.lt;have hmo:=ha.2.2.2.2.1;have HMA:Hid (deb.Mays x.ds):=ha.1;obtain ⟨me,rv,nx,mo,bo,fr,ds⟩:=x;obtain ⟨id,te,de,fe,pr,ch,un⟩:=b;simp only [] at hmo;have HI:Hid (Blk w g #[zI me,zI rv,zI nx,zI mo,zI bo,zI fr,.slice p len cap,zI id,zI te,zI de,zI fe,zI pr,zI ch,zI un] 252):=hw;have HD:Hid (deb.Fresh w (g+1) p len cap ds):=hd;have HIM:Hid (∀ W,Calls Tryz.prog 69 #[zI 0,zI 2399,zI m] W fun e w'=>e = .returned (.bool (decide (0≤m∧m≤2399)))∧w'=W):=fun W=>awithin 0 2399 m W;have q3:w.cell? ⟨g,3,none⟩=some (zI mo):=HI.o.cell 3;clear hw hd ha;by_cases h1:0≤m∧m≤2399
 ·rw [decide_eq_true h1] at HIM;by_cases h2:m<mo
  ·have d2:decide (m<mo)=true:=decide_eq_true h2;have HV:Hid (RollR ⟨me,rv,nx,mo,bo,fr,ds⟩ m ⟨id,te,de,fe,pr,ch,un⟩ ⟨me,rv,nx,mo,bo,fr,ds⟩ ⟨id,te,de,fe,pr,ch,un⟩ 23):=⟨.inl ⟨fun hh=>by have:mo≤m:=hh.2;omega,.inr ⟨h1,h2,rfl⟩,rfl⟩,rfl⟩
   clear h1 h2 hmo;go_enter Tryz.func185,Tryz.ntmps185;go_wp2_with fail;refine (HIM.o _).mono ?_;rintro e w2 ⟨rfl,hw2⟩;subst w2;go_wp2_with fail;go_ret;exact ⟨_,_,p,len,cap,23,rfl,HV.o,HI.o,HD.o,Chg.refl _ _⟩
  ·have d2:decide (m<mo)=false:=decide_eq_false h2;have HRM:Hid (RMay ⟨me,rv,nx,mo,bo,fr,ds⟩ m):=⟨h1,by show mo≤m;omega⟩
   by_cases h3:mo<m
   ·have d3:decide (mo<m)=true:=decide_eq_true h3;have hwr:IntKind.i64.wrap (m - mo)=m - mo:=by rw [IntKind.wrap_i64];omega
    have HAG:Hid (Calls Tryz.prog 201 #[.slice p len cap,zI (m - mo)] w.drew fun e w'=>deb.AgePost w.drew ds (m - mo) e w'):=deb.kage _ p len cap ds (m - mo) (fresh_drew HD.o).came (tar.wf_mid (by omega) (by omega));have HMR:Hid (0≤m - mo∧m - mo≤2400):=⟨by omega,by omega⟩
    have HNE:Hid (¬ m=mo):=by show ¬ _=_;omega
    clear h1 h2 h3;go_enter Tryz.func185,Tryz.ntmps185;go_wp2_with fail;refine (HIM.o _).mono ?_;rintro e w2 ⟨rfl,hw2⟩;subst w2;go_wp2_with fail;clear HIM d2 d3 q3;have q6:w.drew.cell? ⟨g,6,none⟩=some (.slice p len cap):=HI.o.cell 6;refine wp_region_held_drew (S:=fun v=>v.cell? ⟨g,3,none⟩=some (zI mo)) (by kernel_rfl) (show w.drew.cell? _=_ from HI.o.cell 3) (fun hHeld=>?_);refine zqs 0 26 (.pointer (some ⟨g,0,none⟩)) rfl rfl (by kernel_rfl) zid rfl (fun v hv=>by clear hv;go_simp) hHeld ?_;simp only [zq];refine zqs 1 27 (.pointer (some ⟨g,0,none⟩)) rfl rfl (by kernel_rfl) zid rfl (fun v hv=>by clear hv;go_simp) hHeld ?_;simp only [zq];refine zqs 2 28 (.pointer (some ⟨g,0,none⟩)) rfl rfl (by kernel_rfl) zid rfl (fun v hv=>by clear hv;go_simp) hHeld ?_;simp only [zq];refine zqs 3 29 (.pointer (some ⟨g,0,none⟩)) rfl rfl (by kernel_rfl) zid rfl (fun v hv=>by clear hv;go_simp) hHeld ?_;simp only [zq];refine zqs 4 30 (.pointer (some ⟨g,6,none⟩)) rfl rfl (by kernel_rfl) zid rfl (fun v hv=>by clear hv;go_simp) hHeld ?_;simp only [zq];refine zqs 6 32 (zI m) rfl rfl (by kernel_rfl) zid rfl (fun v hv=>by clear hv;go_simp) hHeld ?_;simp only [zq];refine zqs 7 33 (.pointer (some ⟨g,0,none⟩)) rfl rfl (by kernel_rfl) zid rfl (fun v hv=>by clear hv;go_simp) hHeld ?_;simp only [zq];refine zqs 8 34 (.pointer (some ⟨g,0,none⟩)) rfl rfl (by kernel_rfl) zid rfl (fun v hv=>by clear hv;go_simp) hHeld ?_;simp only [zq];refine zqs 9 35 (.pointer (some ⟨g,0,none⟩)) rfl rfl (by kernel_rfl) zid rfl (fun v hv=>by clear hv;go_simp) hHeld ?_;simp only [zq];refine zqs 10 36 (.pointer (some ⟨g,3,none⟩)) rfl rfl (by kernel_rfl) zid rfl (fun v hv=>by clear hv;go_simp) hHeld ?_;simp only [zq];refine zqt 11 37 (zI mo) rfl rfl (by kernel_rfl) zid (Or.inl ⟨by rfl,fun v hv=>by have g0:=hv;clear hv;go_simp⟩) hHeld ?_;simp only [zq];refine zqs 12 38 (zI (m - mo)) rfl rfl (by kernel_rfl) zid rfl (fun v hv=>by clear hv;go_simp) hHeld ?_
    simp only [zq];refine zqo 5 (by kernel_rfl) rfl (fun K hK=>?_);rw [if_pos (by rfl)];refine wp_runOp (v:= .slice p len cap) (w':=w.drew) 31 rfl (by clear hK;go_simp) ?_;refine hK.o _ _ (show w.drew.cell? _=_ from HI.o.cell 3) (fun hHeld=>?_);clear hK K q6;simp only [zq];refine zqo 13 (by kernel_rfl) rfl (fun K hK=>?_);rw [if_pos (by rfl)];refine wp_callOp 39 rfl (by clear hK;go_simp) HAG.o ?_;rintro e w1 ⟨q,n,c,z,f,rfl,hz,hf,hb1⟩;obtain ⟨rfl,hz2⟩:=hz.got HMA.o HMR.o;have HI1:Hid (Blk w1 g #[zI me,zI rv,zI nx,zI mo,zI bo,zI fr,.slice p len cap,zI id,zI te,zI de,zI fe,zI pr,zI ch,zI un] 252):=(Blk.drew HI.o 1).next hb1;have HC1:Hid (Chg w w1 g):=(Chg.of (bel_drew (Below.refl _ _) 1)).trans (.of hb1);have HF1:Hid (deb.Fresh w1 (g+1) q n c z):=hf.low (by show g+1≤w.heap.size;omega);have HZ:Hid (z=deb.ageAll ds (m - mo).toNat):=hz2;refine ⟨_,rfl,hK.o _ _ (HI1.o.cell 3) (fun hHeld=>?_)⟩;clear hK K hz hf hb1 hz2 HAG HI HD;simp only [zq];refine zqs 14 25 (.tuple #[.slice q n c,zI 0]) rfl rfl (by kernel_rfl) zid rfl (fun v hv=>by clear hv;go_simp) hHeld ?_;simp only [zq];refine zqs 15 40 (.slice q n c) rfl rfl (by kernel_rfl) zid rfl (fun v hv=>by clear hv;go_simp) hHeld ?_;simp only [zq];refine zqs 16 41 (zI 0) rfl rfl (by kernel_rfl) zid rfl (fun v hv=>by clear hv;go_simp) hHeld ?_;simp only [zq];refine zqs 17 42 (.pointer (some ⟨g,0,none⟩)) rfl rfl (by kernel_rfl) zid rfl (fun v hv=>by clear hv;go_simp) hHeld ?_;simp only [zq];refine zqs 18 43 (.pointer (some ⟨g,0,none⟩)) rfl rfl (by kernel_rfl) zid rfl (fun v hv=>by clear hv;go_simp) hHeld ?_;simp only [zq];refine zqs 19 44 (.pointer (some ⟨g,6,none⟩)) rfl rfl (by kernel_rfl) zid rfl (fun v hv=>by clear hv;go_simp) hHeld ?_;simp only [zq];refine zqo 20 (by kernel_rfl) rfl (fun K hK=>?_);rw [if_pos (by rfl)];refine wp_letOp1 49 _ _ rfl g 6 rfl (.slice q n c) rfl rfl (by kernel_rfl) rfl #[zI me,zI rv,zI nx,zI mo,zI bo,zI fr,.slice p len cap,zI id,zI te,zI de,zI fe,zI pr,zI ch,zI un] 252 HI1.o (by simp) rfl ?_
    intro W2 hU;have HI2:Hid (Blk W2 g #[zI me,zI rv,zI nx,zI mo,zI bo,zI fr,.slice q n c,zI id,zI te,zI de,zI fe,zI pr,zI ch,zI un] 252):=hU.blk;have HC2:Hid (Chg w W2 g):=HC1.o.trans (.upd hU);have HF2:Hid (deb.Fresh W2 (g+1) q n c z):=fresh_chg HF1.o (.upd hU);clear hU HF1 HC1;refine hK.o _ _ (HI2.o.cell 3) (fun hHeld=>?_);clear hK K HI1;refine wpAnyH_done (by kernel_rfl) ?_ _;clear hHeld;go_wp2_with (first | (refine wp_let1 rfl 3 _ _ rfl g 3 rfl .i64 m rfl (by kernel_rfl) #[zI me,zI rv,zI nx,zI mo,zI bo,zI fr,.slice q n c,zI id,zI te,zI de,zI fe,zI pr,zI ch,zI un] 252 HI2.o (by simp) ?_) | fail)
    intro W3 hU;have HI3:Hid (Blk W3 g #[zI me,zI rv,zI nx,zI m,zI bo,zI fr,.slice q n c,zI id,zI te,zI de,zI fe,zI pr,zI ch,zI un] 252):=hU.blk;have HC3:Hid (Chg w W3 g):=HC2.o.trans (.upd hU);have HF3:Hid (deb.Fresh W3 (g+1) q n c z):=fresh_chg HF2.o (.upd hU);clear hU HF2 HC2 HI2;go_wp2_with (first | (refine wp_let1 rfl 3 _ _ rfl g 4 rfl .i64 0 rfl (by kernel_rfl) #[zI me,zI rv,zI nx,zI m,zI bo,zI fr,.slice q n c,zI id,zI te,zI de,zI fe,zI pr,zI ch,zI un] 252 HI3.o (by simp) ?_) | fail)
    intro W4 hU;have HI4:Hid (Blk W4 g #[zI me,zI rv,zI nx,zI m,zI 0,zI fr,.slice q n c,zI id,zI te,zI de,zI fe,zI pr,zI ch,zI un] 252):=hU.blk;have HC4:Hid (Chg w W4 g):=HC3.o.trans (.upd hU);have HF4:Hid (deb.Fresh W4 (g+1) q n c z):=fresh_chg HF3.o (.upd hU);have HV:Hid (RollR ⟨me,rv,nx,mo,bo,fr,ds⟩ m ⟨id,te,de,fe,pr,ch,un⟩ ⟨me,rv,nx,m,0,fr,z⟩ ⟨id,te,de,fe,pr,ch,un⟩ 0):=⟨.inr ⟨HRM.o,by unfold rolled;rw [if_neg HNE.o,HZ.o],rfl⟩,rfl⟩
    clear hU HF3 HC3 HI3;go_wp2_with fail;go_ret;exact ⟨⟨me,rv,nx,m,0,fr,z⟩,_,q,n,c,0,rfl,HV.o,HI4.o,HF4.o,HC4.o⟩
   ·have d3:decide (mo<m)=false:=decide_eq_false h3;have HV:Hid (RollR ⟨me,rv,nx,mo,bo,fr,ds⟩ m ⟨id,te,de,fe,pr,ch,un⟩ ⟨me,rv,nx,mo,bo,fr,ds⟩ ⟨id,te,de,fe,pr,ch,un⟩ 0):=⟨.inr ⟨HRM.o,by unfold rolled;rw [if_pos (by show m=mo;omega)],rfl⟩,rfl⟩
    clear h1 h2 h3 hmo;go_enter Tryz.func185,Tryz.ntmps185;go_wp2_with fail;refine (HIM.o _).mono ?_;rintro e w2 ⟨rfl,hw2⟩;subst w2;go_wp2_with fail;go_ret;exact ⟨_,_,p,len,cap,0,rfl,HV.o,HI.o,HD.o,Chg.refl _ _⟩
 ·rw [decide_eq_false h1] at HIM;have HV:Hid (RollR ⟨me,rv,nx,mo,bo,fr,ds⟩ m ⟨id,te,de,fe,pr,ch,un⟩ ⟨me,rv,nx,mo,bo,fr,ds⟩ ⟨id,te,de,fe,pr,ch,un⟩ 2):=⟨.inl ⟨fun hh=>h1 hh.1,.inl ⟨h1,rfl⟩,rfl⟩,rfl⟩
  clear h1 hmo q3;go_enter Tryz.func185,Tryz.ntmps185;go_wp2_with fail;refine (HIM.o _).mono ?_;rintro e w2 ⟨rfl,hw2⟩;subst w2;go_wp2_with fail;go_ret;exact ⟨_,_,p,len,cap,2,rfl,HV.o,HI.o,HD.o,Chg.refl _ _⟩
theorem kcheck:KcCheck:=by
 intro w t pt lt ct hc;have h:=hc.ts;unfold Tm.v;have HI0:Hid (∀ W,Calls Tryz.prog 69 #[zI 0,zI 100000,zI t.ff] W fun e w'=>e = .returned (.bool (decide (0≤t.ff∧t.ff≤100000)))∧w'=W):=fun W=>awithin 0 100000 t.ff W;have HI1:Hid (∀ W,Calls Tryz.prog 69 #[zI 0,zI 10000,zI t.fb] W fun e w'=>e = .returned (.bool (decide (0≤t.fb∧t.fb≤10000)))∧w'=W):=fun W=>awithin 0 10000 t.fb W;have HI2:Hid (∀ W,Calls Tryz.prog 69 #[zI 0,zI 10000,zI t.db] W fun e w'=>e = .returned (.bool (decide (0≤t.db∧t.db≤10000)))∧w'=W):=fun W=>awithin 0 10000 t.db W;have HI3:Hid (∀ W,Calls Tryz.prog 69 #[zI 0,zI 2097151,zI t.al] W fun e w'=>e = .returned (.bool (decide (0≤t.al∧t.al≤2097151)))∧w'=W):=fun W=>awithin 0 2097151 t.al W;obtain ⟨WW,HWW,HBK,HBA,-⟩:=sh1 w #[.slice pt lt ct,zI t.ff,zI t.fb,zI t.db,zI t.al] 24;have HTO:Hid (Calls Tryz.prog 68 #[.slice pt lt ct] WW fun e w'=>tar.ErrPost WW (tar.FaultIs t.ts) e w'):=tar.kcheck _ pt lt ct t.ts (h.below HBA.o);have c0:WW.cell? ⟨w.heap.size,0,none⟩=some (.slice pt lt ct):=HBK.o.cell 0;clear h hc;go_enter Tryz.func37,Tryz.ntmps37;go_upto_region 1 with fail
 rw [HWW.o];clear HWW;go_wp2_with fail;refine HTO.o.mono ?_;rintro e w1 ⟨f,rfl,hf,hb1⟩;have HB1:=shB HBA hb1;have HK1:=shN HBK hb1;have HF:Hid (tar.FaultIs t.ts f):=hf;clear hf hb1 HTO HBA HBK c0;obtain ⟨c0,c1,c2,c3,c4⟩:=scl5 HK1;by_cases h0:f=0
 ·have HR:Hid (tar.Right t.ts):=HF.o.ok.1 h0;subst h0;by_cases g0:0≤t.ff∧t.ff≤100000
  ·rw [decide_eq_true g0] at HI0;go_wp2_with fail;refine (HI0.o _).mono ?_;rintro e w2 ⟨rfl,hw2⟩;subst w2;by_cases g1:0≤t.fb∧t.fb≤10000
   ·rw [decide_eq_true g1] at HI1;go_wp2_with fail;refine (HI1.o _).mono ?_;rintro e w2 ⟨rfl,hw2⟩;subst w2;by_cases g2:0≤t.db∧t.db≤10000
    ·rw [decide_eq_true g2] at HI2;go_wp2_with fail;refine (HI2.o _).mono ?_;rintro e w2 ⟨rfl,hw2⟩;subst w2;by_cases g3:0≤t.al∧t.al≤2097151
     ·rw [decide_eq_true g3] at HI3;go_wp2_with fail;refine (HI3.o _).mono ?_;rintro e w2 ⟨rfl,hw2⟩;subst w2;have HV:Hid (TFault t 0):= .inr (.inr ⟨⟨HR.o,g0,g1,g2,g3⟩,rfl⟩);clear g0 g1 g2 g3;go_wp2_with fail;go_ret;exact ⟨0,rfl,HV.o,HB1.o⟩
     ·rw [decide_eq_false g3] at HI3;have HV:Hid (TFault t 2):= .inr (.inl ⟨HR.o,fun h=>g3 h.2.2.2,rfl⟩);clear g3;go_wp2_with fail;refine (HI3.o _).mono ?_;rintro e w2 ⟨rfl,hw2⟩;subst w2;go_wp2_with fail
      all_goals first
       | (rename_i q1 q2;exact absurd q1 (by simp [undef]))
       | (go_ret;exact ⟨2,rfl,HV.o,HB1.o⟩)
    ·rw [decide_eq_false g2] at HI2;have HV:Hid (TFault t 2):= .inr (.inl ⟨HR.o,fun h=>g2 h.2.2.1,rfl⟩);clear g2;go_wp2_with fail;refine (HI2.o _).mono ?_;rintro e w2 ⟨rfl,hw2⟩;subst w2;go_wp2_with fail
     all_goals first
      | (rename_i q1 q2;exact absurd q1 (by simp [undef]))
      | (go_ret;exact ⟨2,rfl,HV.o,HB1.o⟩)
   ·rw [decide_eq_false g1] at HI1;have HV:Hid (TFault t 2):= .inr (.inl ⟨HR.o,fun h=>g1 h.2.1,rfl⟩);clear g1;go_wp2_with fail;refine (HI1.o _).mono ?_;rintro e w2 ⟨rfl,hw2⟩;subst w2;go_wp2_with fail
    all_goals first
     | (rename_i q1 q2;exact absurd q1 (by simp [undef]))
     | (go_ret;exact ⟨2,rfl,HV.o,HB1.o⟩)
  ·rw [decide_eq_false g0] at HI0;have HV:Hid (TFault t 2):= .inr (.inl ⟨HR.o,fun h=>g0 h.1,rfl⟩);clear g0;go_wp2_with fail;refine (HI0.o _).mono ?_;rintro e w2 ⟨rfl,hw2⟩;subst w2;go_wp2_with fail
   all_goals first
    | (rename_i q1 q2;exact absurd q1 (by simp [undef]))
    | (go_ret;exact ⟨2,rfl,HV.o,HB1.o⟩)
 ·have d0:(f != 0)=true:=by simpa using h0
  have HV:Hid (TFault t f):= .inl ⟨fun h=>h0 (HF.o.ok.2 h),HF.o⟩;clear h0;go_wp2_with fail;go_ret;exact ⟨f,rfl,HV.o,HB1.o⟩
def BeginR (x:Ac) (t:Tm) (m:Int) (b0:Bi) (y:Ac) (b:Bi) (f:Int):Prop:=((¬ TRight t∧TFault t f∧y=x)∨(TRight t∧¬ RMay x m∧RErr x m f∧y=x)∨(TRight t∧RMay x m∧y=rolled x m∧f=0))∧b=b0
theorem pbegin (g:Nat) (x:Ac) (p:Option Addr) (len cap:Nat) (t:Tm) (pt:Option Addr) (lt ct:Nat) (b:Bi) (m:Int) (w:World) (hw:Blk w g (wcs x b p len cap) 252) (hd:deb.Fresh w (g+1) p len cap x.ds) (ha:AMay x) (ht:Came w pt lt ct t.ts) (hwf:wf4 t) (hfar:Far pt lt g):Calls Tryz.prog 160 #[.pointer (some ⟨g,0,none⟩),.agg #[.slice pt lt ct,zI t.ff,zI t.fb,zI t.db,zI t.al],zI m] w fun e w'=>DPost w g (BeginR x t m b) e w':=by
 have hgl:=hw.lt;have HCK:Hid (∀ W,Below w.heap.size w W→Calls Tryz.prog 37 #[.agg #[.slice pt lt ct,zI t.ff,zI t.fb,zI t.db,zI t.al]] W fun e w'=>tar.ErrPost W (TFault t) e w'):=fun W hW=>kcheck W t pt lt ct ⟨ht.below hW,hwf⟩;have HRL:Hid (∀ W,Blk W g (wcs x b p len cap) 252→deb.Fresh W (g+1) p len cap x.ds→Calls Tryz.prog 185 #[.pointer (some ⟨g,0,none⟩),zI m] W fun e w'=>DPost W g (RollR x m b) e w'):=fun W h1 h2=>proll g x b p len cap m W h1 h2 ha;have H0B:Hid (Below w.heap.size w (w.alloc (.cells #[.slice pt lt ct,zI t.ff,zI t.fb,zI t.db,zI t.al] 24))):=(Below.refl w.heap.size w).alloc (by simp) _;have H0t:Hid (Blk (w.alloc (.cells #[.slice pt lt ct,zI t.ff,zI t.fb,zI t.db,zI t.al] 24)) w.heap.size #[.slice pt lt ct,zI t.ff,zI t.fb,zI t.db,zI t.al] 24):=Blk.new w _ _;have H0g:Hid (Blk (w.alloc (.cells #[.slice pt lt ct,zI t.ff,zI t.fb,zI t.db,zI t.al] 24)) g (wcs x b p len cap) 252):=hw.alloc _;have H0D:Hid (deb.Fresh (w.alloc (.cells #[.slice pt lt ct,zI t.ff,zI t.fb,zI t.db,zI t.al] 24)) (g+1) p len cap x.ds):=hd.below H0B.o;clear hw hd ha ht hwf hfar;generalize hWW:(w.alloc (.cells #[.slice pt lt ct,zI t.ff,zI t.fb,zI t.db,zI t.al] 24))=W0 at *;have HWW:Hid ((w.alloc (.cells #[.slice pt lt ct,zI t.ff,zI t.fb,zI t.db,zI t.al] 24))=W0):=hWW;clear hWW;go_enter Tryz.func160,Tryz.ntmps160;go_upto_region 1 with fail
 rw [HWW.o];clear HWW
 go_wp2_with (first
  | (refine zqw rfl rfl rfl H0t zqu24 ?_)
  | fail)
 refine (HCK.o _ H0B.o).mono ?_;rintro e w1 ⟨f,rfl,hf,hb1⟩;have H1g:=shN H0g hb1;have H1D:Hid (deb.Fresh w1 (g+1) p len cap x.ds):=H0D.o.below hb1;have H1C:Hid (Chg w w1 g):= .of (bel_step H0B.o hb1);have HF:Hid (TFault t f):=hf;clear hf hb1 H0B H0t H0g H0D HCK;by_cases h0:f=0
 ·subst h0;have HT:Hid (TRight t):=HF.o.ok.1 rfl;go_wp2_with fail;refine (HRL.o _ H1g.o H1D.o).mono ?_;rintro e w2 ⟨y,b2,q,n,c,f,rfl,⟨hr,hb⟩,hi,hfr,hc⟩
  have HX:Hid (DPost w g (BeginR x t m b) (.returned (zI f)) w2):=by
   refine ⟨y,b2,q,n,c,f,rfl,⟨?_,hb⟩,hi,hfr,H1C.o.trans hc⟩;rcases hr with ⟨h1,h2,h3⟩ | ⟨h1,h2,h3⟩
   ·exact .inr (.inl ⟨HT.o,h1,h2,h3⟩)
   ·exact .inr (.inr ⟨HT.o,h1,h2,h3⟩)
  clear hr hb hi hfr hc HRL;go_wp2_with fail;go_ret;exact HX.o
 ·have d0:(f != 0)=true:=by simpa using h0
  have HX:Hid (DPost w g (BeginR x t m b) (.returned (zI f)) w1):=⟨x,b,p,len,cap,f,rfl,⟨.inl ⟨fun h=>h0 (HF.o.ok.2 h),HF.o,rfl⟩,rfl⟩,H1g.o,H1D.o,H1C.o⟩
  clear h0 HRL HF;go_wp2_with fail;go_ret;exact HX.o
end acc
end Go.Proofs.YtnpblpbohcegoaaGreatDoor
