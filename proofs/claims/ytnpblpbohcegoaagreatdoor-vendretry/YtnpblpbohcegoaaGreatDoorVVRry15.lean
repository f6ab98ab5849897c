import Derived.Test.YtnpblpbohcegoaaGreatDoorVVRry13
import Derived.Test.YtnpblpbohcegoaaGreatDoorVVRry14
set_option linter.unusedVariables false
set_option linter.unusedSimpArgs false
set_option maxHeartbeats 4000000
set_option maxRecDepth 100000
namespace Go.Proofs.YtnpblpbohcegoaaGreatDoor
namespace deb
open tar (Du du0 Came RowD Ld ErrPost TwoPost PairT)
open Go.RowKit
theorem kage:KdAge:=by
 intro w a len cap ls mo hcame hmw;have hr:=hcame.row;have HBY:Hid (len*16≤140737488351232):=hcame.bytes;have HNIL:Hid (a=none→cap=0):=hcame.nil;have HFA:Hid (Calls Tryz.prog 199 #[.slice a len cap] w fun e w'=>∃ f,e = .returned (zI f)∧FaultIs ls f∧Below w.heap.size w w'):=pcheck a len cap ls w hr hcame.most;have HIM:Hid (∀ W,Calls Tryz.prog 202 #[zI 0,zI 2400,zI mo] W fun e w'=>e = .returned (.bool (decide (0≤mo∧mo≤2400)))∧w'=W):=fun W=>dwithin 0 2400 mo W;have HROW0:Hid (RowD w a len ls):=hr;clear hcame hr hmw;go_enter Tryz.func201,Tryz.ntmps201;go_wp2_with fail;go_step3;go_wp2_with fail;refine HFA.o.mono ?_;rintro e w1 ⟨f,rfl,hf,hb1⟩;have HB1:Hid (Below w.heap.size w w1):=hb1;have HF:Hid (FaultIs ls f):=hf;clear hb1 HFA;by_cases h0:f=0
 ·subst h0;have hm:=hf.ok.1 rfl;have HM:Hid (Mays ls):=hm;have HROW:Hid (RowD w1 a len ls):=HROW0.o.below HB1.o;have HLEN:Hid (ls.length=len):=HROW.o.1;have hl8:len≤8:=by have:=hm.1;have:=HLEN.o;omega
  clear hf hm HROW0 HF;by_cases hmm:0≤mo∧mo≤2400
  ·rw [decide_eq_true hmm] at HIM;have HMO:Hid (0≤mo∧mo≤2400):=hmm;obtain ⟨m,rfl⟩:=Int.eq_ofNat_of_zero_le hmm.1;have hm2:m≤2400:=by omega
   have HMT:Hid ((m:Int).toNat=m):=by show _=_;omega
   clear hmm;go_wp2_with fail;refine (HIM.o _).mono ?_;rintro e w2 ⟨rfl,hw2⟩;subst hw2;clear HIM;cases a with
   | none=>
    have hc0:=HNIL.o rfl;have hl0:len=0:=by rcases HROW.o.2 with h | ⟨b,off,h,_⟩;exact h;cases h
    subst hc0 hl0;have happ:∀ w:World,(Builtin.append_ #[49,49] 49 #[zS,zS]).run Tryz.prog w = .ok (zS) w:=fun w=>by kernel_rfl
    have HAI:Hid (AgeIs ls (m:Int) (ageAll ls m) 0):= .inr (.inr ⟨HM.o,HMO.o,rfl,by rw [HMT.o]⟩)
    have HZ:Hid (ageAll ls m=[]):=by
     obtain rfl:ls=[]:=List.eq_nil_of_length_eq_zero HLEN.o;rfl
    go_wp2_with fail;go_step3;go_wp2_with fail;go_loopg [22] 0 (fun g z wr=>z=zI 0∧wr=w2)
    case atStart=>exact ⟨rfl,rfl⟩
    case round=>
     obtain ⟨rfl,rfl⟩:=hrel;go_wp2_with fail
     try rw [Exit.noGoto_ret]
     go_ret2;exact ⟨none,0,0,_,0,rfl,HAI.o,by rw [HZ.o];exact fresh_nil _ _,HB1.o⟩
   | some A=>
    go_wp2_with (first
     | (at_builtin;refine tar.wp_pairs debtT rfl _ _ rfl w2.heap.size A len cap ls rfl rfl HROW.o HBY.o (Nat.le_refl _) ?_)
     | fail)
    intro v3 w3 hown hg;obtain ⟨a3,cap3,hv3,hcm⟩:=ld_mays hown HM.o;rw [HLEN.o] at hv3;subst hv3;have HL3:Hid (Ld 70 w3 w2.heap.size (.slice a3 len cap3) ls):=hown;have HB3:Hid (Below w2.heap.size w2 w3):=(Below.refl _ _).grown hg (Nat.le_refl _) (fun k hk=>by cases hk);clear hown hg hcm;go_wp2_with fail;go_step3;go_wp2_with fail;have HMIX:Hid (Ld 70 w3 w2.heap.size (.slice a3 len cap3) (mixK ls m 0)):=HL3.o;go_loopg [22] len (fun g z wr=>∃ k:Nat,k+g=len∧z=zI (k:Int)∧Ld 70 wr w2.heap.size (.slice a3 len cap3) (mixK ls m k)∧Below w2.heap.size w2 wr)
    case atStart=>exact ⟨0,by omega,rfl,HMIX.o,HB3.o⟩
    case round=>
     obtain ⟨k,hkg,rfl,hl,hb⟩:=hrel;have HLK:Hid (Ld 70 wr w2.heap.size (.slice a3 len cap3) (mixK ls m k)):=hl;have HBK:Hid (Below w2.heap.size w2 wr):=hb;clear hl hb HMIX HL3 HB3;cases gk with
     | zero=>
      obtain rfl:k=len:=by omega
      have hdl:decide ((k:Int)<(k:Int))=false:=by simp
      have HAI:Hid (AgeIs ls (m:Int) (ageAll ls m) 0):= .inr (.inr ⟨HM.o,HMO.o,rfl,by rw [HMT.o]⟩);have HLE:Hid (Ld 70 wr w2.heap.size (.slice a3 k cap3) (ageAll ls m)):=by have:=HLK.o;rw [mix_all ls m k HLEN.o] at this;exact this
      have HCM:Hid (Fresh wr w.heap.size a3 k cap3 (ageAll ls m)):=by
       obtain ⟨a4,cap4,hv4,hcm⟩:=ld_fresh HLE.o (ageAll_mays HM.o m);have e:(ageAll ls m).length=k:=by rw [ageAll_len];exact HLEN.o
       rw [e] at hv4 hcm;simp only [Value.slice.injEq,true_and] at hv4;obtain ⟨rfl,rfl⟩:=hv4;exact hcm.low HB1.o.size
      have HB9:Hid (Below w.heap.size w wr):=HB1.o.trans (HBK.o.mono HB1.o.size);clear HLK HLE;generalize ageAll ls m=Z at *;go_wp2_with fail
      try rw [Exit.noGoto_ret]
      go_ret2;exact ⟨a3,k,cap3,Z,0,rfl,HAI.o,HCM.o,HB9.o⟩
     | succ g=>
      have hlt:k<len:=by omega
      have hdl:decide ((k:Int)<(len:Int))=true:=by simp;omega
      have hkl:k<ls.length:=by rw [HLEN.o];exact hlt
      have ho:=HM.o.2 k hkl;have HML:Hid ((mixK ls m k).length=len):=by show _=_;rw [mix_len ls m k (by omega)];exact HLEN.o
      have HSM:Hid ((mixK ls m k).set k ⟨growN (ls.getD k du0).b 0 (ls.getD k du0).a,(ls.getD k du0).b⟩=mixK ls m k):=mix_same ls m k hkl;have HNX:Hid ((mixK ls m k).set k ⟨growN (ls.getD k du0).b m (ls.getD k du0).a,(ls.getD k du0).b⟩=mixK ls m (k+1)):=mix_next ls m k hkl;have hx0:=ho.1.1;have hx1:=ho.1.2;have hy0:=ho.2.1;have hy1:=ho.2.2;clear ho hkl;generalize (ls.getD k du0).a=x at *;generalize (ls.getD k du0).b=y at *;go_wp2_with fail;go_loopg [26] m (fun g2 z wy=>∃ j:Nat,j+g2=m∧z=zI (j:Int)∧Ld 70 wy w2.heap.size (.slice a3 len cap3) ((mixK ls m k).set k ⟨growN y j x,y⟩)∧Below w2.heap.size w2 wy)
      case atStart=>exact ⟨0,by omega,rfl,by rw [HSM.o];exact HLK.o,HBK.o⟩
      case round=>
       rename_i wo
       obtain ⟨j,hjg,rfl,hl,hb⟩:=hrel;have HLJ:Hid (Ld 70 wr w2.heap.size (.slice a3 len cap3) ((mixK ls m k).set k ⟨growN y j x,y⟩)):=hl;have HBJ:Hid (Below w2.heap.size w2 wr):=hb;clear hl hb HLK HBK HSM;cases gk with
       | zero=>
        obtain rfl:j=m:=by omega
        have hdj:decide ((j:Int)<(j:Int))=false:=by simp
        have HLN:Hid (Ld 70 wr w2.heap.size (.slice a3 len cap3) (mixK ls j (k+1))):=by have:=HLJ.o;rw [HNX.o] at this;exact this
        clear HLJ HNX;go_wp2_with fail;go_roundg g
        case measure=>omega
        case rel=>exact ⟨k+1,by omega,by first | rfl | go_num,HLN.o,HBJ.o⟩
       | succ g2=>
        have hdj:decide ((j:Int)<(m:Int))=true:=by simp;omega
        have hjm:j<m:=by omega
        obtain ⟨gg,cur,hga,hgb,hblk,hcs,hcc⟩:=ld_lies HLJ.o (by omega);have hcell:=hcc k (by rw [List.length_set,HML.o];exact hlt)
        have hat:((mixK ls m k).set k ⟨growN y j x,y⟩).getD k du0=⟨growN y j x,y⟩:=by
         have:k<(mixK ls m k).length:=by rw [HML.o];exact hlt
         simp [List.getD,this]
        rw [hat] at hcell;obtain ⟨off,hoff⟩:∃ off:Nat,off=0:=⟨0,rfl⟩
        have HOFF:Hid (off=0):=hoff;have hga2:a3=some ⟨gg,off,none⟩:=by rw [hga,hoff]
        have c0:wr.cell? ⟨gg,off+k*2,none⟩=some (zI (growN y j x)):=by rw [hoff,Nat.zero_add];exact hcell.1
        have c1:wr.cell? ⟨gg,off+k*2+1,none⟩=some (zI y):=by rw [hoff,Nat.zero_add];exact hcell.2
        have HBL:Hid (Blk wr gg cur 70):=hblk;have hin:off+k*2<cur.size:=by omega
        have HGB:Hid (w2.heap.size≤gg):=hgb;clear hcell hat hcc hblk hgb hga hcs hoff;subst hga2;have hgn:=growN_bd hy0 hy1 hx0 hx1 j;have hu0:0≤growN y j x:=by omega
        have hu1:=hgn.2;have HGS:Hid (growN y (j+1) x=grow y (growN y j x)):=rfl;have HGR:Hid (∀ W,Calls Tryz.prog 206 #[.agg #[zI (growN y j x),zI y]] W fun e w'=>e = .returned (zI (min (growN y j x*y / 10000) (1000000000 - growN y j x)))∧Below W.heap.size W w'):=fun W=>pgrowth _ _ W ⟨hu0,hu1⟩ ⟨hy0,hy1⟩;have HMO2:Hid (grow y (growN y j x)=growN y j x+min (growN y j x*y / 10000) (1000000000 - growN y j x)):=grow_more hu0 hu1 hy0
        have hv0:0≤min (growN y j x*y / 10000) (1000000000 - growN y j x):=by
         have:=Int.mul_nonneg hu0 hy0;generalize growN y j x*y=pp at *;omega
        have hv1:min (growN y j x*y / 10000) (1000000000 - growN y j x)≤1000000000 - growN y j x:=Int.min_le_right _ _;generalize min (growN y j x*y / 10000) (1000000000 - growN y j x)=v at *;clear hgn;by_cases hz:v=0
        ·have hvz:(v == 0)=true:=by simpa using hz
         have HST:Hid (growN y m x=growN y j x):=by
          have h1:grow y (growN y j x)=growN y j x:=by rw [HMO2.o,hz];omega
          have h2:=growN_still h1 (m - j);rw [growN_add,show j+(m - j)=m by omega] at h2;exact h2
         have HLN:Hid (Ld 70 wr w2.heap.size (.slice (some ⟨gg,off,none⟩) len cap3) (mixK ls m (k+1))):=by have:=HLJ.o;rw [← HST.o,HNX.o] at this;exact this
         clear hz HST HNX HLJ;generalize growN y j x=u at *;go_wp2_with fail;refine (HGR.o _).mono ?_;rintro e w5 ⟨rfl,hb5⟩;have HL5:Hid (Ld 70 w5 w2.heap.size (.slice (some ⟨gg,off,none⟩) len cap3) (mixK ls m (k+1))):=HLN.o.next hb5;have HB5:=shB HBJ hb5;clear hb5 HGR HLN c0 c1;go_wp2_with fail;go_roundg g
         case measure=>omega
         case rel=>exact ⟨k+1,by omega,by first | rfl | go_num,HL5.o,HB5.o⟩
        ·have hvz:(v == 0)=false:=by simpa using hz
         have HSS:Hid (((mixK ls m k).set k ⟨growN y j x,y⟩).set k ⟨growN y j x+v,y⟩=(mixK ls m k).set k ⟨growN y (j+1) x,y⟩):=by show _=_;rw [List.set_set,HGS.o,HMO2.o]
         have HAT:Hid ((((mixK ls m k).set k ⟨growN y j x,y⟩).getD k du0).b=y):=by
          have:k<(mixK ls m k).length:=by rw [HML.o];exact hlt
          show _=_;simp [List.getD,this]
         have HKL:Hid (k<((mixK ls m k).set k ⟨growN y j x,y⟩).length):=by show _<_;rw [List.length_set,HML.o];exact hlt
         clear hz HGS HMO2;generalize (mixK ls m k).set k ⟨growN y j x,y⟩=Z at *;generalize growN y j x=u at *;go_wp2_with fail;refine (HGR.o _).mono ?_;rintro e w5 ⟨rfl,hb5⟩;have HL5:Hid (Ld 70 w5 w2.heap.size (.slice (some ⟨gg,off,none⟩) len cap3) Z):=HLJ.o.next hb5;have HB5:=shB HBJ hb5;have HK5:=shN HBL hb5;have e0:w5.cell? ⟨gg,off+k*2,none⟩=some (zI u):=(hb5.cell (p:=⟨gg,off+k*2,none⟩) HBL.o.lt).trans c0;clear hb5 HGR HLJ c0 c1 HBL HBJ
         go_wp2_with (first
          | (refine wp_let1 rfl 3 _ _ rfl gg (off+k*2) rfl .i64 (u+v) rfl (by kernel_rfl) cur 70 HK5.o hin ?_)
          | fail)
         intro W6 hU
         have HL6:Hid (Ld 70 W6 w2.heap.size (.slice (some ⟨gg,off,none⟩) len cap3) ((mixK ls m k).set k ⟨growN y (j+1) x,y⟩)):=by
          obtain rfl:=HOFF.o;rw [Nat.zero_add] at hU;show Ld _ _ _ _ _;rw [← HSS.o];exact ld_put HL5.o HK5.o k HKL.o _ _ HAT.o hU
         have HB6:Hid (Below w2.heap.size w2 W6):=hU.bel _ _ HGB.o HB5.o;clear hU HL5 HK5 HB5 e0;go_wp2_with fail;go_roundg g2
         case measure=>omega
         case rel=>exact ⟨j+1,by omega,by first | rfl | go_num,HL6.o,HB6.o⟩
  ·rw [decide_eq_false hmm] at HIM;have HMO:Hid (¬ (0≤mo∧mo≤2400)):=hmm;clear hmm;go_wp2_with fail;refine (HIM.o _).mono ?_;rintro e w2 ⟨rfl,hw2⟩;subst hw2;go_wp2_with fail
   try rw [Exit.noGoto_ret]
   go_ret2;exact ⟨none,0,0,[],2,rfl,.inr (.inl ⟨HM.o,HMO.o,rfl,rfl⟩),fresh_nil _ _,HB1.o⟩
 ·have hne:(f != 0)=true:=by simpa using h0
  have HN:Hid (¬ Mays ls):=fun h=>h0 (hf.ok.2 h);clear hf h0 HIM;go_wp2_with fail
  try rw [Exit.noGoto_ret]
  go_ret2;exact ⟨none,0,0,[],f,rfl,.inl ⟨HN.o,HF.o,rfl⟩,fresh_nil _ _,HB1.o⟩
end deb
namespace acc
open tar (Du du0 Came RowD Ld PairT)
open Go.RowKit
def RollR (x:Ac) (m:Int) (b0:Bi) (y:Ac) (b:Bi) (f:Int):Prop:=((¬ RMay x m∧RErr x m f∧y=x)∨(RMay x m∧y=rolled x m∧f=0))∧b=b0
theorem proll (g:Nat) (x:Ac) (b:Bi) (p:Option Addr) (len cap:Nat) (m:Int) (w:World) (hw:Blk w g (wcs x b p len cap) 252) (hd:deb.Fresh w (g+1) p len cap x.ds) (ha:AMay x):Calls Tryz.prog 185 #[.pointer (some ⟨g,0,none⟩),zI m] w fun e w'=>DPost w g (RollR x m b) e w':=by
 have hgl:=hw.lt;have hmo:=ha.2.2.2.2.1;have HMA:Hid (deb.Mays x.ds):=ha.1;obtain ⟨me,rv,nx,mo,bo,fr,ds⟩:=x;obtain ⟨id,te,de,fe,pr,ch,un⟩:=b;simp only [] at hmo;have HI:Hid (Blk w g #[zI me,zI rv,zI nx,zI mo,zI bo,zI fr,.slice p len cap,zI id,zI te,zI de,zI fe,zI pr,zI ch,zI un] 252):=hw;have HD:Hid (deb.Fresh w (g+1) p len cap ds):=hd;have HIM:Hid (∀ W,Calls Tryz.prog 69 #[zI 0,zI 2399,zI m] W fun e w'=>e = .returned (.bool (decide (0≤m∧m≤2399)))∧w'=W):=fun W=>awithin 0 2399 m W;have q3:w.cell? ⟨g,3,none⟩=some (zI mo):=HI.o.cell 3;clear hw hd ha;by_cases h1:0≤m∧m≤2399
 ·rw [decide_eq_true h1] at HIM;by_cases h2:m<mo
  ·have d2:decide (m<mo)=true:=decide_eq_true h2;have HV:Hid (RollR ⟨me,rv,nx,mo,bo,fr,ds⟩ m ⟨id,te,de,fe,pr,ch,un⟩ ⟨me,rv,nx,mo,bo,fr,ds⟩ ⟨id,te,de,fe,pr,ch,un⟩ 23):=⟨.inl ⟨fun hh=>by have:mo≤m:=hh.2;omega,.inr ⟨h1,h2,rfl⟩,rfl⟩,rfl⟩
   clear h1 h2 hmo;go_enter Tryz.func185,Tryz.ntmps185;go_wp2_with fail;refine (HIM.o _).mono ?_;rintro e w2 ⟨rfl,hw2⟩;subst w2;go_wp2_with fail;go_ret;exact ⟨_,_,p,len,cap,23,rfl,HV.o,HI.o,HD.o,Chg.refl _ _⟩
  ·have d2:decide (m<mo)=false:=decide_eq_false h2;have HRM:Hid (RMay ⟨me,rv,nx,mo,bo,fr,ds⟩ m):=⟨h1,by show mo≤m;omega⟩
   by_cases h3:mo<m
   ·have d3:decide (mo<m)=true:=decide_eq_true h3;have hwr:IntKind.i64.wrap (m - mo)=m - mo:=by rw [IntKind.wrap_i64];omega
    have HAG:Hid (Calls Tryz.prog 201 #[.slice p len cap,zI (m - mo)] w.drew fun e w'=>deb.AgePost w.drew ds (m - mo) e w'):=deb.kage _ p len cap ds (m - mo) (fresh_drew HD.o).came (tar.wf_mid (by omega) (by omega));have HMR:Hid (0≤m - mo∧m - mo≤2400):=⟨by omega,by omega⟩
    have HNE:Hid (¬ m=mo):=by show ¬ _=_;omega
    clear h1 h2 h3;go_enter Tryz.func185,Tryz.ntmps185;go_wp2_with fail;refine (HIM.o _).mono ?_;rintro e w2 ⟨rfl,hw2⟩;subst w2;go_wp2_with fail;clear HIM d2 d3 q3;have q6:w.drew.cell? ⟨g,6,none⟩=some (.slice p len cap):=HI.o.cell 6;refine wp_region_held_drew (S:=fun v=>v.cell? ⟨g,3,none⟩=some (zI mo)) (by kernel_rfl) (show w.drew.cell? _=_ from HI.o.cell 3) (fun hHeld=>?_);refine zqs 0 26 (.pointer (some ⟨g,0,none⟩)) rfl rfl (by kernel_rfl) zid rfl (fun v hv=>by clear hv;go_simp) hHeld ?_;simp only [zq];refine zqs 1 27 (.pointer (some ⟨g,0,none⟩)) rfl rfl (by kernel_rfl) zid rfl (fun v hv=>by clear hv;go_simp) hHeld ?_;simp only [zq];refine zqs 2 28 (.pointer (some ⟨g,0,none⟩)) rfl rfl (by kernel_rfl) zid rfl (fun v hv=>by clear hv;go_simp) hHeld ?_;simp only [zq];refine zqs 3 29 (.pointer (some ⟨g,0,none⟩)) rfl rfl (by kernel_rfl) zid rfl (fun v hv=>by clear hv;go_simp) hHeld ?_;simp only [zq];refine zqs 4 30 (.pointer (some ⟨g,6,none⟩)) rfl rfl (by kernel_rfl) zid rfl (fun v hv=>by clear hv;go_simp) hHeld ?_;simp only [zq];refine zqs 6 32 (zI m) rfl rfl (by kernel_rfl) zid rfl (fun v hv=>by clear hv;go_simp) hHeld ?_;simp only [zq];refine zqs 7 33 (.pointer (some ⟨g,0,none⟩)) rfl rfl (by kernel_rfl) zid rfl (fun v hv=>by clear hv;go_simp) hHeld ?_;simp only [zq];refine zqs 8 34 (.pointer (some ⟨g,0,none⟩)) rfl rfl (by kernel_rfl) zid rfl (fun v hv=>by clear hv;go_simp) hHeld ?_;simp only [zq];refine zqs 9 35 (.pointer (some ⟨g,0,none⟩)) rfl rfl (by kernel_rfl) zid rfl (fun v hv=>by clear hv;go_simp) hHeld ?_;simp only [zq];refine zqs 10 36 (.pointer (some ⟨g,3,none⟩)) rfl rfl (by kernel_rfl) zid rfl (fun v hv=>by clear hv;go_simp) hHeld ?_;simp only [zq];refine zqt 11 37 (zI mo) rfl rfl (by kernel_rfl) zid (Or.inl ⟨by rfl,fun v hv=>by have g0:=hv;clear hv;go_simp⟩) hHeld ?_;simp only [zq];refine zqs 12 38 (zI (m - mo)) rfl rfl (by kernel_rfl) zid rfl (fun v hv=>by clear hv;go_simp) hHeld ?_
    simp only [zq];refine zqo 5 (by kernel_rfl) rfl (fun K hK=>?_);rw [if_pos (by rfl)];refine wp_runOp (v:= .slice p len cap) (w':=w.drew) 31 rfl (by clear hK;go_simp) ?_;refine hK.o _ _ (show w.drew.cell? _=_ from HI.o.cell 3) (fun hHeld=>?_);clear hK K q6;simp only [zq];refine zqo 13 (by kernel_rfl) rfl (fun K hK=>?_);rw [if_pos (by rfl)];refine wp_callOp 39 rfl (by clear hK;go_simp) HAG.o ?_;rintro e w1 ⟨q,n,c,z,f,rfl,hz,hf,hb1⟩;obtain ⟨rfl,hz2⟩:=hz.got HMA.o HMR.o;have HI1:Hid (Blk w1 g #[zI me,zI rv,zI nx,zI mo,zI bo,zI fr,.slice p len cap,zI id,zI te,zI de,zI fe,zI pr,zI ch,zI un] 252):=(Blk.drew HI.o 1).next hb1;have HC1:Hid (Chg w w1 g):=(Chg.of (bel_drew (Below.refl _ _) 1)).trans (.of hb1);have HF1:Hid (deb.Fresh w1 (g+1) q n c z):=hf.low (by show g+1≤w.heap.size;omega);have HZ:Hid (z=deb.ageAll ds (m - mo).toNat):=hz2;refine ⟨_,rfl,hK.o _ _ (HI1.o.cell 3) (fun hHeld=>?_)⟩;clear hK K hz hf hb1 hz2 HAG HI HD;simp only [zq];refine zqs 14 25 (.tuple #[.slice q n c,zI 0]) rfl rfl (by kernel_rfl) zid rfl (fun v hv=>by clear hv;go_simp) hHeld ?_;simp only [zq];refine zqs 15 40 (.slice q n c) rfl rfl (by kernel_rfl) zid rfl (fun v hv=>by clear hv;go_simp) hHeld ?_;simp only [zq];refine zqs 16 41 (zI 0) rfl rfl (by kernel_rfl) zid rfl (fun v hv=>by clear hv;go_simp) hHeld ?_;simp only [zq];refine zqs 17 42 (.pointer (some ⟨g,0,none⟩)) rfl rfl (by kernel_rfl) zid rfl (fun v hv=>by clear hv;go_simp) hHeld ?_;simp only [zq];refine zqs 18 43 (.pointer (some ⟨g,0,none⟩)) rfl rfl (by kernel_rfl) zid rfl (fun v hv=>by clear hv;go_simp) hHeld ?_;simp only [zq];refine zqs 19 44 (.pointer (some ⟨g,6,none⟩)) rfl rfl (by kernel_rfl) zid rfl (fun v hv=>by clear hv;go_simp) hHeld ?_;simp only [zq];refine zqo 20 (by kernel_rfl) rfl (fun K hK=>?_);rw [if_pos (by rfl)];refine wp_letOp1 49 _ _ rfl g 6 rfl (.slice q n c) rfl rfl (by kernel_rfl) rfl #[zI me,zI rv,zI nx,zI mo,zI bo,zI fr,.slice p len cap,zI id,zI te,zI de,zI fe,zI pr,zI ch,zI un] 252 HI1.o (by simp) rfl ?_
    intro W2 hU;have HI2:Hid (Blk W2 g #[zI me,zI rv,zI nx,zI mo,zI bo,zI fr,.slice q n c,zI id,zI te,zI de,zI fe,zI pr,zI ch,zI un] 252):=hU.blk;have HC2:Hid (Chg w W2 g):=HC1.o.trans (.upd hU);have HF2:Hid (deb.Fresh W2 (g+1) q n c z):=fresh_chg HF1.o (.upd hU);clear hU HF1 HC1;refine hK.o _ _ (HI2.o.cell 3) (fun hHeld=>?_);clear hK K HI1;refine wpAnyH_done (by kernel_rfl) ?_ _;clear hHeld;go_wp2_with (first | (refine wp_let1 rfl 3 _ _ rfl g 3 rfl .i64 m rfl (by kernel_rfl) #[zI me,zI rv,zI nx,zI mo,zI bo,zI fr,.slice q n c,zI id,zI te,zI de,zI fe,zI pr,zI ch,zI un] 252 HI2.o (by simp) ?_) | fail)
    intro W3 hU;have HI3:Hid (Blk W3 g #[zI me,zI rv,zI nx,zI m,zI bo,zI fr,.slice q n c,zI id,zI te,zI de,zI fe,zI pr,zI ch,zI un] 252):=hU.blk;have HC3:Hid (Chg w W3 g):=HC2.o.trans (.upd hU);have HF3:Hid (deb.Fresh W3 (g+1) q n c z):=fresh_chg HF2.o (.upd hU);clear hU HF2 HC2 HI2;go_wp2_with (first | (refine wp_let1 rfl 3 _ _ rfl g 4 rfl .i64 0 rfl (by kernel_rfl) #[zI me,zI rv,zI nx,zI m,zI bo,zI fr,.slice q n c,zI id,zI te,zI de,zI fe,zI pr,zI ch,zI un] 252 HI3.o (by simp) ?_) | fail)
    intro W4 hU;have HI4:Hid (Blk W4 g #[zI me,zI rv,zI nx,zI m,zI 0,zI fr,.slice q n c,zI id,zI te,zI de,zI fe,zI pr,zI ch,zI un] 252):=hU.blk;have HC4:Hid (Chg w W4 g):=HC3.o.trans (.upd hU);have HF4:Hid (deb.Fresh W4 (g+1) q n c z):=fresh_chg HF3.o (.upd hU);have HV:Hid (RollR ⟨me,rv,nx,mo,bo,fr,ds⟩ m ⟨id,te,de,fe,pr,ch,un⟩ ⟨me,rv,nx,m,0,fr,z⟩ ⟨id,te,de,fe,pr,ch,un⟩ 0):=⟨.inr ⟨HRM.o,by unfold rolled;rw [if_neg HNE.o,HZ.o],rfl⟩,rfl⟩
    clear hU HF3 HC3 HI3;go_wp2_with fail;go_ret;exact ⟨⟨me,rv,nx,m,0,fr,z⟩,_,q,n,c,0,rfl,HV.o,HI4.o,HF4.o,HC4.o⟩
   ·have d3:decide (mo<m)=false:=decide_eq_false h3;have HV:Hid (RollR ⟨me,rv,nx,mo,bo,fr,ds⟩ m ⟨id,te,de,fe,pr,ch,un⟩ ⟨me,rv,nx,mo,bo,fr,ds⟩ ⟨id,te,de,fe,pr,ch,un⟩ 0):=⟨.inr ⟨HRM.o,by unfold rolled;rw [if_pos (by show m=mo;omega)],rfl⟩,rfl⟩
    clear h1 h2 h3 hmo;go_enter Tryz.func185,Tryz.ntmps185;go_wp2_with fail;refine (HIM.o _).mono ?_;rintro e w2 ⟨rfl,hw2⟩;subst w2;go_wp2_with fail;go_ret;exact ⟨_,_,p,len,cap,0,rfl,HV.o,HI.o,HD.o,Chg.refl _ _⟩
 ·rw [decide_eq_false h1] at HIM;have HV:Hid (RollR ⟨me,rv,nx,mo,bo,fr,ds⟩ m ⟨id,te,de,fe,pr,ch,un⟩ ⟨me,rv,nx,mo,bo,fr,ds⟩ ⟨id,te,de,fe,pr,ch,un⟩ 2):=⟨.inl ⟨fun hh=>h1 hh.1,.inl ⟨h1,rfl⟩,rfl⟩,rfl⟩
  clear h1 hmo q3;go_enter Tryz.func185,Tryz.ntmps185;go_wp2_with fail;refine (HIM.o _).mono ?_;rintro e w2 ⟨rfl,hw2⟩;subst w2;go_wp2_with fail;go_ret;exact ⟨_,_,p,len,cap,2,rfl,HV.o,HI.o,HD.o,Chg.refl _ _⟩
def BeginR (x:Ac) (t:Tm) (m:Int) (b0:Bi) (y:Ac) (b:Bi) (f:Int):Prop:=((¬ TRight t∧TFault t f∧y=x)∨(TRight t∧¬ RMay x m∧RErr x m f∧y=x)∨(TRight t∧RMay x m∧y=rolled x m∧f=0))∧b=b0
theorem pbegin (g:Nat) (x:Ac) (p:Option Addr) (len cap:Nat) (t:Tm) (pt:Option Addr) (lt ct:Nat) (b:Bi) (m:Int) (w:World) (hw:Blk w g (wcs x b p len cap) 252) (hd:deb.Fresh w (g+1) p len cap x.ds) (ha:AMay x) (ht:Came w pt lt ct t.ts) (hwf:wf4 t) (hfar:Far pt lt g):Calls Tryz.prog 160 #[.pointer (some ⟨g,0,none⟩),.agg #[.slice pt lt ct,zI t.ff,zI t.fb,zI t.db,zI t.al],zI m] w fun e w'=>DPost w g (BeginR x t m b) e w':=by
 have hgl:=hw.lt;have HCK:Hid (∀ W,Below w.heap.size w W→Calls Tryz.prog 37 #[.agg #[.slice pt lt ct,zI t.ff,zI t.fb,zI t.db,zI t.al]] W fun e w'=>tar.ErrPost W (TFault t) e w'):=fun W hW=>kcheck W t pt lt ct ⟨ht.below hW,hwf⟩;have HRL:Hid (∀ W,Blk W g (wcs x b p len cap) 252→deb.Fresh W (g+1) p len cap x.ds→Calls Tryz.prog 185 #[.pointer (some ⟨g,0,none⟩),zI m] W fun e w'=>DPost W g (RollR x m b) e w'):=fun W h1 h2=>proll g x b p len cap m W h1 h2 ha;have H0B:Hid (Below w.heap.size w (w.alloc (.cells #[.slice pt lt ct,zI t.ff,zI t.fb,zI t.db,zI t.al] 24))):=(Below.refl w.heap.size w).alloc (by simp) _;have H0t:Hid (Blk (w.alloc (.cells #[.slice pt lt ct,zI t.ff,zI t.fb,zI t.db,zI t.al] 24)) w.heap.size #[.slice pt lt ct,zI t.ff,zI t.fb,zI t.db,zI t.al] 24):=Blk.new w _ _;have H0g:Hid (Blk (w.alloc (.cells #[.slice pt lt ct,zI t.ff,zI t.fb,zI t.db,zI t.al] 24)) g (wcs x b p len cap) 252):=hw.alloc _;have H0D:Hid (deb.Fresh (w.alloc (.cells #[.slice pt lt ct,zI t.ff,zI t.fb,zI t.db,zI t.al] 24)) (g+1) p len cap x.ds):=hd.below H0B.o;clear hw hd ha ht hwf hfar;generalize hWW:(w.alloc (.cells #[.slice pt lt ct,zI t.ff,zI t.fb,zI t.db,zI t.al] 24))=W0 at *;have HWW:Hid ((w.alloc (.cells #[.slice pt lt ct,zI t.ff,zI t.fb,zI t.db,zI t.al] 24))=W0):=hWW;clear hWW;go_enter Tryz.func160,Tryz.ntmps160;go_upto_region 1 with fail
 rw [HWW.o];clear HWW
 go_wp2_with (first
  | (refine zqw rfl rfl rfl H0t zqu24 ?_)
  | fail)
 refine (HCK.o _ H0B.o).mono ?_;rintro e w1 ⟨f,rfl,hf,hb1⟩;have H1g:=shN H0g hb1;have H1D:Hid (deb.Fresh w1 (g+1) p len cap x.ds):=H0D.o.below hb1;have H1C:Hid (Chg w w1 g):= .of (bel_step H0B.o hb1);have HF:Hid (TFault t f):=hf;clear hf hb1 H0B H0t H0g H0D HCK;by_cases h0:f=0
 ·subst h0;have HT:Hid (TRight t):=HF.o.ok.1 rfl;go_wp2_with fail;refine (HRL.o _ H1g.o H1D.o).mono ?_;rintro e w2 ⟨y,b2,q,n,c,f,rfl,⟨hr,hb⟩,hi,hfr,hc⟩
  have HX:Hid (DPost w g (BeginR x t m b) (.returned (zI f)) w2):=by
   refine ⟨y,b2,q,n,c,f,rfl,⟨?_,hb⟩,hi,hfr,H1C.o.trans hc⟩;rcases hr with ⟨h1,h2,h3⟩ | ⟨h1,h2,h3⟩
   ·exact .inr (.inl ⟨HT.o,h1,h2,h3⟩)
   ·exact .inr (.inr ⟨HT.o,h1,h2,h3⟩)
  clear hr hb hi hfr hc HRL;go_wp2_with fail;go_ret;exact HX.o
 ·have d0:(f != 0)=true:=by simpa using h0
  have HX:Hid (DPost w g (BeginR x t m b) (.returned (zI f)) w1):=⟨x,b,p,len,cap,f,rfl,⟨.inl ⟨fun h=>h0 (HF.o.ok.2 h),HF.o,rfl⟩,rfl⟩,H1g.o,H1D.o,H1C.o⟩
  clear h0 HRL HF;go_wp2_with fail;go_ret;exact HX.o
end acc
end Go.Proofs.YtnpblpbohcegoaaGreatDoor
