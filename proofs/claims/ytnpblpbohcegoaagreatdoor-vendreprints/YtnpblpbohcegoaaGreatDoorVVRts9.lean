import Derived.Test.YtnpblpbohcegoaaGreatDoorVVRts5
import Derived.Test.YtnpblpbohcegoaaGreatDoorVVRts6
set_option linter.unusedVariables false
set_option linter.unusedSimpArgs false
set_option maxHeartbeats 4000000
set_option maxRecDepth 100000
namespace Go.Proofs.YtnpblpbohcegoaaGreatDoor
namespace cell
open Go.RowKit
theorem in_yes (n lo hi:Int) (w:World) (h1:lo≤n) (h2:n≤hi) :
  Calls Tryz.prog 101 #[zI n,zI lo,zI hi] w fun e w'=>e = .returned (.bool true)∧w'=w:=by
 go_enter Tryz.func101,Tryz.ntmps101;go_wp2;go_ret;exact ⟨rfl,rfl⟩
theorem in_no (n lo hi:Int) (w:World) (h:n<lo∨hi<n) :
  Calls Tryz.prog 101 #[zI n,zI lo,zI hi] w fun e w'=>e = .returned (.bool false)∧w'=w:=by
 by_cases h0:n<lo
 ·clear h;go_enter Tryz.func101,Tryz.ntmps101;go_wp2;go_ret;exact ⟨rfl,rfl⟩
 ·have h1:lo≤n:=by omega
  have h2:decide (n≤hi)=false:=by simp;omega
  clear h h0;go_enter Tryz.func101,Tryz.ntmps101;go_wp2;go_ret;exact ⟨rfl,rfl⟩
end cell
namespace acc
open tar (Du du0 Came RowD Ld PairT)
open Go.RowKit
theorem ropen (m:Int) (w:World):Calls Tryz.prog 99 #[zI m] w fun e w'=>APost w (OpenIs m) e w':=by
 have HIM:Hid (∀ W,Calls Tryz.prog 101 #[zI m,zI 0,zI 49] W fun e w'=>e = .returned (.bool (decide (0≤m∧m≤49)))∧w'=W):=fun W=>cal.cin m 0 49 W;have H0r:Hid (Blk (w.alloc (.cells #[zI 0,zI 0,zI 0,zI 0,zI 0,zI 0,zS] 51)) w.heap.size #[zI 0,zI 0,zI 0,zI 0,zI 0,zI 0,zS] 51):=Blk.new w _ _;have H0B:Hid (Below w.heap.size w (w.alloc (.cells #[zI 0,zI 0,zI 0,zI 0,zI 0,zI 0,zS] 51))):=(Below.refl w.heap.size w).alloc (by simp) _;by_cases hm:0≤m∧m≤49
 ·rw [decide_eq_true hm] at HIM;have HM:Hid ((0≤m∧m≤49)):=hm;clear hm;go_enter Tryz.func99,Tryz.ntmps99;go_wp2_with fail;refine (HIM.o _).mono ?_;rintro e w1 ⟨rfl,hw1⟩;subst hw1;go_wp2_with (first | (refine zql rfl rfl rfl rfl zqu51 (by simp [Value.oneCell']) H0r rfl ?_) | fail)
  intro WF hU;have H9r:Hid (Blk WF w.heap.size #[zI m,zI 0,zI 1,zI 0,zI 0,zI (-1),zS] 51):=hU.blk;have H9B:=shV hU H0B (by omega);clear hU H0r H0B;have Rr0:Hid (WF.cell? ⟨w.heap.size,0,none⟩=some (zI m)):=H9r.o.cell 0;have Rr1:Hid (WF.cell? ⟨w.heap.size,1,none⟩=some (zI 0)):=H9r.o.cell 1;have Rr2:Hid (WF.cell? ⟨w.heap.size,2,none⟩=some (zI 1)):=H9r.o.cell 2;have Rr3:Hid (WF.cell? ⟨w.heap.size,3,none⟩=some (zI 0)):=H9r.o.cell 3;have Rr4:Hid (WF.cell? ⟨w.heap.size,4,none⟩=some (zI 0)):=H9r.o.cell 4;have Rr5:Hid (WF.cell? ⟨w.heap.size,5,none⟩=some (zI (-1))):=H9r.o.cell 5;have Rr6:Hid (WF.cell? ⟨w.heap.size,6,none⟩=some (zS)):=H9r.o.cell 6;go_wp2_with fail;exact bodyPost_ret (v:= .tuple #[.agg #[zI m,zI 0,zI 1,zI 0,zI 0,zI (-1),zS],zI 0]) (by simp [results,Tryz.results99,Rr0.o,Rr1.o,Rr2.o,Rr3.o,Rr4.o,Rr5.o,Rr6.o,go_sem]) rfl ⟨⟨m,0,1,0,0,-1,[]⟩,none,0,0,_,rfl,.inl ⟨HM.o,rfl,rfl⟩,deb.fresh_nil _ _,H9B.o⟩
 ·rw [decide_eq_false hm] at HIM;have HM:Hid (¬ (0≤m∧m≤49)):=hm;clear hm;go_enter Tryz.func99,Tryz.ntmps99;go_wp2_with fail;refine (HIM.o _).mono ?_;rintro e w1 ⟨rfl,hw1⟩;subst hw1;go_wp2_with (first | (refine zql rfl rfl rfl rfl zqu51 (by simp [Value.oneCell']) H0r rfl ?_) | fail)
  intro WF hU;have H9r:Hid (Blk WF w.heap.size #[zI 0,zI 0,zI 0,zI 0,zI 0,zI 0,zS] 51):=hU.blk;have H9B:=shV hU H0B (by omega);clear hU H0r H0B;obtain ⟨Rr0,Rr1,Rr2,Rr3,Rr4,Rr5,Rr6⟩:=shc7 H9r;go_wp2_with fail;exact bodyPost_ret (v:= .tuple #[.agg #[zI 0,zI 0,zI 0,zI 0,zI 0,zI 0,zS],zI 2]) (by simp [results,Tryz.results99,Rr0.o,Rr1.o,Rr2.o,Rr3.o,Rr4.o,Rr5.o,Rr6.o,go_sem]) rfl ⟨ac0,none,0,0,_,rfl,.inr ⟨HM.o,rfl,rfl⟩,deb.fresh_nil _ _,H9B.o⟩
end acc
namespace deb
open tar (Du du0 Came RowD Ld ErrPost TwoPost PairT GaveD)
open Go.RowKit
theorem kage:KdAge:=by
 intro w a len cap ls mo hcame hmw;have hr:=hcame.row;have HBY:Hid (len*16≤140737488351232):=hcame.bytes;have HNIL:Hid (a=none→cap=0):=hcame.nil;have HFA:Hid (Calls Tryz.prog 199 #[.slice a len cap] w fun e w'=>∃ f,e = .returned (zI f)∧FaultIs ls f∧Below w.heap.size w w'):=pcheck a len cap ls w hr hcame.most;have HIM:Hid (∀ W,Calls Tryz.prog 202 #[zI 0,zI 2400,zI mo] W fun e w'=>e = .returned (.bool (decide (0≤mo∧mo≤2400)))∧w'=W):=fun W=>dwithin 0 2400 mo W;have HROW0:Hid (RowD w a len ls):=hr;clear hcame hr hmw;go_enter Tryz.func201,Tryz.ntmps201;go_wp2_with fail;go_step3;go_wp2_with fail;refine HFA.o.mono ?_;rintro e w1 ⟨f,rfl,hf,hb1⟩;have HB1:Hid (Below w.heap.size w w1):=hb1;have HF:Hid (FaultIs ls f):=hf;clear hb1 HFA;by_cases h0:f=0
 ·subst h0;have hm:=hf.ok.1 rfl;have HM:Hid (Mays ls):=hm;have HROW:Hid (RowD w1 a len ls):=HROW0.o.below HB1.o;have HLEN:Hid (ls.length=len):=HROW.o.1;have hl8:len≤8:=by have:=hm.1;have:=HLEN.o;omega
  clear hf hm HROW0 HF;by_cases hmm:0≤mo∧mo≤2400
  ·rw [decide_eq_true hmm] at HIM;have HMO:Hid (0≤mo∧mo≤2400):=hmm;obtain ⟨m,rfl⟩:=Int.eq_ofNat_of_zero_le hmm.1;have hm2:m≤2400:=by omega
   have HMT:Hid ((m:Int).toNat=m):=by show _=_;omega
   clear hmm;go_wp2_with fail;refine (HIM.o _).mono ?_;rintro e w2 ⟨rfl,hw2⟩;subst hw2;clear HIM;cases a with
   | none=>
    have hc0:=HNIL.o rfl;have hl0:len=0:=by rcases HROW.o.2 with h | ⟨b,off,h,_⟩;exact h;cases h
    subst hc0 hl0;have happ:∀ w:World,(Builtin.append_ #[49,49] 49 #[zS,zS]).run Tryz.prog w = .ok (zS) w:=fun w=>by kernel_rfl
    have HAI:Hid (AgeIs ls (m:Int) (ageAll ls m) 0):= .inr (.inr ⟨HM.o,HMO.o,rfl,by rw [HMT.o]⟩)
    have HZ:Hid (ageAll ls m=[]):=by
     obtain rfl:ls=[]:=List.eq_nil_of_length_eq_zero HLEN.o;rfl
    go_wp2_with fail;go_step3;go_wp2_with fail;go_loopg [22] 0 (fun g z wr=>z=zI 0∧wr=w2)
    case atStart=>exact ⟨rfl,rfl⟩
    case round=>
     obtain ⟨rfl,rfl⟩:=hrel;go_wp2_with fail
     try rw [Exit.noGoto_ret]
     go_ret2;exact ⟨none,0,0,_,0,rfl,HAI.o,by rw [HZ.o];exact fresh_nil _ _,HB1.o⟩
   | some A=>
    go_wp2_with (first
     | (at_builtin;refine tar.wp_pairs debtT rfl _ _ rfl w2.heap.size A len cap ls rfl rfl HROW.o HBY.o (Nat.le_refl _) ?_)
     | fail)
    intro v3 w3 hown hg;obtain ⟨a3,cap3,hv3,hcm⟩:=ld_mays hown HM.o;rw [HLEN.o] at hv3;subst hv3;have HL3:Hid (Ld 70 w3 w2.heap.size (.slice a3 len cap3) ls):=hown;have HB3:Hid (Below w2.heap.size w2 w3):=(Below.refl _ _).grown hg (Nat.le_refl _) (fun k hk=>by cases hk);clear hown hg hcm;go_wp2_with fail;go_step3;go_wp2_with fail;have HMIX:Hid (Ld 70 w3 w2.heap.size (.slice a3 len cap3) (mixK ls m 0)):=HL3.o;go_loopg [22] len (fun g z wr=>∃ k:Nat,k+g=len∧z=zI (k:Int)∧Ld 70 wr w2.heap.size (.slice a3 len cap3) (mixK ls m k)∧Below w2.heap.size w2 wr)
    case atStart=>exact ⟨0,by omega,rfl,HMIX.o,HB3.o⟩
    case round=>
     obtain ⟨k,hkg,rfl,hl,hb⟩:=hrel;have HLK:Hid (Ld 70 wr w2.heap.size (.slice a3 len cap3) (mixK ls m k)):=hl;have HBK:Hid (Below w2.heap.size w2 wr):=hb;clear hl hb HMIX HL3 HB3;cases gk with
     | zero=>
      obtain rfl:k=len:=by omega
      have hdl:decide ((k:Int)<(k:Int))=false:=by simp
      have HAI:Hid (AgeIs ls (m:Int) (ageAll ls m) 0):= .inr (.inr ⟨HM.o,HMO.o,rfl,by rw [HMT.o]⟩);have HLE:Hid (Ld 70 wr w2.heap.size (.slice a3 k cap3) (ageAll ls m)):=by have:=HLK.o;rw [mix_all ls m k HLEN.o] at this;exact this
      have HCM:Hid (Fresh wr w.heap.size a3 k cap3 (ageAll ls m)):=by
       obtain ⟨a4,cap4,hv4,hcm⟩:=ld_fresh HLE.o (ageAll_mays HM.o m);have e:(ageAll ls m).length=k:=by rw [ageAll_len];exact HLEN.o
       rw [e] at hv4 hcm;simp only [Value.slice.injEq,true_and] at hv4;obtain ⟨rfl,rfl⟩:=hv4;exact hcm.low HB1.o.size
      have HB9:Hid (Below w.heap.size w wr):=HB1.o.trans (HBK.o.mono HB1.o.size);clear HLK HLE;generalize ageAll ls m=Z at *;go_wp2_with fail
      try rw [Exit.noGoto_ret]
      go_ret2;exact ⟨a3,k,cap3,Z,0,rfl,HAI.o,HCM.o,HB9.o⟩
     | succ g=>
      have hlt:k<len:=by omega
      have hdl:decide ((k:Int)<(len:Int))=true:=by simp;omega
      have hkl:k<ls.length:=by rw [HLEN.o];exact hlt
      have ho:=HM.o.2 k hkl;have HML:Hid ((mixK ls m k).length=len):=by show _=_;rw [mix_len ls m k (by omega)];exact HLEN.o
      have HSM:Hid ((mixK ls m k).set k ⟨growN (ls.getD k du0).b 0 (ls.getD k du0).a,(ls.getD k du0).b⟩=mixK ls m k):=mix_same ls m k hkl;have HNX:Hid ((mixK ls m k).set k ⟨growN (ls.getD k du0).b m (ls.getD k du0).a,(ls.getD k du0).b⟩=mixK ls m (k+1)):=mix_next ls m k hkl;have hx0:=ho.1.1;have hx1:=ho.1.2;have hy0:=ho.2.1;have hy1:=ho.2.2;clear ho hkl;generalize (ls.getD k du0).a=x at *;generalize (ls.getD k du0).b=y at *;go_wp2_with fail;go_loopg [26] m (fun g2 z wy=>∃ j:Nat,j+g2=m∧z=zI (j:Int)∧Ld 70 wy w2.heap.size (.slice a3 len cap3) ((mixK ls m k).set k ⟨growN y j x,y⟩)∧Below w2.heap.size w2 wy)
      case atStart=>exact ⟨0,by omega,rfl,by rw [HSM.o];exact HLK.o,HBK.o⟩
      case round=>
       rename_i wo
       obtain ⟨j,hjg,rfl,hl,hb⟩:=hrel;have HLJ:Hid (Ld 70 wr w2.heap.size (.slice a3 len cap3) ((mixK ls m k).set k ⟨growN y j x,y⟩)):=hl;have HBJ:Hid (Below w2.heap.size w2 wr):=hb;clear hl hb HLK HBK HSM;cases gk with
       | zero=>
        obtain rfl:j=m:=by omega
        have hdj:decide ((j:Int)<(j:Int))=false:=by simp
        have HLN:Hid (Ld 70 wr w2.heap.size (.slice a3 len cap3) (mixK ls j (k+1))):=by have:=HLJ.o;rw [HNX.o] at this;exact this
        clear HLJ HNX;go_wp2_with fail;go_roundg g
        case measure=>omega
        case rel=>exact ⟨k+1,by omega,by first | rfl | go_num,HLN.o,HBJ.o⟩
       | succ g2=>
        have hdj:decide ((j:Int)<(m:Int))=true:=by simp;omega
        have hjm:j<m:=by omega
        obtain ⟨gg,cur,hga,hgb,hblk,hcs,hcc⟩:=ld_lies HLJ.o (by omega);have hcell:=hcc k (by rw [List.length_set,HML.o];exact hlt)
        have hat:((mixK ls m k).set k ⟨growN y j x,y⟩).getD k du0=⟨growN y j x,y⟩:=by
         have:k<(mixK ls m k).length:=by rw [HML.o];exact hlt
         simp [List.getD,this]
        rw [hat] at hcell;obtain ⟨off,hoff⟩:∃ off:Nat,off=0:=⟨0,rfl⟩
        have HOFF:Hid (off=0):=hoff;have hga2:a3=some ⟨gg,off,none⟩:=by rw [hga,hoff]
        have c0:wr.cell? ⟨gg,off+k*2,none⟩=some (zI (growN y j x)):=by rw [hoff,Nat.zero_add];exact hcell.1
        have c1:wr.cell? ⟨gg,off+k*2+1,none⟩=some (zI y):=by rw [hoff,Nat.zero_add];exact hcell.2
        have HBL:Hid (Blk wr gg cur 70):=hblk;have hin:off+k*2<cur.size:=by omega
        have HGB:Hid (w2.heap.size≤gg):=hgb;clear hcell hat hcc hblk hgb hga hcs hoff;subst hga2;have hgn:=growN_bd hy0 hy1 hx0 hx1 j;have hu0:0≤growN y j x:=by omega
        have hu1:=hgn.2;have HGS:Hid (growN y (j+1) x=grow y (growN y j x)):=rfl;have HGR:Hid (∀ W,Calls Tryz.prog 206 #[.agg #[zI (growN y j x),zI y]] W fun e w'=>e = .returned (zI (min (growN y j x*y / 10000) (1000000000 - growN y j x)))∧Below W.heap.size W w'):=fun W=>pgrowth _ _ W ⟨hu0,hu1⟩ ⟨hy0,hy1⟩;have HMO2:Hid (grow y (growN y j x)=growN y j x+min (growN y j x*y / 10000) (1000000000 - growN y j x)):=grow_more hu0 hu1 hy0
        have hv0:0≤min (growN y j x*y / 10000) (1000000000 - growN y j x):=by
         have:=Int.mul_nonneg hu0 hy0;generalize growN y j x*y=pp at *;omega
        have hv1:min (growN y j x*y / 10000) (1000000000 - growN y j x)≤1000000000 - growN y j x:=Int.min_le_right _ _;generalize min (growN y j x*y / 10000) (1000000000 - growN y j x)=v at *;clear hgn;by_cases hz:v=0
        ·have hvz:(v == 0)=true:=by simpa using hz
         have HST:Hid (growN y m x=growN y j x):=by
          have h1:grow y (growN y j x)=growN y j x:=by rw [HMO2.o,hz];omega
          have h2:=growN_still h1 (m - j);rw [growN_add,show j+(m - j)=m by omega] at h2;exact h2
         have HLN:Hid (Ld 70 wr w2.heap.size (.slice (some ⟨gg,off,none⟩) len cap3) (mixK ls m (k+1))):=by have:=HLJ.o;rw [← HST.o,HNX.o] at this;exact this
         clear hz HST HNX HLJ;generalize growN y j x=u at *;go_wp2_with fail;refine (HGR.o _).mono ?_;rintro e w5 ⟨rfl,hb5⟩;have HL5:Hid (Ld 70 w5 w2.heap.size (.slice (some ⟨gg,off,none⟩) len cap3) (mixK ls m (k+1))):=HLN.o.next hb5;have HB5:=shB HBJ hb5;clear hb5 HGR HLN c0 c1;go_wp2_with fail;go_roundg g
         case measure=>omega
         case rel=>exact ⟨k+1,by omega,by first | rfl | go_num,HL5.o,HB5.o⟩
        ·have hvz:(v == 0)=false:=by simpa using hz
         have HSS:Hid (((mixK ls m k).set k ⟨growN y j x,y⟩).set k ⟨growN y j x+v,y⟩=(mixK ls m k).set k ⟨growN y (j+1) x,y⟩):=by show _=_;rw [List.set_set,HGS.o,HMO2.o]
         have HAT:Hid ((((mixK ls m k).set k ⟨growN y j x,y⟩).getD k du0).b=y):=by
          have:k<(mixK ls m k).length:=by rw [HML.o];exact hlt
          show _=_;simp [List.getD,this]
         have HKL:Hid (k<((mixK ls m k).set k ⟨growN y j x,y⟩).length):=by show _<_;rw [List.length_set,HML.o];exact hlt
         clear hz HGS HMO2;generalize (mixK ls m k).set k ⟨growN y j x,y⟩=Z at *;generalize growN y j x=u at *;go_wp2_with fail;refine (HGR.o _).mono ?_;rintro e w5 ⟨rfl,hb5⟩;have HL5:Hid (Ld 70 w5 w2.heap.size (.slice (some ⟨gg,off,none⟩) len cap3) Z):=HLJ.o.next hb5;have HB5:=shB HBJ hb5;have HK5:=shN HBL hb5;have e0:w5.cell? ⟨gg,off+k*2,none⟩=some (zI u):=(hb5.cell (p:=⟨gg,off+k*2,none⟩) HBL.o.lt).trans c0;clear hb5 HGR HLJ c0 c1 HBL HBJ
         go_wp2_with (first
          | (refine wp_let1 rfl 3 _ _ rfl gg (off+k*2) rfl .i64 (u+v) rfl (by kernel_rfl) cur 70 HK5.o hin ?_)
          | fail)
         intro W6 hU
         have HL6:Hid (Ld 70 W6 w2.heap.size (.slice (some ⟨gg,off,none⟩) len cap3) ((mixK ls m k).set k ⟨growN y (j+1) x,y⟩)):=by
          obtain rfl:=HOFF.o;rw [Nat.zero_add] at hU;show Ld _ _ _ _ _;rw [← HSS.o];exact ld_put HL5.o HK5.o k HKL.o _ _ HAT.o hU
         have HB6:Hid (Below w2.heap.size w2 W6):=hU.bel _ _ HGB.o HB5.o;clear hU HL5 HK5 HB5 e0;go_wp2_with fail;go_roundg g2
         case measure=>omega
         case rel=>exact ⟨j+1,by omega,by first | rfl | go_num,HL6.o,HB6.o⟩
  ·rw [decide_eq_false hmm] at HIM;have HMO:Hid (¬ (0≤mo∧mo≤2400)):=hmm;clear hmm;go_wp2_with fail;refine (HIM.o _).mono ?_;rintro e w2 ⟨rfl,hw2⟩;subst hw2;go_wp2_with fail
   try rw [Exit.noGoto_ret]
   go_ret2;exact ⟨none,0,0,[],2,rfl,.inr (.inl ⟨HM.o,HMO.o,rfl,rfl⟩),fresh_nil _ _,HB1.o⟩
 ·have hne:(f != 0)=true:=by simpa using h0
  have HN:Hid (¬ Mays ls):=fun h=>h0 (hf.ok.2 h);clear hf h0 HIM;go_wp2_with fail
  try rw [Exit.noGoto_ret]
  go_ret2;exact ⟨none,0,0,[],f,rfl,.inl ⟨HN.o,HF.o,rfl⟩,fresh_nil _ _,HB1.o⟩
def KdRec:Prop:=∀ (W:World) (a:Option Addr) (len cap:Nat) (ls:List Du) (t bp:Int),Came W a len cap ls→(Lit.int .i64 t).wf=true→(Lit.int .i64 bp).wf=true→Calls Tryz.prog 164 #[.slice a len cap,zI t,zI bp] W fun e w'=>RecPost W ls t bp e w'
end deb
namespace tar
theorem ov_before {l:List Du} (h:Right l) (x y z:Int) (k j:Nat) (hk:k<l.length) (hj:j<k) (hy:low l k≤y) (hz:low l k≤z):ov (low l j) (l.getD j du0).a x z=ov (low l j) (l.getD j du0).a x y:=by
 have h1:=low_mono h (j+1) k (by omega) (by omega);rw [low_next] at h1;unfold ov;omega
theorem costK_before {l:List Du} (h:Right l) (x y z:Int) (k j:Nat) (hk:k<l.length) (hj:j≤k) (hy:low l k≤y) (hz:low l k≤z):costK l x z j=costK l x y j:=by
 induction j with
 | zero=>rfl
 | succ j ih=>rw [costK_next,costK_next,ih (by omega),ov_before h x y z k j hk (by omega) hy hz]
theorem costK_behind {l:List Du} (h:Right l) (x z:Int) (k j:Nat) (hkj:k≤j) (hj:j≤l.length) (hz:z≤low l k):costK l x z j=costK l x z k:=by
 induction j with
 | zero=>
  have:k=0:=by omega
  subst this;rfl
 | succ j ih=>
  by_cases e:k=j+1
  ·subst e;rfl
  ·have h1:=ih (by omega) (by omega);have h2:=low_mono h k j (by omega) (by omega);rw [costK_next,h1,show ov (low l j) (l.getD j du0).a x z=0 by unfold ov;omega];omega
theorem cost_part {l:List Du} (h:Right l) (x y:Int) (hx:0≤x) (hxy:x≤y) (k:Nat) (hk:k<l.length) (q:Int) (hq:0≤q) (hq2:q≤ov (low l k) (l.getD k du0).a x y) (hp:0<ov (low l k) (l.getD k du0).a x y) :
  cost l x (x+(manyK l x y k+q))=costK l x y k+q*(l.getD k du0).b:=by
 have h1:=many_eq h x y hx hxy k (by omega);have h2:=h.rise k hk;have h3:=h.low_pos k (by omega);have hlo:low l k≤y:=by unfold ov at hp;omega
 have hz:low l k≤x+(manyK l x y k+q):=by rw [h1];omega
 have hz2:x+(manyK l x y k+q)≤low l (k+1):=by rw [h1,low_next];unfold ov at hq2 hp;omega
 unfold cost;rw [costK_behind h x _ (k+1) l.length (by omega) (Nat.le_refl _) hz2,costK_next,costK_before h x y _ k k hk (Nat.le_refl _) hlo hz];rw [show ov (low l k) (l.getD k du0).a x (x+(manyK l x y k+q))=q by rw [h1];unfold ov at hq2 hp ⊢;omega]
theorem bill_at (l:List Du) (x y:Int) (n:Nat) (p:List Tr) (t:Tr) (h:p++[t] <+: billK l x y n):∃ k,k<n∧p=billK l x y k∧0<ov (low l k) (l.getD k du0).a x y∧t=⟨ov (low l k) (l.getD k du0).a x y,(l.getD k du0).b,ov (low l k) (l.getD k du0).a x y*(l.getD k du0).b⟩:=by
 induction n with
 | zero=>
  have:=h.length_le;simp [billK] at this
 | succ n ih=>
  by_cases hp:0<ov (low l n) (l.getD n du0).a x y
  ·rw [billK_yes l x y n hp] at h;rcases List.prefix_concat_iff.1 h with h | h
   ·obtain ⟨h1,h2⟩:=List.append_inj' h rfl;exact ⟨n,by omega,h1,hp,by simpa using h2⟩
   ·obtain ⟨k,a,b⟩:=ih h;exact ⟨k,by omega,b⟩
  ·rw [billK_no l x y n hp] at h;obtain ⟨k,a,b⟩:=ih h;exact ⟨k,by omega,b⟩
theorem top_bd {x:Int} (hx:0≤x∧x≤10000000):0≤Top x∧x+Top x≤10000000:=by unfold Top;omega
theorem most_all {l:List Du} (h:Right l) (x m:Int) (hx:0≤x∧x≤10000000) (hm:sumC (billK l x (x+Top x) l.length)≤m):MostOf l x m (sumA (billK l x (x+Top x) l.length))∧sumC (billK l x (x+Top x) l.length)=cost l x (x+sumA (billK l x (x+Top x) l.length)):=by
 have ht:=top_bd hx;have h1:=bill_sums l x (x+Top x) l.length;have h2:=many_all h x (x+Top x) hx.1 (by omega) ht.2;have e:sumA (billK l x (x+Top x) l.length)=Top x:=by rw [h1.1,h2];omega
 have e2:sumC (billK l x (x+Top x) l.length)=cost l x (x+Top x):=h1.2;rw [e,e2];rw [e2] at hm;exact ⟨⟨⟨ht.1,Int.le_refl _⟩,hm,.inl rfl⟩,rfl⟩
theorem most_cut {l:List Du} (h:Right l) (x m q:Int) (hx:0≤x∧x≤10000000) (p:List Tr) (t:Tr) (hpre:p++[t] <+: billK l x (x+Top x) l.length) (hq0:0≤q) (hq:q<t.a) (h1:sumC p+q*t.b≤m) (h2:m<sumC p+(q+1)*t.b) :
  MostOf l x m (sumA p+q)∧sumC p+q*t.b=cost l x (x+(sumA p+q)):=by
 have ht:=top_bd hx;obtain ⟨k,hk,rfl,hp,rfl⟩:=bill_at l x (x+Top x) l.length p t hpre;have hs:=bill_sums l x (x+Top x) k;rw [hs.1,hs.2];rw [hs.2] at h1 h2;dsimp only at hq h1 h2 ⊢;have e1:=cost_part h x (x+Top x) hx.1 (by omega) k hk q hq0 (by omega) hp;have e2:=cost_part h x (x+Top x) hx.1 (by omega) k hk (q+1) (by omega) (by omega) hp;have hb:=many_bd h x (x+Top x) hx.1 (by omega) k (by omega);have hb2:=many_bd h x (x+Top x) hx.1 (by omega) (k+1) (by omega);rw [many_next] at hb2;rw [e1];refine ⟨⟨⟨by omega,by omega⟩,by rw [e1];exact h1,.inr ?_⟩,rfl⟩;rw [show manyK l x (x+Top x) k+q+1=manyK l x (x+Top x) k+(q+1) by omega,e2];exact h2
theorem sums_bd (l:List Tr) (h:∀ t∈l,LineOk t):(0≤sumA l∧sumA l≤(l.length:Int)*10000000)∧0≤sumC l:=by
 induction l with
 | nil=>exact ⟨⟨Int.le_refl _,Int.le_refl _⟩,Int.le_refl _⟩
 | cons t l ih=>
  have h1:=ih fun x hx=>h x (List.mem_cons_of_mem _ hx);obtain ⟨a1,a2,a3,a4,a5⟩:=h t List.mem_cons_self;have h2:=prod_bd (show 0≤t.a by omega) a2 a3 a4;rw [← a5] at h2;have e:((t :: l).length:Int)=(l.length:Int)+1:=by simp
  rw [e,Int.add_mul];exact ⟨⟨by show 0≤t.a+sumA l;omega,by show t.a+sumA l≤_;omega⟩,by show 0≤t.c+sumC l;omega⟩
theorem quo_bd {d p q:Int} (hd:0≤d) (hp:1≤p) (hq:d / p=q):0≤q∧q*p≤d∧d<(q+1)*p∧q≤d:=by
 subst hq;have h1:=Int.ediv_nonneg hd (show 0≤p by omega);have h2:=Int.mul_ediv_self_le (x:=d) (k:=p) (by omega);have h3:=Int.lt_mul_ediv_self_add (x:=d) (k:=p) (by omega);have h4:d / p≤d:=Int.ediv_le_self _ hd;rw [Int.mul_comm] at h2 h3;exact ⟨h1,h2,by rw [Int.add_mul];omega,h4⟩
theorem snoc_one {p:List Ln} {t:Ln}:lns (p++[t])=lns p++[t.1]:=by rw [lns_app];rfl
theorem sums_one (p:List Ln) (t:Ln):sumA (lns (p++[t]))=sumA (lns p)+t.1.a∧sumC (lns (p++[t]))=sumC (lns p)+t.1.c:=by
 rw [snoc_one,sumA_app,sumC_app];exact ⟨by show _+(t.1.a+0)=_;omega,by show _+(t.1.c+0)=_;omega⟩
end tar
namespace deb
open tar (Du du0 Came RowD Ld ErrPost TwoPost PairT GaveD)
open Go.RowKit
theorem ktotal:KdTotal:=by
 intro w a len cap ls hcame;have hr:=hcame.row;have HFA:Hid (Calls Tryz.prog 199 #[.slice a len cap] w fun e w'=>∃ f,e = .returned (zI f)∧FaultIs ls f∧Below w.heap.size w w'):=pcheck a len cap ls w hr hcame.most;have HOW:Hid (Mays ls→∀ W,Below w.heap.size w W→Calls Tryz.prog 200 #[.slice a len cap] W fun e w'=>e = .returned (zI (sumD ls))∧Below W.heap.size W w'):=fun hm W hW=>powed a len cap ls W (hr.below hW) hm;clear hcame hr;go_enter Tryz.func184,Tryz.ntmps184;go_wp2_with fail;refine HFA.o.mono ?_;rintro e w1 ⟨f,rfl,hf,hb1⟩;have HB1:Hid (Below w.heap.size w w1):=hb1;have HF:Hid (FaultIs ls f):=hf;clear hb1 HFA;by_cases h0:f=0
 ·subst h0;have hm:=hf.ok.1 rfl;have HO2:Hid (Calls Tryz.prog 200 #[.slice a len cap] w1 fun e w'=>e = .returned (zI (sumD ls))∧Below w1.heap.size w1 w'):=HOW.o hm w1 HB1.o;clear hf hm HOW;go_wp2_with fail;refine HO2.o.mono ?_;rintro e w2 ⟨rfl,hb2⟩;have HB2:=shB HB1 hb2;clear hb2 HO2;go_wp2_with fail;go_ret2;exact ⟨_,_,rfl,⟨HF.o,.inl ⟨rfl,rfl⟩⟩,HB2.o⟩
 ·have hne:(f != 0)=true:=by simpa using h0
  have HN:Hid (f≠0):=h0;clear hf h0 HOW;go_wp2_with fail;go_ret2;exact ⟨_,_,rfl,⟨HF.o,.inr ⟨HN.o,rfl⟩⟩,HB1.o⟩
end deb
namespace acc
open tar (Du)
open Go.RowKit
def KcGrant:Prop:=∀ (W:World) (x:Ac) (p:Option Addr) (len cap:Nat) (t:Tm) (pt:Option Addr) (lt ct:Nat) (m:Int),ACame W x p len cap→TCame W t pt lt ct→(Lit.int .i64 m).wf=true→Calls Tryz.prog 77 #[x.v p len cap,t.v pt lt ct,zI m] W fun e w'=>BPost W (GrantIs x t m) e w'
end acc
end Go.Proofs.YtnpblpbohcegoaaGreatDoor
