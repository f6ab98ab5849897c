import Derived.Test.YtnpblpbohcegoaaGreatDoorVBNrs10
import Derived.Test.YtnpblpbohcegoaaGreatDoorVBNrs12
set_option linter.unusedVariables false
set_option linter.unusedSimpArgs false
set_option maxHeartbeats 4000000
set_option maxRecDepth 100000
namespace Go.Proofs.YtnpblpbohcegoaaGreatDoor
namespace deb
open tar (Du du0 Came RowD Ld ErrPost TwoPost PairT)
open Go.RowKit
theorem kage:KdAge:=by
 intro w a len cap ls mo hcame hmw;have hr:=hcame.row;have HBY:Hid (len*16≤140737488351232):=hcame.bytes;have HNIL:Hid (a=none→cap=0):=hcame.nil;have HFA:Hid (Calls Tryz.prog 199 #[.slice a len cap] w fun e w'=>∃ f,e = .returned (zI f)∧FaultIs ls f∧Below w.heap.size w w'):=pcheck a len cap ls w hr hcame.most;have HIM:Hid (∀ W,Calls Tryz.prog 202 #[zI 0,zI 2400,zI mo] W fun e w'=>e = .returned (.bool (decide (0≤mo∧mo≤2400)))∧w'=W):=fun W=>dwithin 0 2400 mo W;have HROW0:Hid (RowD w a len ls):=hr;clear hcame hr hmw;go_enter Tryz.func201,Tryz.ntmps201;go_wp2_with fail;go_step3;go_wp2_with fail;refine HFA.o.mono ?_;rintro e w1 ⟨f,rfl,hf,hb1⟩;have HB1:Hid (Below w.heap.size w w1):=hb1;have HF:Hid (FaultIs ls f):=hf;clear hb1 HFA;by_cases h0:f=0
 ·subst h0;have hm:=hf.ok.1 rfl;have HM:Hid (Mays ls):=hm;have HROW:Hid (RowD w1 a len ls):=HROW0.o.below HB1.o;have HLEN:Hid (ls.length=len):=HROW.o.1;have hl8:len≤8:=by have:=hm.1;have:=HLEN.o;omega
  clear hf hm HROW0 HF;by_cases hmm:0≤mo∧mo≤2400
  ·rw [decide_eq_true hmm] at HIM;have HMO:Hid (0≤mo∧mo≤2400):=hmm;obtain ⟨m,rfl⟩:=Int.eq_ofNat_of_zero_le hmm.1;have hm2:m≤2400:=by omega
   have HMT:Hid ((m:Int).toNat=m):=by show _=_;omega
   clear hmm;go_wp2_with fail;refine (HIM.o _).mono ?_;rintro e w2 ⟨rfl,hw2⟩;subst hw2;clear HIM;cases a with
   | none=>
    have hc0:=HNIL.o rfl;have hl0:len=0:=by rcases HROW.o.2 with h | ⟨b,off,h,_⟩;exact h;cases h
    subst hc0 hl0;have happ:∀ w:World,(Builtin.append_ #[49,49] 49 #[zS,zS]).run Tryz.prog w = .ok (zS) w:=fun w=>by kernel_rfl
    have HAI:Hid (AgeIs ls (m:Int) (ageAll ls m) 0):= .inr (.inr ⟨HM.o,HMO.o,rfl,by rw [HMT.o]⟩)
    have HZ:Hid (ageAll ls m=[]):=by
     obtain rfl:ls=[]:=List.eq_nil_of_length_eq_zero HLEN.o;rfl
    go_wp2_with fail;go_step3;go_wp2_with fail;go_loopg [22] 0 (fun g z wr=>z=zI 0∧wr=w2)
    case atStart=>exact ⟨rfl,rfl⟩
    case round=>
     obtain ⟨rfl,rfl⟩:=hrel;go_wp2_with fail
     try rw [Exit.noGoto_ret]
     go_ret2;exact ⟨none,0,0,_,0,rfl,HAI.o,by rw [HZ.o];exact fresh_nil _ _,HB1.o⟩
   | some A=>
    go_wp2_with (first
     | (at_builtin;refine tar.wp_pairs debtT rfl _ _ rfl w2.heap.size A len cap ls rfl rfl HROW.o HBY.o (Nat.le_refl _) ?_)
     | fail)
    intro v3 w3 hown hg;obtain ⟨a3,cap3,hv3,hcm⟩:=ld_mays hown HM.o;rw [HLEN.o] at hv3;subst hv3;have HL3:Hid (Ld 70 w3 w2.heap.size (.slice a3 len cap3) ls):=hown;have HB3:Hid (Below w2.heap.size w2 w3):=(Below.refl _ _).grown hg (Nat.le_refl _) (fun k hk=>by cases hk);clear hown hg hcm;go_wp2_with fail;go_step3;go_wp2_with fail;have HMIX:Hid (Ld 70 w3 w2.heap.size (.slice a3 len cap3) (mixK ls m 0)):=HL3.o;go_loopg [22] len (fun g z wr=>∃ k:Nat,k+g=len∧z=zI (k:Int)∧Ld 70 wr w2.heap.size (.slice a3 len cap3) (mixK ls m k)∧Below w2.heap.size w2 wr)
    case atStart=>exact ⟨0,by omega,rfl,HMIX.o,HB3.o⟩
    case round=>
     obtain ⟨k,hkg,rfl,hl,hb⟩:=hrel;have HLK:Hid (Ld 70 wr w2.heap.size (.slice a3 len cap3) (mixK ls m k)):=hl;have HBK:Hid (Below w2.heap.size w2 wr):=hb;clear hl hb HMIX HL3 HB3;cases gk with
     | zero=>
      obtain rfl:k=len:=by omega
      have hdl:decide ((k:Int)<(k:Int))=false:=by simp
      have HAI:Hid (AgeIs ls (m:Int) (ageAll ls m) 0):= .inr (.inr ⟨HM.o,HMO.o,rfl,by rw [HMT.o]⟩);have HLE:Hid (Ld 70 wr w2.heap.size (.slice a3 k cap3) (ageAll ls m)):=by have:=HLK.o;rw [mix_all ls m k HLEN.o] at this;exact this
      have HCM:Hid (Fresh wr w.heap.size a3 k cap3 (ageAll ls m)):=by
       obtain ⟨a4,cap4,hv4,hcm⟩:=ld_fresh HLE.o (ageAll_mays HM.o m);have e:(ageAll ls m).length=k:=by rw [ageAll_len];exact HLEN.o
       rw [e] at hv4 hcm;simp only [Value.slice.injEq,true_and] at hv4;obtain ⟨rfl,rfl⟩:=hv4;exact hcm.low HB1.o.size
      have HB9:Hid (Below w.heap.size w wr):=HB1.o.trans (HBK.o.mono HB1.o.size);clear HLK HLE;generalize ageAll ls m=Z at *;go_wp2_with fail
      try rw [Exit.noGoto_ret]
      go_ret2;exact ⟨a3,k,cap3,Z,0,rfl,HAI.o,HCM.o,HB9.o⟩
     | succ g=>
      have hlt:k<len:=by omega
      have hdl:decide ((k:Int)<(len:Int))=true:=by simp;omega
      have hkl:k<ls.length:=by rw [HLEN.o];exact hlt
      have ho:=HM.o.2 k hkl;have HML:Hid ((mixK ls m k).length=len):=by show _=_;rw [mix_len ls m k (by omega)];exact HLEN.o
      have HSM:Hid ((mixK ls m k).set k ⟨growN (ls.getD k du0).b 0 (ls.getD k du0).a,(ls.getD k du0).b⟩=mixK ls m k):=mix_same ls m k hkl;have HNX:Hid ((mixK ls m k).set k ⟨growN (ls.getD k du0).b m (ls.getD k du0).a,(ls.getD k du0).b⟩=mixK ls m (k+1)):=mix_next ls m k hkl;have hx0:=ho.1.1;have hx1:=ho.1.2;have hy0:=ho.2.1;have hy1:=ho.2.2;clear ho hkl;generalize (ls.getD k du0).a=x at *;generalize (ls.getD k du0).b=y at *;go_wp2_with fail;go_loopg [26] m (fun g2 z wy=>∃ j:Nat,j+g2=m∧z=zI (j:Int)∧Ld 70 wy w2.heap.size (.slice a3 len cap3) ((mixK ls m k).set k ⟨growN y j x,y⟩)∧Below w2.heap.size w2 wy)
      case atStart=>exact ⟨0,by omega,rfl,by rw [HSM.o];exact HLK.o,HBK.o⟩
      case round=>
       rename_i wo
       obtain ⟨j,hjg,rfl,hl,hb⟩:=hrel;have HLJ:Hid (Ld 70 wr w2.heap.size (.slice a3 len cap3) ((mixK ls m k).set k ⟨growN y j x,y⟩)):=hl;have HBJ:Hid (Below w2.heap.size w2 wr):=hb;clear hl hb HLK HBK HSM;cases gk with
       | zero=>
        obtain rfl:j=m:=by omega
        have hdj:decide ((j:Int)<(j:Int))=false:=by simp
        have HLN:Hid (Ld 70 wr w2.heap.size (.slice a3 len cap3) (mixK ls j (k+1))):=by have:=HLJ.o;rw [HNX.o] at this;exact this
        clear HLJ HNX;go_wp2_with fail;go_roundg g
        case measure=>omega
        case rel=>exact ⟨k+1,by omega,by first | rfl | go_num,HLN.o,HBJ.o⟩
       | succ g2=>
        have hdj:decide ((j:Int)<(m:Int))=true:=by simp;omega
        have hjm:j<m:=by omega
        obtain ⟨gg,cur,hga,hgb,hblk,hcs,hcc⟩:=ld_lies HLJ.o (by omega);have hcell:=hcc k (by rw [List.length_set,HML.o];exact hlt)
        have hat:((mixK ls m k).set k ⟨growN y j x,y⟩).getD k du0=⟨growN y j x,y⟩:=by
         have:k<(mixK ls m k).length:=by rw [HML.o];exact hlt
         simp [List.getD,this]
        rw [hat] at hcell;obtain ⟨off,hoff⟩:∃ off:Nat,off=0:=⟨0,rfl⟩
        have HOFF:Hid (off=0):=hoff;have hga2:a3=some ⟨gg,off,none⟩:=by rw [hga,hoff]
        have c0:wr.cell? ⟨gg,off+k*2,none⟩=some (zI (growN y j x)):=by rw [hoff,Nat.zero_add];exact hcell.1
        have c1:wr.cell? ⟨gg,off+k*2+1,none⟩=some (zI y):=by rw [hoff,Nat.zero_add];exact hcell.2
        have HBL:Hid (Blk wr gg cur 70):=hblk;have hin:off+k*2<cur.size:=by omega
        have HGB:Hid (w2.heap.size≤gg):=hgb;clear hcell hat hcc hblk hgb hga hcs hoff;subst hga2;have hgn:=growN_bd hy0 hy1 hx0 hx1 j;have hu0:0≤growN y j x:=by omega
        have hu1:=hgn.2;have HGS:Hid (growN y (j+1) x=grow y (growN y j x)):=rfl;have HGR:Hid (∀ W,Calls Tryz.prog 206 #[.agg #[zI (growN y j x),zI y]] W fun e w'=>e = .returned (zI (min (growN y j x*y / 10000) (1000000000 - growN y j x)))∧Below W.heap.size W w'):=fun W=>pgrowth _ _ W ⟨hu0,hu1⟩ ⟨hy0,hy1⟩;have HMO2:Hid (grow y (growN y j x)=growN y j x+min (growN y j x*y / 10000) (1000000000 - growN y j x)):=grow_more hu0 hu1 hy0
        have hv0:0≤min (growN y j x*y / 10000) (1000000000 - growN y j x):=by
         have:=Int.mul_nonneg hu0 hy0;generalize growN y j x*y=pp at *;omega
        have hv1:min (growN y j x*y / 10000) (1000000000 - growN y j x)≤1000000000 - growN y j x:=Int.min_le_right _ _;generalize min (growN y j x*y / 10000) (1000000000 - growN y j x)=v at *;clear hgn;by_cases hz:v=0
        ·have hvz:(v == 0)=true:=by simpa using hz
         have HST:Hid (growN y m x=growN y j x):=by
          have h1:grow y (growN y j x)=growN y j x:=by rw [HMO2.o,hz];omega
          have h2:=growN_still h1 (m - j);rw [growN_add,show j+(m - j)=m by omega] at h2;exact h2
         have HLN:Hid (Ld 70 wr w2.heap.size (.slice (some ⟨gg,off,none⟩) len cap3) (mixK ls m (k+1))):=by have:=HLJ.o;rw [← HST.o,HNX.o] at this;exact this
         clear hz HST HNX HLJ;generalize growN y j x=u at *;go_wp2_with fail;refine (HGR.o _).mono ?_;rintro e w5 ⟨rfl,hb5⟩;have HL5:Hid (Ld 70 w5 w2.heap.size (.slice (some ⟨gg,off,none⟩) len cap3) (mixK ls m (k+1))):=HLN.o.next hb5;have HB5:=shB HBJ hb5;clear hb5 HGR HLN c0 c1;go_wp2_with fail;go_roundg g
         case measure=>omega
         case rel=>exact ⟨k+1,by omega,by first | rfl | go_num,HL5.o,HB5.o⟩
        ·have hvz:(v == 0)=false:=by simpa using hz
         have HSS:Hid (((mixK ls m k).set k ⟨growN y j x,y⟩).set k ⟨growN y j x+v,y⟩=(mixK ls m k).set k ⟨growN y (j+1) x,y⟩):=by show _=_;rw [List.set_set,HGS.o,HMO2.o]
         have HAT:Hid ((((mixK ls m k).set k ⟨growN y j x,y⟩).getD k du0).b=y):=by
          have:k<(mixK ls m k).length:=by rw [HML.o];exact hlt
          show _=_;simp [List.getD,this]
         have HKL:Hid (k<((mixK ls m k).set k ⟨growN y j x,y⟩).length):=by show _<_;rw [List.length_set,HML.o];exact hlt
         clear hz HGS HMO2;generalize (mixK ls m k).set k ⟨growN y j x,y⟩=Z at *;generalize growN y j x=u at *;go_wp2_with fail;refine (HGR.o _).mono ?_;rintro e w5 ⟨rfl,hb5⟩;have HL5:Hid (Ld 70 w5 w2.heap.size (.slice (some ⟨gg,off,none⟩) len cap3) Z):=HLJ.o.next hb5;have HB5:=shB HBJ hb5;have HK5:=shN HBL hb5;have e0:w5.cell? ⟨gg,off+k*2,none⟩=some (zI u):=(hb5.cell (p:=⟨gg,off+k*2,none⟩) HBL.o.lt).trans c0;clear hb5 HGR HLJ c0 c1 HBL HBJ
         go_wp2_with (first
          | (refine wp_let1 rfl 3 _ _ rfl gg (off+k*2) rfl .i64 (u+v) rfl (by kernel_rfl) cur 70 HK5.o hin ?_)
          | fail)
         intro W6 hU
         have HL6:Hid (Ld 70 W6 w2.heap.size (.slice (some ⟨gg,off,none⟩) len cap3) ((mixK ls m k).set k ⟨growN y (j+1) x,y⟩)):=by
          obtain rfl:=HOFF.o;rw [Nat.zero_add] at hU;show Ld _ _ _ _ _;rw [← HSS.o];exact ld_put HL5.o HK5.o k HKL.o _ _ HAT.o hU
         have HB6:Hid (Below w2.heap.size w2 W6):=hU.bel _ _ HGB.o HB5.o;clear hU HL5 HK5 HB5 e0;go_wp2_with fail;go_roundg g2
         case measure=>omega
         case rel=>exact ⟨j+1,by omega,by first | rfl | go_num,HL6.o,HB6.o⟩
  ·rw [decide_eq_false hmm] at HIM;have HMO:Hid (¬ (0≤mo∧mo≤2400)):=hmm;clear hmm;go_wp2_with fail;refine (HIM.o _).mono ?_;rintro e w2 ⟨rfl,hw2⟩;subst hw2;go_wp2_with fail
   try rw [Exit.noGoto_ret]
   go_ret2;exact ⟨none,0,0,[],2,rfl,.inr (.inl ⟨HM.o,HMO.o,rfl,rfl⟩),fresh_nil _ _,HB1.o⟩
 ·have hne:(f != 0)=true:=by simpa using h0
  have HN:Hid (¬ Mays ls):=fun h=>h0 (hf.ok.2 h);clear hf h0 HIM;go_wp2_with fail
  try rw [Exit.noGoto_ret]
  go_ret2;exact ⟨none,0,0,[],f,rfl,.inl ⟨HN.o,HF.o,rfl⟩,fresh_nil _ _,HB1.o⟩
end deb
namespace tar
open Go.RowKit Go.Shelf
attribute [local go_sem] Oper.semAt_some
theorem boxed_same {W W':World} {B:Nat} {t:TypeId} {v:Value} (h:Boxed W B t v) (e:W'.heap[B]?=W.heap[B]?):Boxed W' B t v:=e.trans h
theorem lines1_in (F:Fence) (n:Nat) (hF:F.fn 203) (hro:F.round=none) (hn:1≤n) (l Bf Bt Bu n₀ lo hi b off len cap B0:Nat) (ls:List Du) (x u:Int) (J Jx:List Ln→World→Prop)
  (hR:Right ls) (hlen:ls.length=len) (hx:0≤x∧x≤10000000) (hu:0≤u∧x+u≤10000000) (hJ:AbidesFrom B0 J)
  (hY:∀ pre t W,J pre W→pre.length<len→YieldAt F (n - 1) Tryz.prog l (encL t) W fun e W'=>
   (e = .returned (.bool true)∧J (pre++[t]) W'∧Kq n₀ lo hi W W')∨(e = .returned (.bool false)∧Jx (pre++[t]) W'))
  (W:World) (hf:Boxed W Bf 3 (zI x)) (ht:Boxed W Bt 22 (.slice (some ⟨b,off,none⟩) len cap)) (hun:Boxed W Bu 3 (zI u)) (h1:lo≤Bf∧Bf<hi) (h2:lo≤Bu∧Bu<hi) (hb:b<n₀) (hnW:n₀≤W.heap.size)
  (hc:∀ i,i<len→W.cell? ⟨b,off+i*2,none⟩=some (zI (ls.getD i du0).a)∧W.cell? ⟨b,off+i*2+1,none⟩=some (zI (ls.getD i du0).b)) (h0:J [] W) :
  CallsIn F n Tryz.prog 203 #[.func (.yield l) #[] #[],.pointer (some ⟨Bf,0,none⟩),.pointer (some ⟨Bt,0,none⟩),.pointer (some ⟨Bu,0,none⟩)] W fun e W'=>(∃ v,e = .returned v) ∧
   ((∃ ys,lns ys=billK ls x (x+u) len∧J ys W')∨(∃ pre,lns pre <+: billK ls x (x+u) len∧Jx pre W')):=by
 have HR:Hid (Right ls):=hR
 have HY:Hid (∀ pre t W,J pre W→pre.length<len→YieldAt F (n - 1) Tryz.prog l (encL t) W fun e W'=>
   (e = .returned (.bool true)∧J (pre++[t]) W'∧Kq n₀ lo hi W W')∨(e = .returned (.bool false)∧Jx (pre++[t]) W')):=hY
 have HJ:Hid (AbidesFrom B0 J):=hJ;have HC:Hid (∀ i,i<len→W.cell? ⟨b,off+i*2,none⟩=some (zI (ls.getD i du0).a)∧W.cell? ⟨b,off+i*2+1,none⟩=some (zI (ls.getD i du0).b)):=hc;have HLEN:Hid (ls.length=len):=hlen;have hl8:len≤8:=by have:=hR.1.2;omega
 have ct:=ht.cell;have cf:=hf.cell;obtain ⟨hx0,hx1⟩:=hx;obtain ⟨hu0,hu1⟩:=hu;have HX:Hid (0≤x∧x≤x+u∧x+u≤10000000):=⟨hx0,by omega,hu1⟩
 clear hR hY hJ hc hlen;refine callsIn_of_wp Tryz.func203 rfl hF ?_ hro;simp only [Tryz.ntmps203,List.size_toArray,List.length_cons,List.length_nil,Nat.reduceAdd,Nat.reduceSub,Array.replicate_succ,Array.replicate_zero,List.push_toArray,List.append_toArray,List.nil_append,List.cons_append]
 gi_wp2
 gi_loopw [5,12] (fun r i wr=>∃ (k:Nat) (pre:List Ln),k≤len∧i=zI (k:Int)∧r=zI (x+manyK ls x (x+u) k)∧lns pre=billK ls x (x+u) k∧J pre wr∧Boxed wr Bf 3 (zI x)∧Boxed wr Bu 3 (zI u)∧Below n₀ W wr) (fun _ i _=>len - (intOf i).toNat)
 case atStart=>exact ⟨0,[],Nat.zero_le _,rfl,by show _=Value.int .i64 (x+0);rw [Int.add_zero],rfl,h0,hf,hun,Below.refl _ _⟩
 case round=>
  obtain ⟨k,pre,hk,rfl,rfl,hpre,hj,hbf,hbu,hbl⟩:=hrel;have HPRE:Hid (lns pre=billK ls x (x+u) k):=hpre;have HJP:Hid (J pre wr):=hj;have HBF:Hid (Boxed wr Bf 3 (zI x)):=hbf;have HBU:Hid (Boxed wr Bu 3 (zI u)):=hbu;have HBL:Hid (Below n₀ W wr):=hbl;clear hpre hj hf hun ht ct cf;by_cases hlt:k<len
  ·have hdl:decide ((k:Int)<(len:Int))=true:=by simp;omega
   have c0:wr.cell? ⟨b,off+k*2,none⟩=some (zI (ls.getD k du0).a):=(hbl.cell (p:=⟨b,off+k*2,none⟩) hb).trans (HC.o k hlt).1;have c1:wr.cell? ⟨b,off+k*2+1,none⟩=some (zI (ls.getD k du0).b):=(hbl.cell (p:=⟨b,off+k*2+1,none⟩) hb).trans (HC.o k hlt).2;have hkl:k<ls.length:=by rw [HLEN.o];exact hlt
   have hpr:=HR.o.price k hkl;have hup:=HR.o.upto k hkl;have hmb:=many_bd HR.o x (x+u) hx0 (by omega) k (by omega);have hmin:=run_min (ls.getD k du0).a (x+u) _ rfl
   have hpl:pre.length<len:=by
    have e1:=lns_len pre;have e2:=bill_len ls x (x+u) k;rw [HPRE.o] at e1;omega
   have HBA:Hid (∀ o,Below n₀ W (wr.alloc o)):=fun o=>hbl.alloc (Nat.le_trans hnW hbl.size) o;have cf:∀ o,(wr.alloc o).cell? ⟨Bf,0,none⟩=some (zI x):=fun o=>(hbf.alloc o).cell;have cu:∀ o,(wr.alloc o).cell? ⟨Bu,0,none⟩=some (zI u):=fun o=>(hbu.alloc o).cell;have HFA:Hid (∀ o,Boxed (wr.alloc o) Bf 3 (zI x)):=fun o=>hbf.alloc o;have HUA:Hid (∀ o,Boxed (wr.alloc o) Bu 3 (zI u)):=fun o=>hbu.alloc o;have HJA:Hid (∀ o,J pre (wr.alloc o)):=fun o=>HJ.o pre wr _ none HJP.o (World.grownBy_alloc wr o none) (fun r e=>by cases e);clear hbf hbu hbl;by_cases hp:0<min (ls.getD k du0).a (x+u) - (x+manyK ls x (x+u) k)
   ·have ho:=nxt_yes HR.o x (x+u) hx0 (by omega) k hkl hp;have hp2:=hp;rw [ho] at hp2;have hok:=line_ok HR.o x (x+u) k hkl hp2;have HN:Hid (billK ls x (x+u) (k+1)=billK ls x (x+u) k++[⟨ov (low ls k) (ls.getD k du0).a x (x+u),(ls.getD k du0).b,ov (low ls k) (ls.getD k du0).a x (x+u)*(ls.getD k du0).b⟩]):=billK_yes ls x (x+u) k hp2;have HM:Hid (manyK ls x (x+u) (k+1)=manyK ls x (x+u) k+ov (low ls k) (ls.getD k du0).a x (x+u)):=many_next ls x (x+u) k;have hm2:=many_bd HR.o x (x+u) hx0 (by omega) (k+1) (by omega);rw [HM.o] at hm2;have hle:=ov_le (low ls k) (ls.getD k du0).a x (x+u) (HR.o.low_pos k (by omega)) hup.2;have hpb:=prod_bd (Int.le_of_lt hp2) hle hpr.1 hpr.2;generalize ov (low ls k) (ls.getD k du0).a x (x+u)=o at *;generalize manyK ls x (x+u) k=mk at *;generalize (ls.getD k du0).a=up at *;generalize (ls.getD k du0).b=p at *;generalize min up (x+u)=m at *;have hm:m - (x+mk)=o:=ho;have hdo:decide (o≤0)=false:=by simp;omega
    have HQ:Hid (∀ C,YieldAt F (n - 1) Tryz.prog l (encL ⟨⟨o,p,o*p⟩,hok⟩) (wr.alloc C) fun e W'=>
     (e = .returned (.bool true)∧J (pre++[⟨⟨o,p,o*p⟩,hok⟩]) W'∧Kq n₀ lo hi (wr.alloc C) W')∨(e = .returned (.bool false)∧Jx (pre++[⟨⟨o,p,o*p⟩,hok⟩]) W')):=fun C=>HY.o pre ⟨⟨o,p,o*p⟩,hok⟩ _ (HJA.o C) hpl
    obtain ⟨fn,tmps,assign,body,hy,hRd⟩:=HQ.o (.cells #[zI up,zI p] 198)
    have HNX:Hid (lns (pre++[⟨⟨o,p,o*p⟩,hok⟩])=billK ls x (x+u) (k+1)):=by
     show _=_;rw [lns_app,HPRE.o,HN.o];rfl
    have hpb0:=hpb.1;have hpb1:=hpb.2;have hxm0:0≤x+mk:=by omega
    have hxm1:x+mk≤10000000:=by omega
    have hm0:0≤m:=by omega
    have hm1:m≤20000000:=by omega
    have hs1:x+mk+o≤10000000:=by omega
    have ho0:0≤o:=by omega
    simp only [encL] at hy;clear ho hp HQ hmb hm2 hpb hpr hup
    gi_wp2
    refine hRd.mono ?_;rintro e W3 (⟨rfl,hJ3,hk3⟩ | ⟨rfl,hJx3⟩)
    ·have HB3:Hid (Below n₀ W W3):=(HBA.o _).trans hk3.1;have HF3:Hid (Boxed W3 Bf 3 (zI x)):=boxed_same (HFA.o _) (hk3.2 Bf h1.1 h1.2);have HU3:Hid (Boxed W3 Bu 3 (zI u)):=boxed_same (HUA.o _) (hk3.2 Bu h2.1 h2.2);have HJ3:Hid (J (pre++[⟨⟨o,p,o*p⟩,hok⟩]) W3):=hJ3;clear hk3 hJ3
     gi_wp2
     go_roundw
     case rel=>exact ⟨k+1,pre++[⟨⟨o,p,o*p⟩,hok⟩],by omega,by go_num,by rw [HM.o,Int.add_assoc],HNX.o,HJ3.o,HF3.o,HU3.o,HB3.o⟩
     case measure=>simp [intOf];omega
    ·have HJX:Hid (Jx (pre++[⟨⟨o,p,o*p⟩,hok⟩]) W3):=hJx3;clear hJx3
     gi_wp2
     refine bodyPost_ret (results_none rfl _ _ _) rfl ?_;exact ⟨⟨_,rfl⟩,.inr ⟨pre++[⟨⟨o,p,o*p⟩,hok⟩],by rw [HNX.o];exact bill_prefix ls x (x+u) (k+1) len (by omega),HJX.o⟩⟩
   ·have ho:=nxt_no HR.o x (x+u) hx0 (by omega) k hkl hp;have hmz:0≤min (ls.getD k du0).a (x+u):=by omega
    have HN:Hid (billK ls x (x+u) (k+1)=billK ls x (x+u) k):=billK_no ls x (x+u) k (by omega);have HM:Hid (manyK ls x (x+u) (k+1)=manyK ls x (x+u) k):=by show _=_;rw [many_next,ho,Int.add_zero]
    generalize manyK ls x (x+u) k=mk at *;generalize (ls.getD k du0).a=up at *;generalize (ls.getD k du0).b=p at *;generalize min up (x+u)=m at *;have hxm0:0≤x+mk:=by omega
    have hxm1:x+mk≤10000000:=by omega
    have hdo:decide (m - (x+mk)≤0)=true:=by simp;omega
    have hm0:0≤m:=hmz;have hm1:m≤20000000:=by omega
    clear ho hp hmb hpr hup
    gi_wp2
    go_roundw
    case rel=>exact ⟨k+1,pre,by omega,by go_num,by rw [HM.o],by rw [HN.o];exact HPRE.o,HJA.o _,HFA.o _,HUA.o _,HBA.o _⟩
    case measure=>simp [intOf];omega
  ·obtain rfl:k=len:=by omega
   have hdl:decide ((k:Int)<(k:Int))=false:=by simp
   clear hbf hbu hbl
   gi_wp2
   go_end0;exact ⟨⟨_,rfl⟩,.inl ⟨pre,HPRE.o,HJP.o⟩⟩
attribute [local go_sem] Oper.semAt_some
theorem blk_own {β:Type} (B:Nat) (t:TypeId) (f:β→Array Value):Own (fun s W=>Blk W B (f s) t):=fun s X Y row hs hg hrow=>by
 have hl:=hs.lt;refine (hg.block B hl fun e'=>?_).trans hs;obtain ⟨o,ho,hc⟩:=hrow B e'.symm;rw [show X.heap[B]?=_ from hs] at ho;cases ho;cases hc
def boxes (w:World) (v:Value) (x u:Int):World:=((w.alloc (.cells #[v] 22)).alloc (.cells #[zI x] 3)).alloc (.cells #[zI u] 3)
theorem boxes_size (w:World) (v:Value) (x u:Int):(boxes w v x u).heap.size=w.heap.size+3:=by unfold boxes;simp
theorem boxes_t (w:World) (v:Value) (x u:Int):Boxed (boxes w v x u) w.heap.size 22 v:=((Boxed.new w _ v).alloc _).alloc _
theorem boxes_x (w:World) (v:Value) (x u:Int):Boxed (boxes w v x u) (w.heap.size+1) 3 (zI x):=by
 have h:=(Boxed.new (w.alloc (.cells #[v] 22)) 3 (zI x)).alloc (.cells #[zI u] 3);rw [World.size_alloc] at h;exact h
theorem boxes_u (w:World) (v:Value) (x u:Int):Boxed (boxes w v x u) (w.heap.size+1+1) 3 (zI u):=by
 have h:=Boxed.new ((w.alloc (.cells #[v] 22)).alloc (.cells #[zI x] 3)) 3 (zI u);rw [World.size_alloc,World.size_alloc] at h;exact h
theorem boxes_bel {n:Nat} {w0 w:World} (h:Below n w0 w) (hn:n≤w.heap.size) (v:Value) (x u:Int):Below n w0 (boxes w v x u):=((h.alloc hn _).alloc (by simp;omega) _).alloc (by simp;omega) _
theorem boxes_boxed {w:World} {B:Nat} {t:TypeId} {o:Value} (h:Boxed w B t o) (v:Value) (x u:Int):Boxed (boxes w v x u) B t o:=((h.alloc _).alloc _).alloc _
theorem lines_in (F:Fence) (n:Nat) (hF:F.fn 193) (hro:F.round=none) (a:Option Addr) (len cap:Nat) (x u:Int) (w:World) :
  CallsIn F n Tryz.prog 193 #[.slice a len cap,zI x,zI u] w fun e w'=>e = .returned (.func (.func 203) #[] #[.pointer (some ⟨w.heap.size+1,0,none⟩),.pointer (some ⟨w.heap.size,0,none⟩),.pointer (some ⟨w.heap.size+1+1,0,none⟩)])∧w'=boxes w (.slice a len cap) x u:=by
 refine callsIn_of_wp Tryz.func193 rfl hF ?_ hro;simp only [Tryz.ntmps193,List.size_toArray,List.length_cons,List.length_nil,Nat.reduceAdd,Nat.reduceSub,Array.replicate_succ,Array.replicate_zero,List.push_toArray,List.append_toArray,List.nil_append,List.cons_append]
 gi_wp2
 go_ret;exact ⟨rfl,rfl⟩
structure Lnd (w:World) (n₀ B b off len cap:Nat) (ls:List Du) (x u:Int):Prop where
 right:Right ls
 many:ls.length=len
 x0:0≤x
 x1:x≤10000000
 u0:0≤u
 u1:x+u≤10000000
 bt:Boxed w B 22 (.slice (some ⟨b,off,none⟩) len cap)
 bx:Boxed w (B+1) 3 (zI x)
 bu:Boxed w (B+1+1) 3 (zI u)
 hb:b<n₀
 hn:n₀≤w.heap.size
 row:∀ i,i<len→w.cell? ⟨b,off+i*2,none⟩=some (zI (ls.getD i du0).a)∧w.cell? ⟨b,off+i*2+1,none⟩=some (zI (ls.getD i du0).b)
theorem lines_stops (F:Fence) (n:Nat) (hF:F.fn 203) (hro:F.round=none) (hn:1≤n) (n₀ B b off len cap:Nat) (ls:List Du) (x u:Int) (w:World) (h:Lnd w n₀ B b off len cap ls x u) :
  SeqStopsK F n Tryz.prog 203 #[.pointer (some ⟨B+1,0,none⟩),.pointer (some ⟨B,0,none⟩),.pointer (some ⟨B+1+1,0,none⟩)] encL (Kq n₀ B (B+3)) (fun ys=>lns ys=billK ls x (x+u) len) (fun pre=>lns pre <+: billK ls x (x+u) len) len w:=fun l J Jx W hW hJ _ hY h0=>
 lines1_in F n hF hro hn l (B+1) B (B+1+1) n₀ B (B+3) b off len cap W.heap.size ls x u J Jx h.right h.many ⟨h.x0,h.x1⟩ ⟨h.u0,h.u1⟩ hJ hY W
  (boxed_same h.bx (hW.block _ h.bx.lt)) (boxed_same h.bt (hW.block _ h.bt.lt)) (boxed_same h.bu (hW.block _ h.bu.lt)) ⟨by omega,by omega⟩ ⟨by omega,by omega⟩ h.hb (Nat.le_trans h.hn hW.size)
  (fun i hi=>⟨(hW.cell (p:=⟨b,off+i*2,none⟩) (Nat.lt_of_lt_of_le h.hb h.hn)).trans (h.row i hi).1,(hW.cell (p:=⟨b,off+i*2+1,none⟩) (Nat.lt_of_lt_of_le h.hb h.hn)).trans (h.row i hi).2⟩) h0
theorem Kq.refl (n lo hi:Nat) (W:World):Kq n lo hi W W:=⟨Below.refl _ _,fun _ _ _=>rfl⟩
theorem Kq.alloc {n lo hi:Nat} {W W':World} (h:Kq n lo hi W W') (o:Obj) (hn:n≤W'.heap.size) (hs:hi≤W'.heap.size):Kq n lo hi W (W'.alloc o):=⟨h.1.alloc hn o,fun j a b=>(Below.heap_alloc W' o j (by omega)).trans (h.2 j a b)⟩
theorem Kq.set {n lo hi:Nat} {W W':World} (h:Kq n lo hi W W') (B i:Nat) (v:Value) (hB:n≤B) (hl:B<lo∨hi≤B):Kq n lo hi W (W'.setCell ⟨B,i,none⟩ v):=⟨h.1.setCell (p:=⟨B,i,none⟩) hB v,fun j a b=>(Below.heap_setCell W' ⟨B,i,none⟩ v j (by show j≠B;omega)).trans (h.2 j a b)⟩
theorem kq_b {n lo hi:Nat} {w:World} (hn:n≤w.heap.size) (hh:hi≤w.heap.size) (W:World) (l:Nat) (o o':Obj) (hl:w.heap.size≤l) (h:W.heap[l]?=some o) (hc:o.isCells=false) (hw:o.isWalk=false):Kq n lo hi W (W.putObj l o'):=⟨belowK_b hn W l o o' hl h hc hw,fun j a b=>(grownBy_putObj' W l o').block j (by have:=(Array.getElem?_eq_some_iff.1 h).1;omega) (fun e=>by cases e;omega)⟩
theorem lnd_of {w w1:World} (n₀ B b off len cap:Nat) {ls:List Du} {x u:Int} (hr:Right ls) (hl:ls.length=len) (hx:0≤x∧x≤10000000) (hu:0≤u∧x+u≤10000000) (hB:w1.heap.size=B) (hb:b<n₀) (hn:n₀≤w1.heap.size)
  (hbel:Below n₀ w w1) (hc:∀ i,i<len→w.cell? ⟨b,off+i*2,none⟩=some (zI (ls.getD i du0).a)∧w.cell? ⟨b,off+i*2+1,none⟩=some (zI (ls.getD i du0).b)):Lnd (boxes w1 (.slice (some ⟨b,off,none⟩) len cap) x u) n₀ B b off len cap ls x u:=by
 subst hB;have h2:=boxes_bel hbel hn (.slice (some ⟨b,off,none⟩) len cap) x u;exact ⟨hr,hl,hx.1,hx.2,hu.1,hu.2,boxes_t _ _ _ _,boxes_x _ _ _ _,boxes_u _ _ _ _,hb,by rw [boxes_size];omega,fun i hi=>⟨(h2.cell (p:=⟨b,off+i*2,none⟩) hb).trans (hc i hi).1,(h2.cell (p:=⟨b,off+i*2+1,none⟩) hb).trans (hc i hi).2⟩⟩
end tar
end Go.Proofs.YtnpblpbohcegoaaGreatDoor
