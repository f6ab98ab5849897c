import Derived.Test.YtnpblpbohcegoaaGreatDoorVVCut23
import Derived.Test.YtnpblpbohcegoaaGreatDoorVVCut24
import Derived.Test.YtnpblpbohcegoaaGreatDoorVVCut27
set_option linter.unusedVariables false
set_option linter.unusedSimpArgs false
set_option maxHeartbeats 4000000
set_option maxRecDepth 100000
namespace Go.Proofs.YtnpblpbohcegoaaGreatDoor
namespace disk
open Go.RowKit cell
def JR (w:World) (c:List Int) (k:Nat) (W:World):Prop:=∃ V sl,Box w w.heap.size V sl (itD c k).1 W
theorem kreplay:KReplay:=by
 intro w a n cap c h hnil hcap hby hw;have H0:JR w c 0 (w.alloc (.cells #[zS] 104)):=⟨zS,[],Blk.new _ _ _,Lr.zero _ _ _,Recs.nil _ _,(fun i hi=>by cases hi),(Below.refl _ _).alloc (Nat.le_refl _) _⟩
 have HE:Hid (Calls Tryz.prog 62 #[.slice a n cap,.func (.func 63) #[] #[.pointer (some ⟨w.heap.size,0,none⟩)]] (w.alloc (.cells #[zS] 104)) fun e w'=>EPost (JR w c) c e w'):=by
  refine each_any 63 #[.pointer (some ⟨w.heap.size,0,none⟩)] (JR w c) a n cap c _ (fun k W hj=>?_) H0 hcap hw (fun _ _=>by kernel_rfl) ?_
  ·obtain ⟨V,sl,hb⟩:=hj;exact h.below hb.bel
  ·intro k p m b o W hj hp hit hr h1 h2 h3;obtain ⟨V,sl,hb⟩:=hj;have hs:sl.length≤1000000:=by have:=hb.recs.1;have:=it_count c k;omega
   refine (put_record w w.heap.size V sl _ (recAt c p) b o m W hb hr h1 h2 hs).mono ?_;rintro e w' ⟨rfl,V',sl',hb'⟩;refine ⟨rfl,V',sl',?_⟩;rw [hit];exact hb'
 clear H0 h hnil hcap hby hw;go_enter Tryz.func35,Tryz.ntmps35;go_wp2_with fail;refine HE.o.mono ?_;rintro e w1 ⟨x,f,k,rfl,⟨V,sl,hb⟩,hi⟩;have HB:Hid (Box w w.heap.size V sl (itD c k).1 w1):=hb;have HI:Hid ((¬ May c∧x=0∧f=1)∨(May c∧lenAt c (repD c).2<0∧x=0∧f=3)∨(May c∧lenAt c (repD c).2=0∧repD c=itD c k∧x=((repD c).2:Int)∧f=0)):=hi;clear hb hi HE;by_cases hf:f=0
 ·have HR:Hid (RepIs c (itD c k).1 x 0):=by
   rcases HI.o with ⟨_,_,e⟩ | ⟨_,_,_,e⟩ | ⟨q1,q2,q3,q4,_⟩
   ·rw [hf] at e;exact absurd e (by decide)
   ·rw [hf] at e;exact absurd e (by decide)
   ·exact .inr (.inr ⟨q1,q2,by rw [q3],q4,rfl⟩)
  have q0:w1.cell? ⟨w.heap.size,0,none⟩=some V:=HB.o.blk.cell 0;obtain ⟨va,vc,hV,hrd⟩:=HB.o.reads;have HRD:Hid (ReadsF w1 w.heap.size va (itD c k).1.length (itD c k).1):=hrd;have HBL:Hid (Below w.heap.size w w1):=HB.o.bel;subst hf;subst hV;clear hrd HB HI;generalize (itD c k).1=zs at *;have HFW:Hid (zs.length≤100000):=Nat.le_trans (rep_few HR.o).1 (by decide);generalize hzl:zs.length=zl at *;clear hzl;go_wp2_with fail;go_ret3;exact ⟨va,_,vc,zs,x,0,rfl,HRD.o,HFW.o,HR.o,HBL.o⟩
 ·have HR:Hid (RepIs c [] 0 f):=by
   rcases HI.o with ⟨q1,_,e⟩ | ⟨q1,q2,_,e⟩ | ⟨_,_,_,_,e⟩
   ·exact .inl ⟨q1,rfl,rfl,e⟩
   ·exact .inr (.inl ⟨q1,q2,rfl,rfl,e⟩)
   ·exact absurd e hf
  have HBL:Hid (Below w.heap.size w w1):=HB.o.bel;have hne:(f != 0)=true:=by simpa using hf
  clear HB HI hf;go_wp2_with fail;go_ret3;exact ⟨none,0,0,[],0,f,rfl,⟨rfl,.inl rfl⟩,Nat.zero_le _,HR.o,HBL.o⟩
end disk
namespace book
open Go.RowKit
def MustPost (w:World) (v:Ev) (e:Ending) (w':World):Prop:=((EMay v∧e = .returned (.tuple #[]))∨(¬ EMay v∧e = .panicked (thrown 5)))∧Below w.heap.size w w'
theorem eqEv_any (a b:Ev) (w:World):∃ B,(Op.equalIn 10000 72 (.agg a.cs) (.agg b.cs)).run Tryz.prog w = .ok B w∧(B=true↔a=b):=by
 obtain ⟨a0,a1,a2,a3,a4,a5,a6,a7,a8,a9,a10,a11,a12⟩:=a;obtain ⟨b0,b1,b2,b3,b4,b5,b6,b7,b8,b9,b10,b11,b12⟩:=b;refine ⟨_,eqEv 9997 a0 a1 a2 a3 a4 a5 a6 a7 a8 a9 a10 a11 a12 b0 b1 b2 b3 b4 b5 b6 b7 b8 b9 b10 b11 b12 w,?_⟩;rw [decide_eq_true_iff];constructor
 ·rintro ⟨rfl,rfl,rfl,rfl,rfl,rfl,rfl,rfl,rfl,rfl,rfl,rfl,rfl⟩;rfl
 ·intro h;cases h;exact ⟨rfl,rfl,rfl,rfl,rfl,rfl,rfl,rfl,rfl,rfl,rfl,rfl,rfl⟩
theorem bmust (v:Ev) (w:World):Calls Tryz.prog 67 #[.agg #[zI v.kd,zI v.me,zI v.mo,zI v.id,zI v.te,zI v.de,zI v.fe,zI v.pr,zI v.ch,zI v.un,zI v.tg,zI v.ow,zI v.bp]] w fun e w'=>MustPost w v e w':=by
 have HMI:Hid (EMay v↔(0≤v.me∧v.me≤49)∧KindR v∧leftE v=ev0):=may_iff v;obtain ⟨W0,HWW,HX0,HB0,-⟩:=sh1 w #[zI v.kd,zI v.me,zI v.mo,zI v.id,zI v.te,zI v.de,zI v.fe,zI v.pr,zI v.ch,zI v.un,zI v.tg,zI v.ow,zI v.bp] 72;have HNO:Hid (∀ W,Calls Tryz.prog 112 #[zI 5] W fun e w'=>e = .panicked (thrown 5)∧w'=W):=fun W=>insist_no 5 (by decide) W;have HKR:Hid (∀ W,Calls Tryz.prog 110 #[.agg #[zI v.kd,zI v.me,zI v.mo,zI v.id,zI v.te,zI v.de,zI v.fe,zI v.pr,zI v.ch,zI v.un,zI v.tg,zI v.ow,zI v.bp]] W fun e w'=>YN W (KindR v) e w'):=fun W=>bkind v.kd v.me v.mo v.id v.te v.de v.fe v.pr v.ch v.un v.tg v.ow v.bp W;have HLE:Hid (∀ W,Calls Tryz.prog 111 #[.agg #[zI v.kd,zI v.me,zI v.mo,zI v.id,zI v.te,zI v.de,zI v.fe,zI v.pr,zI v.ch,zI v.un,zI v.tg,zI v.ow,zI v.bp]] W fun e w'=>e = .returned (leftE v).v∧Below W.heap.size W w'):=fun W=>bleft v W;go_enter Tryz.func67,Tryz.ntmps67;go_upto_region 1 with fail
 rw [HWW.o];clear HWW;obtain ⟨c0,c1,c2,c3,c4,c5,c6,c7,c8,c9,c10,c11,c12⟩:=scl13 HX0;have HW:Hid (Calls Tryz.prog 109 #[zI 0,zI 49,.slice (some ⟨W0.heap.size,0,none⟩) 1 1] (W0.alloc (.cells #[zI v.me] 3)) fun e w'=>e = .returned (.bool (decide (0≤v.me∧v.me≤49)))∧w'=(W0.alloc (.cells #[zI v.me] 3))):=bki.within_one 0 49 v.me W0 _ rfl;have HB1:Hid (Below w.heap.size w (W0.alloc (.cells #[zI v.me] 3))):=HB0.o.alloc HB0.o.size _;have HX1:Hid (Blk (W0.alloc (.cells #[zI v.me] 3)) w.heap.size #[zI v.kd,zI v.me,zI v.mo,zI v.id,zI v.te,zI v.de,zI v.fe,zI v.pr,zI v.ch,zI v.un,zI v.tg,zI v.ow,zI v.bp] 72):=HX0.o.alloc _;by_cases h0:0≤v.me∧v.me≤49
 case neg=>
  rw [decide_eq_false h0] at HW;have HN:Hid (¬ EMay v):=fun q=>h0 (HMI.o.1 q).1;clear h0;go_wp2_with fail;refine HW.o.mono ?_;rintro e W ⟨rfl,hw⟩;subst hw;clear HW;clear HX0 HB0 c0 c1 c2 c3 c4 c5 c6 c7 c8 c9 c10 c11 c12;generalize (W0.alloc (.cells #[zI v.me] 3))=W1 at *;obtain ⟨c0,c1,c2,c3,c4,c5,c6,c7,c8,c9,c10,c11,c12⟩:=scl13 HX1;go_wp2_with fail;refine (HNO.o _).mono ?_;rintro e W9 ⟨rfl,rfl⟩;exact ⟨rfl,.inr ⟨HN.o,rfl⟩,HB1.o⟩
 rw [decide_eq_true h0] at HW;have H0:Hid (0≤v.me∧v.me≤49):=h0;clear h0;go_wp2_with fail;refine HW.o.mono ?_;rintro e W ⟨rfl,hw⟩;subst hw;clear HW HX0 HB0;clear c0 c1 c2 c3 c4 c5 c6 c7 c8 c9 c10 c11 c12;generalize (W0.alloc (.cells #[zI v.me] 3))=W1 at *;obtain ⟨c0,c1,c2,c3,c4,c5,c6,c7,c8,c9,c10,c11,c12⟩:=scl13 HX1;go_wp2_with fail;refine (HKR.o _).mono ?_;rintro e W2 ⟨B,rfl,hB,hb⟩;have HB2:=shB HB1 hb;have HX2:=shN HX1 hb;clear hb HKR HB1 HX1;clear c0 c1 c2 c3 c4 c5 c6 c7 c8 c9 c10 c11 c12;obtain ⟨c0,c1,c2,c3,c4,c5,c6,c7,c8,c9,c10,c11,c12⟩:=scl13 HX2;cases B
 case false=>
  have HN:Hid (¬ EMay v):=fun q=>absurd (hB.2 (HMI.o.1 q).2.1) (by decide);clear hB;go_wp2_with fail;refine (HNO.o _).mono ?_;rintro e W9 ⟨rfl,rfl⟩;exact ⟨rfl,.inr ⟨HN.o,rfl⟩,HB2.o⟩
 have HK:Hid (KindR v):=hB.1 rfl;clear hB;go_wp2_with fail;refine (HLE.o _).mono ?_;rintro e W3 ⟨rfl,hb⟩;have HB3:=shB HB2 hb;clear hb HLE HB2 HX2;clear c0 c1 c2 c3 c4 c5 c6 c7 c8 c9 c10 c11 c12;obtain ⟨B,hB,hBi⟩:=eqEv_any (leftE v) ev0 W3;have HEQ:Hid ((Op.equalIn 10000 72 (.agg (leftE v).cs) (.agg ev0.cs)).run Tryz.prog W3 = .ok B W3):=hB;have HBI:Hid (B=true↔leftE v=ev0):=hBi;clear hB hBi;unfold Ev.v;cases B
 case false=>
  have HN:Hid (¬ EMay v):=fun q=>absurd (HBI.o.2 (HMI.o.1 q).2.2) (by decide);go_wp2_with (first | (refine wp_neE (by rfl) 72 _ _ _ rfl (leftE v).cs ev0.cs rfl rfl (by kernel_rfl) false HEQ.o _ rfl ?_) | fail)
  go_wp2_with fail;refine (HNO.o _).mono ?_;rintro e W9 ⟨rfl,rfl⟩;exact ⟨rfl,.inr ⟨HN.o,rfl⟩,HB3.o⟩
 case true=>
  have HY:Hid (EMay v):=HMI.o.2 ⟨H0.o,HK.o,HBI.o.1 rfl⟩;go_wp2_with (first | (refine wp_neE (by rfl) 72 _ _ _ rfl (leftE v).cs ev0.cs rfl rfl (by kernel_rfl) true HEQ.o _ rfl ?_) | fail)
  go_end0;exact ⟨.inl ⟨HY.o,rfl⟩,HB3.o⟩
end book
namespace disk
open Go.RowKit cell
theorem nothing_done (v:Value) (w:World):Calls Tryz.prog 154 #[v] w fun e w'=>e = .returned (.tuple #[])∧w'=w:=by
 go_enter Tryz.func154,Tryz.ntmps154;go_wp2_with fail;go_end0;exact ⟨rfl,rfl⟩
theorem kappend:KAppend:=by
 intro w a n cap c b m cap2 r h hnil hcap hby hw h2 hnil2 hcap2 hby2 hw2;have hrl:=h2.1;by_cases hmay:1≤m∧m≤64
 ·have HE:Hid (Calls Tryz.prog 62 #[.slice a n cap,.func (.func 154) #[] #[]] w fun e w'=>EPost (fun _ W=>W=w) c e w'):=by
   refine each_any 154 #[] (fun _ W=>W=w) a n cap c w (fun k W hj=>by rw [hj];exact h) rfl hcap hw (fun _ _=>by kernel_rfl) ?_;intro k p m b o W hj hp hit hr h1 h2 h3;refine (nothing_done _ W).mono ?_;rintro e w' ⟨rfl,rfl⟩;exact ⟨rfl,hj⟩
  have HMY:Hid (RMay r):=⟨by omega,by omega⟩
  have HN:Hid (c.length=n∧r.length=m):=⟨h.1,hrl⟩
  have HL:Hid (∀ p:Nat,p≤2048→n≤2048→Calls Tryz.prog 155 #[.slice b m cap2,zI (p:Int),zI (n:Int)] w fun e w'=>∃ V,e = .returned V∧Lw w' w.heap.size V (appW c p r)∧Below w.heap.size w w'):=fun p hp hn=>laying_any b m cap2 r c p n w h2 hmay.1 hmay.2 hp hn h.1;obtain ⟨hm1,hm2⟩:=hmay;have d1:decide ((m:Int)<1)=false:=by simp;omega
  have d2:decide ((64:Int)<(m:Int))=false:=by simp;omega
  clear h hnil hcap hby hw h2 hnil2 hcap2 hby2 hw2 hrl;go_enter Tryz.func108,Tryz.ntmps108;go_wp2_with fail;refine HE.o.mono ?_;rintro e w1 ⟨x,f,k,rfl,hj,hi⟩;subst hj;have HI:Hid ((¬ May c∧x=0∧f=1)∨(May c∧lenAt c (repD c).2<0∧x=0∧f=3)∨(May c∧lenAt c (repD c).2=0∧repD c=itD c k∧x=((repD c).2:Int)∧f=0)):=hi;clear hi HE d1 d2;by_cases hf:f=0
  ·obtain ⟨hmy,hl0,hx⟩:May c∧lenAt c (repD c).2=0∧x=((repD c).2:Int):=by
    rcases HI.o with ⟨_,_,e⟩ | ⟨_,_,_,e⟩ | ⟨q1,q2,_,q4,_⟩
    ·rw [hf] at e;exact absurd e (by decide)
    ·rw [hf] at e;exact absurd e (by decide)
    ·exact ⟨q1,q2,q4⟩
   have HPB:Hid ((repD c).2≤n):=by show _≤_;rw [← HN.o.1];exact rep_bound c
   have HFU:Hid (n≤(repD c).2+m→AppIs c r [] 16):=fun hh=> .inr (.inr (.inr (.inl ⟨HMY.o,hmy,hl0,by rw [HN.o.1,HN.o.2];exact hh,rfl,rfl⟩)));have HOK:Hid ((repD c).2+m<n→AppIs c r (appW c (repD c).2 r) 0):=fun hh=> .inr (.inr (.inr (.inr ⟨HMY.o,hmy,hl0,by rw [HN.o.1,HN.o.2];exact hh,rfl,rfl⟩)));have hn2:n≤2048:=by have:=hmy.2;rw [HN.o.1] at this;exact this
   subst hf;subst hx;clear HI hmy hl0 HMY;generalize (repD c).2=p at *;have hpn:=HPB.o;clear HPB;by_cases hfu:n≤p+m
   ·have HA:Hid (AppIs c r [] 16):=HFU.o hfu;have e1:decide ((n:Int)<(p:Int)+1+(m:Int))=true:=by simp;omega
    clear HFU HOK HL;go_wp2_with fail;go_ret2;exact ⟨none,0,0,[],16,rfl,RowW.nil _ _,(fun x hx=>by cases hx),Nat.le_refl _,Nat.zero_le _,HA.o,Below.refl _ _⟩
   ·have HA:Hid (AppIs c r (appW c p r) 0):=HOK.o (by omega);have e1:decide ((n:Int)<(p:Int)+1+(m:Int))=false:=by simp;omega
    have HL1:=HL.o p (by omega) hn2;have HLY:Hid (Calls Tryz.prog 155 #[.slice b m cap2,zI (p:Int),zI (n:Int)] w1 fun e w'=>∃ V,e = .returned V∧Lw w' w1.heap.size V (appW c p r)∧Below w1.heap.size w1 w'):=HL1;clear HFU HOK HL HL1;go_wp2_with fail;refine HLY.o.mono ?_;rintro e w2 ⟨V,rfl,hlw,hb⟩;obtain ⟨va,vc,rfl,hrow,_,hle,_⟩:=hlw.row
    have HNW:Hid (∀ x,va=some x→w1.heap.size≤x.block):=fun x hx=>by
     subst hx;exact (World.ownsRow.lt hlw x.block rfl).1
    have HRW:Hid (RowW w2 va (appW c p r).length (appW c p r)):=hrow;have HLE:Hid ((appW c p r).length≤vc):=hle;have HFW:Hid ((appW c p r).length≤100000):=Nat.le_trans (app_few HA.o) (by decide);have HB2:Hid (Below w1.heap.size w1 w2):=hb;clear hlw hb hrow hle HLY;generalize appW c p r=ls at *;generalize hzl:ls.length=zl at *;clear hzl;go_wp2_with fail;go_ret2;exact ⟨va,_,vc,ls,0,rfl,HRW.o,HNW.o,HLE.o,HFW.o,HA.o,HB2.o⟩
  ·have HA:Hid (AppIs c r [] f):=by
    rcases HI.o with ⟨q1,_,rfl⟩ | ⟨q1,q2,_,rfl⟩ | ⟨_,_,_,_,e⟩
    ·exact .inr (.inl ⟨HMY.o,q1,rfl,rfl⟩)
    ·exact .inr (.inr (.inl ⟨HMY.o,q1,q2,rfl,rfl⟩))
    ·exact absurd e hf
   have hne:(f != 0)=true:=by simpa using hf
   clear HI hf HL;go_wp2_with fail;go_ret2;exact ⟨none,0,0,[],f,rfl,RowW.nil _ _,(fun x hx=>by cases hx),Nat.le_refl _,Nat.zero_le _,HA.o,Below.refl _ _⟩
 ·have HA:Hid (AppIs c r [] 1):= .inl ⟨fun h=>hmay ⟨by rw [← hrl];exact h.1,by rw [← hrl];exact h.2⟩,rfl,rfl⟩;clear h hnil hcap hby hw h2 hnil2 hcap2 hby2 hw2 hrl;go_enter Tryz.func108,Tryz.ntmps108;by_cases h1:1≤m
  ·have d1:decide ((m:Int)<1)=false:=by simp;omega
   have d2:decide ((64:Int)<(m:Int))=true:=by simp;omega
   go_wp2_with fail;go_ret2;exact ⟨none,0,0,[],1,rfl,RowW.nil _ _,(fun x hx=>by cases hx),Nat.le_refl _,Nat.zero_le _,HA.o,Below.refl _ _⟩
  ·have d1:decide ((m:Int)<1)=true:=by simp;omega
   go_wp2_with fail;go_ret2;exact ⟨none,0,0,[],1,rfl,RowW.nil _ _,(fun x hx=>by cases hx),Nat.le_refl _,Nat.zero_le _,HA.o,Below.refl _ _⟩
end disk
namespace words
open Go.RowKit
theorem overStep_any (B M:Nat) (n x d:Int) (w:World) (hc:w.cell? ⟨B,0,none⟩=some (.int .u64 n)) (hf:w.frozen? ⟨B,0,none⟩=false) (hm:w.cell? ⟨M,0,none⟩=some (.int .u32 d)) (hBM:M≠B) (n0:0≤n) (n1:n<d) (x0:0≤x) (x1:x<4294967296) (d0:0<d) (d1:d<4294967296) :
  Calls Tryz.prog 134 #[.int .u32 x,.pointer (some ⟨B,0,none⟩),.pointer (some ⟨M,0,none⟩)] w fun e w'=>e = .returned (.int .u32 ((n*4294967296+x) / d))∧Acc w w' B (.int .u64 ((n*4294967296+x) % d)):=by
 have hA:Acc w w B (.int .u64 n):=Acc.refl hc hf;have HA:Hid (Acc w w B (.int .u64 n)):=hA;have hor:=or_words n x n0 (by omega) x0 x1;have q:=word_div d0 n0 n1 x0 x1;obtain ⟨q0,q1⟩:=q;have r0:0≤(n*4294967296+x) % d:=Int.emod_nonneg _ (by omega);have r1:(n*4294967296+x) % d<d:=Int.emod_lt_of_pos _ d0;clear hA;go_enter Tryz.func134,Tryz.ntmps134;go_wp2_with fail;go_ret;exact ⟨rfl,HA.o.set _⟩
theorem run_overStep (args:Array Value) (w:World):(callFunc 134 args).run Tryz.prog w = .ok (.enter 134 args) w:=by kernel_rfl
theorem over_any (x:W3) (d:Int) (w:World) (hx:x.ok) (d0:0<d) (d1:d<4294967296) :
  Calls Tryz.prog 88 #[wv x,.int .u32 d] w fun e w'=>e = .returned (.tuple #[wv (overW x d),.int .u32 (overR x d),zI 0])∧Below w.heap.size w w':=by
 obtain ⟨x0,x1,x2⟩:=x;obtain ⟨⟨h0,h0'⟩,⟨h1,h1'⟩,h2,h2'⟩:=hx;simp only at h0 h0' h1 h1' h2 h2';have hd0:(d == 0)=false:=by simp;omega
 go_enter Tryz.func88,Tryz.ntmps88;go_wp2_with fail;have hc:=trio_d w #[.int .u32 x0,.int .u32 x1,.int .u32 x2] (.int .u32 d) 99 (.int .u32 0) (.int .u32 0) (.int .u32 0) (.int .u64 0) 223;have hb3:=bel4 w (.cells #[.int .u32 x0,.int .u32 x1,.int .u32 x2] 131) (.cells #[.int .u32 d] 99) (.cells #[.int .u32 0,.int .u32 0,.int .u32 0] 131) (.cells #[.int .u64 0] 223);have e0:(0:Int)*4294967296+x2=x2:=by omega
 have r2:0≤x2 % d:=Int.emod_nonneg _ (by omega);have r2':x2 % d<d:=Int.emod_lt_of_pos _ d0;have r1:0≤((x2 % d)*4294967296+x1) % d:=Int.emod_nonneg _ (by omega);have r1':((x2 % d)*4294967296+x1) % d<d:=Int.emod_lt_of_pos _ d0
 refine (downward_any 134 #[.pointer (some ⟨w.heap.size+1+1+1,0,none⟩),.pointer (some ⟨w.heap.size+1,0,none⟩)] (w.heap.size+1+1+1) (.int .u64 0) (.int .u64 (x2 % d)) (.int .u64 (((x2 % d)*4294967296+x1) % d)) (.int .u64 (((((x2 % d)*4294967296+x1) % d)*4294967296+x0) % d)) x0 x1 x2
  (((((x2 % d)*4294967296+x1) % d)*4294967296+x0) / d) (((x2 % d)*4294967296+x1) / d) (x2 / d) _ (Acc.refl hc.1 hc.2.1) run_overStep
  (fun w' h=>by have:=overStep_any (w.heap.size+1+1+1) (w.heap.size+1) 0 x2 d w' h.cell h.free (h.keep hc.2.2.2 (by omega)) (by omega) (by omega) (by omega) h2 h2' d0 d1;rw [e0] at this;exact this)
  (fun w' h=>overStep_any _ _ _ _ _ w' h.cell h.free (h.keep hc.2.2.2 (by omega)) (by omega) r2 r2' h1 h1' d0 d1)
  (fun w' h=>overStep_any _ _ _ _ _ w' h.cell h.free (h.keep hc.2.2.2 (by omega)) (by omega) r1 r1' h0 h0' d0 d1)).mono ?_
 rintro e w1 ⟨he,hA⟩;have hR:Trio w1 (w.heap.size+1+1) (.int .u32 0) (.int .u32 0) (.int .u32 0):=hc.2.2.1.acc hA (by omega);have HB:Hid (Below w.heap.size w w1):=hA.below hb3 (by omega);have hcell:=hA.cell;have hsz:w.heap.size+1+1+1<w1.heap.size:=Nat.lt_of_lt_of_le hA.old hA.size;have z0:0≤((((x2 % d)*4294967296+x1) % d)*4294967296+x0) % d:=Int.emod_nonneg _ (by omega);have z1:((((x2 % d)*4294967296+x1) % d)*4294967296+x0) % d<d:=Int.emod_lt_of_pos _ d0
 have HE:Hid (Ending.returned (.tuple #[wv (overW ⟨x0,x1,x2⟩ d),.int .u32 (overR ⟨x0,x1,x2⟩ d),zI 0])=Ending.returned (.tuple #[.agg #[.int .u32 (((((x2 % d)*4294967296+x1) % d)*4294967296+x0) / d),.int .u32 (((x2 % d)*4294967296+x1) / d),.int .u32 (x2 / d)],.int .u32 (((((x2 % d)*4294967296+x1) % d)*4294967296+x0) % d),zI 0])):=by
  have:Ending.returned (.tuple #[wv (overW ⟨x0,x1,x2⟩ d),.int .u32 (overR ⟨x0,x1,x2⟩ d),zI 0])=Ending.returned (.tuple #[.agg #[.int .u32 (((((x2 % d)*4294967296+x1) % d)*4294967296+x0) / d),.int .u32 (((x2 % d)*4294967296+x1) / d),.int .u32 (x2 / d)],.int .u32 (((((x2 % d)*4294967296+x1) % d)*4294967296+x0) % d),zI 0]):=rfl;exact this
 clear hA hc hb3 e0 r1 r1' r2 r2';have HE2:Hid (e = .returned (.agg #[.int .u32 (((((x2 % d)*4294967296+x1) % d)*4294967296+x0) / d),.int .u32 (((x2 % d)*4294967296+x1) / d),.int .u32 (x2 / d)])):=he;clear he;generalize hz:((((x2 % d)*4294967296+x1) % d)*4294967296+x0) % d=z at hcell z0 z1 HE HE2;generalize hy0:((((x2 % d)*4294967296+x1) % d)*4294967296+x0) / d=y0 at HE HE2;generalize hy1:((x2 % d)*4294967296+x1) / d=y1 at HE HE2;generalize hy2:x2 / d=y2 at HE HE2;clear hz hy0 hy1 hy2;obtain rfl:=HE2.o;clear HE2;have hR:=hR.alloc (.cells #[.int .u32 y0,.int .u32 y1,.int .u32 y2] 131);have r0:=hR.c0;have r1:=hR.c1;have r2:=hR.c2;have g0:=hR.free 0;have g1:=hR.free 1;have g2:=hR.free 2;have HR:Hid (Trio (w1.alloc (.cells #[.int .u32 y0,.int .u32 y1,.int .u32 y2] 131)) (w.heap.size+1+1) (.int .u32 0) (.int .u32 0) (.int .u32 0)):=hR;clear hR;go_wp2_with fail;go_region
 all_goals go_wp2_with fail
 have RR:=((HR.o.set0 (.int .u32 y0)).set1 (.int .u32 y1)).set2 (.int .u32 y2);refine bodyPost_ret (v:= .tuple #[.agg #[.int .u32 y0,.int .u32 y1,.int .u32 y2],.int .u32 z,zI 0]) (by simp [results,Tryz.results88,RR.c0,RR.c1,RR.c2,go_sem]) rfl ⟨HE.o.symm,?_⟩;exact below_put (HB.o.alloc HB.o.size _) _ _ _ _ _ _ _ (by omega)
end words
namespace acc
open Go.ChangeShapes Go.WideShapes Go.ChangeAt Go.RowKit Go.Deep
theorem open_deal {H:Type} {enc:TypeId × Value→H} {W:World} {r:Reach} {b0 b1:Nat} {held:Bool} {v:Value} {d:DataW H} {ps:List MemPlace}
  (hval:Value.okWide Tryz.prog W r b0 35 v) (h:DataW.Trod enc Tryz.prog W b1 (fun _=>true) held 35 v d ps) (hs:∀ n∈d.weights Tryz.prog 35,n≤reachBytes) :
  ∃ (x:Tm) (p:Option Addr) (len cap:Nat),v=x.v p len cap∧TCame W x p len cap:=by
 have hu:=Tryz.underlying35;have hc:Tryz.prog.cellsOf 35=5:=by kernel_rfl
 have ci:Tryz.prog.cellsOf 3=1:=by kernel_rfl
 have csl:Tryz.prog.cellsOf 33=1:=by kernel_rfl
 obtain ⟨cs,rfl,hsz⟩:=okWide_struct hu hval;rw [hc] at hsz
 obtain ⟨c0,c1,c2,c3,c4,rfl⟩:∃ c0 c1 c2 c3 c4,cs=#[c0,c1,c2,c3,c4]:=by
  cases cs with
  | mk l=>match l,hsz with
   | [c0,c1,c2,c3,c4],_=>exact ⟨c0,c1,c2,c3,c4,rfl⟩
 obtain ⟨fuel,hf⟩:=h;obtain ⟨xs,n,hx,hd,_,hlen,hg⟩:=DataW.trod_struct hu hf
 match xs,hlen with
 | [y0,y1,y2,y3,y4],_=>
  have g0:=hg 0 _ rfl;have g1:=hg 1 _ rfl;have g2:=hg 2 _ rfl;have g3:=hg 3 _ rfl;have g4:=hg 4 _ rfl;simp [Value.cells,ci,csl] at g0 g1 g2 g3 g4;obtain ⟨x1,e1,-,w1⟩:=DataW.trod_int Tryz.underlying3 g1;obtain ⟨x2,e2,-,w2⟩:=DataW.trod_int Tryz.underlying3 g2;obtain ⟨x3,e3,-,w3⟩:=DataW.trod_int Tryz.underlying3 g3;obtain ⟨x4,e4,-,w4⟩:=DataW.trod_int Tryz.underlying3 g4;simp at e1 e2 e3 e4;subst e1 e2 e3 e4;rcases Deep.open_slice_pairs Tryz.underlying33 Tryz.underlying196 (by kernel_rfl) rfl rfl (by kernel_rfl) (by kernel_rfl) g0 with ⟨hcs,_⟩ | ⟨x,l,c,mm,fu,V0,V1,D0,D1,P0,P1,hcs,_,hl,hm,hmm,hy,hall⟩
  ·simp at hcs;subst hcs;exact ⟨⟨[],x1,x2,x3,x4⟩,none,0,0,rfl,⟨tar.RowD.nil _ _,(fun _=>rfl),Nat.le_refl _,by omega,(fun x hx=>by cases hx)⟩,⟨w1,w2,w3,w4⟩⟩
  ·simp at hcs;subst hcs;simp only [if_true] at hmm;subst hmm
   have hr:=tar.rowD_of (len:=l) (w:=W) (a:=x) (m:=mm) (by omega) (fun j hj=>by
    obtain ⟨k0,k1,t0,t1⟩:=hall j hj;obtain ⟨z0,hv0,_,hw0⟩:=DataW.trod_int Tryz.underlying3 t0;obtain ⟨z1,hv1,_,hw1⟩:=DataW.trod_int Tryz.underlying3 t1;simp only [List.cons.injEq,and_true] at hv0 hv1;rw [hv0] at k0;rw [hv1] at k1
    exact ⟨z0,z1,k0,k1,hw0,hw1⟩)
   obtain ⟨zs,r1,r2⟩:=hr;subst hy;obtain ⟨hd1,_⟩:=Prod.mk.inj hd;subst hd1;have h1:=hs ((l+(mm - l))*Tryz.prog.bytesOf 196) (by simp [DataW.weights,hu,DataW.weightsEach,Tryz.underlying33]);rw [show Tryz.prog.bytesOf 196=16 from by kernel_rfl] at h1;simp only [reachBytes] at h1;exact ⟨⟨zs,x1,x2,x3,x4⟩,some x,l,mm,rfl,⟨r1,(fun h=>by cases h),hl,by omega,r2⟩,⟨w1,w2,w3,w4⟩⟩
end acc
end Go.Proofs.YtnpblpbohcegoaaGreatDoor
