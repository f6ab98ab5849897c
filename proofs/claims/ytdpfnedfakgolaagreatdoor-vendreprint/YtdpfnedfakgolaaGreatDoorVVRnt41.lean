import Derived.Test.YtdpfnedfakgolaaGreatDoorVVRnt29
import Derived.Test.YtdpfnedfakgolaaGreatDoorVVRnt34
import Derived.Test.YtdpfnedfakgolaaGreatDoorVVRnt39
import Derived.Test.YtdpfnedfakgolaaGreatDoorVVRnt40
set_option linter.unusedVariables false
set_option linter.unusedSimpArgs false
set_option maxHeartbeats 4000000
set_option maxRecDepth 100000
namespace Go.Proofs.YtdpfnedfakgolaaGreatDoor
namespace book
open Go.RowKit
open acc (Ac Tm Bi APost BPost TFault TRight OpenIs OweIs SellIs GrantIs RekeyIs wf6 ACame TCame fresh_updN fresh_drew came_lt)
theorem ev_me {v:Ev} (h:EMay v):0≤v.me∧v.me≤49:=by unfold EMay at h;omega
theorem ev_kd {v:Ev} (h:EMay v) (h1:v.kd≠1) (h5:v.kd≠5):v.kd=2∨v.kd=3∨v.kd=4:=by unfold EMay at h;omega
theorem ev_ow {v:Ev} (h:EMay v):(Lit.int .i64 v.ow).wf=true∧(Lit.int .i64 v.bp).wf=true:=by
 have:(0≤v.ow∧v.ow≤1000000000)∧0≤v.bp∧v.bp≤10000:=by unfold EMay at h;omega
 exact ⟨wf_i (by omega) (by omega),wf_i (by omega) (by omega)⟩
theorem charge_wr {w0:World} {base gW B:Nat} {t:Tm} {pt:Option Addr} {lt ct g n cap:Nat} {xs:List Cu} {bk:List Cm} {k:Nat} {v:Ev} {y b:Ac} {sol:List So} {dp pb:Option Addr} {dn dc lb cb:Nat} {sp:Option Addr} {sn sc:Nat} {cur:Array Value} {w w1 WF:World}
  (h:Wr w0 base gW B t pt lt ct (.slice (some ⟨g,0,none⟩) n cap) xs bk w) (hk:k<xs.length) (hx:xs.getD k cu0=⟨y.me,y.rv,y.nx,y.mo,y.bo,y.fr,dp,dn,dc,sp,sn,sc⟩) (hc:bk.getD k cm0=⟨y,sol⟩) (hcb:Blk w g cur 64) (hcs:k*8+8≤cur.size) (hc7:cur[k*8+7]?=some (.slice sp sn sc))
  (hm:EMay v) (hh:HapIs t ⟨y,sol⟩ v ⟨b,sol⟩ 0) (hb:Below w.heap.size w w1) (hf:deb.Fresh w1 w.heap.size pb lb cb b.ds) (hU:Upd w1 WF g (putAll cur (k*8) [zI b.me,zI b.rv,zI b.nx,zI b.mo,zI b.bo,zI b.fr,.slice pb lb cb]) 64) :
  WPost w0 base gW B t pt lt ct (HapR t bk k v) w (.returned (.tuple #[])) WF:=by
 have hx0:=h.hold.has k hk;have hoff:=h.hold.off k hk;rw [hc] at hx0;rw [hx] at hx0 hoff;have HOI:∀ i,(Value.slice sp sn sc).ownBlock=some i→i<w.heap.size∧base≤i∧i≠g:=fun i hi=>⟨(World.ownsRow.lt hx0.so i hi).2,(World.ownsRow.lt hx0.so i hi).1,fun e=>hoff.1 i hi (by rw [e];rfl)⟩;have hgb:base≤g:=(World.ownsRow.lt h.hold.row g rfl).1;have hgl:=hcb.lt;have hsz0:=h.sz;have hbb:=hU.bel 0 w1 (Nat.zero_le _) (Below.refl _ _);have hO:∀ i,i<w.heap.size→i≠g→WF.heap[i]?=w.heap[i]?:=fun i h1 h2=>by rw [hU.oth i h2];exact hb.block i h1
 have hos:WF.os=w.os∧WF.tape=w.tape∧WF.output=w.output:=⟨hbb.os.trans hb.os,hbb.tape.trans hb.tape,hbb.output.trans hb.output⟩
 have hsz:w.heap.size≤WF.heap.size:=by rw [hU.size];exact hb.size
 have hw:=hap_wf hh hm;refine ⟨⟨hos.1,hos.2.1,hos.2.2,hsz,fun i h1 _ _=>hO i (by omega) (by omega)⟩,.inl ⟨.slice (some ⟨g,0,none⟩) n cap,xs.set k ⟨b.me,b.rv,b.nx,b.mo,b.bo,b.fr,pb,lb,cb,sp,sn,sc⟩,bk.set k ⟨b,sol⟩,rfl,⟨⟨b,sol⟩,by rw [hc];exact hh,fun _=>rfl⟩,fun hsm=>?_⟩⟩;refine put_wr h hk hx hcb (fun i h1 h2 _=>hO i h1 h2) hsz hos (x':=⟨b.me,b.rv,b.nx,b.mo,b.bo,b.fr,pb,lb,cb,sp,sn,sc⟩) ⟨⟨rfl,rfl,rfl,rfl,rfl,rfl⟩,⟨acc_upd hf.came hU (fun hn p hp q=>by have:=hf.new hn p hp;omega),fun hn p hp=>by have:=hf.new hn p hp;omega⟩,?_⟩ hw.1 (by rw [hc];exact hw.2) (fun i hi=> .inl hi) (fun hn p hp=>hf.new hn p hp) (fun i hi hn p hp q=>by have h1:=(HOI i hi).1;have h2:=hf.new hn p hp;omega) ?_ hsm
 ·exact lo_upd (hx0.so.next hb) hU (fun i hi=>(HOI i hi).2.2)
 ·have e1:putAll cur (k*8) ([zI b.me,zI b.rv,zI b.nx,zI b.mo,zI b.bo,zI b.fr,.slice pb lb cb]++[.slice sp sn sc])=putAll cur (k*8) [zI b.me,zI b.rv,zI b.nx,zI b.mo,zI b.bo,zI b.fr,.slice pb lb cb]:=by
   rw [← putAll_more];apply Array.ext_getElem?;intro j;by_cases hj:j=k*8+7
   ·subst hj;rw [show k*8+([zI b.me,zI b.rv,zI b.nx,zI b.mo,zI b.bo,zI b.fr,.slice pb lb cb]:List Value).length=k*8+7 from rfl,Array.getElem?_setIfInBounds_self_of_lt (by rw [putAll_size];omega),putAll_get _ _ _ _ (by simp;omega),if_neg (by simp only [List.length_cons,List.length_nil];omega),hc7]
   ·rw [Array.getElem?_setIfInBounds_ne (by simp only [List.length_cons,List.length_nil];omega)]
  have e2:(⟨b.me,b.rv,b.nx,b.mo,b.bo,b.fr,pb,lb,cb,sp,sn,sc⟩:Cu).cs=[zI b.me,zI b.rv,zI b.nx,zI b.mo,zI b.bo,zI b.fr,.slice pb lb cb]++[.slice sp sn sc]:=rfl;rw [e2,e1];exact hU.blk
theorem bhappen (w0:World) (base gW B:Nat) (t:Tm) (pt:Option Addr) (lt ct:Nat) (a:Option Addr) (n cap:Nat) (xs:List Cu) (bk:List Cm) (v:Ev) (w:World) (h:Wr w0 base gW B t pt lt ct (.slice a n cap) xs bk w) (ht:TCame w0 t pt lt ct):Calls Tryz.prog 77 #[.pointer (some ⟨gW,0,none⟩),.agg #[zI v.kd,zI v.me,zI v.mo,zI v.id,zI v.te,zI v.de,zI v.fe,zI v.pr,zI v.ch,zI v.un,zI v.tg,zI v.ow,zI v.bp]] w fun e w'=>WPost w0 base gW B t pt lt ct (StepIs t bk v) w e w':=by
 have HMU:Hid (∀ W,Calls Tryz.prog 104 #[.agg #[zI v.kd,zI v.me,zI v.mo,zI v.id,zI v.te,zI v.de,zI v.fe,zI v.pr,zI v.ch,zI v.un,zI v.tg,zI v.ow,zI v.bp]] W fun e w'=>MustPost W v e w'):=fun W=>bmust v W;have HR:Hid (Wr w0 base gW B t pt lt ct (.slice a n cap) xs bk w):=h;have HT:Hid (TCame w0 t pt lt ct):=ht;have HSZ:Hid (base≤w.heap.size):=h.sz;clear h ht;obtain ⟨W0,HWW,H0v,H0B,-⟩:=sh1 w #[zI v.kd,zI v.me,zI v.mo,zI v.id,zI v.te,zI v.de,zI v.fe,zI v.pr,zI v.ch,zI v.un,zI v.tg,zI v.ow,zI v.bp] 125;go_enter Tryz.func77,Tryz.ntmps77;go_upto_region 1 with fail
 rw [HWW.o];clear HWW
 go_wp2_with (first
  | (refine zqw rfl rfl rfl H0v zqu125 ?_)
  | fail)
 refine (HMU.o _).mono ?_;rintro e W1 ⟨hm,hb⟩;have H1v:=shN H0v hb;have H1B:=shB H0B hb;clear H0v H0B;clear hb HMU;rcases hm with ⟨hm,rfl⟩ | ⟨hm,rfl⟩
 case inr=>
  exact ⟨rfl,.of H1B.o HSZ.o,.inr ⟨5,[],by decide,rfl,.inl ⟨hm,rfl⟩⟩⟩
 have HMA:Hid (EMay v):=hm;have HGN:Hid (∀ cur,¬ Blk W1 w.heap.size cur 64):=fun cur q=>by have h1:W1.heap[w.heap.size]?=_:=H1v.o;have h2:W1.heap[w.heap.size]?=_:=q;rw [h1] at h2;simp at h2
 clear hm;have HR1:Hid (Wr w0 base gW B t pt lt ct (.slice a n cap) xs bk W1):=HR.o.next H1B.o;have HK1:Hid (Kp base gW B w W1):= .of H1B.o HSZ.o;clear HR;have hgv:w.heap.size<W1.heap.size:=H1v.o.lt;have c0:W1.cell? ⟨w.heap.size,0,none⟩=some (zI v.kd):=H1v.o.cell 0;have c1:W1.cell? ⟨w.heap.size,1,none⟩=some (zI v.me):=H1v.o.cell 1;by_cases k1:v.kd=1
 case pos=>
  have q1:(v.kd == 1)=true:=by simpa using k1
  have HK:Hid (v.kd=1):=k1;clear k1;have HRG:Hid (Calls Tryz.prog 115 #[.pointer (some ⟨gW,0,none⟩),zI v.me] W1 fun e w'=>WPost w0 base gW B t pt lt ct (RegR bk v.me) W1 e w'):=breg w0 base gW B t pt lt ct a n cap xs bk v.me W1 HR1.o (ev_me HMA.o);go_wp2_with fail;refine HRG.o.mono ?_;intro e w9 hp;have hq:=hp.back (R':=StepIs t bk v) HK1.o (fun b f hr=>by rcases hr with ⟨h1,rfl⟩ | ⟨h1,rfl,rfl⟩;exact .inr (.inl ⟨HMA.o,HK.o,h1,rfl⟩);exact .inr (.inr (.inl ⟨HMA.o,HK.o,h1,rfl,rfl⟩)));have HQ:Hid (WPost w0 base gW B t pt lt ct (StepIs t bk v) w e w9):=hq;clear hp hq;rcases HQ.o.2 with ⟨V3,xs3,bk3,rfl,_⟩ | ⟨f,bk3,_,rfl,_⟩
  ·go_wp2_with fail;go_end0;exact HQ.o
  ·exact ⟨rfl,HQ.o⟩
 have q1:(v.kd == 1)=false:=by simpa using k1
 have HN1:Hid (v.kd≠1):=k1;clear k1
 have HCU:Hid (Calls Tryz.prog 116 #[.pointer (some ⟨gW,0,none⟩),zI v.me] W1 fun e w'=>CuPost W1 a bk v.me e w'):=by
  have hl:xs.length=n:=by obtain ⟨_,_,hv,_⟩:=HR1.o.hold.row.row;injection hv with _ e1 _;exact e1.symm
  refine bcust gW B t pt lt ct a n cap bk v.me W1 HR1.o.blk HR1.o.mp (by rw [← HR1.o.hold.len,hl]) (fun hn=>?_) (by have:=HR1.o.few.1;have:=HR1.o.hold.len;omega);obtain ⟨g,cur,e1,_⟩:=at_cust HR1.o.hold.row (k:=0) (by omega);exact ⟨g,e1⟩
 go_wp2_with fail;refine HCU.o.mono ?_;rintro e w9 ⟨hw9,hcu⟩;obtain rfl:W1=w9:=hw9.symm;clear HCU;rcases hcu with ⟨k,g,hfa,rfl,rfl⟩ | ⟨hno,rfl⟩
 case inr=>
  exact ⟨rfl,HK1.o,.inr ⟨18,[],by decide,rfl,.inr (.inr (.inr (.inl ⟨HMA.o,HN1.o,hno,rfl⟩)))⟩⟩
 have HFA:Hid (FirstAt bk v.me k):=hfa;have HKL:Hid (k<xs.length):=by show _<_;rw [HR1.o.hold.len];exact hfa.1
 clear hfa;by_cases k5:v.kd=5
 case neg=>
  have q5:(v.kd == 5)=false:=by simpa using k5
  have HN5:Hid (v.kd≠5):=k5;clear k5;have HSE:Hid (Calls Tryz.prog 118 #[.pointer (some ⟨gW,0,none⟩),.pointer (some ⟨g,k*8,none⟩),.agg #[zI v.kd,zI v.me,zI v.mo,zI v.id,zI v.te,zI v.de,zI v.fe,zI v.pr,zI v.ch,zI v.un,zI v.tg,zI v.ow,zI v.bp]] W1 fun e w'=>WPost w0 base gW B t pt lt ct (HapR t bk k v) W1 e w'):=bsell w0 base gW B t pt lt ct g n cap xs bk k v W1 HR1.o HKL.o HT.o HMA.o (ev_kd HMA.o HN1.o HN5.o);generalize k*8=O at *
  go_wp2_with (first
   | (refine zqw rfl rfl rfl H1v zqu125 ?_)
   | fail)
  refine HSE.o.mono ?_;intro e w9 hp;have hq:=hp.back (R':=StepIs t bk v) HK1.o (fun b f hr=>by obtain ⟨c',h1,h2⟩:=hr;exact .inr (.inr (.inr (.inr ⟨HMA.o,HN1.o,k,c',HFA.o,h1,h2⟩))));have HQ:Hid (WPost w0 base gW B t pt lt ct (StepIs t bk v) w e w9):=hq;clear hp hq;rcases HQ.o.2 with ⟨V3,xs3,bk3,rfl,_⟩ | ⟨f,bk3,_,rfl,_⟩
  ·go_wp2_with fail;go_end0;exact HQ.o
  ·exact ⟨rfl,HQ.o⟩
 have q5:(v.kd == 5)=true:=by simpa using k5
 have HK5:Hid (v.kd=5):=k5;clear k5;have hx0:=HR1.o.hold.has k HKL.o;have hwf0:wf6 (bk.getD k cm0).a:=HR1.o.wf _ (getD_in (by rw [← HR1.o.hold.len];exact HKL.o));obtain ⟨c,hc⟩:∃ c,bk.getD k cm0=c:=⟨_,rfl⟩
 obtain ⟨x,hx⟩:∃ x,xs.getD k cu0=x:=⟨_,rfl⟩
 obtain ⟨g',cur,e1,hgb,hcb,hcs,hcc⟩:=at_cust HR1.o.hold.row HKL.o;obtain rfl:g=g':=by injection e1 with e1;injection e1
 clear e1;rw [hc] at hx0 hwf0;rw [hx] at hx0 hcc;obtain ⟨y,sol⟩:=c;obtain ⟨dp,dn,dc,sp,sn,sc,rfl⟩:=cuA_of hx0.num;have HX:Hid (xs.getD k cu0=(⟨y.me,y.rv,y.nx,y.mo,y.bo,y.fr,dp,dn,dc,sp,sn,sc⟩:Cu)):=hx;have HC:Hid (bk.getD k cm0=⟨y,sol⟩):=hc;have HCB:Hid (Blk W1 g cur 64):=hcb;have HCS:Hid (k*8+8≤cur.size):=hcs;have hgl:g<W1.heap.size:=hcb.lt;have hgv2:g≠w.heap.size:=fun q=>HGN.o cur (by rw [← q];exact hcb);have HOW:Hid (Calls Tryz.prog 117 #[.agg #[zI y.me,zI y.rv,zI y.nx,zI y.mo,zI y.bo,zI y.fr,.slice dp dn dc],.agg #[zI v.ow,zI v.bp]] W1.drew fun e w'=>OwPost W1.drew y ⟨v.ow,v.bp⟩ e w'):=bowing y dp dn dc ⟨v.ow,v.bp⟩ W1.drew ⟨hx0.ds.came.below (Below.refl _ _).drew,hwf0⟩ (ev_ow HMA.o);have HC0:Hid (cur[k*8+0]?=some (zI y.me)):=hcc 0 (by decide);have HC1:Hid (cur[k*8+1]?=some (zI y.rv)):=hcc 1 (by decide);have HC2:Hid (cur[k*8+2]?=some (zI y.nx)):=hcc 2 (by decide);have HC3:Hid (cur[k*8+3]?=some (zI y.mo)):=hcc 3 (by decide);have HC4:Hid (cur[k*8+4]?=some (zI y.bo)):=hcc 4 (by decide);have HC5:Hid (cur[k*8+5]?=some (zI y.fr)):=hcc 5 (by decide);have HC6:Hid (cur[k*8+6]?=some (.slice dp dn dc)):=hcc 6 (by decide);have HC7:Hid (cur[k*8+7]?=some (.slice sp sn sc)):=hcc 7 (by decide);clear hcc hx hc hx0 hwf0 hgb hcs;obtain ⟨O,hO⟩:∃ O,k*8=O:=⟨_,rfl⟩
 have HO:Hid (k*8=O):=hO;rw [hO] at HCS HC0 HC1 HC2 HC3 HC4 HC5 HC6 HC7;rw [hO];clear hO;go_wp2_with fail;clear q1 q5 c0 c1;refine wp_region_held_drew (S:=fun u=>Blk u w.heap.size #[zI v.kd,zI v.me,zI v.mo,zI v.id,zI v.te,zI v.de,zI v.fe,zI v.pr,zI v.ch,zI v.un,zI v.tg,zI v.ow,zI v.bp] 125) (by kernel_rfl) (show _ from Blk.drew H1v.o 1) (fun hHeld=>?_);have z0:W1.drew.cell? ⟨g,O,none⟩=some (zI y.me):=(HCB.o.cell (O+0)).trans HC0.o;have z1:W1.drew.cell? ⟨g,O+1,none⟩=some (zI y.rv):=(HCB.o.cell (O+1)).trans HC1.o;have z2:W1.drew.cell? ⟨g,O+2,none⟩=some (zI y.nx):=(HCB.o.cell (O+2)).trans HC2.o;have z3:W1.drew.cell? ⟨g,O+3,none⟩=some (zI y.mo):=(HCB.o.cell (O+3)).trans HC3.o;have z4:W1.drew.cell? ⟨g,O+4,none⟩=some (zI y.bo):=(HCB.o.cell (O+4)).trans HC4.o;have z5:W1.drew.cell? ⟨g,O+5,none⟩=some (zI y.fr):=(HCB.o.cell (O+5)).trans HC5.o;have z6:W1.drew.cell? ⟨g,O+6,none⟩=some (.slice dp dn dc):=(HCB.o.cell (O+6)).trans HC6.o;refine zqs 0 21 (.pointer (some ⟨g,O,none⟩)) rfl rfl (by kernel_rfl) zid rfl (fun v hv=>by clear hv;go_simp) hHeld ?_;simp only [Act.put,zq];refine zqs 1 22 (.pointer (some ⟨g,O,none⟩)) rfl rfl (by kernel_rfl) zid rfl (fun v hv=>by clear hv;go_simp) hHeld ?_;simp only [Act.put,zq];refine zqs 2 23 (.pointer (some ⟨g,O,none⟩)) rfl rfl (by kernel_rfl) zid rfl (fun v hv=>by clear hv;go_simp) hHeld ?_;simp only [Act.put,zq];refine zqs 3 24 (.pointer (some ⟨g,O,none⟩)) rfl rfl (by kernel_rfl) zid rfl (fun v hv=>by clear hv;go_simp) hHeld ?_;simp only [Act.put,zq];refine zqs 5 26 (.pointer (some ⟨w.heap.size,11,none⟩)) rfl rfl (by kernel_rfl) zid rfl (fun v hv=>by clear hv;go_simp) hHeld ?_;simp only [Act.put,zq];refine zqt 6 27 (.agg #[zI v.ow,zI v.bp]) rfl rfl (by kernel_rfl) zid (Or.inl ⟨by rfl,fun v hv=>by have g0:=hv.cell 11;have g1:=hv.cell 12;clear hv;go_simp⟩) hHeld ?_;simp only [Act.put,zq];refine zqo 4 (by kernel_rfl) rfl (fun K hK=>?_)
 rw [if_pos (by rfl)];refine wp_runOp (v:= .agg #[zI y.me,zI y.rv,zI y.nx,zI y.mo,zI y.bo,zI y.fr,.slice dp dn dc]) (w':=W1.drew) 25 rfl (by clear hK;go_simp) ?_;refine hK.o _ _ (Blk.drew H1v.o 1) (fun hHeld=>?_);clear hK K z0 z1 z2 z3 z4 z5 z6;simp only [Act.put,zq];refine zqo 7 (by kernel_rfl) rfl (fun K hK=>?_);rw [if_pos (by rfl)];refine wp_callOpP 28 rfl (by clear hK;go_simp) HOW.o ?_;rintro e w2 ⟨hb,hp⟩;rcases hp with ⟨b,pb,lb,cb,rfl,hi,hf⟩ | ⟨b,f,hf,rfl,hi⟩
 case inr=>
  exact .inr ⟨_,rfl,rfl,HK1.o.trans (.of ((Below.refl W1.heap.size W1).drew.trans hb) HR1.o.sz),.inr ⟨f,[],hf,rfl,.inr (.inr (.inr (.inr ⟨HMA.o,HN1.o,k,⟨y,sol⟩,HFA.o,by rw [HC.o];exact .inl ⟨HK5.o,b,hi,fun q=>absurd q hf⟩,fun q=>absurd q hf⟩)))⟩⟩
 refine .inl ⟨_,rfl,?_⟩;have hb2:Below W1.heap.size W1 w2:=(Below.refl W1.heap.size W1).drew.trans hb;have HV2:=shN H1v hb2;have HC2:=shN HCB hb2;have HB2:Hid (Below W1.heap.size W1 w2):=hb2;have HI:Hid (OweIs y ⟨v.ow,v.bp⟩ b 0):=hi;have HF:Hid (deb.Fresh w2 W1.heap.size pb lb cb b.ds):=hf;refine hK.o _ _ HV2.o (fun hHeld=>?_);clear hK K hi hf hb hb2 HOW;unfold acc.Ac.v acc.Ac.cs;simp only [Act.put,zq];refine zqs 8 29 (.pointer (some ⟨g,O,none⟩)) rfl rfl (by kernel_rfl) zid rfl (fun v hv=>by clear hv;go_simp) hHeld ?_;simp only [Act.put,zq];refine zqs 9 30 (.pointer (some ⟨g,O,none⟩)) rfl rfl (by kernel_rfl) zid rfl (fun v hv=>by clear hv;go_simp) hHeld ?_;simp only [Act.put,zq];refine zqo 10 (by kernel_rfl) rfl (fun K hK=>?_);rw [if_pos (by rfl)];refine wp_letOpN 61 _ _ rfl g O rfl (.agg #[zI b.me,zI b.rv,zI b.nx,zI b.mo,zI b.bo,zI b.fr,.slice pb lb cb]) rfl #[zI b.me,zI b.rv,zI b.nx,zI b.mo,zI b.bo,zI b.fr,.slice pb lb cb] rfl (by kernel_rfl) (by simp [Value.oneCell']) cur 64 HC2.o (by have:=HCS.o;simp;omega) (putAll cur O [zI b.me,zI b.rv,zI b.nx,zI b.mo,zI b.bo,zI b.fr,.slice pb lb cb]) rfl rfl ?_;intro WF hU;have M1:Hid (Blk WF w.heap.size #[zI v.kd,zI v.me,zI v.mo,zI v.id,zI v.te,zI v.de,zI v.fe,zI v.pr,zI v.ch,zI v.un,zI v.tg,zI v.ow,zI v.bp] 125):=hU.keep HV2.o (Ne.symm hgv2)
 have MF:Hid (WPost w0 base gW B t pt lt ct (StepIs t bk v) w (.returned (.tuple #[])) WF):=by
  have hh:HapIs t ⟨y,sol⟩ v ⟨b,sol⟩ 0:= .inl ⟨HK5.o,b,HI.o,fun _=>rfl⟩;refine (charge_wr HR1.o HKL.o HX.o HC.o HCB.o (by rw [HO.o];exact HCS.o) (by rw [HO.o];exact HC7.o) HMA.o hh HB2.o HF.o (by rw [HO.o];exact hU)).back HK1.o (fun bb f hr=>?_);obtain ⟨c',h1,h2⟩:=hr;exact .inr (.inr (.inr (.inr ⟨HMA.o,HN1.o,k,c',HFA.o,h1,h2⟩)))
 refine hK.o _ _ M1.o (fun hHeld=>?_);clear hK K hU;refine wpAnyH_done (by kernel_rfl) ?_ _;clear hHeld;go_wp2_with fail;go_end0;exact MF.o
theorem Wr.upd {w0:World} {base gW B g:Nat} {t:Tm} {pt:Option Addr} {lt ct:Nat} {V:Value} {xs:List Cu} {bk:List Cm} {w W:World} {cs:Array Value} {ty:TypeId} (h:Wr w0 base gW B t pt lt ct V xs bk w) (hU:Upd w W g cs ty) (h0:g<base) (h1:g≠gW) (h2:g≠B) (h3:w0.heap.size≤g):Wr w0 base gW B t pt lt ct V xs bk W:=
 ⟨hU.keep h.blk (Ne.symm h1),h.mp.upd hU (Ne.symm h2),h.hold.upd hU h0,h.gw,h.gb,h.ne,h.n0,h.n1,by rw [hU.size];exact h.sz,hU.bel _ _ h3 h.bel,h.few,h.wf⟩
theorem Small.more {bk:List Cm} {k m:Nat} (h:Small bk k) (hk:k≤m):Small bk m:=⟨Nat.le_trans h.1 hk,fun c hc=>⟨Nat.le_trans (h.2 c hc).1 hk,(h.2 c hc).2⟩⟩
structure Mid2 (w:World) (t:Tm) (pt:Option Addr) (lt ct:Nat) (l:List Ev) (gn base gW B k:Nat) (st:Nat→List Cm) (wr:World):Prop where
 s0:st 0=[]
 steps:∀ i,i<k→StepIs t (st i) (l.getD i ev0) (st (i+1)) 0
 small:Small (st k) k
 bb:Blk wr (w.heap.size+1) #[zS] 41
 ba:Blk wr (w.heap.size+1+1) #[zI 0] 3
 be:Blk wr (w.heap.size+1+1+1) #[zI 0] 42
 bn:Blk wr gn #[zI (k:Int)] 3
 wr:∃ V xs,Wr w base gW B t pt lt ct V xs (st k) wr
structure Pl (w:World) (gn base gW B:Nat):Prop where
 h1:w.heap.size+1+1+1<gn
 h2:gn<B
 h3:B<gW
 h4:gW<base
theorem kof:KOf:=by
 intro w t pt lt ct pl n cap l ht hl;unfold acc.Tm.v;have HT:Hid (TCame w t pt lt ct):=ht;have HL:Hid (RowE w pl n l):=hl.row;have HLN:Hid (l.length=n):=hl.row.1;have hnm:n≤9223372036854775807:=by have:=hl.bytes;omega
 have hmf:∀ (fn:Fn) (first cap:Array Value) (w:World),(Instr.makeFunc fn first cap).run Tryz.prog w = .ok (.func fn first cap) w:=fun _ _ _ _=>rfl;have hmm:∀ w:World,(Instr.makeMap 180 none).run Tryz.prog w = .ok (.map (some w.heap.size)) (w.alloc (.map #[] 0)):=mkMapI;have HCK:Hid (∀ W,Below w.heap.size w W→Calls Tryz.prog 74 #[.agg #[.slice pt lt ct,zI t.ff,zI t.fb,zI t.db,zI t.al]] W fun e w'=>tar.ErrPost W (TFault t) e w'):=fun W hB=>acc.kcheck W t pt lt ct (ht.below hB);clear ht hl;obtain ⟨W0,HWW,H0t,H0b,H0at,H0er,H0B,-⟩:=sh4 w #[.slice pt lt ct,zI t.ff,zI t.fb,zI t.db,zI t.al] 30 #[zS] 41 #[zI 0] 3 #[zI 0] 42;go_enter_defers Tryz.func45,Tryz.ntmps45;go_upto_region 1 with fail
 rw [HWW.o];clear HWW;have HC1:Hid (Calls Tryz.prog 74 #[.agg #[.slice pt lt ct,zI t.ff,zI t.fb,zI t.db,zI t.al]] W0 fun e w'=>tar.ErrPost W0 (TFault t) e w'):=HCK.o W0 H0B.o;clear HCK
 go_wp2_with (first
  | (refine zqw rfl rfl rfl H0t zqu30 ?_)
  | (refine zqw rfl rfl rfl H0b zqu41 ?_)
  | (refine wp_whole rfl 3 _ rfl _ rfl 3 _ _ H0at.o Tryz.underlying3 rfl (by kernel_rfl) ?_)
  | (refine wp_whole rfl 42 _ rfl _ rfl 42 _ _ H0er.o Tryz.underlying42 rfl (by kernel_rfl) ?_)
  | fail)
 refine HC1.o.mono ?_;rintro e w1 ⟨f,rfl,hf,hb1⟩;have H1t:=shN H0t hb1;have H1b:=shN H0b hb1;have H1at:=shN H0at hb1;have H1er:=shN H0er hb1;have H1B:=shB H0B hb1;clear H0t H0b H0at H0er H0B;clear hb1 HC1;by_cases h0:f=0
 case neg=>
  have nf:(f != 0)=true:=by simpa using h0
  have HF:Hid (TFault t f):=hf;have HNE:Hid (f≠0):=h0;clear hf h0
  go_wp2_with (first
   | (refine zql rfl rfl rfl rfl zqu41 (by simp [Value.oneCell']) H1b rfl ?_)
   | (refine zqw rfl rfl rfl H1t zqu30 ?_)
   | (refine zqw rfl rfl rfl H1b zqu41 ?_)
   | (refine wp_whole rfl 3 _ rfl _ rfl 3 _ _ H1at.o Tryz.underlying3 rfl (by kernel_rfl) ?_)
   | (refine wp_whole rfl 42 _ rfl _ rfl 42 _ _ H1er.o Tryz.underlying42 rfl (by kernel_rfl) ?_)
   | fail)
  intro w1a hU;have H2t:=shK hU H1t (by omega);have H2b:Hid (Blk w1a (w.heap.size+1) #[zS] 41):=hU.blk;have H2at:=shK hU H1at (by omega);have H2er:=shK hU H1er (by omega);have H2B:=shV hU H1B (by omega);clear H1t H1b H1at H1er H1B;clear hU
  go_wp2_with (first
   | (refine wp_let1 rfl 3 _ _ rfl (w.heap.size+1+1) 0 rfl .i64 0 rfl (by kernel_rfl) #[zI 0] 3 H2at.o (by simp) ?_)
   | (refine zqw rfl rfl rfl H2t zqu30 ?_)
   | (refine zqw rfl rfl rfl H2b zqu41 ?_)
   | (refine wp_whole rfl 3 _ rfl _ rfl 3 _ _ H2at.o Tryz.underlying3 rfl (by kernel_rfl) ?_)
   | (refine wp_whole rfl 42 _ rfl _ rfl 42 _ _ H2er.o Tryz.underlying42 rfl (by kernel_rfl) ?_)
   | fail)
  intro w1aa hU;have H3t:=shK hU H2t (by omega);have H3b:=shK hU H2b (by omega);have H3at:Hid (Blk w1aa (w.heap.size+1+1) #[zI 0] 3):=hU.blk;have H3er:=shK hU H2er (by omega);have H3B:=shV hU H2B (by omega);clear H2t H2b H2at H2er H2B;clear hU
  go_wp2_with (first
   | (refine wp_let1 rfl 42 _ _ rfl (w.heap.size+1+1+1) 0 rfl .i64 f rfl (by kernel_rfl) #[zI 0] 42 H3er.o (by simp) ?_)
   | (refine zqw rfl rfl rfl H3t zqu30 ?_)
   | (refine zqw rfl rfl rfl H3b zqu41 ?_)
   | (refine wp_whole rfl 3 _ rfl _ rfl 3 _ _ H3at.o Tryz.underlying3 rfl (by kernel_rfl) ?_)
   | (refine wp_whole rfl 42 _ rfl _ rfl 42 _ _ H3er.o Tryz.underlying42 rfl (by kernel_rfl) ?_)
   | fail)
  intro w1aaa hU;have H4t:=shK hU H3t (by omega);have H4b:=shK hU H3b (by omega);have H4at:=shK hU H3at (by omega);have H4er:Hid (Blk w1aaa (w.heap.size+1+1+1) #[zI f] 42):=hU.blk;have H4B:=shV hU H3B (by omega);clear H3t H3b H3at H3er H3B;clear hU;go_wp2_with fail;have rb:w1aaa.cell? ⟨w.heap.size+1,0,none⟩=some (zS):=H4b.o.cell 0;have rat:w1aaa.cell? ⟨w.heap.size+1+1,0,none⟩=some (zI 0):=H4at.o.cell 0;have rer:w1aaa.cell? ⟨w.heap.size+1+1+1,0,none⟩=some (zI f):=H4er.o.cell 0;show Leaves _ _ _ _ [] .returning w1aaa;refine ⟨.tuple #[.agg #[zS],zI 0,zI f],by simp [results,Tryz.results45,rb,rat,rer,go_sem],?_⟩;exact ⟨none,0,0,[],[],0,f,rfl,.inl ⟨HF.o,HNE.o,rfl,rfl⟩,sees_nil _,Nat.zero_le _,H4B.o⟩
 subst h0;have HTR:Hid (TRight t):=hf.ok.1 rfl;clear hf;by_cases hbig:120<n
 case pos=>
  have hd1:decide ((120:Int)<(n:Int))=true:=decide_eq_true (by omega);have HBG:Hid (120<l.length):=by show _<_;rw [HLN.o];exact hbig
  clear hbig
  go_wp2_with (first
   | (refine zql rfl rfl rfl rfl zqu41 (by simp [Value.oneCell']) H1b rfl ?_)
   | (refine zqw rfl rfl rfl H1t zqu30 ?_)
   | (refine zqw rfl rfl rfl H1b zqu41 ?_)
   | (refine wp_whole rfl 3 _ rfl _ rfl 3 _ _ H1at.o Tryz.underlying3 rfl (by kernel_rfl) ?_)
   | (refine wp_whole rfl 42 _ rfl _ rfl 42 _ _ H1er.o Tryz.underlying42 rfl (by kernel_rfl) ?_)
   | fail)
  intro w1a hU;have H2t:=shK hU H1t (by omega);have H2b:Hid (Blk w1a (w.heap.size+1) #[zS] 41):=hU.blk;have H2at:=shK hU H1at (by omega);have H2er:=shK hU H1er (by omega);have H2B:=shV hU H1B (by omega);clear H1t H1b H1at H1er H1B;clear hU
  go_wp2_with (first
   | (refine wp_let1 rfl 3 _ _ rfl (w.heap.size+1+1) 0 rfl .i64 0 rfl (by kernel_rfl) #[zI 0] 3 H2at.o (by simp) ?_)
   | (refine zqw rfl rfl rfl H2t zqu30 ?_)
   | (refine zqw rfl rfl rfl H2b zqu41 ?_)
   | (refine wp_whole rfl 3 _ rfl _ rfl 3 _ _ H2at.o Tryz.underlying3 rfl (by kernel_rfl) ?_)
   | (refine wp_whole rfl 42 _ rfl _ rfl 42 _ _ H2er.o Tryz.underlying42 rfl (by kernel_rfl) ?_)
   | fail)
  intro w1aa hU;have H3t:=shK hU H2t (by omega);have H3b:=shK hU H2b (by omega);have H3at:Hid (Blk w1aa (w.heap.size+1+1) #[zI 0] 3):=hU.blk;have H3er:=shK hU H2er (by omega);have H3B:=shV hU H2B (by omega);clear H2t H2b H2at H2er H2B;clear hU
  go_wp2_with (first
   | (refine wp_let1 rfl 42 _ _ rfl (w.heap.size+1+1+1) 0 rfl .i64 1 rfl (by kernel_rfl) #[zI 0] 42 H3er.o (by simp) ?_)
   | (refine zqw rfl rfl rfl H3t zqu30 ?_)
   | (refine zqw rfl rfl rfl H3b zqu41 ?_)
   | (refine wp_whole rfl 3 _ rfl _ rfl 3 _ _ H3at.o Tryz.underlying3 rfl (by kernel_rfl) ?_)
   | (refine wp_whole rfl 42 _ rfl _ rfl 42 _ _ H3er.o Tryz.underlying42 rfl (by kernel_rfl) ?_)
   | fail)
  intro w1aaa hU;have H4t:=shK hU H3t (by omega);have H4b:=shK hU H3b (by omega);have H4at:=shK hU H3at (by omega);have H4er:Hid (Blk w1aaa (w.heap.size+1+1+1) #[zI 1] 42):=hU.blk;have H4B:=shV hU H3B (by omega);clear H3t H3b H3at H3er H3B;clear hU;go_wp2_with fail;have rb:w1aaa.cell? ⟨w.heap.size+1,0,none⟩=some (zS):=H4b.o.cell 0;have rat:w1aaa.cell? ⟨w.heap.size+1+1,0,none⟩=some (zI 0):=H4at.o.cell 0;have rer:w1aaa.cell? ⟨w.heap.size+1+1+1,0,none⟩=some (zI 1):=H4er.o.cell 0;show Leaves _ _ _ _ [] .returning w1aaa;refine ⟨.tuple #[.agg #[zS],zI 0,zI 1],by simp [results,Tryz.results45,rb,rat,rer,go_sem],?_⟩;exact ⟨none,0,0,[],[],0,1,rfl,.inr (.inl ⟨HTR.o,HBG.o,rfl,rfl,rfl⟩),sees_nil _,Nat.zero_le _,H4B.o⟩
 have hd1:decide ((120:Int)<(n:Int))=false:=decide_eq_false (by omega);have hn120:n≤120:=by omega
 have HFEW:Hid (l.length≤120):=by show _≤_;rw [HLN.o];exact hn120
 clear hbig;have HN2:Hid (Blk (((w1.alloc (.cells #[zI 0] 3)).alloc (.map #[] 0)).alloc (.cells #[zS,.slice pt lt ct,zI t.ff,zI t.fb,zI t.db,zI t.al,.map (some (w1.heap.size+1))] 182)) w1.heap.size #[zI 0] 3):=((Blk.new _ _ _).alloc _).alloc _
 have HM2:Hid (MpI (((w1.alloc (.cells #[zI 0] 3)).alloc (.map #[] 0)).alloc (.cells #[zS,.slice pt lt ct,zI t.ff,zI t.fb,zI t.db,zI t.al,.map (some (w1.heap.size+1))] 182)) (w1.heap.size+1) []):=by
  have h1:=MpI.new (w1.alloc (.cells #[zI 0] 3));rw [show (w1.alloc (.cells #[zI 0] 3)).heap.size=w1.heap.size+1 by simp] at h1;exact h1.below ((Below.refl _ _).alloc (Nat.le_refl _) _)
 have HW2:Hid (Blk (((w1.alloc (.cells #[zI 0] 3)).alloc (.map #[] 0)).alloc (.cells #[zS,.slice pt lt ct,zI t.ff,zI t.fb,zI t.db,zI t.al,.map (some (w1.heap.size+1))] 182)) (w1.heap.size+1+1) #[zS,.slice pt lt ct,zI t.ff,zI t.fb,zI t.db,zI t.al,.map (some (w1.heap.size+1))] 182):=by
  have h1:=Blk.new ((w1.alloc (.cells #[zI 0] 3)).alloc (.map #[] 0)) #[zS,.slice pt lt ct,zI t.ff,zI t.fb,zI t.db,zI t.al,.map (some (w1.heap.size+1))] 182
  rwa [show ((w1.alloc (.cells #[zI 0] 3)).alloc (.map #[] 0)).heap.size=w1.heap.size+1+1 by simp] at h1
 have HZt:Hid (Blk (((w1.alloc (.cells #[zI 0] 3)).alloc (.map #[] 0)).alloc (.cells #[zS,.slice pt lt ct,zI t.ff,zI t.fb,zI t.db,zI t.al,.map (some (w1.heap.size+1))] 182)) (w.heap.size) #[.slice pt lt ct,zI t.ff,zI t.fb,zI t.db,zI t.al] 30):=((H1t.o.alloc _).alloc _).alloc _;have HZb:Hid (Blk (((w1.alloc (.cells #[zI 0] 3)).alloc (.map #[] 0)).alloc (.cells #[zS,.slice pt lt ct,zI t.ff,zI t.fb,zI t.db,zI t.al,.map (some (w1.heap.size+1))] 182)) (w.heap.size+1) #[zS] 41):=((H1b.o.alloc _).alloc _).alloc _;have HZat:Hid (Blk (((w1.alloc (.cells #[zI 0] 3)).alloc (.map #[] 0)).alloc (.cells #[zS,.slice pt lt ct,zI t.ff,zI t.fb,zI t.db,zI t.al,.map (some (w1.heap.size+1))] 182)) (w.heap.size+1+1) #[zI 0] 3):=((H1at.o.alloc _).alloc _).alloc _;have HZer:Hid (Blk (((w1.alloc (.cells #[zI 0] 3)).alloc (.map #[] 0)).alloc (.cells #[zS,.slice pt lt ct,zI t.ff,zI t.fb,zI t.db,zI t.al,.map (some (w1.heap.size+1))] 182)) (w.heap.size+1+1+1) #[zI 0] 42):=((H1er.o.alloc _).alloc _).alloc _;have HZB:Hid (Below w.heap.size w (((w1.alloc (.cells #[zI 0] 3)).alloc (.map #[] 0)).alloc (.cells #[zS,.slice pt lt ct,zI t.ff,zI t.fb,zI t.db,zI t.al,.map (some (w1.heap.size+1))] 182))):=((H1B.o.alloc H1B.o.size _).alloc (Nat.le_trans H1B.o.size (by simp)) _).alloc (Nat.le_trans H1B.o.size (by simp;omega)) _;have HPL0:Hid (w.heap.size+1+1+1<w1.heap.size):=H1er.o.lt;have HSB:Hid ((((w1.alloc (.cells #[zI 0] 3)).alloc (.map #[] 0)).alloc (.cells #[zS,.slice pt lt ct,zI t.ff,zI t.fb,zI t.db,zI t.al,.map (some (w1.heap.size+1))] 182)).heap.size=w1.heap.size+1+1+1):=by show _=_;simp
 go_upto_region 9 with (first
  | (refine wp_whole rfl 30 _ rfl w.heap.size rfl 30 #[.slice pt lt ct,zI t.ff,zI t.fb,zI t.db,zI t.al] _ (H1t.o.alloc _) Tryz.underlying30 rfl (by kernel_rfl) ?_)
  | fail)
 generalize (((w1.alloc (.cells #[zI 0] 3)).alloc (.map #[] 0)).alloc (.cells #[zS,.slice pt lt ct,zI t.ff,zI t.fb,zI t.db,zI t.al,.map (some (w1.heap.size+1))] 182))=W2 at *;generalize w1.heap.size=gn at *;have HPL:Hid (Pl w gn (gn+1+1+1) (gn+1+1) (gn+1)):=⟨HPL0.o,Nat.lt_succ_self _,Nat.lt_succ_self _,Nat.lt_succ_self _⟩
 have HMID:Hid (Mid2 w t pt lt ct l gn (gn+1+1+1) (gn+1+1) (gn+1) 0 (fun _=>[]) W2):=⟨rfl,(fun i hi=>absurd hi (Nat.not_lt_zero _)),Small.zero,HZb.o,HZat.o,HZer.o,HN2.o,zS,[],HW2.o,HM2.o,Holds.zero _ _,by omega,by omega,by omega,by have:=HPL0.o;omega,by have:=HPL0.o;omega,by rw [HSB.o];exact Nat.le_refl _,HZB.o,Small.more Small.zero (by omega),fun c hc=>by cases hc⟩
 clear HZt HZb HZat HZer HN2 HM2 HW2 HZB HPL0 HSB H1t H1b H1at H1er H1B;generalize gn+1+1+1=base at *;generalize hgW:gn+1+1=gW at *;generalize gn+1=B at *;clear hgW;clear hmf hmm hd1;go_wp2_with fail;go_loopg [] n (fun gk wr=>∃ (k:Nat) (st:Nat→List Cm),k+gk=n∧Mid2 w t pt lt ct l gn base gW B k st wr)
 case atStart=>exact ⟨0,_,by omega,HMID.o⟩
 case round=>
  obtain ⟨k,st,hk,hmid⟩:=hrel;clear HMID;have HM:Hid (Mid2 w t pt lt ct l gn base gW B k st wr):=hmid;have q8:wr.cell? ⟨gn,0,none⟩=some (zI (k:Int)):=hmid.bn.cell 0;obtain ⟨V,xs,hwr⟩:=hmid.wr;obtain ⟨a,ca,hV,_⟩:=hwr.hold.row.row;subst hV;have HWR:Hid (Wr w base gW B t pt lt ct (.slice a xs.length ca) xs (st k) wr):=hwr;clear hmid hwr;by_cases hlt:k<n
  case neg=>
   have hkn:k=n:=by omega
   have HKN:Hid (k=n):=hkn;have hdl:decide ((k:Int)<(n:Int))=false:=decide_eq_false (by omega);clear hkn;have q0:wr.cell? ⟨gW,0,none⟩=some (.slice a xs.length ca):=HWR.o.blk.cell 0;have hp1:=HPL.o.h1;have hp2:=HPL.o.h2;have hp3:=HPL.o.h3;have hp4:=HPL.o.h4;have HXL:Hid (xs.length≤120):=by show _≤_;rw [HWR.o.hold.len];exact HWR.o.few.1
   have HW0:Hid (Wr w base gW B t pt lt ct (.slice a xs.length ca) xs (st k) wr∧Blk wr (w.heap.size+1) #[zS] 41∧Blk wr (w.heap.size+1+1) #[zI 0] 3∧Blk wr (w.heap.size+1+1+1) #[zI 0] 42):=⟨HWR.o,HM.o.bb,HM.o.ba,HM.o.be⟩
   clear HWR;generalize hxl:xs.length=m at *;have HXN:Hid (xs.length=m):=hxl;clear hxl;go_wp2_with (first | (refine wp_letAll rfl 41 _ _ rfl (w.heap.size+1) rfl #[.slice a m ca] rfl (by kernel_rfl) (by simp [Value.oneCell']) #[zS] 41 HW0.o.2.1 rfl ?_) | fail)
   intro V1 hU;clear q0;have HW1:Hid (Wr w base gW B t pt lt ct (.slice a m ca) xs (st k) V1∧Blk V1 (w.heap.size+1) #[.slice a m ca] 41∧Blk V1 (w.heap.size+1+1) #[zI 0] 3∧Blk V1 (w.heap.size+1+1+1) #[zI 0] 42):=⟨HW0.o.1.upd hU (by omega) (by omega) (by omega) (by omega),hU.blk,hU.keep HW0.o.2.2.1 (by omega),hU.keep HW0.o.2.2.2 (by omega)⟩
   clear hU HW0;go_wp2_with (first | (refine wp_let1 rfl 3 _ _ rfl (w.heap.size+1+1) 0 rfl .i64 0 rfl (by kernel_rfl) #[zI 0] 3 HW1.o.2.2.1 (by simp) ?_) | fail)
   intro V2 hU;have HW2:Hid (Wr w base gW B t pt lt ct (.slice a m ca) xs (st k) V2∧Blk V2 (w.heap.size+1) #[.slice a m ca] 41∧Blk V2 (w.heap.size+1+1) #[zI 0] 3∧Blk V2 (w.heap.size+1+1+1) #[zI 0] 42):=⟨HW1.o.1.upd hU (by omega) (by omega) (by omega) (by omega),hU.keep HW1.o.2.1 (by omega),hU.blk,hU.keep HW1.o.2.2.2 (by omega)⟩
   clear hU HW1;go_wp2_with (first | (refine wp_let1 rfl 42 _ _ rfl (w.heap.size+1+1+1) 0 rfl .i64 0 rfl (by kernel_rfl) #[zI 0] 42 HW2.o.2.2.2 (by simp) ?_) | fail)
   intro V3 hU;have HW3:Hid (Wr w base gW B t pt lt ct (.slice a m ca) xs (st k) V3∧Blk V3 (w.heap.size+1) #[.slice a m ca] 41∧Blk V3 (w.heap.size+1+1) #[zI 0] 3∧Blk V3 (w.heap.size+1+1+1) #[zI 0] 42):=⟨HW2.o.1.upd hU (by omega) (by omega) (by omega) (by omega),hU.keep HW2.o.2.1 (by omega),hU.keep HW2.o.2.2.1 (by omega),hU.blk⟩
   clear hU HW2;go_wp2_with fail;refine leaves_cons (f:=75) (args:=#[.pointer (some ⟨w.heap.size+1+1+1,0,none⟩),.pointer (some ⟨gn,0,none⟩),.pointer (some ⟨w.heap.size+1+1,0,none⟩)]) (by simp) (by simp [go_sem]) ?_;refine (of_idle (w.heap.size+1+1+1) gn (w.heap.size+1+1) 0 _ HW3.o.2.2.2).mono ?_;rintro e u' w5 ⟨rfl,hs,W,hb,hU⟩;have hwr5:Wr w base gW B t pt lt ct (.slice a m ca) xs (st k) w5:=(HW3.o.1.next hb).upd hU (by omega) (by omega) (by omega) (by omega);have r0:w5.cell? ⟨w.heap.size+1,0,none⟩=some (.slice a m ca):=(hU.keep (HW3.o.2.1.next hb) (by omega)).cell 0;have r1:w5.cell? ⟨w.heap.size+1+1,0,none⟩=some (zI 0):=(hU.keep (HW3.o.2.2.1.next hb) (by omega)).cell 0;have r2:w5.cell? ⟨w.heap.size+1+1+1,0,none⟩=some (zI 0):=hU.blk.cell 0;show Leaves _ _ _ _ [] (settle u') w5;rw [hs];refine ⟨.tuple #[.agg #[.slice a m ca],zI 0,zI 0],by simp [results,Tryz.results45,r0,r1,r2,go_sem],?_⟩;obtain ⟨p9,c9,hv9,hsee⟩:=hwr5.hold.sees;injection hv9 with e1 e2 e3
   subst e1;rw [← e2] at hsee;exact ⟨a,m,ca,xs,st k,0,0,rfl,.inr (.inr ⟨HTR.o,HFEW.o,k,st,HM.o.s0,HM.o.steps,.inl ⟨by rw [HLN.o];exact HKN.o,rfl,rfl,rfl⟩⟩),hsee,HXL.o,hwr5.bel⟩
  have hdl:decide ((k:Int)<(n:Int))=true:=decide_eq_true (by omega);obtain ⟨bl,off,rfl,lb,hc⟩:=HL.o.2.resolve_left (by omega);have hce:∀ j,j<13→wr.cell? ⟨bl,off+k*13+j,none⟩=(l.getD k ev0).cl[j]?:=fun j hj=>(HWR.o.bel.cell (p:=⟨bl,off+k*13+j,none⟩) lb).trans (hc k j hlt hj);obtain ⟨v,hv⟩:∃ v,v=l.getD k ev0:=⟨_,rfl⟩
  have HV:Hid (v=l.getD k ev0):=hv;rw [← hv] at hce;clear hv hc;have c0:wr.cell? ⟨bl,off+k*13,none⟩=some (zI v.kd):=hce 0 (by decide);have c1:wr.cell? ⟨bl,off+k*13+1,none⟩=some (zI v.me):=hce 1 (by decide);have c2:wr.cell? ⟨bl,off+k*13+2,none⟩=some (zI v.mo):=hce 2 (by decide);have c3:wr.cell? ⟨bl,off+k*13+3,none⟩=some (zI v.id):=hce 3 (by decide);have c4:wr.cell? ⟨bl,off+k*13+4,none⟩=some (zI v.te):=hce 4 (by decide);have c5:wr.cell? ⟨bl,off+k*13+5,none⟩=some (zI v.de):=hce 5 (by decide);have c6:wr.cell? ⟨bl,off+k*13+6,none⟩=some (zI v.fe):=hce 6 (by decide);have c7:wr.cell? ⟨bl,off+k*13+7,none⟩=some (zI v.pr):=hce 7 (by decide);have c8:wr.cell? ⟨bl,off+k*13+8,none⟩=some (zI v.ch):=hce 8 (by decide);have c9:wr.cell? ⟨bl,off+k*13+9,none⟩=some (zI v.un):=hce 9 (by decide);have c10:wr.cell? ⟨bl,off+k*13+10,none⟩=some (zI v.tg):=hce 10 (by decide);have c11:wr.cell? ⟨bl,off+k*13+11,none⟩=some (zI v.ow):=hce 11 (by decide);have c12:wr.cell? ⟨bl,off+k*13+12,none⟩=some (zI v.bp):=hce 12 (by decide);have HHP:Hid (Calls Tryz.prog 77 #[.pointer (some ⟨gW,0,none⟩),.agg #[zI v.kd,zI v.me,zI v.mo,zI v.id,zI v.te,zI v.de,zI v.fe,zI v.pr,zI v.ch,zI v.un,zI v.tg,zI v.ow,zI v.bp]] wr fun e w'=>WPost w base gW B t pt lt ct (StepIs t (st k) v) wr e w'):=bhappen w base gW B t pt lt ct a xs.length ca xs (st k) v wr HWR.o HT.o;clear hce lb;have HKL:Hid (k<l.length):=by show _<_;rw [HLN.o];exact hlt
  go_wp2_with fail;refine HHP.o.mono ?_;rintro e w2 ⟨hkp,hpo⟩;clear HHP q8 hdl c0 c1 c2 c3 c4 c5 c6 c7 c8 c9 c10 c11 c12;have hp1:=HPL.o.h1;have hp2:=HPL.o.h2;have hp3:=HPL.o.h3;have hp4:=HPL.o.h4;have Hb2:Hid (Blk w2 (w.heap.size+1) #[zS] 41):=hkp.keep HM.o.bb (by omega) (by omega) (by omega);have Ha2:Hid (Blk w2 (w.heap.size+1+1) #[zI 0] 3):=hkp.keep HM.o.ba (by omega) (by omega) (by omega);have He2:Hid (Blk w2 (w.heap.size+1+1+1) #[zI 0] 42):=hkp.keep HM.o.be (by omega) (by omega) (by omega);have Hn2:Hid (Blk w2 gn #[zI (k:Int)] 3):=hkp.keep HM.o.bn (by omega) (by omega) (by omega);have HB2:Hid (Below w.heap.size w w2):=hkp.bel HWR.o.bel (by omega) (by omega) (by omega);rcases hpo with ⟨V',xs',bk',rfl,hst,hwr2⟩ | ⟨f,bk',hf,rfl,hst⟩
  case inr=>
   have HST:Hid (StepIs t (st k) (l.getD k ev0) bk' f):=by show StepIs _ _ _ _ _;rw [← HV.o];exact hst
   have HF:Hid (f≠0):=hf;clear hst hkp;refine leaves_cons (f:=75) (args:=#[.pointer (some ⟨w.heap.size+1+1+1,0,none⟩),.pointer (some ⟨gn,0,none⟩),.pointer (some ⟨w.heap.size+1+1,0,none⟩)]) (by simp) (by simp [go_sem]) ?_;refine (of_caught (w.heap.size+1+1+1) gn (w.heap.size+1+1) 0 (k:Int) 0 f hf _ He2.o Hn2.o Ha2.o (by omega) (by omega)).mono ?_;rintro e u' w5 ⟨rfl,hs,W,W3,hb,hU,hU2⟩;have r0:w5.cell? ⟨w.heap.size+1,0,none⟩=some (zS):=(hU2.keep (hU.keep (Hb2.o.next hb) (by omega)) (by omega)).cell 0;have r1:w5.cell? ⟨w.heap.size+1+1,0,none⟩=some (zI (k:Int)):=hU2.blk.cell 0;have r2:w5.cell? ⟨w.heap.size+1+1+1,0,none⟩=some (zI f):=(hU2.keep hU.blk (by omega)).cell 0;have HB5:Below w.heap.size w w5:=hU2.bel _ _ (by omega) (hU.bel _ _ (by omega) (bel_step HB2.o hb));show Leaves _ _ _ _ [] (settle u') w5;rw [hs];refine ⟨.tuple #[.agg #[zS],zI (k:Int),zI f],by simp [results,Tryz.results45,r0,r1,r2,go_sem],?_⟩;exact ⟨none,0,0,[],[],(k:Int),f,rfl,.inr (.inr ⟨HTR.o,HFEW.o,k,st,HM.o.s0,HM.o.steps,.inr ⟨HKL.o,⟨bk',HST.o⟩,HF.o,rfl,rfl⟩⟩),sees_nil _,Nat.zero_le _,HB5⟩
  have HST:Hid (StepIs t (st k) (l.getD k ev0) bk' 0):=by show StepIs _ _ _ _ _;rw [← HV.o];exact hst
  have HS2:Hid (Small bk' (k+1)):=step_small hst HM.o.small;have HWR2:Hid (Wr w base gW B t pt lt ct V' xs' bk' w2):=hwr2 (HS2.o.more (by omega));have q8:w2.cell? ⟨gn,0,none⟩=some (zI (k:Int)):=Hn2.o.cell 0;have hwk:IntKind.i64.wrap ((k:Int)+1)=(k:Int)+1:=by rw [IntKind.wrap_i64];omega
  clear hst hkp hwr2 HWR;go_wp2_with (first | (refine wp_let1 rfl 3 _ _ rfl gn 0 rfl .i64 ((k:Int)+1) rfl (by kernel_rfl) #[zI (k:Int)] 3 Hn2.o (by simp) ?_) | fail)
  intro W3 hU;have HWR3:Hid (Wr w base gW B t pt lt ct V' xs' bk' W3):=HWR2.o.upd hU (by omega) (by omega) (by omega) (by omega);have HX3:Hid (Blk W3 (w.heap.size+1) #[zS] 41∧Blk W3 (w.heap.size+1+1) #[zI 0] 3∧Blk W3 (w.heap.size+1+1+1) #[zI 0] 42∧Blk W3 gn #[zI ((k:Int)+1)] 3):=⟨hU.keep Hb2.o (by omega),hU.keep Ha2.o (by omega),hU.keep He2.o (by omega),hU.blk⟩
  clear hU q8 HWR2;obtain ⟨st2,s1,s2,s3⟩:=run_more HM.o.steps HST.o;have HM3:Hid (Mid2 w t pt lt ct l gn base gW B (k+1) st2 W3):=⟨s1.trans HM.o.s0,s3,by rw [s2];exact HS2.o,HX3.o.1,HX3.o.2.1,HX3.o.2.2.1,by have h1:=HX3.o.2.2.2;rw [show ((k:Int)+1)=((k+1:Nat):Int) by omega] at h1;exact h1,V',xs',by rw [s2];exact HWR3.o⟩
  clear s1 s2 s3;go_wp2_with fail;go_roundg (n - (k+1))
  case rel=>exact ⟨k+1,st2,by omega,HM3.o⟩
  case measure=>omega
end book
namespace vnd
open disk (RepIs AppIs)
open book (Ev ev0 EMay evL evOf EncIs DecIs Cm cm0 So so0 BookIs Sees ECame FirstAt NoneAt)
open acc (Ac Tm Bi TCame ACame)
open cell (Wr RowU)
open Go.RowKit
def OpnP (w:World) (t:Tm) (a:Option Addr) (n cap:Nat) (c:List Int) (e:Ending) (w':World):Prop:=
 (∃ f,e = .returned (.tuple #[.agg #[zS,zS,zI 0],zI f])∧f≠0∧LoadIs t c [] f∧Below w.heap.size w w') ∨
 (∃ p m cp xs bk l,e = .returned (.tuple #[.agg #[.slice p m cp,.slice a n cap,zI (l.length:Int)],zI 0])∧LoadIs t c bk 0∧KeptIs c l 0∧Sees w' p m xs bk∧m≤120∧Below w.heap.size w w')
theorem popen (t:Tm) (pt:Option Addr) (lt ct:Nat) (a:Option Addr) (n cap:Nat) (c:List Int) (w:World) (ht:TCame w t pt lt ct) (h:Dk w a n cap c):Calls Tryz.prog 18 #[.agg #[.slice pt lt ct,zI t.ff,zI t.fb,zI t.db,zI t.al],.slice a n cap] w fun e w'=>OpnP w t a n cap c e w':=by
 have HC:Hid (∀ W,Below w.heap.size w W→Dk W a n cap c):=fun W hW=>h.below hW;have HT:Hid (∀ W,Below w.heap.size w W→TCame W t pt lt ct):=fun W hW=>ht.below hW;clear h ht;obtain ⟨W0,HWW,H0t,H0r,H0B,hs0⟩:=sh2 w #[.slice pt lt ct,zI t.ff,zI t.fb,zI t.db,zI t.al] 30 #[zS,zS,zI 0] 78;go_enter Tryz.func18,Tryz.ntmps18;go_upto_region 1 with fail
 rw [HWW.o];clear HWW;have HKP:Hid (Calls Tryz.prog 44 #[.slice a n cap] W0 fun e w'=>KeptPost W0 c e w'):=pevents a n cap c W0 (HC.o _ H0B.o)
 go_wp2_with (first
  | (refine zqw rfl rfl rfl H0t zqu30 ?_)
  | (refine zqw rfl rfl rfl H0r zqu78 ?_)
  | fail)
 refine HKP.o.mono ?_;rintro e w1 ⟨p,m,cp,l,f,rfl,hk,hec,hm,hb1⟩;have H1t:=shN H0t hb1;have H1r:=shN H0r hb1;have H1B:=shB H0B hb1;have hsw1:W0.heap.size≤w1.heap.size:=hb1.size;clear hb1 H0t H0r H0B;have HKI:Hid (KeptIs c l f):=hk;have HEC:Hid (ECame w1 p m cp l):=hec;have HLN:Hid (l.length=m):=hec.row.1;clear hk hec HKP;by_cases h0:f=0
 ·subst h0;have HBO:Hid (Calls Tryz.prog 45 #[.agg #[.slice pt lt ct,zI t.ff,zI t.fb,zI t.db,zI t.al],.slice p m cp] w1 fun e w'=>book.BookPost w1 t l e w'):=book.kof w1 t pt lt ct p m cp l (HT.o _ H1B.o) HEC.o
  go_wp2_with (first
   | (refine zqw rfl rfl rfl H1t zqu30 ?_)
   | (refine zqw rfl rfl rfl H1r zqu78 ?_)
   | fail)
  refine HBO.o.mono ?_;rintro e w2 ⟨p2,m2,c2,xs,bk,at_,f2,rfl,hbi,hse,hm2,hb2⟩;have H2t:=shN H1t hb2;have H2r:=shN H1r hb2;have H2B:=shB H1B hb2;have hsw2:w1.heap.size≤w2.heap.size:=hb2.size;clear hb2 H1t H1r H1B;have HV:Hid (LoadIs t c bk f2):=⟨l,0,HKI.o,.inr ⟨rfl,at_,hbi⟩⟩
  have HBN:Hid (f2≠0→bk=[]):=book_no hbi;have HS2:Hid (Sees w2 p2 m2 xs bk):=hse;clear hbi hse HBO HEC;have H3X:Hid (Below w2.heap.size w2 w2):=Below.refl _ _;obtain ⟨W3,HWW,H4n,H4X,hsW3⟩:=sh1 w2 #[.slice p2 m2 c2] 41;have H4t:=shN H2t H4X.o;have H4r:=shN H2r H4X.o;have H4B:=shB H2B H4X.o;go_upto_region 5 with fail
  clear H2t H2r H3X H2B;rw [HWW.o];clear HWW;have HS3:Hid (Sees W3 p2 m2 xs bk):=HS2.o.below H4X.o;by_cases h2:f2=0
  ·subst h2;clear HS2
   go_wp2_with (first
    | (refine zql rfl rfl rfl rfl zqu78 (by simp [Value.oneCell']) H4r rfl ?_)
    | (refine zqw rfl rfl rfl H4t zqu30 ?_)
    | (refine zqw rfl rfl rfl H4r zqu78 ?_)
    | (refine zqw rfl rfl rfl H4n zqu41 ?_)
    | fail)
   intro W4 hU;have HS4:Hid (Sees W4 p2 m2 xs bk):=sees_far HS3.o (shop_odd H4r.o) hU;have H5t:=shK hU H4t (by omega);have H5r:Hid (Blk W4 (w.heap.size+1) #[.slice p2 m2 c2,.slice a n cap,zI (m:Int)] 78):=hU.blk;have H5n:=shK hU H4n (by omega);have H5B:=shV hU H4B (by omega);have hsW4:W4.heap.size=W3.heap.size:=hU.size;clear hU H4t H4r H4n H4B;have Rr0:Hid (W4.cell? ⟨w.heap.size+1,0,none⟩=some (.slice p2 m2 c2)):=H5r.o.cell 0;have Rr1:Hid (W4.cell? ⟨w.heap.size+1,1,none⟩=some (.slice a n cap)):=H5r.o.cell 1;have Rr2:Hid (W4.cell? ⟨w.heap.size+1,2,none⟩=some (zI (m:Int))):=H5r.o.cell 2;go_wp2_with fail;exact bodyPost_ret (v:= .tuple #[.agg #[.slice p2 m2 c2,.slice a n cap,zI (m:Int)],zI 0]) (by simp [results,Tryz.results18,Rr0.o,Rr1.o,Rr2.o,go_sem]) rfl (.inr ⟨p2,m2,c2,xs,bk,l,by rw [HLN.o],HV.o,HKI.o,HS4.o,hm2,H5B.o⟩)
  ·have d2:(f2 != 0)=true:=by simpa using h2
   have HV2:Hid (f2≠0∧LoadIs t c [] f2):=⟨h2,by rw [← HBN.o h2];exact HV.o⟩
   clear h2 HS2 HS3 HBN HV
   go_wp2_with (first
    | (refine zql rfl rfl rfl rfl zqu78 (by simp [Value.oneCell']) H4r rfl ?_)
    | (refine zqw rfl rfl rfl H4t zqu30 ?_)
    | (refine zqw rfl rfl rfl H4r zqu78 ?_)
    | (refine zqw rfl rfl rfl H4n zqu41 ?_)
    | fail)
   intro W4 hU;have H5t:=shK hU H4t (by omega);have H5r:Hid (Blk W4 (w.heap.size+1) #[zS,zS,zI 0] 78):=hU.blk;have H5n:=shK hU H4n (by omega);have H5B:=shV hU H4B (by omega);have hsW4:W4.heap.size=W3.heap.size:=hU.size;clear hU H4t H4r H4n H4B;obtain ⟨Rr0,Rr1,Rr2⟩:=shc3 H5r;go_wp2_with fail;exact bodyPost_ret (v:= .tuple #[.agg #[zS,zS,zI 0],zI f2]) (by simp [results,Tryz.results18,Rr0.o,Rr1.o,Rr2.o,go_sem]) rfl (.inl ⟨f2,rfl,HV2.o.1,HV2.o.2,H5B.o⟩)
 ·have d0:(f != 0)=true:=by simpa using h0
  have HV:Hid (f≠0∧LoadIs t c [] f):=⟨h0,l,f,HKI.o,.inl ⟨h0,rfl,rfl⟩⟩
  clear h0 HEC HKI
  go_wp2_with (first
   | (refine zql rfl rfl rfl rfl zqu78 (by simp [Value.oneCell']) H1r rfl ?_)
   | (refine zqw rfl rfl rfl H1t zqu30 ?_)
   | (refine zqw rfl rfl rfl H1r zqu78 ?_)
   | fail)
  intro W3 hU;have H2t:=shK hU H1t (by omega);have H2r:Hid (Blk W3 (w.heap.size+1) #[zS,zS,zI 0] 78):=hU.blk;have H2B:=shV hU H1B (by omega);have hsW3:W3.heap.size=w1.heap.size:=hU.size;clear hU H1t H1r H1B;obtain ⟨Rr0,Rr1,Rr2⟩:=shc3 H2r;go_wp2_with fail;exact bodyPost_ret (v:= .tuple #[.agg #[zS,zS,zI 0],zI f]) (by simp [results,Tryz.results18,Rr0.o,Rr1.o,Rr2.o,go_sem]) rfl (.inl ⟨f,rfl,HV.o.1,HV.o.2,H2B.o⟩)
theorem load_len {t:Tm} {c:List Int} {bk:List Cm} {l:List Ev} (h:LoadIs t c bk 0) (hk:KeptIs c l 0):l.length≤120:=by
 obtain ⟨l',e,hk',⟨p,_,q⟩ | ⟨_,a,q⟩⟩:=h
 ·exact absurd q.symm p
 ·rw [(hk.one hk').1];exact (book_ok q).2.1
end vnd
end Go.Proofs.YtdpfnedfakgolaaGreatDoor
