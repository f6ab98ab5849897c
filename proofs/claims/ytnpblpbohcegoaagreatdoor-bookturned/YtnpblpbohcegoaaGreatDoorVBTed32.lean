import Derived.Test.YtnpblpbohcegoaaGreatDoorVBTed29
set_option linter.unusedVariables false
set_option linter.unusedSimpArgs false
set_option maxHeartbeats 4000000
set_option maxRecDepth 100000
namespace Go.Proofs.YtnpblpbohcegoaaGreatDoor
namespace book
open Go.RowKit
open acc (Ac Tm Bi APost BPost TFault TRight OpenIs OweIs SellIs GrantIs RekeyIs wf6 ACame TCame fresh_updN fresh_drew came_lt)
def CuPost (w:World) (a:Option Addr) (bk:List Cm) (me:Int) (e:Ending) (w':World):Prop:=w'=w∧((∃ k g,FirstAt bk me k∧a=some ⟨g,0,none⟩∧e = .returned (.pointer (some ⟨g,k*8,none⟩)))∨(NoneAt bk me∧e = .panicked (thrown 18)))
theorem bcust (gW B:Nat) (t:Tm) (pt:Option Addr) (lt ct:Nat) (a:Option Addr) (n cap:Nat) (bk:List Cm) (me:Int) (w:World) (hw:Blk w gW #[.slice a n cap,.slice pt lt ct,zI t.ff,zI t.fb,zI t.db,zI t.al,.map (some B)] 113) (hm:MpI w B (mes bk)) (hn:bk.length=n) (ha:0<n→∃ g,a=some ⟨g,0,none⟩) (hs:n≤1000):Calls Tryz.prog 71 #[.pointer (some ⟨gW,0,none⟩),zI me] w fun e w'=>CuPost w a bk me e w':=by
 have HNO:Hid (∀ W,Calls Tryz.prog 112 #[zI 18] W fun e w'=>e = .panicked (thrown 18)∧w'=W):=fun W=>insist_no 18 (by decide) W;have q0:w.cell? ⟨gW,0,none⟩=some (.slice a n cap):=hw.cell 0;have q6:w.cell? ⟨gW,6,none⟩=some (.map (some B)):=hw.cell 6;have hlk:=lookI_run hm me;clear hw hm;cases hf:firstI (mes bk) me with
 | none=>
  rw [hf] at hlk;simp only [Option.getD_none,Option.isSome_none] at hlk;have HN:Hid (NoneAt bk me):=first_none hf;clear hf;go_enter Tryz.func71,Tryz.ntmps71;go_wp2_with fail;refine (HNO.o _).mono ?_;rintro e W9 ⟨rfl,rfl⟩;exact ⟨rfl,rfl,.inr ⟨HN.o,rfl⟩⟩
 | some k=>
  rw [hf] at hlk;simp only [Option.getD_some,Option.isSome_some] at hlk;have hfa:=first_some hf;have hkn:k<n:=by have:=hfa.1;omega
  obtain ⟨g,rfl⟩:=ha (by omega);have HN:Hid (FirstAt bk me k):=hfa;clear hf hfa ha hn;go_enter Tryz.func71,Tryz.ntmps71;go_wp2_with fail;go_ret;exact ⟨rfl,.inl ⟨k,g,HN.o,rfl,by first | rfl | simp⟩⟩
def OwPost (w:World) (x:Ac) (d:tar.Du) (e:Ending) (w':World):Prop:=Below w.heap.size w w'∧((∃ b pb lb cb,e = .returned (acc.Ac.v b pb lb cb)∧OweIs x d b 0∧deb.Fresh w' w.heap.size pb lb cb b.ds)∨∃ b f,f≠0∧e = .panicked (thrown f)∧OweIs x d b f)
theorem bowing (x:Ac) (p:Option Addr) (len cap:Nat) (d:tar.Du) (w:World) (ha:ACame w x p len cap) (hd:(Lit.int .i64 d.a).wf=true∧(Lit.int .i64 d.b).wf=true):Calls Tryz.prog 72 #[.agg #[zI x.me,zI x.rv,zI x.nx,zI x.mo,zI x.bo,zI x.fr,.slice p len cap],.agg #[zI d.a,zI d.b]] w fun e w'=>OwPost w x d e w':=by
 have HNO:Hid (∀ (f:Int) (hf:f≠0) W,Calls Tryz.prog 112 #[zI f] W fun e w'=>e = .panicked (thrown f)∧w'=W):=fun f hf W=>insist_no f hf W;have HOK:Hid (∀ W,Calls Tryz.prog 112 #[zI 0] W fun e w'=>e = .returned (.tuple #[])∧w'=W):=fun W=>insist_ok W;obtain ⟨W0,HWW,H0a,H0d,H0r,H0B,hs0⟩:=sh3 w #[zI x.me,zI x.rv,zI x.nx,zI x.mo,zI x.bo,zI x.fr,.slice p len cap] 51 #[zI d.a,zI d.b] 70 #[zI 0,zI 0,zI 0,zI 0,zI 0,zI 0,zS] 51;have H0A:Hid (ACame W0 x p len cap):=ha.below H0B.o;go_enter Tryz.func72,Tryz.ntmps72;go_upto_region 1 with fail
 rw [HWW.o];clear HWW;have HSL:Hid (Calls Tryz.prog 75 #[.agg #[zI x.me,zI x.rv,zI x.nx,zI x.mo,zI x.bo,zI x.fr,.slice p len cap],.agg #[zI d.a,zI d.b]] W0 fun e w'=>APost W0 (OweIs x d) e w'):=acc.kowe _ x p len cap d H0A.o hd;clear hd ha;have HS0:Hid (w.heap.size≤W0.heap.size):=H0B.o.size
 go_wp2_with (first
  | (refine zqw rfl rfl rfl H0a zqu51 ?_)
  | (refine zqw rfl rfl rfl H0d zqu70 ?_)
  | (refine zqw rfl rfl rfl H0r zqu51 ?_)
  | fail)
 refine HSL.o.mono ?_;rintro e w1 ⟨b,pb,lb,cb,f,rfl,hi,hf,hb1⟩;have hW1:W0.heap.size≤w1.heap.size:=hb1.size;have HI:Hid (OweIs x d b f):=hi;have HF1:Hid (deb.Fresh w1 W0.heap.size pb lb cb b.ds):=hf;have H1a:=shN H0a hb1;have H1d:=shN H0d hb1;have H1r:=shN H0r hb1;have H1B:=shB H0B hb1;clear H0a H0d H0r H0B;clear hi hf hb1 HSL;unfold acc.Ac.v acc.Ac.cs
 go_wp2_with (first
  | (refine zql rfl rfl rfl rfl zqu51 (by simp [Value.oneCell']) H1a rfl ?_)
  | (refine zqw rfl rfl rfl H1a zqu51 ?_)
  | (refine zqw rfl rfl rfl H1d zqu70 ?_)
  | (refine zqw rfl rfl rfl H1r zqu51 ?_)
  | fail)
 intro V1 hU;have H2a:Hid (Blk V1 (w.heap.size) #[zI b.me,zI b.rv,zI b.nx,zI b.mo,zI b.bo,zI b.fr,.slice pb lb cb] 51):=hU.blk;have H2d:=shK hU H1d (by omega);have H2r:=shK hU H1r (by omega);have H2B:=shV hU H1B (by omega);clear H1a H1d H1r H1B;have HF2:Hid (deb.Fresh V1 W0.heap.size pb lb cb b.ds):=fresh_updN HF1.o hU (fun hn y hy=>by have f1:=HF1.o.new hn y hy;omega);clear hU HF1;by_cases h0:f=0
 case neg=>
  have HN1:=HNO.o f h0;have HN2:Hid (∀ W,Calls Tryz.prog 112 #[zI f] W fun e w'=>e = .panicked (thrown f)∧w'=W):=HN1;have HNE:Hid (f≠0):=h0;clear HN1 HNO h0
  go_wp2_with (first
   | (refine zqw rfl rfl rfl H2a zqu51 ?_)
   | (refine zqw rfl rfl rfl H2d zqu70 ?_)
   | (refine zqw rfl rfl rfl H2r zqu51 ?_)
   | fail)
  refine (HN2.o _).mono ?_;rintro e W9 ⟨rfl,rfl⟩;exact ⟨rfl,H2B.o,.inr ⟨b,f,HNE.o,rfl,HI.o⟩⟩
 subst h0
 go_wp2_with (first
  | (refine zqw rfl rfl rfl H2a zqu51 ?_)
  | (refine zqw rfl rfl rfl H2d zqu70 ?_)
  | (refine zqw rfl rfl rfl H2r zqu51 ?_)
  | fail)
 refine (HOK.o _).mono ?_;rintro e W9 ⟨rfl,hw9⟩;obtain rfl:V1=W9:=hw9.symm
 go_wp2_with (first
  | (refine zql rfl rfl rfl rfl zqu51 (by simp [Value.oneCell']) H2r rfl ?_)
  | (refine zqw rfl rfl rfl H2a zqu51 ?_)
  | (refine zqw rfl rfl rfl H2d zqu70 ?_)
  | (refine zqw rfl rfl rfl H2r zqu51 ?_)
  | fail)
 intro V2 hU;have H3a:=shK hU H2a (by omega);have H3d:=shK hU H2d (by omega);have H3r:Hid (Blk V2 (w.heap.size+1+1) #[zI b.me,zI b.rv,zI b.nx,zI b.mo,zI b.bo,zI b.fr,.slice pb lb cb] 51):=hU.blk;have H3B:=shV hU H2B (by omega);clear H2a H2d H2r H2B;have HF3:Hid (deb.Fresh V2 W0.heap.size pb lb cb b.ds):=fresh_updN HF2.o hU (fun hn y hy=>by have f1:=HF2.o.new hn y hy;omega);clear hU HF2;obtain ⟨R0,R1,R2,R3,R4,R5,R6⟩:=shc7 H3r;go_wp2_with fail;exact bodyPost_ret (v:= .agg #[zI b.me,zI b.rv,zI b.nx,zI b.mo,zI b.bo,zI b.fr,.slice pb lb cb]) (by simp [results,Tryz.results72,R0.o,R1.o,R2.o,R3.o,R4.o,R5.o,R6.o,go_sem]) rfl ⟨H3B.o,.inl ⟨b,pb,lb,cb,rfl,HI.o,HF3.o.low HS0.o⟩⟩
end book
namespace words
open Go.RowKit
theorem run_timesStep (args:Array Value) (w:World):(callFunc 130 args).run Tryz.prog w = .ok (.enter 130 args) w:=by kernel_rfl
theorem times_any (x:W3) (m:Int) (w:World) (hx:x.ok) (m0:0≤m) (m1:m<4294967296) :
  Calls Tryz.prog 86 #[wv x,.int .u32 m] w fun e w'=>e = .returned (.tuple #[wv (timesW x m),.int .u32 (timesO x m)])∧Below w.heap.size w w':=by
 obtain ⟨x0,x1,x2⟩:=x;obtain ⟨⟨h0,h0'⟩,⟨h1,h1'⟩,h2,h2'⟩:=hx;simp only at h0 h0' h1 h1' h2 h2';go_enter Tryz.func86,Tryz.ntmps86;go_wp2_with fail;obtain ⟨p0,p0'⟩:=prod_bd h0 h0' m0 m1;obtain ⟨p1,p1'⟩:=prod_bd h1 h1' m0 m1;obtain ⟨p2,p2'⟩:=prod_bd h2 h2' m0 m1;have hc:=trio_d w #[.int .u32 x0,.int .u32 x1,.int .u32 x2] (.int .u32 m) 99 (.int .u32 0) (.int .u32 0) (.int .u32 0) (.int .u64 0) 223;have hb3:=bel4 w (.cells #[.int .u32 x0,.int .u32 x1,.int .u32 x2] 131) (.cells #[.int .u32 m] 99) (.cells #[.int .u32 0,.int .u32 0,.int .u32 0] 131) (.cells #[.int .u64 0] 223);have e0:(0:Int)+x0*m=x0*m:=by omega
 refine (upward_any 130 #[.pointer (some ⟨w.heap.size+1+1+1,0,none⟩),.pointer (some ⟨w.heap.size+1,0,none⟩)] (w.heap.size+1+1+1) (.int .u64 0) (.int .u64 ((x0*m) / 4294967296)) (.int .u64 (((x0*m) / 4294967296+x1*m) / 4294967296)) (.int .u64 ((((x0*m) / 4294967296+x1*m) / 4294967296+x2*m) / 4294967296)) x0 x1 x2
  ((x0*m) % 4294967296) (((x0*m) / 4294967296+x1*m) % 4294967296) ((((x0*m) / 4294967296+x1*m) / 4294967296+x2*m) % 4294967296) _ (Acc.refl hc.1 hc.2.1) run_timesStep
  (fun w' h=>by have:=timesStep_any (w.heap.size+1+1+1) (w.heap.size+1) 0 x0 m w' h.cell h.free (h.keep hc.2.2.2 (by omega)) (by omega) (by omega) h0 h0' m0 m1;rw [e0] at this;exact this)
  (fun w' h=>timesStep_any _ _ _ _ _ w' h.cell h.free (h.keep hc.2.2.2 (by omega)) (by omega) (by omega) h1 h1' m0 m1)
  (fun w' h=>timesStep_any _ _ _ _ _ w' h.cell h.free (h.keep hc.2.2.2 (by omega)) (by omega) (by omega) h2 h2' m0 m1)).mono ?_
 rintro e w1 ⟨he,hA⟩;have hR:Trio w1 (w.heap.size+1+1) (.int .u32 0) (.int .u32 0) (.int .u32 0):=hc.2.2.1.acc hA (by omega);have HB:Hid (Below w.heap.size w w1):=hA.below hb3 (by omega);have hcell:=hA.cell;have hsz:w.heap.size+1+1+1<w1.heap.size:=Nat.lt_of_lt_of_le hA.old hA.size;have EW:wv (timesW ⟨x0,x1,x2⟩ m) = .agg #[.int .u32 ((x0*m) % 4294967296),.int .u32 (((x0*m) / 4294967296+x1*m) % 4294967296),.int .u32 ((((x0*m) / 4294967296+x1*m) / 4294967296+x2*m) % 4294967296)]:=rfl;have EO:timesO ⟨x0,x1,x2⟩ m=(((x0*m) / 4294967296+x1*m) / 4294967296+x2*m) / 4294967296:=rfl;have z0:0≤(((x0*m) / 4294967296+x1*m) / 4294967296+x2*m) / 4294967296:=by omega
 have z1:(((x0*m) / 4294967296+x1*m) / 4294967296+x2*m) / 4294967296<4294967296:=by omega
 have HE:Hid (.returned (.tuple #[wv (timesW ⟨x0,x1,x2⟩ m),.int .u32 (timesO ⟨x0,x1,x2⟩ m)])=Ending.returned (.tuple #[.agg #[.int .u32 ((x0*m) % 4294967296),.int .u32 (((x0*m) / 4294967296+x1*m) % 4294967296),.int .u32 ((((x0*m) / 4294967296+x1*m) / 4294967296+x2*m) % 4294967296)],.int .u32 ((((x0*m) / 4294967296+x1*m) / 4294967296+x2*m) / 4294967296)])):=by
  have:Ending.returned (.tuple #[wv (timesW ⟨x0,x1,x2⟩ m),.int .u32 (timesO ⟨x0,x1,x2⟩ m)])=Ending.returned (.tuple #[.agg #[.int .u32 ((x0*m) % 4294967296),.int .u32 (((x0*m) / 4294967296+x1*m) % 4294967296),.int .u32 ((((x0*m) / 4294967296+x1*m) / 4294967296+x2*m) % 4294967296)],.int .u32 ((((x0*m) / 4294967296+x1*m) / 4294967296+x2*m) / 4294967296)]):=by rw [EW,EO]
  exact this
 clear hA hc hb3 EW EO e0 p0 p0' p1 p1' p2 p2';have HE2:Hid (e = .returned (.agg #[.int .u32 ((x0*m) % 4294967296),.int .u32 (((x0*m) / 4294967296+x1*m) % 4294967296),.int .u32 ((((x0*m) / 4294967296+x1*m) / 4294967296+x2*m) % 4294967296)])):=he;clear he;generalize hz:(((x0*m) / 4294967296+x1*m) / 4294967296+x2*m) / 4294967296=z at hcell z0 z1 HE HE2;generalize hy0:(x0*m) % 4294967296=y0 at HE HE2;generalize hy1:((x0*m) / 4294967296+x1*m) % 4294967296=y1 at HE HE2;generalize hy2:(((x0*m) / 4294967296+x1*m) / 4294967296+x2*m) % 4294967296=y2 at HE HE2;clear hz hy0 hy1 hy2;obtain rfl:=HE2.o;clear HE2;have hR:=hR.alloc (.cells #[.int .u32 y0,.int .u32 y1,.int .u32 y2] 131);have r0:=hR.c0;have r1:=hR.c1;have r2:=hR.c2;have g0:=hR.free 0;have g1:=hR.free 1;have g2:=hR.free 2;have HR:Hid (Trio (w1.alloc (.cells #[.int .u32 y0,.int .u32 y1,.int .u32 y2] 131)) (w.heap.size+1+1) (.int .u32 0) (.int .u32 0) (.int .u32 0)):=hR;clear hR;go_wp2_with fail;go_region
 all_goals go_wp2_with fail
 have RR:=((HR.o.set0 (.int .u32 y0)).set1 (.int .u32 y1)).set2 (.int .u32 y2);refine bodyPost_ret (v:= .tuple #[.agg #[.int .u32 y0,.int .u32 y1,.int .u32 y2],.int .u32 z]) (by simp [results,Tryz.results86,RR.c0,RR.c1,RR.c2,go_sem]) rfl ⟨HE.o.symm,?_⟩;exact below_put (HB.o.alloc HB.o.size _) _ _ _ _ _ _ _ (by omega)
end words
namespace vnd
open book (Ev ev0 EMay evL evOf EncIs DecIs Cm cm0 So so0 BookIs FirstAt NoneAt Tells)
open acc (Ac Tm Bi SellIs GrantIs RekeyIs OweIs)
open ora (Pr IssueIs)
open token (Tok fmtL)
theorem sell_tok {a:Ac} {t:Tm} {te m:Int} {b:Ac} {l:Bi} (h:SellIs a t te m b l 0):(1≤l.id∧l.id≤1048575)∧1≤l.un∧l.un≤2097151:=by
 rcases h with ⟨h,rfl,rfl⟩ | ⟨_,_,h,_⟩ | ⟨_,_,_,h,_⟩ | ⟨hr,ht,hn,_,u,hu,rfl,rfl⟩
 ·rcases h with ⟨_,h⟩ | ⟨_,h1,h2⟩ | ⟨_,_,_,h⟩
  ·cases h
  ·exact absurd (h2.ok.1 rfl) h1
  ·exact absurd rfl h.ne
 ·cases h
 ·cases h
 ·have h1:=hr.1.2.2.2.1.1;have h2:=hu.1;unfold tar.Top at h2;have h3:u≠0:=fun e=>ht.2.2 (by rw [← e];exact hu);refine ⟨⟨h1,hn⟩,?_,?_⟩
  ·show 1≤u;omega
  ·show u≤2097151;omega
theorem grant_tok {a:Ac} {t:Tm} {m:Int} {b:Ac} {l:Bi} (h:GrantIs a t m b l 0):(1≤l.id∧l.id≤1048575)∧1≤l.un∧l.un≤2097151:=by
 rcases h with ⟨h,rfl,rfl⟩ | ⟨_,_,h,_⟩ | ⟨_,_,_,h,_⟩ | ⟨_,_,_,_,h,_⟩ | ⟨hr,ha,_,hn,_,rfl,rfl⟩
 ·rcases h with ⟨_,h⟩ | ⟨_,h1,h2⟩ | ⟨_,_,_,h⟩
  ·cases h
  ·exact absurd (h2.ok.1 rfl) h1
  ·exact absurd rfl h.ne
 ·cases h
 ·cases h
 ·cases h
 ·have h1:=hr.1.2.2.2.1.1;have h2:=hr.2.1.2.2.2.2;refine ⟨⟨h1,hn⟩,?_,?_⟩
  ·show 1≤t.al;have:=h2.1;omega
  ·exact h2.2
theorem rekey_tok {a:Ac} {b:Ac} {l:Bi} (h:RekeyIs a b l 0):(1≤l.id∧l.id≤1048575)∧1≤a.rv+1∧a.rv+1≤15:=by
 rcases h with ⟨_,_,_,h⟩ | ⟨_,_,_,_,h⟩ | ⟨_,_,_,_,_,h⟩ | ⟨ha,hr,hn,rfl,rfl,_⟩
 ·cases h
 ·cases h
 ·cases h
 ·exact ⟨⟨ha.2.2.2.1.1,hn⟩,by have:=ha.2.2.1.1;omega,by omega⟩
theorem tokB_ok {kd rv:Int} {l:Bi} {tg:Int} (hk:kd≠4) (h:(1≤l.id∧l.id≤1048575)∧1≤l.un∧l.un≤2097151) (ht:0≤tg∧tg≤65535):(tokB kd rv l tg).ok∧(tokB kd rv l tg).v = .agg #[zI 0,zI l.id,zI l.un,zI tg]:=by
 have e:tokB kd rv l tg=⟨0,l.id.toNat,l.un.toNat,tg.toNat⟩:=by unfold tokB;rw [if_neg hk]
 rw [e];refine ⟨⟨by show (0:Nat)≤3;omega,?_,?_,?_,?_,fun _=>?_,(fun h=>by cases h),fun h=>by rcases h with h | h <;> cases h⟩,?_⟩
 ·show 1≤l.id.toNat;omega
 ·show l.id.toNat≤1048575;omega
 ·show tg.toNat≤65535;omega
 ·show l.un.toNat≤2097151;omega
 ·show 1≤l.un.toNat;omega
 ·unfold token.Tok.v;show Value.agg #[zI ((0:Nat):Int),zI (l.id.toNat:Int),zI (l.un.toNat:Int),zI (tg.toNat:Int)]=_;rw [Int.toNat_of_nonneg (by omega),Int.toNat_of_nonneg (by omega),Int.toNat_of_nonneg ht.1];rfl
theorem tokB_ok4 {rv:Int} {l:Bi} {tg:Int} (h:(1≤l.id∧l.id≤1048575)∧1≤rv+1∧rv+1≤15) (ht:0≤tg∧tg≤65535):(tokB 4 rv l tg).ok∧(tokB 4 rv l tg).v = .agg #[zI 2,zI l.id,zI (rv+1),zI tg]:=by
 have e:tokB 4 rv l tg=⟨2,l.id.toNat,(rv+1).toNat,tg.toNat⟩:=by unfold tokB;rw [if_pos rfl]
 rw [e];refine ⟨⟨by show (2:Nat)≤3;omega,?_,?_,?_,?_,(fun h=>by cases h),fun _=>⟨?_,?_⟩,fun h=>by rcases h with h | h <;> cases h⟩,?_⟩
 ·show 1≤l.id.toNat;omega
 ·show l.id.toNat≤1048575;omega
 ·show tg.toNat≤65535;omega
 ·show (rv+1).toNat≤2097151;omega
 ·show 1≤(rv+1).toNat;omega
 ·show (rv+1).toNat≤15;omega
 ·unfold token.Tok.v;show Value.agg #[zI ((2:Nat):Int),zI (l.id.toNat:Int),zI ((rv+1).toNat:Int),zI (tg.toNat:Int)]=_;rw [Int.toNat_of_nonneg (by omega),Int.toNat_of_nonneg (by omega),Int.toNat_of_nonneg ht.1];rfl
theorem issue_tag {l ls:List Pr} {m r b d x:Int} (h:IssueIs l m r b d ls x 0):0≤x∧x≤65535:=by
 rcases h with ⟨_,_,_,h⟩ | ⟨_,_,_,_,h⟩ | ⟨hm,hp,⟨i,hi,rfl⟩,_,_⟩ | ⟨_,_,_,_,_,_,h⟩ | ⟨_,hp,_,_,_,rfl,_⟩
 ·cases h
 ·cases h
 ·exact (hm.each i hi.lt).1.2.2.2
 ·cases h
 ·exact hp.2.2.2
end vnd
namespace words
open Go.RowKit
theorem eq1 (d:Nat) (a a':Int) (w:World):(Op.equalIn (d+1) 99 (.int .u32 a) (.int .u32 a')).run Tryz.prog w = .ok (a == a') w:=by
 simp [Op.equalIn,run_underlying Tryz.underlying99,go_sem]
theorem part0 (a b c:Int) (w:World):(part 99 #[.int .u32 a,.int .u32 b,.int .u32 c] 0).run Tryz.prog w = .ok (.int .u32 a) w:=by kernel_rfl
theorem part1 (a b c:Int) (w:World):(part 99 #[.int .u32 a,.int .u32 b,.int .u32 c] 1).run Tryz.prog w = .ok (.int .u32 b) w:=by kernel_rfl
theorem part2 (a b c:Int) (w:World):(part 99 #[.int .u32 a,.int .u32 b,.int .u32 c] 2).run Tryz.prog w = .ok (.int .u32 c) w:=by kernel_rfl
theorem eq3 (a b c a' b' c':Int) (w:World) :
  (Op.equalIn 10000 131 (.agg #[.int .u32 a,.int .u32 b,.int .u32 c]) (.agg #[.int .u32 a',.int .u32 b',.int .u32 c'])).run Tryz.prog w = .ok (a == a' && (b == b' && c == c')) w:=by
 obtain ⟨i0,hi⟩:∃ i,Tryz.prog.info? 99=some i:=⟨_,rfl⟩
 rw [show (10000:Nat)=9999+1 from rfl,run_equalIn_array (w:=w) 9999 _ _ Tryz.underlying131 hi,cells_word,show List.range 3=[0,1,2] from rfl];simp only [Op.eqItems,Sem.run_bind,Nat.mul_one,part0,Result.andThen_ok,show (9999:Nat)=9998+1 from rfl,eq1];by_cases ha:a=a'
 ·by_cases hb:b=b'
  ·by_cases hc:c=c'
   ·simp [part1,part2,Sem.run_bind,eq1,ha,hb,hc]
   ·simp [part1,part2,Sem.run_bind,eq1,ha,hb,hc]
  ·simp [part1,Sem.run_bind,eq1,ha,hb]
 ·simp [ha]
theorem eq3_same (x:W3) (w:World):(Op.equalIn 10000 131 (wv x) (wv x)).run Tryz.prog w = .ok true w:=by
 rw [eq3];simp
theorem eq3_other {x y:W3} (h:x≠y) (w:World):(Op.equalIn 10000 131 (wv x) (wv y)).run Tryz.prog w = .ok false w:=by
 rw [eq3];have:=agg_ne h
 congr 1
 simp;intro h1 h2 h3;exact this ⟨h1,h2,h3⟩
end words
end Go.Proofs.YtnpblpbohcegoaaGreatDoor
