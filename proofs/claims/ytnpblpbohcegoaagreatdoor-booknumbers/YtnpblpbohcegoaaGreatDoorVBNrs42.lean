import Derived.Test.YtnpblpbohcegoaaGreatDoorVBNrs33
import Derived.Test.YtnpblpbohcegoaaGreatDoorVBNrs40
import Derived.Test.YtnpblpbohcegoaaGreatDoorVBNrs41
set_option linter.unusedVariables false
set_option linter.unusedSimpArgs false
set_option maxHeartbeats 4000000
set_option maxRecDepth 100000
namespace Go.Proofs.YtnpblpbohcegoaaGreatDoor
namespace vnd
open disk (RepIs AppIs)
open book (Ev ev0 EMay evL evOf EncIs DecIs Cm cm0 So so0 BookIs Sees ECame FirstAt NoneAt Tells)
open acc (Ac Tm Bi TCame ACame SellIs GrantIs RekeyIs)
open ora (Pr IssueIs)
open token (Tok TTab fmtL)
open rcp (Rc rc0)
open cell (Wr RowU RowW)
open Go.RowKit
def BGot (w:World) (R:Ac→Bi→Int→Prop) (e:Ending) (w':World):Prop:=∃ b l p len cap f,e = .returned (.tuple #[acc.Ac.v b p len cap,acc.Bi.v l,zI f])∧R b l f∧Below w.heap.size w w'
theorem BGot.of {w:World} {R:Ac→Bi→Int→Prop} {e:Ending} {w':World} (h:acc.BPost w R e w'):BGot w R e w':=by
 obtain ⟨b,l,p,len,cap,f,h1,h2,_,h4⟩:=h;exact ⟨b,l,p,len,cap,f,h1,h2,h4⟩
def TagP (w:World) (o:List Pr) (me rv bd dr cl id am:Int) (e:Ending) (w':World):Prop:=∃ p5 n5 c5 o2 tg f,e = .returned (.tuple #[.agg #[.slice p5 n5 c5],.agg #[zI cl,zI id,zI am,zI tg],zI f])∧IssueIs o me rv bd dr o2 tg f∧ora.RowP w' p5 n5 o2∧(p5=none→c5=0)∧n5≤c5∧(∀ x,p5=some x→w.heap.size≤x.block)∧Below w.heap.size w w'
theorem ptagged (ao:Option Addr) (no ko:Nat) (o:List Pr) (y:Ac) (dp:Option Addr) (dn dc:Nat) (cl id am dr:Int) (K:Tok) (w:World) (ht:TTab w) (hk:K.ok) (hv:K.v = .agg #[zI cl,zI id,zI am,zI 0]) (ho:ora.RowP w ao no o):Calls Tryz.prog 123 #[.agg #[.slice ao no ko],.agg #[zI y.me,zI y.rv,zI y.nx,zI y.mo,zI y.bo,zI y.fr,.slice dp dn dc],.agg #[zI cl,zI id,zI am,zI 0],zI dr] w fun e w'=>TagP w o y.me y.rv (K.body:Int) dr cl id am e w':=by
 have HO:Hid (∀ W,Below w.heap.size w W→ora.RowP W ao no o):=fun W hW=>ho.below hW
 have HBO:Hid (∀ W,Below w.heap.size w W→Calls Tryz.prog 162 #[.agg #[zI cl,zI id,zI am,zI 0]] W fun e w'=>e = .returned (.tuple #[zI (K.body:Int),zI 0])∧Below W.heap.size W w'):=fun W hW=>by
  have hh:=token.body_ok K W (ht.below hW) hk;rw [hv] at hh;exact hh
 clear ht hk hv ho;generalize (K.body:Int)=bd at *;obtain ⟨W0,HWW,H0o,H0a,H0k,H0r,H0q,H0B,hs0⟩:=sh5 w #[.slice ao no ko] 39 #[zI y.me,zI y.rv,zI y.nx,zI y.mo,zI y.bo,zI y.fr,.slice dp dn dc] 51 #[zI cl,zI id,zI am,zI 0] 96 #[zS] 39 #[zI 0,zI 0,zI 0,zI 0] 96;go_enter Tryz.func123,Tryz.ntmps123;go_upto_region 1 with fail
 rw [HWW.o];clear HWW;have HBD:=HBO.o W0 H0B.o;clear HBO
 go_wp2_with (first
  | (refine zqw rfl rfl rfl H0o zqu39 ?_)
  | (refine zqw rfl rfl rfl H0a zqu51 ?_)
  | (refine zqw rfl rfl rfl H0k zqu96 ?_)
  | (refine zqw rfl rfl rfl H0r zqu39 ?_)
  | (refine zqw rfl rfl rfl H0q zqu96 ?_)
  | fail)
 refine HBD.mono ?_;rintro e w1 ⟨rfl,hb1⟩;have H1o:=shN H0o hb1;have H1a:=shN H0a hb1;have H1k:=shN H0k hb1;have H1r:=shN H0r hb1;have H1q:=shN H0q hb1;have H1B:=shB H0B hb1;have hsw1:W0.heap.size≤w1.heap.size:=hb1.size;clear hb1 H0o H0a H0k H0r H0q H0B;clear HBD;have HIS:Hid (Calls Tryz.prog 163 #[.agg #[.slice ao no ko],zI y.me,zI y.rv,zI bd,zI dr] w1 fun e w'=>ora.IssueQ w1 o y.me y.rv bd dr e w'):=ora.poi ao no ko o y.me y.rv bd dr w1 (HO.o _ H1B.o);have qa0:w1.cell? ⟨w.heap.size+1,0,none⟩=some (zI y.me):=H1a.o.cell 0;have qa1:w1.cell? ⟨w.heap.size+1,1,none⟩=some (zI y.rv):=H1a.o.cell 1
 go_wp2_with (first
  | (refine zqw rfl rfl rfl H1o zqu39 ?_)
  | (refine zqw rfl rfl rfl H1a zqu51 ?_)
  | (refine zqw rfl rfl rfl H1k zqu96 ?_)
  | (refine zqw rfl rfl rfl H1r zqu39 ?_)
  | (refine zqw rfl rfl rfl H1q zqu96 ?_)
  | fail)
 clear qa0 qa1;refine HIS.o.mono ?_;rintro e w2 ⟨v5,o2,tg,f5,rfl,hpw,hisx,hb2⟩;have H2o:=shN H1o hb2;have H2a:=shN H1a hb2;have H2k:=shN H1k hb2;have H2r:=shN H1r hb2;have H2q:=shN H1q hb2;have H2B:=shB H1B hb2;have hsw2:w1.heap.size≤w2.heap.size:=hb2.size;clear hb2 H1o H1a H1k H1r H1q H1B;obtain ⟨p5,c5,rfl,hrp,hnl,hcp,hnw⟩:=hpw.lies;have HII:Hid (IssueIs o y.me y.rv bd dr o2 tg f5):=hisx;have HRP:Hid (ora.RowP w2 p5 o2.length o2):=hrp;have HNL:Hid ((p5=none→c5=0)∧o2.length≤c5):=⟨hnl,hcp⟩
 have HNW:Hid (∀ x,p5=some x→w1.heap.size≤x.block∧x.block<w2.heap.size):=hnw;clear hrp hnl hcp hnw hisx hpw HIS HO;generalize o2.length=n5 at *;have H3E:Hid (Below w2.heap.size w2 w2):=Below.refl _ _;obtain ⟨W3,HWW,H4n,H4E,hsW3⟩:=sh1 w2 #[.slice p5 n5 c5] 39;have H4o:=shN H2o H4E.o;have H4a:=shN H2a H4E.o;have H4k:=shN H2k H4E.o;have H4r:=shN H2r H4E.o;have H4q:=shN H2q H4E.o;have H4B:=shB H2B H4E.o;go_upto_region 3 with fail
 clear H2o H2a H2k H2r H2q H3E H2B;rw [HWW.o];clear HWW;go_wp2_with (first | (refine wp_let1 rfl 3 _ _ rfl (w.heap.size+1+1) 3 rfl .i64 tg rfl (by kernel_rfl) #[zI cl,zI id,zI am,zI 0] 96 H4k.o (by simp) ?_) | fail)
 intro W4 hU;have HRW:Hid (ora.RowP W4 p5 n5 o2):=rowP_off (HRP.o.below H4E.o) (fun x hx=>by have:=HNW.o x hx;omega) hU;have H5o:=shK hU H4o (by omega);have H5a:=shK hU H4a (by omega);have H5k:Hid (Blk W4 (w.heap.size+1+1) #[zI cl,zI id,zI am,zI tg] 96):=hU.blk;have H5r:=shK hU H4r (by omega);have H5q:=shK hU H4q (by omega);have H5n:=shK hU H4n (by omega);have H5B:=shV hU H4B (by omega);have hsW4:W4.heap.size=W3.heap.size:=hU.size;clear hU H4o H4a H4k H4r H4q H4n H4E H4B;clear HRP;go_wp2_with fail;refine wp_region_held_drew (S:=fun v=>Blk v (w2.heap.size) #[.slice p5 n5 c5] 39∧Blk v (w.heap.size+1+1) #[zI cl,zI id,zI am,zI tg] 96) (by kernel_rfl) ⟨Blk.drew H5n.o 1,Blk.drew H5k.o 1⟩ (fun hHeld=>?_);refine zqt 0 35 (.agg #[.slice p5 n5 c5]) rfl rfl (by kernel_rfl) zid (Or.inl ⟨by rfl,fun v hv=>by have g0:=hv.1.cell 0;clear hv;go_simp⟩) hHeld ?_;simp only [zq];refine zqt 1 36 (.agg #[zI cl,zI id,zI am,zI tg]) rfl rfl (by kernel_rfl) zid (Or.inl ⟨by rfl,fun v hv=>by have g0:=hv.2.cell 0;have g1:=hv.2.cell 1;have g2:=hv.2.cell 2;have g3:=hv.2.cell 3;clear hv;go_simp⟩) hHeld ?_;simp only [zq];refine zqs 2 37 (zI f5) rfl rfl (by kernel_rfl) zid rfl (fun v hv=>by clear hv;go_simp) hHeld ?_;simp only [zq];refine zqo 3 (by kernel_rfl) rfl (fun K hK=>?_);rw [if_pos (by rfl)];refine wp_letOp 39 _ _ rfl (w.heap.size+1+1+1) rfl #[.slice p5 n5 c5] rfl (by kernel_rfl) (by simp [Value.oneCell']) #[zS] 39 (Blk.drew H5r.o 1) rfl rfl ?_;intro V1 hU;have H6o:Hid (Blk V1 (w.heap.size) #[.slice ao no ko] 39):=hU.keep (Blk.drew H5o.o 1) (by omega);have H6a:Hid (Blk V1 (w.heap.size+1) #[zI y.me,zI y.rv,zI y.nx,zI y.mo,zI y.bo,zI y.fr,.slice dp dn dc] 51):=hU.keep (Blk.drew H5a.o 1) (by omega);have H6k:Hid (Blk V1 (w.heap.size+1+1) #[zI cl,zI id,zI am,zI tg] 96):=hU.keep (Blk.drew H5k.o 1) (by omega);have H6r:Hid (Blk V1 (w.heap.size+1+1+1) #[.slice p5 n5 c5] 39):=hU.blk
 have H6q:Hid (Blk V1 (w.heap.size+1+1+1+1) #[zI 0,zI 0,zI 0,zI 0] 96):=hU.keep (Blk.drew H5q.o 1) (by omega);have H6n:Hid (Blk V1 (w2.heap.size) #[.slice p5 n5 c5] 39):=hU.keep (Blk.drew H5n.o 1) (by omega);have HRV1:Hid (ora.RowP V1 p5 n5 o2):=rowP_off (HRW.o.below (bel_drew (Below.refl _ _) 1)) (fun x hx=>by have:=HNW.o x hx;omega) hU;have H6B:Hid (Below w.heap.size w V1):=hU.bel _ _ (by omega) H5B.o.drew;clear hU H5o H5a H5k H5r H5q H5n H5B;refine hK.o _ _ ⟨H6n.o,H6k.o⟩ (fun hHeld=>?_);clear hK K;refine zqo 4 (by kernel_rfl) rfl (fun K hK=>?_);rw [if_pos (by rfl)];refine wp_letOp 96 _ _ rfl (w.heap.size+1+1+1+1) rfl #[zI cl,zI id,zI am,zI tg] rfl (by kernel_rfl) (by simp [Value.oneCell']) #[zI 0,zI 0,zI 0,zI 0] 96 H6q.o rfl rfl ?_;intro V2 hU;have H7o:=shK hU H6o (by omega);have H7a:=shK hU H6a (by omega);have H7k:=shK hU H6k (by omega);have H7r:=shK hU H6r (by omega);have H7q:Hid (Blk V2 (w.heap.size+1+1+1+1) #[zI cl,zI id,zI am,zI tg] 96):=hU.blk;have H7n:=shK hU H6n (by omega);have HRV2:Hid (ora.RowP V2 p5 n5 o2):=rowP_off HRV1.o (fun x hx=>by have:=HNW.o x hx;omega) hU;have H7B:=shV hU H6B (by omega);clear hU H6o H6a H6k H6r H6q H6n H6B;refine hK.o _ _ ⟨H7n.o,H7k.o⟩ (fun hHeld=>?_);clear hK K;refine zqs 5 10 (zI f5) rfl rfl (by kernel_rfl) zid rfl (fun v hv=>by clear hv;go_simp) hHeld ?_;simp only [zq];refine wpAnyH_done (by kernel_rfl) ?_ _;clear hHeld;have Rr0:Hid (V2.cell? ⟨w.heap.size+1+1+1,0,none⟩=some (.slice p5 n5 c5)):=H7r.o.cell 0;obtain ⟨Rq0,Rq1,Rq2,Rq3⟩:=shc4 H7q;go_wp2_with fail;exact bodyPost_ret (v:= .tuple #[.agg #[.slice p5 n5 c5],.agg #[zI cl,zI id,zI am,zI tg],zI f5]) (by simp [results,Tryz.results123,Rr0.o,Rq0.o,Rq1.o,Rq2.o,Rq3.o,go_sem]) rfl ⟨p5,n5,c5,o2,tg,f5,rfl,HII.o,HRV2.o,HNL.o.1,HNL.o.2,(fun x hx=>by have:=HNW.o x hx;omega),H7B.o⟩
open acc (OweIs)
theorem sell_tok {a:Ac} {t:Tm} {te m:Int} {b:Ac} {l:Bi} (h:SellIs a t te m b l 0):(1≤l.id∧l.id≤1048575)∧1≤l.un∧l.un≤2097151:=by
 rcases h with ⟨h,rfl,rfl⟩ | ⟨_,_,h,_⟩ | ⟨_,_,_,h,_⟩ | ⟨hr,ht,hn,_,u,hu,rfl,rfl⟩
 ·rcases h with ⟨_,h⟩ | ⟨_,h1,h2⟩ | ⟨_,_,_,h⟩
  ·cases h
  ·exact absurd (h2.ok.1 rfl) h1
  ·exact absurd rfl h.ne
 ·cases h
 ·cases h
 ·have h1:=hr.1.2.2.2.1.1;have h2:=hu.1;unfold tar.Top at h2;have h3:u≠0:=fun e=>ht.2.2 (by rw [← e];exact hu);refine ⟨⟨h1,hn⟩,?_,?_⟩
  ·show 1≤u;omega
  ·show u≤2097151;omega
theorem grant_tok {a:Ac} {t:Tm} {m:Int} {b:Ac} {l:Bi} (h:GrantIs a t m b l 0):(1≤l.id∧l.id≤1048575)∧1≤l.un∧l.un≤2097151:=by
 rcases h with ⟨h,rfl,rfl⟩ | ⟨_,_,h,_⟩ | ⟨_,_,_,h,_⟩ | ⟨_,_,_,_,h,_⟩ | ⟨hr,ha,_,hn,_,rfl,rfl⟩
 ·rcases h with ⟨_,h⟩ | ⟨_,h1,h2⟩ | ⟨_,_,_,h⟩
  ·cases h
  ·exact absurd (h2.ok.1 rfl) h1
  ·exact absurd rfl h.ne
 ·cases h
 ·cases h
 ·cases h
 ·have h1:=hr.1.2.2.2.1.1;have h2:=hr.2.1.2.2.2.2;refine ⟨⟨h1,hn⟩,?_,?_⟩
  ·show 1≤t.al;have:=h2.1;omega
  ·exact h2.2
theorem rekey_tok {a:Ac} {b:Ac} {l:Bi} (h:RekeyIs a b l 0):(1≤l.id∧l.id≤1048575)∧1≤a.rv+1∧a.rv+1≤15:=by
 rcases h with ⟨_,_,_,h⟩ | ⟨_,_,_,_,h⟩ | ⟨_,_,_,_,_,h⟩ | ⟨ha,hr,hn,rfl,rfl,_⟩
 ·cases h
 ·cases h
 ·cases h
 ·exact ⟨⟨ha.2.2.2.1.1,hn⟩,by have:=ha.2.2.1.1;omega,by omega⟩
theorem tokB_ok {kd rv:Int} {l:Bi} {tg:Int} (hk:kd≠4) (h:(1≤l.id∧l.id≤1048575)∧1≤l.un∧l.un≤2097151) (ht:0≤tg∧tg≤65535):(tokB kd rv l tg).ok∧(tokB kd rv l tg).v = .agg #[zI 0,zI l.id,zI l.un,zI tg]:=by
 have e:tokB kd rv l tg=⟨0,l.id.toNat,l.un.toNat,tg.toNat⟩:=by unfold tokB;rw [if_neg hk]
 rw [e];refine ⟨⟨by show (0:Nat)≤3;omega,?_,?_,?_,?_,fun _=>?_,(fun h=>by cases h),fun h=>by rcases h with h | h <;> cases h⟩,?_⟩
 ·show 1≤l.id.toNat;omega
 ·show l.id.toNat≤1048575;omega
 ·show tg.toNat≤65535;omega
 ·show l.un.toNat≤2097151;omega
 ·show 1≤l.un.toNat;omega
 ·unfold token.Tok.v;show Value.agg #[zI ((0:Nat):Int),zI (l.id.toNat:Int),zI (l.un.toNat:Int),zI (tg.toNat:Int)]=_;rw [Int.toNat_of_nonneg (by omega),Int.toNat_of_nonneg (by omega),Int.toNat_of_nonneg ht.1];rfl
theorem tokB_ok4 {rv:Int} {l:Bi} {tg:Int} (h:(1≤l.id∧l.id≤1048575)∧1≤rv+1∧rv+1≤15) (ht:0≤tg∧tg≤65535):(tokB 4 rv l tg).ok∧(tokB 4 rv l tg).v = .agg #[zI 2,zI l.id,zI (rv+1),zI tg]:=by
 have e:tokB 4 rv l tg=⟨2,l.id.toNat,(rv+1).toNat,tg.toNat⟩:=by unfold tokB;rw [if_pos rfl]
 rw [e];refine ⟨⟨by show (2:Nat)≤3;omega,?_,?_,?_,?_,(fun h=>by cases h),fun _=>⟨?_,?_⟩,fun h=>by rcases h with h | h <;> cases h⟩,?_⟩
 ·show 1≤l.id.toNat;omega
 ·show l.id.toNat≤1048575;omega
 ·show tg.toNat≤65535;omega
 ·show (rv+1).toNat≤2097151;omega
 ·show 1≤(rv+1).toNat;omega
 ·show (rv+1).toNat≤15;omega
 ·unfold token.Tok.v;show Value.agg #[zI ((2:Nat):Int),zI (l.id.toNat:Int),zI ((rv+1).toNat:Int),zI (tg.toNat:Int)]=_;rw [Int.toNat_of_nonneg (by omega),Int.toNat_of_nonneg (by omega),Int.toNat_of_nonneg ht.1];rfl
theorem issue_tag {l ls:List Pr} {m r b d x:Int} (h:IssueIs l m r b d ls x 0):0≤x∧x≤65535:=by
 rcases h with ⟨_,_,_,h⟩ | ⟨_,_,_,_,h⟩ | ⟨hm,hp,⟨i,hi,rfl⟩,_,_⟩ | ⟨_,_,_,_,_,_,h⟩ | ⟨_,hp,_,_,_,rfl,_⟩
 ·cases h
 ·cases h
 ·exact (hm.each i hi.lt).1.2.2.2
 ·cases h
 ·exact hp.2.2.2
end vnd
namespace book
open Go.RowKit
open acc (Ac Tm Bi APost BPost TFault TRight OpenIs OweIs SellIs GrantIs RekeyIs wf6 ACame TCame fresh_updN fresh_drew came_lt)
theorem Wr.upd {w0:World} {base gW B g:Nat} {t:Tm} {pt:Option Addr} {lt ct:Nat} {V:Value} {xs:List Cu} {bk:List Cm} {w W:World} {cs:Array Value} {ty:TypeId} (h:Wr w0 base gW B t pt lt ct V xs bk w) (hU:Upd w W g cs ty) (h0:g<base) (h1:g≠gW) (h2:g≠B) (h3:w0.heap.size≤g):Wr w0 base gW B t pt lt ct V xs bk W:=
 ⟨hU.keep h.blk (Ne.symm h1),h.mp.upd hU (Ne.symm h2),h.hold.upd hU h0,h.gw,h.gb,h.ne,h.n0,h.n1,by rw [hU.size];exact h.sz,hU.bel _ _ h3 h.bel,h.few,h.wf⟩
theorem Small.more {bk:List Cm} {k m:Nat} (h:Small bk k) (hk:k≤m):Small bk m:=⟨Nat.le_trans h.1 hk,fun c hc=>⟨Nat.le_trans (h.2 c hc).1 hk,(h.2 c hc).2⟩⟩
structure Mid2 (w:World) (t:Tm) (pt:Option Addr) (lt ct:Nat) (l:List Ev) (gn base gW B k:Nat) (st:Nat→List Cm) (wr:World):Prop where
 s0:st 0=[]
 steps:∀ i,i<k→StepIs t (st i) (l.getD i ev0) (st (i+1)) 0
 small:Small (st k) k
 bb:Blk wr (w.heap.size+1) #[zS] 46
 ba:Blk wr (w.heap.size+1+1) #[zI 0] 3
 be:Blk wr (w.heap.size+1+1+1) #[zI 0] 27
 bn:Blk wr gn #[zI (k:Int)] 3
 wr:∃ V xs,Wr w base gW B t pt lt ct V xs (st k) wr
structure Pl (w:World) (gn base gW B:Nat):Prop where
 h1:w.heap.size+1+1+1<gn
 h2:gn<B
 h3:B<gW
 h4:gW<base
theorem kof:KOf:=by
 intro w t pt lt ct pl n cap l ht hl;unfold acc.Tm.v;have HT:Hid (TCame w t pt lt ct):=ht;have HL:Hid (RowE w pl n l):=hl.row;have HLN:Hid (l.length=n):=hl.row.1;have hnm:n≤9223372036854775807:=by have:=hl.bytes;omega
 have hmf:∀ (fn:Fn) (first cap:Array Value) (w:World),(Instr.makeFunc fn first cap).run Tryz.prog w = .ok (.func fn first cap) w:=fun _ _ _ _=>rfl;have hmm:∀ w:World,(Instr.makeMap 111 none).run Tryz.prog w = .ok (.map (some w.heap.size)) (w.alloc (.map #[] 0)):=mkMapI;have HCK:Hid (∀ W,Below w.heap.size w W→Calls Tryz.prog 37 #[.agg #[.slice pt lt ct,zI t.ff,zI t.fb,zI t.db,zI t.al]] W fun e w'=>tar.ErrPost W (TFault t) e w'):=fun W hB=>acc.kcheck W t pt lt ct (ht.below hB);clear ht hl;obtain ⟨W0,HWW,H0t,H0b,H0at,H0er,H0B,-⟩:=sh4 w #[.slice pt lt ct,zI t.ff,zI t.fb,zI t.db,zI t.al] 24 #[zS] 46 #[zI 0] 3 #[zI 0] 27;go_enter_defers Tryz.func17,Tryz.ntmps17;go_upto_region 1 with fail
 rw [HWW.o];clear HWW;have HC1:Hid (Calls Tryz.prog 37 #[.agg #[.slice pt lt ct,zI t.ff,zI t.fb,zI t.db,zI t.al]] W0 fun e w'=>tar.ErrPost W0 (TFault t) e w'):=HCK.o W0 H0B.o;clear HCK
 go_wp2_with (first
  | (refine zqw rfl rfl rfl H0t zqu24 ?_)
  | (refine zqw rfl rfl rfl H0b zqu46 ?_)
  | (refine wp_whole rfl 3 _ rfl _ rfl 3 _ _ H0at.o Tryz.underlying3 rfl (by kernel_rfl) ?_)
  | (refine wp_whole rfl 27 _ rfl _ rfl 27 _ _ H0er.o Tryz.underlying27 rfl (by kernel_rfl) ?_)
  | fail)
 refine HC1.o.mono ?_;rintro e w1 ⟨f,rfl,hf,hb1⟩;have H1t:=shN H0t hb1;have H1b:=shN H0b hb1;have H1at:=shN H0at hb1;have H1er:=shN H0er hb1;have H1B:=shB H0B hb1;clear H0t H0b H0at H0er H0B;clear hb1 HC1;by_cases h0:f=0
 case neg=>
  have nf:(f != 0)=true:=by simpa using h0
  have HF:Hid (TFault t f):=hf;have HNE:Hid (f≠0):=h0;clear hf h0
  go_wp2_with (first
   | (refine zql rfl rfl rfl rfl zqu46 (by simp [Value.oneCell']) H1b rfl ?_)
   | (refine zqw rfl rfl rfl H1t zqu24 ?_)
   | (refine zqw rfl rfl rfl H1b zqu46 ?_)
   | (refine wp_whole rfl 3 _ rfl _ rfl 3 _ _ H1at.o Tryz.underlying3 rfl (by kernel_rfl) ?_)
   | (refine wp_whole rfl 27 _ rfl _ rfl 27 _ _ H1er.o Tryz.underlying27 rfl (by kernel_rfl) ?_)
   | fail)
  intro w1a hU;have H2t:=shK hU H1t (by omega);have H2b:Hid (Blk w1a (w.heap.size+1) #[zS] 46):=hU.blk;have H2at:=shK hU H1at (by omega);have H2er:=shK hU H1er (by omega);have H2B:=shV hU H1B (by omega);clear H1t H1b H1at H1er H1B;clear hU
  go_wp2_with (first
   | (refine wp_let1 rfl 3 _ _ rfl (w.heap.size+1+1) 0 rfl .i64 0 rfl (by kernel_rfl) #[zI 0] 3 H2at.o (by simp) ?_)
   | (refine zqw rfl rfl rfl H2t zqu24 ?_)
   | (refine zqw rfl rfl rfl H2b zqu46 ?_)
   | (refine wp_whole rfl 3 _ rfl _ rfl 3 _ _ H2at.o Tryz.underlying3 rfl (by kernel_rfl) ?_)
   | (refine wp_whole rfl 27 _ rfl _ rfl 27 _ _ H2er.o Tryz.underlying27 rfl (by kernel_rfl) ?_)
   | fail)
  intro w1aa hU;have H3t:=shK hU H2t (by omega);have H3b:=shK hU H2b (by omega);have H3at:Hid (Blk w1aa (w.heap.size+1+1) #[zI 0] 3):=hU.blk;have H3er:=shK hU H2er (by omega);have H3B:=shV hU H2B (by omega);clear H2t H2b H2at H2er H2B;clear hU
  go_wp2_with (first
   | (refine wp_let1 rfl 27 _ _ rfl (w.heap.size+1+1+1) 0 rfl .i64 f rfl (by kernel_rfl) #[zI 0] 27 H3er.o (by simp) ?_)
   | (refine zqw rfl rfl rfl H3t zqu24 ?_)
   | (refine zqw rfl rfl rfl H3b zqu46 ?_)
   | (refine wp_whole rfl 3 _ rfl _ rfl 3 _ _ H3at.o Tryz.underlying3 rfl (by kernel_rfl) ?_)
   | (refine wp_whole rfl 27 _ rfl _ rfl 27 _ _ H3er.o Tryz.underlying27 rfl (by kernel_rfl) ?_)
   | fail)
  intro w1aaa hU;have H4t:=shK hU H3t (by omega);have H4b:=shK hU H3b (by omega);have H4at:=shK hU H3at (by omega);have H4er:Hid (Blk w1aaa (w.heap.size+1+1+1) #[zI f] 27):=hU.blk;have H4B:=shV hU H3B (by omega);clear H3t H3b H3at H3er H3B;clear hU;go_wp2_with fail;have rb:w1aaa.cell? ⟨w.heap.size+1,0,none⟩=some (zS):=H4b.o.cell 0;have rat:w1aaa.cell? ⟨w.heap.size+1+1,0,none⟩=some (zI 0):=H4at.o.cell 0;have rer:w1aaa.cell? ⟨w.heap.size+1+1+1,0,none⟩=some (zI f):=H4er.o.cell 0;show Leaves _ _ _ _ [] .returning w1aaa;refine ⟨.tuple #[.agg #[zS],zI 0,zI f],by simp [results,Tryz.results17,rb,rat,rer,go_sem],?_⟩;exact ⟨none,0,0,[],[],0,f,rfl,.inl ⟨HF.o,HNE.o,rfl,rfl⟩,sees_nil _,Nat.zero_le _,H4B.o⟩
 subst h0;have HTR:Hid (TRight t):=hf.ok.1 rfl;clear hf;by_cases hbig:120<n
 case pos=>
  have hd1:decide ((120:Int)<(n:Int))=true:=decide_eq_true (by omega);have HBG:Hid (120<l.length):=by show _<_;rw [HLN.o];exact hbig
  clear hbig
  go_wp2_with (first
   | (refine zql rfl rfl rfl rfl zqu46 (by simp [Value.oneCell']) H1b rfl ?_)
   | (refine zqw rfl rfl rfl H1t zqu24 ?_)
   | (refine zqw rfl rfl rfl H1b zqu46 ?_)
   | (refine wp_whole rfl 3 _ rfl _ rfl 3 _ _ H1at.o Tryz.underlying3 rfl (by kernel_rfl) ?_)
   | (refine wp_whole rfl 27 _ rfl _ rfl 27 _ _ H1er.o Tryz.underlying27 rfl (by kernel_rfl) ?_)
   | fail)
  intro w1a hU;have H2t:=shK hU H1t (by omega);have H2b:Hid (Blk w1a (w.heap.size+1) #[zS] 46):=hU.blk;have H2at:=shK hU H1at (by omega);have H2er:=shK hU H1er (by omega);have H2B:=shV hU H1B (by omega);clear H1t H1b H1at H1er H1B;clear hU
  go_wp2_with (first
   | (refine wp_let1 rfl 3 _ _ rfl (w.heap.size+1+1) 0 rfl .i64 0 rfl (by kernel_rfl) #[zI 0] 3 H2at.o (by simp) ?_)
   | (refine zqw rfl rfl rfl H2t zqu24 ?_)
   | (refine zqw rfl rfl rfl H2b zqu46 ?_)
   | (refine wp_whole rfl 3 _ rfl _ rfl 3 _ _ H2at.o Tryz.underlying3 rfl (by kernel_rfl) ?_)
   | (refine wp_whole rfl 27 _ rfl _ rfl 27 _ _ H2er.o Tryz.underlying27 rfl (by kernel_rfl) ?_)
   | fail)
  intro w1aa hU;have H3t:=shK hU H2t (by omega);have H3b:=shK hU H2b (by omega);have H3at:Hid (Blk w1aa (w.heap.size+1+1) #[zI 0] 3):=hU.blk;have H3er:=shK hU H2er (by omega);have H3B:=shV hU H2B (by omega);clear H2t H2b H2at H2er H2B;clear hU
  go_wp2_with (first
   | (refine wp_let1 rfl 27 _ _ rfl (w.heap.size+1+1+1) 0 rfl .i64 1 rfl (by kernel_rfl) #[zI 0] 27 H3er.o (by simp) ?_)
   | (refine zqw rfl rfl rfl H3t zqu24 ?_)
   | (refine zqw rfl rfl rfl H3b zqu46 ?_)
   | (refine wp_whole rfl 3 _ rfl _ rfl 3 _ _ H3at.o Tryz.underlying3 rfl (by kernel_rfl) ?_)
   | (refine wp_whole rfl 27 _ rfl _ rfl 27 _ _ H3er.o Tryz.underlying27 rfl (by kernel_rfl) ?_)
   | fail)
  intro w1aaa hU;have H4t:=shK hU H3t (by omega);have H4b:=shK hU H3b (by omega);have H4at:=shK hU H3at (by omega);have H4er:Hid (Blk w1aaa (w.heap.size+1+1+1) #[zI 1] 27):=hU.blk;have H4B:=shV hU H3B (by omega);clear H3t H3b H3at H3er H3B;clear hU;go_wp2_with fail;have rb:w1aaa.cell? ⟨w.heap.size+1,0,none⟩=some (zS):=H4b.o.cell 0;have rat:w1aaa.cell? ⟨w.heap.size+1+1,0,none⟩=some (zI 0):=H4at.o.cell 0;have rer:w1aaa.cell? ⟨w.heap.size+1+1+1,0,none⟩=some (zI 1):=H4er.o.cell 0;show Leaves _ _ _ _ [] .returning w1aaa;refine ⟨.tuple #[.agg #[zS],zI 0,zI 1],by simp [results,Tryz.results17,rb,rat,rer,go_sem],?_⟩;exact ⟨none,0,0,[],[],0,1,rfl,.inr (.inl ⟨HTR.o,HBG.o,rfl,rfl,rfl⟩),sees_nil _,Nat.zero_le _,H4B.o⟩
 have hd1:decide ((120:Int)<(n:Int))=false:=decide_eq_false (by omega);have hn120:n≤120:=by omega
 have HFEW:Hid (l.length≤120):=by show _≤_;rw [HLN.o];exact hn120
 clear hbig;have HN2:Hid (Blk (((w1.alloc (.cells #[zI 0] 3)).alloc (.map #[] 0)).alloc (.cells #[zS,.slice pt lt ct,zI t.ff,zI t.fb,zI t.db,zI t.al,.map (some (w1.heap.size+1))] 113)) w1.heap.size #[zI 0] 3):=((Blk.new _ _ _).alloc _).alloc _
 have HM2:Hid (MpI (((w1.alloc (.cells #[zI 0] 3)).alloc (.map #[] 0)).alloc (.cells #[zS,.slice pt lt ct,zI t.ff,zI t.fb,zI t.db,zI t.al,.map (some (w1.heap.size+1))] 113)) (w1.heap.size+1) []):=by
  have h1:=MpI.new (w1.alloc (.cells #[zI 0] 3));rw [show (w1.alloc (.cells #[zI 0] 3)).heap.size=w1.heap.size+1 by simp] at h1;exact h1.below ((Below.refl _ _).alloc (Nat.le_refl _) _)
 have HW2:Hid (Blk (((w1.alloc (.cells #[zI 0] 3)).alloc (.map #[] 0)).alloc (.cells #[zS,.slice pt lt ct,zI t.ff,zI t.fb,zI t.db,zI t.al,.map (some (w1.heap.size+1))] 113)) (w1.heap.size+1+1) #[zS,.slice pt lt ct,zI t.ff,zI t.fb,zI t.db,zI t.al,.map (some (w1.heap.size+1))] 113):=by
  have h1:=Blk.new ((w1.alloc (.cells #[zI 0] 3)).alloc (.map #[] 0)) #[zS,.slice pt lt ct,zI t.ff,zI t.fb,zI t.db,zI t.al,.map (some (w1.heap.size+1))] 113
  rwa [show ((w1.alloc (.cells #[zI 0] 3)).alloc (.map #[] 0)).heap.size=w1.heap.size+1+1 by simp] at h1
 have HZt:Hid (Blk (((w1.alloc (.cells #[zI 0] 3)).alloc (.map #[] 0)).alloc (.cells #[zS,.slice pt lt ct,zI t.ff,zI t.fb,zI t.db,zI t.al,.map (some (w1.heap.size+1))] 113)) (w.heap.size) #[.slice pt lt ct,zI t.ff,zI t.fb,zI t.db,zI t.al] 24):=((H1t.o.alloc _).alloc _).alloc _;have HZb:Hid (Blk (((w1.alloc (.cells #[zI 0] 3)).alloc (.map #[] 0)).alloc (.cells #[zS,.slice pt lt ct,zI t.ff,zI t.fb,zI t.db,zI t.al,.map (some (w1.heap.size+1))] 113)) (w.heap.size+1) #[zS] 46):=((H1b.o.alloc _).alloc _).alloc _;have HZat:Hid (Blk (((w1.alloc (.cells #[zI 0] 3)).alloc (.map #[] 0)).alloc (.cells #[zS,.slice pt lt ct,zI t.ff,zI t.fb,zI t.db,zI t.al,.map (some (w1.heap.size+1))] 113)) (w.heap.size+1+1) #[zI 0] 3):=((H1at.o.alloc _).alloc _).alloc _;have HZer:Hid (Blk (((w1.alloc (.cells #[zI 0] 3)).alloc (.map #[] 0)).alloc (.cells #[zS,.slice pt lt ct,zI t.ff,zI t.fb,zI t.db,zI t.al,.map (some (w1.heap.size+1))] 113)) (w.heap.size+1+1+1) #[zI 0] 27):=((H1er.o.alloc _).alloc _).alloc _;have HZB:Hid (Below w.heap.size w (((w1.alloc (.cells #[zI 0] 3)).alloc (.map #[] 0)).alloc (.cells #[zS,.slice pt lt ct,zI t.ff,zI t.fb,zI t.db,zI t.al,.map (some (w1.heap.size+1))] 113))):=((H1B.o.alloc H1B.o.size _).alloc (Nat.le_trans H1B.o.size (by simp)) _).alloc (Nat.le_trans H1B.o.size (by simp;omega)) _;have HPL0:Hid (w.heap.size+1+1+1<w1.heap.size):=H1er.o.lt;have HSB:Hid ((((w1.alloc (.cells #[zI 0] 3)).alloc (.map #[] 0)).alloc (.cells #[zS,.slice pt lt ct,zI t.ff,zI t.fb,zI t.db,zI t.al,.map (some (w1.heap.size+1))] 113)).heap.size=w1.heap.size+1+1+1):=by show _=_;simp
 go_upto_region 9 with (first
  | (refine wp_whole rfl 24 _ rfl w.heap.size rfl 24 #[.slice pt lt ct,zI t.ff,zI t.fb,zI t.db,zI t.al] _ (H1t.o.alloc _) Tryz.underlying24 rfl (by kernel_rfl) ?_)
  | fail)
 generalize (((w1.alloc (.cells #[zI 0] 3)).alloc (.map #[] 0)).alloc (.cells #[zS,.slice pt lt ct,zI t.ff,zI t.fb,zI t.db,zI t.al,.map (some (w1.heap.size+1))] 113))=W2 at *;generalize w1.heap.size=gn at *;have HPL:Hid (Pl w gn (gn+1+1+1) (gn+1+1) (gn+1)):=⟨HPL0.o,Nat.lt_succ_self _,Nat.lt_succ_self _,Nat.lt_succ_self _⟩
 have HMID:Hid (Mid2 w t pt lt ct l gn (gn+1+1+1) (gn+1+1) (gn+1) 0 (fun _=>[]) W2):=⟨rfl,(fun i hi=>absurd hi (Nat.not_lt_zero _)),Small.zero,HZb.o,HZat.o,HZer.o,HN2.o,zS,[],HW2.o,HM2.o,Holds.zero _ _,by omega,by omega,by omega,by have:=HPL0.o;omega,by have:=HPL0.o;omega,by rw [HSB.o];exact Nat.le_refl _,HZB.o,Small.more Small.zero (by omega),fun c hc=>by cases hc⟩
 clear HZt HZb HZat HZer HN2 HM2 HW2 HZB HPL0 HSB H1t H1b H1at H1er H1B;generalize gn+1+1+1=base at *;generalize hgW:gn+1+1=gW at *;generalize gn+1=B at *;clear hgW;clear hmf hmm hd1;go_wp2_with fail;go_loopg [] n (fun gk wr=>∃ (k:Nat) (st:Nat→List Cm),k+gk=n∧Mid2 w t pt lt ct l gn base gW B k st wr)
 case atStart=>exact ⟨0,_,by omega,HMID.o⟩
 case round=>
  obtain ⟨k,st,hk,hmid⟩:=hrel;clear HMID;have HM:Hid (Mid2 w t pt lt ct l gn base gW B k st wr):=hmid;have q8:wr.cell? ⟨gn,0,none⟩=some (zI (k:Int)):=hmid.bn.cell 0;obtain ⟨V,xs,hwr⟩:=hmid.wr;obtain ⟨a,ca,hV,_⟩:=hwr.hold.row.row;subst hV;have HWR:Hid (Wr w base gW B t pt lt ct (.slice a xs.length ca) xs (st k) wr):=hwr;clear hmid hwr;by_cases hlt:k<n
  case neg=>
   have hkn:k=n:=by omega
   have HKN:Hid (k=n):=hkn;have hdl:decide ((k:Int)<(n:Int))=false:=decide_eq_false (by omega);clear hkn;have q0:wr.cell? ⟨gW,0,none⟩=some (.slice a xs.length ca):=HWR.o.blk.cell 0;have hp1:=HPL.o.h1;have hp2:=HPL.o.h2;have hp3:=HPL.o.h3;have hp4:=HPL.o.h4;have HXL:Hid (xs.length≤120):=by show _≤_;rw [HWR.o.hold.len];exact HWR.o.few.1
   have HW0:Hid (Wr w base gW B t pt lt ct (.slice a xs.length ca) xs (st k) wr∧Blk wr (w.heap.size+1) #[zS] 46∧Blk wr (w.heap.size+1+1) #[zI 0] 3∧Blk wr (w.heap.size+1+1+1) #[zI 0] 27):=⟨HWR.o,HM.o.bb,HM.o.ba,HM.o.be⟩
   clear HWR;generalize hxl:xs.length=m at *;have HXN:Hid (xs.length=m):=hxl;clear hxl;go_wp2_with (first | (refine wp_letAll rfl 46 _ _ rfl (w.heap.size+1) rfl #[.slice a m ca] rfl (by kernel_rfl) (by simp [Value.oneCell']) #[zS] 46 HW0.o.2.1 rfl ?_) | fail)
   intro V1 hU;clear q0;have HW1:Hid (Wr w base gW B t pt lt ct (.slice a m ca) xs (st k) V1∧Blk V1 (w.heap.size+1) #[.slice a m ca] 46∧Blk V1 (w.heap.size+1+1) #[zI 0] 3∧Blk V1 (w.heap.size+1+1+1) #[zI 0] 27):=⟨HW0.o.1.upd hU (by omega) (by omega) (by omega) (by omega),hU.blk,hU.keep HW0.o.2.2.1 (by omega),hU.keep HW0.o.2.2.2 (by omega)⟩
   clear hU HW0;go_wp2_with (first | (refine wp_let1 rfl 3 _ _ rfl (w.heap.size+1+1) 0 rfl .i64 0 rfl (by kernel_rfl) #[zI 0] 3 HW1.o.2.2.1 (by simp) ?_) | fail)
   intro V2 hU;have HW2:Hid (Wr w base gW B t pt lt ct (.slice a m ca) xs (st k) V2∧Blk V2 (w.heap.size+1) #[.slice a m ca] 46∧Blk V2 (w.heap.size+1+1) #[zI 0] 3∧Blk V2 (w.heap.size+1+1+1) #[zI 0] 27):=⟨HW1.o.1.upd hU (by omega) (by omega) (by omega) (by omega),hU.keep HW1.o.2.1 (by omega),hU.blk,hU.keep HW1.o.2.2.2 (by omega)⟩
   clear hU HW1;go_wp2_with (first | (refine wp_let1 rfl 27 _ _ rfl (w.heap.size+1+1+1) 0 rfl .i64 0 rfl (by kernel_rfl) #[zI 0] 27 HW2.o.2.2.2 (by simp) ?_) | fail)
   intro V3 hU;have HW3:Hid (Wr w base gW B t pt lt ct (.slice a m ca) xs (st k) V3∧Blk V3 (w.heap.size+1) #[.slice a m ca] 46∧Blk V3 (w.heap.size+1+1) #[zI 0] 3∧Blk V3 (w.heap.size+1+1+1) #[zI 0] 27):=⟨HW2.o.1.upd hU (by omega) (by omega) (by omega) (by omega),hU.keep HW2.o.2.1 (by omega),hU.keep HW2.o.2.2.1 (by omega),hU.blk⟩
   clear hU HW2;go_wp2_with fail;refine leaves_cons (f:=38) (args:=#[.pointer (some ⟨w.heap.size+1+1+1,0,none⟩),.pointer (some ⟨gn,0,none⟩),.pointer (some ⟨w.heap.size+1+1,0,none⟩)]) (by simp) (by simp [go_sem]) ?_;refine (of_idle (w.heap.size+1+1+1) gn (w.heap.size+1+1) 0 _ HW3.o.2.2.2).mono ?_;rintro e u' w5 ⟨rfl,hs,W,hb,hU⟩;have hwr5:Wr w base gW B t pt lt ct (.slice a m ca) xs (st k) w5:=(HW3.o.1.next hb).upd hU (by omega) (by omega) (by omega) (by omega);have r0:w5.cell? ⟨w.heap.size+1,0,none⟩=some (.slice a m ca):=(hU.keep (HW3.o.2.1.next hb) (by omega)).cell 0;have r1:w5.cell? ⟨w.heap.size+1+1,0,none⟩=some (zI 0):=(hU.keep (HW3.o.2.2.1.next hb) (by omega)).cell 0;have r2:w5.cell? ⟨w.heap.size+1+1+1,0,none⟩=some (zI 0):=hU.blk.cell 0;show Leaves _ _ _ _ [] (settle u') w5;rw [hs];refine ⟨.tuple #[.agg #[.slice a m ca],zI 0,zI 0],by simp [results,Tryz.results17,r0,r1,r2,go_sem],?_⟩;obtain ⟨p9,c9,hv9,hsee⟩:=hwr5.hold.sees;injection hv9 with e1 e2 e3
   subst e1;rw [← e2] at hsee;exact ⟨a,m,ca,xs,st k,0,0,rfl,.inr (.inr ⟨HTR.o,HFEW.o,k,st,HM.o.s0,HM.o.steps,.inl ⟨by rw [HLN.o];exact HKN.o,rfl,rfl,rfl⟩⟩),hsee,HXL.o,hwr5.bel⟩
  have hdl:decide ((k:Int)<(n:Int))=true:=decide_eq_true (by omega);obtain ⟨bl,off,rfl,lb,hc⟩:=HL.o.2.resolve_left (by omega);have hce:∀ j,j<13→wr.cell? ⟨bl,off+k*13+j,none⟩=(l.getD k ev0).cl[j]?:=fun j hj=>(HWR.o.bel.cell (p:=⟨bl,off+k*13+j,none⟩) lb).trans (hc k j hlt hj);obtain ⟨v,hv⟩:∃ v,v=l.getD k ev0:=⟨_,rfl⟩
  have HV:Hid (v=l.getD k ev0):=hv;rw [← hv] at hce;clear hv hc;have c0:wr.cell? ⟨bl,off+k*13,none⟩=some (zI v.kd):=hce 0 (by decide);have c1:wr.cell? ⟨bl,off+k*13+1,none⟩=some (zI v.me):=hce 1 (by decide);have c2:wr.cell? ⟨bl,off+k*13+2,none⟩=some (zI v.mo):=hce 2 (by decide);have c3:wr.cell? ⟨bl,off+k*13+3,none⟩=some (zI v.id):=hce 3 (by decide);have c4:wr.cell? ⟨bl,off+k*13+4,none⟩=some (zI v.te):=hce 4 (by decide);have c5:wr.cell? ⟨bl,off+k*13+5,none⟩=some (zI v.de):=hce 5 (by decide);have c6:wr.cell? ⟨bl,off+k*13+6,none⟩=some (zI v.fe):=hce 6 (by decide);have c7:wr.cell? ⟨bl,off+k*13+7,none⟩=some (zI v.pr):=hce 7 (by decide);have c8:wr.cell? ⟨bl,off+k*13+8,none⟩=some (zI v.ch):=hce 8 (by decide);have c9:wr.cell? ⟨bl,off+k*13+9,none⟩=some (zI v.un):=hce 9 (by decide);have c10:wr.cell? ⟨bl,off+k*13+10,none⟩=some (zI v.tg):=hce 10 (by decide);have c11:wr.cell? ⟨bl,off+k*13+11,none⟩=some (zI v.ow):=hce 11 (by decide);have c12:wr.cell? ⟨bl,off+k*13+12,none⟩=some (zI v.bp):=hce 12 (by decide);have HHP:Hid (Calls Tryz.prog 40 #[.pointer (some ⟨gW,0,none⟩),.agg #[zI v.kd,zI v.me,zI v.mo,zI v.id,zI v.te,zI v.de,zI v.fe,zI v.pr,zI v.ch,zI v.un,zI v.tg,zI v.ow,zI v.bp]] wr fun e w'=>WPost w base gW B t pt lt ct (StepIs t (st k) v) wr e w'):=bhappen w base gW B t pt lt ct a xs.length ca xs (st k) v wr HWR.o HT.o;clear hce lb;have HKL:Hid (k<l.length):=by show _<_;rw [HLN.o];exact hlt
  go_wp2_with fail;refine HHP.o.mono ?_;rintro e w2 ⟨hkp,hpo⟩;clear HHP q8 hdl c0 c1 c2 c3 c4 c5 c6 c7 c8 c9 c10 c11 c12;have hp1:=HPL.o.h1;have hp2:=HPL.o.h2;have hp3:=HPL.o.h3;have hp4:=HPL.o.h4;have Hb2:Hid (Blk w2 (w.heap.size+1) #[zS] 46):=hkp.keep HM.o.bb (by omega) (by omega) (by omega);have Ha2:Hid (Blk w2 (w.heap.size+1+1) #[zI 0] 3):=hkp.keep HM.o.ba (by omega) (by omega) (by omega);have He2:Hid (Blk w2 (w.heap.size+1+1+1) #[zI 0] 27):=hkp.keep HM.o.be (by omega) (by omega) (by omega);have Hn2:Hid (Blk w2 gn #[zI (k:Int)] 3):=hkp.keep HM.o.bn (by omega) (by omega) (by omega);have HB2:Hid (Below w.heap.size w w2):=hkp.bel HWR.o.bel (by omega) (by omega) (by omega);rcases hpo with ⟨V',xs',bk',rfl,hst,hwr2⟩ | ⟨f,bk',hf,rfl,hst⟩
  case inr=>
   have HST:Hid (StepIs t (st k) (l.getD k ev0) bk' f):=by show StepIs _ _ _ _ _;rw [← HV.o];exact hst
   have HF:Hid (f≠0):=hf;clear hst hkp;refine leaves_cons (f:=38) (args:=#[.pointer (some ⟨w.heap.size+1+1+1,0,none⟩),.pointer (some ⟨gn,0,none⟩),.pointer (some ⟨w.heap.size+1+1,0,none⟩)]) (by simp) (by simp [go_sem]) ?_;refine (of_caught (w.heap.size+1+1+1) gn (w.heap.size+1+1) 0 (k:Int) 0 f hf _ He2.o Hn2.o Ha2.o (by omega) (by omega)).mono ?_;rintro e u' w5 ⟨rfl,hs,W,W3,hb,hU,hU2⟩;have r0:w5.cell? ⟨w.heap.size+1,0,none⟩=some (zS):=(hU2.keep (hU.keep (Hb2.o.next hb) (by omega)) (by omega)).cell 0;have r1:w5.cell? ⟨w.heap.size+1+1,0,none⟩=some (zI (k:Int)):=hU2.blk.cell 0;have r2:w5.cell? ⟨w.heap.size+1+1+1,0,none⟩=some (zI f):=(hU2.keep hU.blk (by omega)).cell 0;have HB5:Below w.heap.size w w5:=hU2.bel _ _ (by omega) (hU.bel _ _ (by omega) (bel_step HB2.o hb));show Leaves _ _ _ _ [] (settle u') w5;rw [hs];refine ⟨.tuple #[.agg #[zS],zI (k:Int),zI f],by simp [results,Tryz.results17,r0,r1,r2,go_sem],?_⟩;exact ⟨none,0,0,[],[],(k:Int),f,rfl,.inr (.inr ⟨HTR.o,HFEW.o,k,st,HM.o.s0,HM.o.steps,.inr ⟨HKL.o,⟨bk',HST.o⟩,HF.o,rfl,rfl⟩⟩),sees_nil _,Nat.zero_le _,HB5⟩
  have HST:Hid (StepIs t (st k) (l.getD k ev0) bk' 0):=by show StepIs _ _ _ _ _;rw [← HV.o];exact hst
  have HS2:Hid (Small bk' (k+1)):=step_small hst HM.o.small;have HWR2:Hid (Wr w base gW B t pt lt ct V' xs' bk' w2):=hwr2 (HS2.o.more (by omega));have q8:w2.cell? ⟨gn,0,none⟩=some (zI (k:Int)):=Hn2.o.cell 0;have hwk:IntKind.i64.wrap ((k:Int)+1)=(k:Int)+1:=by rw [IntKind.wrap_i64];omega
  clear hst hkp hwr2 HWR;go_wp2_with (first | (refine wp_let1 rfl 3 _ _ rfl gn 0 rfl .i64 ((k:Int)+1) rfl (by kernel_rfl) #[zI (k:Int)] 3 Hn2.o (by simp) ?_) | fail)
  intro W3 hU;have HWR3:Hid (Wr w base gW B t pt lt ct V' xs' bk' W3):=HWR2.o.upd hU (by omega) (by omega) (by omega) (by omega);have HX3:Hid (Blk W3 (w.heap.size+1) #[zS] 46∧Blk W3 (w.heap.size+1+1) #[zI 0] 3∧Blk W3 (w.heap.size+1+1+1) #[zI 0] 27∧Blk W3 gn #[zI ((k:Int)+1)] 3):=⟨hU.keep Hb2.o (by omega),hU.keep Ha2.o (by omega),hU.keep He2.o (by omega),hU.blk⟩
  clear hU q8 HWR2;obtain ⟨st2,s1,s2,s3⟩:=run_more HM.o.steps HST.o;have HM3:Hid (Mid2 w t pt lt ct l gn base gW B (k+1) st2 W3):=⟨s1.trans HM.o.s0,s3,by rw [s2];exact HS2.o,HX3.o.1,HX3.o.2.1,HX3.o.2.2.1,by have h1:=HX3.o.2.2.2;rw [show ((k:Int)+1)=((k+1:Nat):Int) by omega] at h1;exact h1,V',xs',by rw [s2];exact HWR3.o⟩
  clear s1 s2 s3;go_wp2_with fail;go_roundg (n - (k+1))
  case rel=>exact ⟨k+1,st2,by omega,HM3.o⟩
  case measure=>omega
end book
namespace vnd
open disk (RepIs AppIs)
open book (Ev ev0 EMay evL evOf EncIs DecIs Cm cm0 So so0 BookIs Sees ECame FirstAt NoneAt)
open acc (Ac Tm Bi TCame ACame)
open cell (Wr RowU)
open Go.RowKit
def OpnP (w:World) (t:Tm) (a:Option Addr) (n cap:Nat) (c:List Int) (e:Ending) (w':World):Prop:=
 (∃ f,e = .returned (.tuple #[.agg #[zS,zS,zI 0],zI f])∧f≠0∧LoadIs t c [] f∧Below w.heap.size w w') ∨
 (∃ p m cp xs bk l,e = .returned (.tuple #[.agg #[.slice p m cp,.slice a n cap,zI (l.length:Int)],zI 0])∧LoadIs t c bk 0∧KeptIs c l 0∧Sees w' p m xs bk∧m≤120∧Below w.heap.size w w')
theorem popen (t:Tm) (pt:Option Addr) (lt ct:Nat) (a:Option Addr) (n cap:Nat) (c:List Int) (w:World) (ht:TCame w t pt lt ct) (h:Dk w a n cap c):Calls Tryz.prog 23 #[.agg #[.slice pt lt ct,zI t.ff,zI t.fb,zI t.db,zI t.al],.slice a n cap] w fun e w'=>OpnP w t a n cap c e w':=by
 have HC:Hid (∀ W,Below w.heap.size w W→Dk W a n cap c):=fun W hW=>h.below hW;have HT:Hid (∀ W,Below w.heap.size w W→TCame W t pt lt ct):=fun W hW=>ht.below hW;clear h ht;obtain ⟨W0,HWW,H0t,H0r,H0B,hs0⟩:=sh2 w #[.slice pt lt ct,zI t.ff,zI t.fb,zI t.db,zI t.al] 24 #[zS,zS,zI 0] 87;go_enter Tryz.func23,Tryz.ntmps23;go_upto_region 1 with fail
 rw [HWW.o];clear HWW;have HKP:Hid (Calls Tryz.prog 50 #[.slice a n cap] W0 fun e w'=>KeptPost W0 c e w'):=pevents a n cap c W0 (HC.o _ H0B.o)
 go_wp2_with (first
  | (refine zqw rfl rfl rfl H0t zqu24 ?_)
  | (refine zqw rfl rfl rfl H0r zqu87 ?_)
  | fail)
 refine HKP.o.mono ?_;rintro e w1 ⟨p,m,cp,l,f,rfl,hk,hec,hm,hb1⟩;have H1t:=shN H0t hb1;have H1r:=shN H0r hb1;have H1B:=shB H0B hb1;have hsw1:W0.heap.size≤w1.heap.size:=hb1.size;clear hb1 H0t H0r H0B;have HKI:Hid (KeptIs c l f):=hk;have HEC:Hid (ECame w1 p m cp l):=hec;have HLN:Hid (l.length=m):=hec.row.1;clear hk hec HKP;by_cases h0:f=0
 ·subst h0;have HBO:Hid (Calls Tryz.prog 17 #[.agg #[.slice pt lt ct,zI t.ff,zI t.fb,zI t.db,zI t.al],.slice p m cp] w1 fun e w'=>book.BookPost w1 t l e w'):=book.kof w1 t pt lt ct p m cp l (HT.o _ H1B.o) HEC.o
  go_wp2_with (first
   | (refine zqw rfl rfl rfl H1t zqu24 ?_)
   | (refine zqw rfl rfl rfl H1r zqu87 ?_)
   | fail)
  refine HBO.o.mono ?_;rintro e w2 ⟨p2,m2,c2,xs,bk,at_,f2,rfl,hbi,hse,hm2,hb2⟩;have H2t:=shN H1t hb2;have H2r:=shN H1r hb2;have H2B:=shB H1B hb2;have hsw2:w1.heap.size≤w2.heap.size:=hb2.size;clear hb2 H1t H1r H1B;have HV:Hid (LoadIs t c bk f2):=⟨l,0,HKI.o,.inr ⟨rfl,at_,hbi⟩⟩
  have HBN:Hid (f2≠0→bk=[]):=book_no hbi;have HS2:Hid (Sees w2 p2 m2 xs bk):=hse;clear hbi hse HBO HEC;have H3X:Hid (Below w2.heap.size w2 w2):=Below.refl _ _;obtain ⟨W3,HWW,H4n,H4X,hsW3⟩:=sh1 w2 #[.slice p2 m2 c2] 46;have H4t:=shN H2t H4X.o;have H4r:=shN H2r H4X.o;have H4B:=shB H2B H4X.o;go_upto_region 5 with fail
  clear H2t H2r H3X H2B;rw [HWW.o];clear HWW;have HS3:Hid (Sees W3 p2 m2 xs bk):=HS2.o.below H4X.o;by_cases h2:f2=0
  ·subst h2;clear HS2
   go_wp2_with (first
    | (refine zql rfl rfl rfl rfl zqu87 (by simp [Value.oneCell']) H4r rfl ?_)
    | (refine zqw rfl rfl rfl H4t zqu24 ?_)
    | (refine zqw rfl rfl rfl H4r zqu87 ?_)
    | (refine zqw rfl rfl rfl H4n zqu46 ?_)
    | fail)
   intro W4 hU;have HS4:Hid (Sees W4 p2 m2 xs bk):=sees_far HS3.o (shop_odd H4r.o) hU;have H5t:=shK hU H4t (by omega);have H5r:Hid (Blk W4 (w.heap.size+1) #[.slice p2 m2 c2,.slice a n cap,zI (m:Int)] 87):=hU.blk;have H5n:=shK hU H4n (by omega);have H5B:=shV hU H4B (by omega);have hsW4:W4.heap.size=W3.heap.size:=hU.size;clear hU H4t H4r H4n H4B;have Rr0:Hid (W4.cell? ⟨w.heap.size+1,0,none⟩=some (.slice p2 m2 c2)):=H5r.o.cell 0;have Rr1:Hid (W4.cell? ⟨w.heap.size+1,1,none⟩=some (.slice a n cap)):=H5r.o.cell 1;have Rr2:Hid (W4.cell? ⟨w.heap.size+1,2,none⟩=some (zI (m:Int))):=H5r.o.cell 2;go_wp2_with fail;exact bodyPost_ret (v:= .tuple #[.agg #[.slice p2 m2 c2,.slice a n cap,zI (m:Int)],zI 0]) (by simp [results,Tryz.results23,Rr0.o,Rr1.o,Rr2.o,go_sem]) rfl (.inr ⟨p2,m2,c2,xs,bk,l,by rw [HLN.o],HV.o,HKI.o,HS4.o,hm2,H5B.o⟩)
  ·have d2:(f2 != 0)=true:=by simpa using h2
   have HV2:Hid (f2≠0∧LoadIs t c [] f2):=⟨h2,by rw [← HBN.o h2];exact HV.o⟩
   clear h2 HS2 HS3 HBN HV
   go_wp2_with (first
    | (refine zql rfl rfl rfl rfl zqu87 (by simp [Value.oneCell']) H4r rfl ?_)
    | (refine zqw rfl rfl rfl H4t zqu24 ?_)
    | (refine zqw rfl rfl rfl H4r zqu87 ?_)
    | (refine zqw rfl rfl rfl H4n zqu46 ?_)
    | fail)
   intro W4 hU;have H5t:=shK hU H4t (by omega);have H5r:Hid (Blk W4 (w.heap.size+1) #[zS,zS,zI 0] 87):=hU.blk;have H5n:=shK hU H4n (by omega);have H5B:=shV hU H4B (by omega);have hsW4:W4.heap.size=W3.heap.size:=hU.size;clear hU H4t H4r H4n H4B;obtain ⟨Rr0,Rr1,Rr2⟩:=shc3 H5r;go_wp2_with fail;exact bodyPost_ret (v:= .tuple #[.agg #[zS,zS,zI 0],zI f2]) (by simp [results,Tryz.results23,Rr0.o,Rr1.o,Rr2.o,go_sem]) rfl (.inl ⟨f2,rfl,HV2.o.1,HV2.o.2,H5B.o⟩)
 ·have d0:(f != 0)=true:=by simpa using h0
  have HV:Hid (f≠0∧LoadIs t c [] f):=⟨h0,l,f,HKI.o,.inl ⟨h0,rfl,rfl⟩⟩
  clear h0 HEC HKI
  go_wp2_with (first
   | (refine zql rfl rfl rfl rfl zqu87 (by simp [Value.oneCell']) H1r rfl ?_)
   | (refine zqw rfl rfl rfl H1t zqu24 ?_)
   | (refine zqw rfl rfl rfl H1r zqu87 ?_)
   | fail)
  intro W3 hU;have H2t:=shK hU H1t (by omega);have H2r:Hid (Blk W3 (w.heap.size+1) #[zS,zS,zI 0] 87):=hU.blk;have H2B:=shV hU H1B (by omega);have hsW3:W3.heap.size=w1.heap.size:=hU.size;clear hU H1t H1r H1B;obtain ⟨Rr0,Rr1,Rr2⟩:=shc3 H2r;go_wp2_with fail;exact bodyPost_ret (v:= .tuple #[.agg #[zS,zS,zI 0],zI f]) (by simp [results,Tryz.results23,Rr0.o,Rr1.o,Rr2.o,go_sem]) rfl (.inl ⟨f,rfl,HV.o.1,HV.o.2,H2B.o⟩)
theorem load_len {t:Tm} {c:List Int} {bk:List Cm} {l:List Ev} (h:LoadIs t c bk 0) (hk:KeptIs c l 0):l.length≤120:=by
 obtain ⟨l',e,hk',⟨p,_,q⟩ | ⟨_,a,q⟩⟩:=h
 ·exact absurd q.symm p
 ·rw [(hk.one hk').1];exact (book_ok q).2.1
theorem enc_yes {v:Ev} {ws:List Int} {g:Int} (h:EncIs v ws g) (hv:EMay v):(∀ x∈ws,0≤x∧x<4294967296)∧g=0:=by
 rcases h with ⟨_,rfl,rfl⟩ | ⟨n,_⟩
 ·exact ⟨book.may_word hv,rfl⟩
 ·exact absurd hv n
theorem pkeep (p2:Option Addr) (m2 c2:Nat) (a:Option Addr) (n cap:Nat) (c:List Int) (l:List Ev) (v:Ev) (w:World) (h:Dk w a n cap c) (hk:KeptIs c l 0) (hl:l.length≤120) (hv:EMay v):Calls Tryz.prog 61 #[.agg #[.slice p2 m2 c2,.slice a n cap,zI (l.length:Int)],.agg #[zI v.kd,zI v.me,zI v.mo,zI v.id,zI v.te,zI v.de,zI v.fe,zI v.pr,zI v.ch,zI v.un,zI v.tg,zI v.ow,zI v.bp]] w fun e w'=>WrGot w (KeepIs c v) e w':=by
 have HC:Hid (∀ W,Below w.heap.size w W→Dk W a n cap c):=fun W hW=>h.below hW;have HKI:Hid (KeptIs c l 0):=hk;have HV:Hid (EMay v):=hv;clear h hk hv;obtain ⟨W0,HWW,H0s,H0v,H0B,hs0⟩:=sh2 w #[.slice p2 m2 c2,.slice a n cap,zI (l.length:Int)] 87 #[zI v.kd,zI v.me,zI v.mo,zI v.id,zI v.te,zI v.de,zI v.fe,zI v.pr,zI v.ch,zI v.un,zI v.tg,zI v.ow,zI v.bp] 72;go_enter Tryz.func61,Tryz.ntmps61;go_upto_region 1 with fail
 rw [HWW.o];clear HWW;by_cases h1:l.length=120
 ·have d1:((l.length:Int) == 120)=true:=by simp;omega
  have HF:Hid (KeepIs c v [] 16):=⟨l,0,HKI.o,.inl ⟨by omega,rfl,rfl⟩⟩
  clear h1;have qs2:W0.cell? ⟨w.heap.size,2,none⟩=some (zI (l.length:Int)):=H0s.o.cell 2
  go_wp2_with (first
   | (refine zqw rfl rfl rfl H0s zqu87 ?_)
   | (refine zqw rfl rfl rfl H0v zqu72 ?_)
   | fail)
  go_ret2;exact ⟨none,0,0,[],16,rfl,HF.o,⟨rfl,.inl rfl⟩,(fun x hx=>by cases hx),Nat.le_refl _,Nat.zero_le _,H0B.o⟩
 ·have d1:((l.length:Int) == 120)=false:=by simp;omega
  have hl2:Hid (l.length<120):=(by omega:l.length<120)
  clear h1 hl;have HEN:Hid (Calls Tryz.prog 107 #[.agg #[zI v.kd,zI v.me,zI v.mo,zI v.id,zI v.te,zI v.de,zI v.fe,zI v.pr,zI v.ch,zI v.un,zI v.tg,zI v.ow,zI v.bp]] W0 fun e w'=>book.EncGot W0 v e w'):=book.kenc W0 v (book.wf_may HV.o);have qs2:W0.cell? ⟨w.heap.size,2,none⟩=some (zI (l.length:Int)):=H0s.o.cell 2
  go_wp2_with (first
   | (refine zqw rfl rfl rfl H0s zqu87 ?_)
   | (refine zqw rfl rfl rfl H0v zqu72 ?_)
   | fail)
  refine HEN.o.mono ?_;rintro e w1 ⟨ra,rn,rc,ws,g,rfl,hen,hrw,hrn,hrc,hr13,hb1⟩;have H1s:=shN H0s hb1;have H1v:=shN H0v hb1;have H1B:=shB H0B hb1;have hsw1:W0.heap.size≤w1.heap.size:=hb1.size;clear hb1 H0s H0v H0B;clear qs2;obtain ⟨hws,rfl⟩:=enc_yes hen HV.o;have HEI:Hid (EncIs v ws 0):=hen;clear hen HEN;have HAP:Hid (Calls Tryz.prog 108 #[.slice a n cap,.slice ra rn rc] w1 fun e w'=>disk.AppGot w1 c ws e w'):=(fun d:Dk w1 a n cap c=>disk.kappend w1 a n cap c ra rn rc ws d.row d.nil d.room d.bytes d.wd hrw hrn hrc (by omega) hws) (HC.o _ H1B.o)
  clear hrw hrn hrc hws;have qs1:w1.cell? ⟨w.heap.size,1,none⟩=some (.slice a n cap):=H1s.o.cell 1
  go_wp2_with (first
   | (refine zqw rfl rfl rfl H1s zqu87 ?_)
   | (refine zqw rfl rfl rfl H1v zqu72 ?_)
   | fail)
  refine HAP.o.mono ?_;rintro e w2 ⟨p3,m3,c3,ls,f3,rfl,hrow,hnew,hle,hsm,hai,hb2⟩;have H2s:=shN H1s hb2;have H2v:=shN H1v hb2;have H2B:=shB H1B hb2;have hsw2:w1.heap.size≤w2.heap.size:=hb2.size;clear hb2 H1s H1v H1B;clear qs1;have HF:Hid (KeepIs c v ls f3):=⟨l,0,HKI.o,.inr ⟨hl2.o,ws,0,HEI.o,.inr ⟨rfl,hai⟩⟩⟩
  have HRW:Hid (cell.RowW w2 p3 m3 ls):=hrow;have HNW:Hid (∀ x,p3=some x→w.heap.size≤x.block):=fun x hx=>Nat.le_trans (by omega) (hnew x hx);clear hrow hnew hai HAP HEI HKI HC hl2;go_wp2_with fail;go_ret2;exact ⟨p3,m3,c3,ls,f3,rfl,HF.o,HRW.o,HNW.o,hle,hsm,H2B.o⟩
end vnd
end Go.Proofs.YtnpblpbohcegoaaGreatDoor
