import Derived.Test.YtdpfnedfakgolaaGreatDoorVVPer22
import Derived.Test.YtdpfnedfakgolaaGreatDoorVVPer24
import Derived.Test.YtdpfnedfakgolaaGreatDoorVVPer28
import Derived.Test.YtdpfnedfakgolaaGreatDoorVVPer29
import Derived.Test.YtdpfnedfakgolaaGreatDoorVVPer35
set_option linter.unusedVariables false
set_option linter.unusedSimpArgs false
set_option maxHeartbeats 4000000
set_option maxRecDepth 100000
namespace Go.Proofs.YtdpfnedfakgolaaGreatDoor
namespace words
open Go.RowKit
theorem plus_any (x:W3) (a:Int) (w:World) (hx:x.ok) (a0:0≤a) (a1:a<4294967296) :
  Calls Tryz.prog 54 #[wv x,.int .u32 a] w fun e w'=>e = .returned (.tuple #[wv (plusW x a),.int .u32 (plusO x a)])∧Below w.heap.size w w':=by
 obtain ⟨x0,x1,x2⟩:=x;obtain ⟨⟨h0,h0'⟩,⟨h1,h1'⟩,h2,h2'⟩:=hx;simp only at h0 h0' h1 h1' h2 h2';go_enter Tryz.func54,Tryz.ntmps54;go_wp2_with fail;have hB:w.heap.size+1+1=((w.alloc (.cells #[.int .u32 x0,.int .u32 x1,.int .u32 x2] 89)).alloc (.cells #[.int .u32 0,.int .u32 0,.int .u32 0] 89)).heap.size:=by simp
 have hc:=trio_c w #[.int .u32 x0,.int .u32 x1,.int .u32 x2] (.int .u32 0) (.int .u32 0) (.int .u32 0) (.int .u64 a) 97;have hb3:=bel3 w (.cells #[.int .u32 x0,.int .u32 x1,.int .u32 x2] 89) (.cells #[.int .u32 0,.int .u32 0,.int .u32 0] 89) (.cells #[.int .u64 a] 97)
 refine (upward_any 92 #[.pointer (some ⟨w.heap.size+1+1,0,none⟩)] (w.heap.size+1+1) (.int .u64 a) (.int .u64 ((a+x0) / 4294967296)) (.int .u64 (((a+x0) / 4294967296+x1) / 4294967296)) (.int .u64 ((((a+x0) / 4294967296+x1) / 4294967296+x2) / 4294967296)) x0 x1 x2
  ((a+x0) % 4294967296) (((a+x0) / 4294967296+x1) % 4294967296) ((((a+x0) / 4294967296+x1) / 4294967296+x2) % 4294967296) _ (Acc.refl hc.1 hc.2.1) run_plusStep
  (fun w' h=>plusStep_any _ _ _ w' h.cell h.free (by omega) (by omega) h0 h0')
  (fun w' h=>plusStep_any _ _ _ w' h.cell h.free (by omega) (by omega) h1 h1')
  (fun w' h=>plusStep_any _ _ _ w' h.cell h.free (by omega) (by omega) h2 h2')).mono ?_
 rintro e w1 ⟨he,hA⟩;have hR:Trio w1 (w.heap.size+1) (.int .u32 0) (.int .u32 0) (.int .u32 0):=hc.2.2.acc hA (by omega);have HB:Hid (Below w.heap.size w w1):=hA.below hb3 (by omega);have hcell:=hA.cell;have hsz:w.heap.size+1+1<w1.heap.size:=Nat.lt_of_lt_of_le hA.old hA.size;have EW:wv (plusW ⟨x0,x1,x2⟩ a) = .agg #[.int .u32 ((a+x0) % 4294967296),.int .u32 (((a+x0) / 4294967296+x1) % 4294967296),.int .u32 ((((a+x0) / 4294967296+x1) / 4294967296+x2) % 4294967296)]:=rfl;have EO:plusO ⟨x0,x1,x2⟩ a=(((a+x0) / 4294967296+x1) / 4294967296+x2) / 4294967296:=rfl;have z0:0≤(((a+x0) / 4294967296+x1) / 4294967296+x2) / 4294967296:=by omega
 have z1:(((a+x0) / 4294967296+x1) / 4294967296+x2) / 4294967296≤1:=by omega
 have HE:Hid (.returned (.tuple #[wv (plusW ⟨x0,x1,x2⟩ a),.int .u32 (plusO ⟨x0,x1,x2⟩ a)])=Ending.returned (.tuple #[.agg #[.int .u32 ((a+x0) % 4294967296),.int .u32 (((a+x0) / 4294967296+x1) % 4294967296),.int .u32 ((((a+x0) / 4294967296+x1) / 4294967296+x2) % 4294967296)],.int .u32 ((((a+x0) / 4294967296+x1) / 4294967296+x2) / 4294967296)])):=by
  have:Ending.returned (.tuple #[wv (plusW ⟨x0,x1,x2⟩ a),.int .u32 (plusO ⟨x0,x1,x2⟩ a)])=Ending.returned (.tuple #[.agg #[.int .u32 ((a+x0) % 4294967296),.int .u32 (((a+x0) / 4294967296+x1) % 4294967296),.int .u32 ((((a+x0) / 4294967296+x1) / 4294967296+x2) % 4294967296)],.int .u32 ((((a+x0) / 4294967296+x1) / 4294967296+x2) / 4294967296)]):=by rw [EW,EO]
  exact this
 clear hA hc hb3 hB EW EO;have HE2:Hid (e = .returned (.agg #[.int .u32 ((a+x0) % 4294967296),.int .u32 (((a+x0) / 4294967296+x1) % 4294967296),.int .u32 ((((a+x0) / 4294967296+x1) / 4294967296+x2) % 4294967296)])):=he;clear he;generalize hz:(((a+x0) / 4294967296+x1) / 4294967296+x2) / 4294967296=z at hcell z0 z1 HE HE2;generalize hy0:(a+x0) % 4294967296=y0 at HE HE2;generalize hy1:((a+x0) / 4294967296+x1) % 4294967296=y1 at HE HE2;generalize hy2:(((a+x0) / 4294967296+x1) / 4294967296+x2) % 4294967296=y2 at HE HE2;clear hz hy0 hy1 hy2;obtain rfl:=HE2.o;clear HE2;have hR:=hR.alloc (.cells #[.int .u32 y0,.int .u32 y1,.int .u32 y2] 89);have r0:=hR.c0;have r1:=hR.c1;have r2:=hR.c2;have g0:=hR.free 0;have g1:=hR.free 1;have g2:=hR.free 2;have HR:Hid (Trio (w1.alloc (.cells #[.int .u32 y0,.int .u32 y1,.int .u32 y2] 89)) (w.heap.size+1) (.int .u32 0) (.int .u32 0) (.int .u32 0)):=hR;clear hR;go_wp2_with fail;go_region
 all_goals go_wp2_with fail
 have RR:=((HR.o.set0 (.int .u32 y0)).set1 (.int .u32 y1)).set2 (.int .u32 y2);refine bodyPost_ret (v:= .tuple #[.agg #[.int .u32 y0,.int .u32 y1,.int .u32 y2],.int .u32 z]) (by simp [results,Tryz.results54,RR.c0,RR.c1,RR.c2,go_sem]) rfl ⟨HE.o.symm,?_⟩;exact below_put (HB.o.alloc HB.o.size _) _ _ _ _ _ _ _ (by omega)
end words
namespace vnd
open disk (RepIs AppIs)
open book (Ev ev0 EMay evL evOf EncIs DecIs Cm cm0 So so0 BookIs Sees ECame FirstAt NoneAt Tells)
open acc (Ac Tm Bi TCame ACame SellIs GrantIs RekeyIs)
open ora (Pr IssueIs)
open token (Tok TTab fmtL)
open rcp (Rc rc0)
open cell (Wr RowU RowW)
open Go.RowKit
def BGot (w:World) (R:Ac→Bi→Int→Prop) (e:Ending) (w':World):Prop:=∃ b l p len cap f,e = .returned (.tuple #[acc.Ac.v b p len cap,acc.Bi.v l,zI f])∧R b l f∧Below w.heap.size w w'
theorem BGot.of {w:World} {R:Ac→Bi→Int→Prop} {e:Ending} {w':World} (h:acc.BPost w R e w'):BGot w R e w':=by
 obtain ⟨b,l,p,len,cap,f,h1,h2,_,h4⟩:=h;exact ⟨b,l,p,len,cap,f,h1,h2,h4⟩
def TagP (w:World) (o:List Pr) (me rv bd dr cl id am:Int) (e:Ending) (w':World):Prop:=∃ p5 n5 c5 o2 tg f,e = .returned (.tuple #[.agg #[.slice p5 n5 c5],.agg #[zI cl,zI id,zI am,zI tg],zI f])∧IssueIs o me rv bd dr o2 tg f∧ora.RowP w' p5 n5 o2∧(p5=none→c5=0)∧n5≤c5∧(∀ x,p5=some x→w.heap.size≤x.block)∧Below w.heap.size w w'
theorem ptagged (ao:Option Addr) (no ko:Nat) (o:List Pr) (y:Ac) (dp:Option Addr) (dn dc:Nat) (cl id am dr:Int) (K:Tok) (w:World) (ht:TTab w) (hk:K.ok) (hv:K.v = .agg #[zI cl,zI id,zI am,zI 0]) (ho:ora.RowP w ao no o):Calls Tryz.prog 84 #[.agg #[.slice ao no ko],.agg #[zI y.me,zI y.rv,zI y.nx,zI y.mo,zI y.bo,zI y.fr,.slice dp dn dc],.agg #[zI cl,zI id,zI am,zI 0],zI dr] w fun e w'=>TagP w o y.me y.rv (K.body:Int) dr cl id am e w':=by
 have HO:Hid (∀ W,Below w.heap.size w W→ora.RowP W ao no o):=fun W hW=>ho.below hW
 have HBO:Hid (∀ W,Below w.heap.size w W→Calls Tryz.prog 10 #[.agg #[zI cl,zI id,zI am,zI 0]] W fun e w'=>e = .returned (.tuple #[zI (K.body:Int),zI 0])∧Below W.heap.size W w'):=fun W hW=>by
  have hh:=token.body_ok K W (ht.below hW) hk;rw [hv] at hh;exact hh
 clear ht hk hv ho;generalize (K.body:Int)=bd at *;obtain ⟨W0,HWW,H0o,H0a,H0k,H0r,H0q,H0B,hs0⟩:=sh5 w #[.slice ao no ko] 34 #[zI y.me,zI y.rv,zI y.nx,zI y.mo,zI y.bo,zI y.fr,.slice dp dn dc] 61 #[zI cl,zI id,zI am,zI 0] 54 #[zS] 34 #[zI 0,zI 0,zI 0,zI 0] 54;go_enter Tryz.func84,Tryz.ntmps84;go_upto_region 1 with fail
 rw [HWW.o];clear HWW;have HBD:=HBO.o W0 H0B.o;clear HBO
 go_wp2_with (first
  | (refine zqw rfl rfl rfl H0o zqu34 ?_)
  | (refine zqw rfl rfl rfl H0a zqu61 ?_)
  | (refine zqw rfl rfl rfl H0k zqu54 ?_)
  | (refine zqw rfl rfl rfl H0r zqu34 ?_)
  | (refine zqw rfl rfl rfl H0q zqu54 ?_)
  | fail)
 refine HBD.mono ?_;rintro e w1 ⟨rfl,hb1⟩;have H1o:=shN H0o hb1;have H1a:=shN H0a hb1;have H1k:=shN H0k hb1;have H1r:=shN H0r hb1;have H1q:=shN H0q hb1;have H1B:=shB H0B hb1;have hsw1:W0.heap.size≤w1.heap.size:=hb1.size;clear hb1 H0o H0a H0k H0r H0q H0B;clear HBD;have HIS:Hid (Calls Tryz.prog 122 #[.agg #[.slice ao no ko],zI y.me,zI y.rv,zI bd,zI dr] w1 fun e w'=>ora.IssueQ w1 o y.me y.rv bd dr e w'):=ora.poi ao no ko o y.me y.rv bd dr w1 (HO.o _ H1B.o);have qa0:w1.cell? ⟨w.heap.size+1,0,none⟩=some (zI y.me):=H1a.o.cell 0;have qa1:w1.cell? ⟨w.heap.size+1,1,none⟩=some (zI y.rv):=H1a.o.cell 1
 go_wp2_with (first
  | (refine zqw rfl rfl rfl H1o zqu34 ?_)
  | (refine zqw rfl rfl rfl H1a zqu61 ?_)
  | (refine zqw rfl rfl rfl H1k zqu54 ?_)
  | (refine zqw rfl rfl rfl H1r zqu34 ?_)
  | (refine zqw rfl rfl rfl H1q zqu54 ?_)
  | fail)
 clear qa0 qa1;refine HIS.o.mono ?_;rintro e w2 ⟨v5,o2,tg,f5,rfl,hpw,hisx,hb2⟩;have H2o:=shN H1o hb2;have H2a:=shN H1a hb2;have H2k:=shN H1k hb2;have H2r:=shN H1r hb2;have H2q:=shN H1q hb2;have H2B:=shB H1B hb2;have hsw2:w1.heap.size≤w2.heap.size:=hb2.size;clear hb2 H1o H1a H1k H1r H1q H1B;obtain ⟨p5,c5,rfl,hrp,hnl,hcp,hnw⟩:=hpw.lies;have HII:Hid (IssueIs o y.me y.rv bd dr o2 tg f5):=hisx;have HRP:Hid (ora.RowP w2 p5 o2.length o2):=hrp;have HNL:Hid ((p5=none→c5=0)∧o2.length≤c5):=⟨hnl,hcp⟩
 have HNW:Hid (∀ x,p5=some x→w1.heap.size≤x.block∧x.block<w2.heap.size):=hnw;clear hrp hnl hcp hnw hisx hpw HIS HO;generalize o2.length=n5 at *;have H3E:Hid (Below w2.heap.size w2 w2):=Below.refl _ _;obtain ⟨W3,HWW,H4n,H4E,hsW3⟩:=sh1 w2 #[.slice p5 n5 c5] 34;have H4o:=shN H2o H4E.o;have H4a:=shN H2a H4E.o;have H4k:=shN H2k H4E.o;have H4r:=shN H2r H4E.o;have H4q:=shN H2q H4E.o;have H4B:=shB H2B H4E.o;go_upto_region 3 with fail
 clear H2o H2a H2k H2r H2q H3E H2B;rw [HWW.o];clear HWW;go_wp2_with (first | (refine wp_let1 rfl 3 _ _ rfl (w.heap.size+1+1) 3 rfl .i64 tg rfl (by kernel_rfl) #[zI cl,zI id,zI am,zI 0] 54 H4k.o (by simp) ?_) | fail)
 intro W4 hU;have HRW:Hid (ora.RowP W4 p5 n5 o2):=rowP_off (HRP.o.below H4E.o) (fun x hx=>by have:=HNW.o x hx;omega) hU;have H5o:=shK hU H4o (by omega);have H5a:=shK hU H4a (by omega);have H5k:Hid (Blk W4 (w.heap.size+1+1) #[zI cl,zI id,zI am,zI tg] 54):=hU.blk;have H5r:=shK hU H4r (by omega);have H5q:=shK hU H4q (by omega);have H5n:=shK hU H4n (by omega);have H5B:=shV hU H4B (by omega);have hsW4:W4.heap.size=W3.heap.size:=hU.size;clear hU H4o H4a H4k H4r H4q H4n H4E H4B;clear HRP;go_wp2_with fail;refine wp_region_held_drew (S:=fun v=>Blk v (w2.heap.size) #[.slice p5 n5 c5] 34∧Blk v (w.heap.size+1+1) #[zI cl,zI id,zI am,zI tg] 54) (by kernel_rfl) ⟨Blk.drew H5n.o 1,Blk.drew H5k.o 1⟩ (fun hHeld=>?_);refine zqt 0 35 (.agg #[.slice p5 n5 c5]) rfl rfl (by kernel_rfl) zid (Or.inl ⟨by rfl,fun v hv=>by have g0:=hv.1.cell 0;clear hv;go_simp⟩) hHeld ?_;simp only [zq];refine zqt 1 36 (.agg #[zI cl,zI id,zI am,zI tg]) rfl rfl (by kernel_rfl) zid (Or.inl ⟨by rfl,fun v hv=>by have g0:=hv.2.cell 0;have g1:=hv.2.cell 1;have g2:=hv.2.cell 2;have g3:=hv.2.cell 3;clear hv;go_simp⟩) hHeld ?_;simp only [zq];refine zqs 2 37 (zI f5) rfl rfl (by kernel_rfl) zid rfl (fun v hv=>by clear hv;go_simp) hHeld ?_;simp only [zq];refine zqo 3 (by kernel_rfl) rfl (fun K hK=>?_);rw [if_pos (by rfl)];refine wp_letOp 34 _ _ rfl (w.heap.size+1+1+1) rfl #[.slice p5 n5 c5] rfl (by kernel_rfl) (by simp [Value.oneCell']) #[zS] 34 (Blk.drew H5r.o 1) rfl rfl ?_;intro V1 hU;have H6o:Hid (Blk V1 (w.heap.size) #[.slice ao no ko] 34):=hU.keep (Blk.drew H5o.o 1) (by omega);have H6a:Hid (Blk V1 (w.heap.size+1) #[zI y.me,zI y.rv,zI y.nx,zI y.mo,zI y.bo,zI y.fr,.slice dp dn dc] 61):=hU.keep (Blk.drew H5a.o 1) (by omega);have H6k:Hid (Blk V1 (w.heap.size+1+1) #[zI cl,zI id,zI am,zI tg] 54):=hU.keep (Blk.drew H5k.o 1) (by omega);have H6r:Hid (Blk V1 (w.heap.size+1+1+1) #[.slice p5 n5 c5] 34):=hU.blk
 have H6q:Hid (Blk V1 (w.heap.size+1+1+1+1) #[zI 0,zI 0,zI 0,zI 0] 54):=hU.keep (Blk.drew H5q.o 1) (by omega);have H6n:Hid (Blk V1 (w2.heap.size) #[.slice p5 n5 c5] 34):=hU.keep (Blk.drew H5n.o 1) (by omega);have HRV1:Hid (ora.RowP V1 p5 n5 o2):=rowP_off (HRW.o.below (bel_drew (Below.refl _ _) 1)) (fun x hx=>by have:=HNW.o x hx;omega) hU;have H6B:Hid (Below w.heap.size w V1):=hU.bel _ _ (by omega) H5B.o.drew;clear hU H5o H5a H5k H5r H5q H5n H5B;refine hK.o _ _ ⟨H6n.o,H6k.o⟩ (fun hHeld=>?_);clear hK K;refine zqo 4 (by kernel_rfl) rfl (fun K hK=>?_);rw [if_pos (by rfl)];refine wp_letOp 54 _ _ rfl (w.heap.size+1+1+1+1) rfl #[zI cl,zI id,zI am,zI tg] rfl (by kernel_rfl) (by simp [Value.oneCell']) #[zI 0,zI 0,zI 0,zI 0] 54 H6q.o rfl rfl ?_;intro V2 hU;have H7o:=shK hU H6o (by omega);have H7a:=shK hU H6a (by omega);have H7k:=shK hU H6k (by omega);have H7r:=shK hU H6r (by omega);have H7q:Hid (Blk V2 (w.heap.size+1+1+1+1) #[zI cl,zI id,zI am,zI tg] 54):=hU.blk;have H7n:=shK hU H6n (by omega);have HRV2:Hid (ora.RowP V2 p5 n5 o2):=rowP_off HRV1.o (fun x hx=>by have:=HNW.o x hx;omega) hU;have H7B:=shV hU H6B (by omega);clear hU H6o H6a H6k H6r H6q H6n H6B;refine hK.o _ _ ⟨H7n.o,H7k.o⟩ (fun hHeld=>?_);clear hK K;refine zqs 5 10 (zI f5) rfl rfl (by kernel_rfl) zid rfl (fun v hv=>by clear hv;go_simp) hHeld ?_;simp only [zq];refine wpAnyH_done (by kernel_rfl) ?_ _;clear hHeld;have Rr0:Hid (V2.cell? ⟨w.heap.size+1+1+1,0,none⟩=some (.slice p5 n5 c5)):=H7r.o.cell 0;obtain ⟨Rq0,Rq1,Rq2,Rq3⟩:=shc4 H7q;go_wp2_with fail;exact bodyPost_ret (v:= .tuple #[.agg #[.slice p5 n5 c5],.agg #[zI cl,zI id,zI am,zI tg],zI f5]) (by simp [results,Tryz.results84,Rr0.o,Rq0.o,Rq1.o,Rq2.o,Rq3.o,go_sem]) rfl ⟨p5,n5,c5,o2,tg,f5,rfl,HII.o,HRV2.o,HNL.o.1,HNL.o.2,(fun x hx=>by have:=HNW.o x hx;omega),H7B.o⟩
end vnd
namespace book
open Go.RowKit
open acc (Ac Tm Bi APost BPost TFault TRight OpenIs OweIs SellIs GrantIs RekeyIs wf6 ACame TCame fresh_updN fresh_drew came_lt)
def OwPost (w:World) (x:Ac) (d:tar.Du) (e:Ending) (w':World):Prop:=Below w.heap.size w w'∧((∃ b pb lb cb,e = .returned (acc.Ac.v b pb lb cb)∧OweIs x d b 0∧deb.Fresh w' w.heap.size pb lb cb b.ds)∨∃ b f,f≠0∧e = .panicked (thrown f)∧OweIs x d b f)
theorem bowing (x:Ac) (p:Option Addr) (len cap:Nat) (d:tar.Du) (w:World) (ha:ACame w x p len cap) (hd:(Lit.int .i64 d.a).wf=true∧(Lit.int .i64 d.b).wf=true):Calls Tryz.prog 117 #[.agg #[zI x.me,zI x.rv,zI x.nx,zI x.mo,zI x.bo,zI x.fr,.slice p len cap],.agg #[zI d.a,zI d.b]] w fun e w'=>OwPost w x d e w':=by
 have HNO:Hid (∀ (f:Int) (hf:f≠0) W,Calls Tryz.prog 134 #[zI f] W fun e w'=>e = .panicked (thrown f)∧w'=W):=fun f hf W=>insist_no f hf W;have HOK:Hid (∀ W,Calls Tryz.prog 134 #[zI 0] W fun e w'=>e = .returned (.tuple #[])∧w'=W):=fun W=>insist_ok W;obtain ⟨W0,HWW,H0a,H0d,H0r,H0B,hs0⟩:=sh3 w #[zI x.me,zI x.rv,zI x.nx,zI x.mo,zI x.bo,zI x.fr,.slice p len cap] 61 #[zI d.a,zI d.b] 83 #[zI 0,zI 0,zI 0,zI 0,zI 0,zI 0,zS] 61;have H0A:Hid (ACame W0 x p len cap):=ha.below H0B.o;go_enter Tryz.func117,Tryz.ntmps117;go_upto_region 1 with fail
 rw [HWW.o];clear HWW;have HSL:Hid (Calls Tryz.prog 46 #[.agg #[zI x.me,zI x.rv,zI x.nx,zI x.mo,zI x.bo,zI x.fr,.slice p len cap],.agg #[zI d.a,zI d.b]] W0 fun e w'=>APost W0 (OweIs x d) e w'):=acc.kowe _ x p len cap d H0A.o hd;clear hd ha;have HS0:Hid (w.heap.size≤W0.heap.size):=H0B.o.size
 go_wp2_with (first
  | (refine zqw rfl rfl rfl H0a zqu61 ?_)
  | (refine zqw rfl rfl rfl H0d zqu83 ?_)
  | (refine zqw rfl rfl rfl H0r zqu61 ?_)
  | fail)
 refine HSL.o.mono ?_;rintro e w1 ⟨b,pb,lb,cb,f,rfl,hi,hf,hb1⟩;have hW1:W0.heap.size≤w1.heap.size:=hb1.size;have HI:Hid (OweIs x d b f):=hi;have HF1:Hid (deb.Fresh w1 W0.heap.size pb lb cb b.ds):=hf;have H1a:=shN H0a hb1;have H1d:=shN H0d hb1;have H1r:=shN H0r hb1;have H1B:=shB H0B hb1;clear H0a H0d H0r H0B;clear hi hf hb1 HSL;unfold acc.Ac.v acc.Ac.cs
 go_wp2_with (first
  | (refine zql rfl rfl rfl rfl zqu61 (by simp [Value.oneCell']) H1a rfl ?_)
  | (refine zqw rfl rfl rfl H1a zqu61 ?_)
  | (refine zqw rfl rfl rfl H1d zqu83 ?_)
  | (refine zqw rfl rfl rfl H1r zqu61 ?_)
  | fail)
 intro V1 hU;have H2a:Hid (Blk V1 (w.heap.size) #[zI b.me,zI b.rv,zI b.nx,zI b.mo,zI b.bo,zI b.fr,.slice pb lb cb] 61):=hU.blk;have H2d:=shK hU H1d (by omega);have H2r:=shK hU H1r (by omega);have H2B:=shV hU H1B (by omega);clear H1a H1d H1r H1B;have HF2:Hid (deb.Fresh V1 W0.heap.size pb lb cb b.ds):=fresh_updN HF1.o hU (fun hn y hy=>by have f1:=HF1.o.new hn y hy;omega);clear hU HF1;by_cases h0:f=0
 case neg=>
  have HN1:=HNO.o f h0;have HN2:Hid (∀ W,Calls Tryz.prog 134 #[zI f] W fun e w'=>e = .panicked (thrown f)∧w'=W):=HN1;have HNE:Hid (f≠0):=h0;clear HN1 HNO h0
  go_wp2_with (first
   | (refine zqw rfl rfl rfl H2a zqu61 ?_)
   | (refine zqw rfl rfl rfl H2d zqu83 ?_)
   | (refine zqw rfl rfl rfl H2r zqu61 ?_)
   | fail)
  refine (HN2.o _).mono ?_;rintro e W9 ⟨rfl,rfl⟩;exact ⟨rfl,H2B.o,.inr ⟨b,f,HNE.o,rfl,HI.o⟩⟩
 subst h0
 go_wp2_with (first
  | (refine zqw rfl rfl rfl H2a zqu61 ?_)
  | (refine zqw rfl rfl rfl H2d zqu83 ?_)
  | (refine zqw rfl rfl rfl H2r zqu61 ?_)
  | fail)
 refine (HOK.o _).mono ?_;rintro e W9 ⟨rfl,hw9⟩;obtain rfl:V1=W9:=hw9.symm
 go_wp2_with (first
  | (refine zql rfl rfl rfl rfl zqu61 (by simp [Value.oneCell']) H2r rfl ?_)
  | (refine zqw rfl rfl rfl H2a zqu61 ?_)
  | (refine zqw rfl rfl rfl H2d zqu83 ?_)
  | (refine zqw rfl rfl rfl H2r zqu61 ?_)
  | fail)
 intro V2 hU;have H3a:=shK hU H2a (by omega);have H3d:=shK hU H2d (by omega);have H3r:Hid (Blk V2 (w.heap.size+1+1) #[zI b.me,zI b.rv,zI b.nx,zI b.mo,zI b.bo,zI b.fr,.slice pb lb cb] 61):=hU.blk;have H3B:=shV hU H2B (by omega);clear H2a H2d H2r H2B;have HF3:Hid (deb.Fresh V2 W0.heap.size pb lb cb b.ds):=fresh_updN HF2.o hU (fun hn y hy=>by have f1:=HF2.o.new hn y hy;omega);clear hU HF2;obtain ⟨R0,R1,R2,R3,R4,R5,R6⟩:=shc7 H3r;go_wp2_with fail;exact bodyPost_ret (v:= .agg #[zI b.me,zI b.rv,zI b.nx,zI b.mo,zI b.bo,zI b.fr,.slice pb lb cb]) (by simp [results,Tryz.results117,R0.o,R1.o,R2.o,R3.o,R4.o,R5.o,R6.o,go_sem]) rfl ⟨H3B.o,.inl ⟨b,pb,lb,cb,rfl,HI.o,HF3.o.low HS0.o⟩⟩
theorem ev_me {v:Ev} (h:EMay v):0≤v.me∧v.me≤49:=by unfold EMay at h;omega
theorem ev_kd {v:Ev} (h:EMay v) (h1:v.kd≠1) (h5:v.kd≠5):v.kd=2∨v.kd=3∨v.kd=4:=by unfold EMay at h;omega
theorem ev_ow {v:Ev} (h:EMay v):(Lit.int .i64 v.ow).wf=true∧(Lit.int .i64 v.bp).wf=true:=by
 have:(0≤v.ow∧v.ow≤1000000000)∧0≤v.bp∧v.bp≤10000:=by unfold EMay at h;omega
 exact ⟨wf_i (by omega) (by omega),wf_i (by omega) (by omega)⟩
theorem charge_wr {w0:World} {base gW B:Nat} {t:Tm} {pt:Option Addr} {lt ct g n cap:Nat} {xs:List Cu} {bk:List Cm} {k:Nat} {v:Ev} {y b:Ac} {sol:List So} {dp pb:Option Addr} {dn dc lb cb:Nat} {sp:Option Addr} {sn sc:Nat} {cur:Array Value} {w w1 WF:World}
  (h:Wr w0 base gW B t pt lt ct (.slice (some ⟨g,0,none⟩) n cap) xs bk w) (hk:k<xs.length) (hx:xs.getD k cu0=⟨y.me,y.rv,y.nx,y.mo,y.bo,y.fr,dp,dn,dc,sp,sn,sc⟩) (hc:bk.getD k cm0=⟨y,sol⟩) (hcb:Blk w g cur 64) (hcs:k*8+8≤cur.size) (hc7:cur[k*8+7]?=some (.slice sp sn sc))
  (hm:EMay v) (hh:HapIs t ⟨y,sol⟩ v ⟨b,sol⟩ 0) (hb:Below w.heap.size w w1) (hf:deb.Fresh w1 w.heap.size pb lb cb b.ds) (hU:Upd w1 WF g (putAll cur (k*8) [zI b.me,zI b.rv,zI b.nx,zI b.mo,zI b.bo,zI b.fr,.slice pb lb cb]) 64) :
  WPost w0 base gW B t pt lt ct (HapR t bk k v) w (.returned (.tuple #[])) WF:=by
 have hx0:=h.hold.has k hk;have hoff:=h.hold.off k hk;rw [hc] at hx0;rw [hx] at hx0 hoff;have HOI:∀ i,(Value.slice sp sn sc).ownBlock=some i→i<w.heap.size∧base≤i∧i≠g:=fun i hi=>⟨(World.ownsRow.lt hx0.so i hi).2,(World.ownsRow.lt hx0.so i hi).1,fun e=>hoff.1 i hi (by rw [e];rfl)⟩;have hgb:base≤g:=(World.ownsRow.lt h.hold.row g rfl).1;have hgl:=hcb.lt;have hsz0:=h.sz;have hbb:=hU.bel 0 w1 (Nat.zero_le _) (Below.refl _ _);have hO:∀ i,i<w.heap.size→i≠g→WF.heap[i]?=w.heap[i]?:=fun i h1 h2=>by rw [hU.oth i h2];exact hb.block i h1
 have hos:WF.os=w.os∧WF.tape=w.tape∧WF.output=w.output:=⟨hbb.os.trans hb.os,hbb.tape.trans hb.tape,hbb.output.trans hb.output⟩
 have hsz:w.heap.size≤WF.heap.size:=by rw [hU.size];exact hb.size
 have hw:=hap_wf hh hm;refine ⟨⟨hos.1,hos.2.1,hos.2.2,hsz,fun i h1 _ _=>hO i (by omega) (by omega)⟩,.inl ⟨.slice (some ⟨g,0,none⟩) n cap,xs.set k ⟨b.me,b.rv,b.nx,b.mo,b.bo,b.fr,pb,lb,cb,sp,sn,sc⟩,bk.set k ⟨b,sol⟩,rfl,⟨⟨b,sol⟩,by rw [hc];exact hh,fun _=>rfl⟩,fun hsm=>?_⟩⟩;refine put_wr h hk hx hcb (fun i h1 h2 _=>hO i h1 h2) hsz hos (x':=⟨b.me,b.rv,b.nx,b.mo,b.bo,b.fr,pb,lb,cb,sp,sn,sc⟩) ⟨⟨rfl,rfl,rfl,rfl,rfl,rfl⟩,⟨acc_upd hf.came hU (fun hn p hp q=>by have:=hf.new hn p hp;omega),fun hn p hp=>by have:=hf.new hn p hp;omega⟩,?_⟩ hw.1 (by rw [hc];exact hw.2) (fun i hi=> .inl hi) (fun hn p hp=>hf.new hn p hp) (fun i hi hn p hp q=>by have h1:=(HOI i hi).1;have h2:=hf.new hn p hp;omega) ?_ hsm
 ·exact lo_upd (hx0.so.next hb) hU (fun i hi=>(HOI i hi).2.2)
 ·have e1:putAll cur (k*8) ([zI b.me,zI b.rv,zI b.nx,zI b.mo,zI b.bo,zI b.fr,.slice pb lb cb]++[.slice sp sn sc])=putAll cur (k*8) [zI b.me,zI b.rv,zI b.nx,zI b.mo,zI b.bo,zI b.fr,.slice pb lb cb]:=by
   rw [← putAll_more];apply Array.ext_getElem?;intro j;by_cases hj:j=k*8+7
   ·subst hj;rw [show k*8+([zI b.me,zI b.rv,zI b.nx,zI b.mo,zI b.bo,zI b.fr,.slice pb lb cb]:List Value).length=k*8+7 from rfl,Array.getElem?_setIfInBounds_self_of_lt (by rw [putAll_size];omega),putAll_get _ _ _ _ (by simp;omega),if_neg (by simp only [List.length_cons,List.length_nil];omega),hc7]
   ·rw [Array.getElem?_setIfInBounds_ne (by simp only [List.length_cons,List.length_nil];omega)]
  have e2:(⟨b.me,b.rv,b.nx,b.mo,b.bo,b.fr,pb,lb,cb,sp,sn,sc⟩:Cu).cs=[zI b.me,zI b.rv,zI b.nx,zI b.mo,zI b.bo,zI b.fr,.slice pb lb cb]++[.slice sp sn sc]:=rfl;rw [e2,e1];exact hU.blk
theorem bhappen (w0:World) (base gW B:Nat) (t:Tm) (pt:Option Addr) (lt ct:Nat) (a:Option Addr) (n cap:Nat) (xs:List Cu) (bk:List Cm) (v:Ev) (w:World) (h:Wr w0 base gW B t pt lt ct (.slice a n cap) xs bk w) (ht:TCame w0 t pt lt ct):Calls Tryz.prog 77 #[.pointer (some ⟨gW,0,none⟩),.agg #[zI v.kd,zI v.me,zI v.mo,zI v.id,zI v.te,zI v.de,zI v.fe,zI v.pr,zI v.ch,zI v.un,zI v.tg,zI v.ow,zI v.bp]] w fun e w'=>WPost w0 base gW B t pt lt ct (StepIs t bk v) w e w':=by
 have HMU:Hid (∀ W,Calls Tryz.prog 104 #[.agg #[zI v.kd,zI v.me,zI v.mo,zI v.id,zI v.te,zI v.de,zI v.fe,zI v.pr,zI v.ch,zI v.un,zI v.tg,zI v.ow,zI v.bp]] W fun e w'=>MustPost W v e w'):=fun W=>bmust v W;have HR:Hid (Wr w0 base gW B t pt lt ct (.slice a n cap) xs bk w):=h;have HT:Hid (TCame w0 t pt lt ct):=ht;have HSZ:Hid (base≤w.heap.size):=h.sz;clear h ht;obtain ⟨W0,HWW,H0v,H0B,-⟩:=sh1 w #[zI v.kd,zI v.me,zI v.mo,zI v.id,zI v.te,zI v.de,zI v.fe,zI v.pr,zI v.ch,zI v.un,zI v.tg,zI v.ow,zI v.bp] 125;go_enter Tryz.func77,Tryz.ntmps77;go_upto_region 1 with fail
 rw [HWW.o];clear HWW
 go_wp2_with (first
  | (refine zqw rfl rfl rfl H0v zqu125 ?_)
  | fail)
 refine (HMU.o _).mono ?_;rintro e W1 ⟨hm,hb⟩;have H1v:=shN H0v hb;have H1B:=shB H0B hb;clear H0v H0B;clear hb HMU;rcases hm with ⟨hm,rfl⟩ | ⟨hm,rfl⟩
 case inr=>
  exact ⟨rfl,.of H1B.o HSZ.o,.inr ⟨5,[],by decide,rfl,.inl ⟨hm,rfl⟩⟩⟩
 have HMA:Hid (EMay v):=hm;have HGN:Hid (∀ cur,¬ Blk W1 w.heap.size cur 64):=fun cur q=>by have h1:W1.heap[w.heap.size]?=_:=H1v.o;have h2:W1.heap[w.heap.size]?=_:=q;rw [h1] at h2;simp at h2
 clear hm;have HR1:Hid (Wr w0 base gW B t pt lt ct (.slice a n cap) xs bk W1):=HR.o.next H1B.o;have HK1:Hid (Kp base gW B w W1):= .of H1B.o HSZ.o;clear HR;have hgv:w.heap.size<W1.heap.size:=H1v.o.lt;have c0:W1.cell? ⟨w.heap.size,0,none⟩=some (zI v.kd):=H1v.o.cell 0;have c1:W1.cell? ⟨w.heap.size,1,none⟩=some (zI v.me):=H1v.o.cell 1;by_cases k1:v.kd=1
 case pos=>
  have q1:(v.kd == 1)=true:=by simpa using k1
  have HK:Hid (v.kd=1):=k1;clear k1;have HRG:Hid (Calls Tryz.prog 115 #[.pointer (some ⟨gW,0,none⟩),zI v.me] W1 fun e w'=>WPost w0 base gW B t pt lt ct (RegR bk v.me) W1 e w'):=breg w0 base gW B t pt lt ct a n cap xs bk v.me W1 HR1.o (ev_me HMA.o);go_wp2_with fail;refine HRG.o.mono ?_;intro e w9 hp;have hq:=hp.back (R':=StepIs t bk v) HK1.o (fun b f hr=>by rcases hr with ⟨h1,rfl⟩ | ⟨h1,rfl,rfl⟩;exact .inr (.inl ⟨HMA.o,HK.o,h1,rfl⟩);exact .inr (.inr (.inl ⟨HMA.o,HK.o,h1,rfl,rfl⟩)));have HQ:Hid (WPost w0 base gW B t pt lt ct (StepIs t bk v) w e w9):=hq;clear hp hq;rcases HQ.o.2 with ⟨V3,xs3,bk3,rfl,_⟩ | ⟨f,bk3,_,rfl,_⟩
  ·go_wp2_with fail;go_end0;exact HQ.o
  ·exact ⟨rfl,HQ.o⟩
 have q1:(v.kd == 1)=false:=by simpa using k1
 have HN1:Hid (v.kd≠1):=k1;clear k1
 have HCU:Hid (Calls Tryz.prog 116 #[.pointer (some ⟨gW,0,none⟩),zI v.me] W1 fun e w'=>CuPost W1 a bk v.me e w'):=by
  have hl:xs.length=n:=by obtain ⟨_,_,hv,_⟩:=HR1.o.hold.row.row;injection hv with _ e1 _;exact e1.symm
  refine bcust gW B t pt lt ct a n cap bk v.me W1 HR1.o.blk HR1.o.mp (by rw [← HR1.o.hold.len,hl]) (fun hn=>?_) (by have:=HR1.o.few.1;have:=HR1.o.hold.len;omega);obtain ⟨g,cur,e1,_⟩:=at_cust HR1.o.hold.row (k:=0) (by omega);exact ⟨g,e1⟩
 go_wp2_with fail;refine HCU.o.mono ?_;rintro e w9 ⟨hw9,hcu⟩;obtain rfl:W1=w9:=hw9.symm;clear HCU;rcases hcu with ⟨k,g,hfa,rfl,rfl⟩ | ⟨hno,rfl⟩
 case inr=>
  exact ⟨rfl,HK1.o,.inr ⟨18,[],by decide,rfl,.inr (.inr (.inr (.inl ⟨HMA.o,HN1.o,hno,rfl⟩)))⟩⟩
 have HFA:Hid (FirstAt bk v.me k):=hfa;have HKL:Hid (k<xs.length):=by show _<_;rw [HR1.o.hold.len];exact hfa.1
 clear hfa;by_cases k5:v.kd=5
 case neg=>
  have q5:(v.kd == 5)=false:=by simpa using k5
  have HN5:Hid (v.kd≠5):=k5;clear k5;have HSE:Hid (Calls Tryz.prog 118 #[.pointer (some ⟨gW,0,none⟩),.pointer (some ⟨g,k*8,none⟩),.agg #[zI v.kd,zI v.me,zI v.mo,zI v.id,zI v.te,zI v.de,zI v.fe,zI v.pr,zI v.ch,zI v.un,zI v.tg,zI v.ow,zI v.bp]] W1 fun e w'=>WPost w0 base gW B t pt lt ct (HapR t bk k v) W1 e w'):=bsell w0 base gW B t pt lt ct g n cap xs bk k v W1 HR1.o HKL.o HT.o HMA.o (ev_kd HMA.o HN1.o HN5.o);generalize k*8=O at *
  go_wp2_with (first
   | (refine zqw rfl rfl rfl H1v zqu125 ?_)
   | fail)
  refine HSE.o.mono ?_;intro e w9 hp;have hq:=hp.back (R':=StepIs t bk v) HK1.o (fun b f hr=>by obtain ⟨c',h1,h2⟩:=hr;exact .inr (.inr (.inr (.inr ⟨HMA.o,HN1.o,k,c',HFA.o,h1,h2⟩))));have HQ:Hid (WPost w0 base gW B t pt lt ct (StepIs t bk v) w e w9):=hq;clear hp hq;rcases HQ.o.2 with ⟨V3,xs3,bk3,rfl,_⟩ | ⟨f,bk3,_,rfl,_⟩
  ·go_wp2_with fail;go_end0;exact HQ.o
  ·exact ⟨rfl,HQ.o⟩
 have q5:(v.kd == 5)=true:=by simpa using k5
 have HK5:Hid (v.kd=5):=k5;clear k5;have hx0:=HR1.o.hold.has k HKL.o;have hwf0:wf6 (bk.getD k cm0).a:=HR1.o.wf _ (getD_in (by rw [← HR1.o.hold.len];exact HKL.o));obtain ⟨c,hc⟩:∃ c,bk.getD k cm0=c:=⟨_,rfl⟩
 obtain ⟨x,hx⟩:∃ x,xs.getD k cu0=x:=⟨_,rfl⟩
 obtain ⟨g',cur,e1,hgb,hcb,hcs,hcc⟩:=at_cust HR1.o.hold.row HKL.o;obtain rfl:g=g':=by injection e1 with e1;injection e1
 clear e1;rw [hc] at hx0 hwf0;rw [hx] at hx0 hcc;obtain ⟨y,sol⟩:=c;obtain ⟨dp,dn,dc,sp,sn,sc,rfl⟩:=cuA_of hx0.num;have HX:Hid (xs.getD k cu0=(⟨y.me,y.rv,y.nx,y.mo,y.bo,y.fr,dp,dn,dc,sp,sn,sc⟩:Cu)):=hx;have HC:Hid (bk.getD k cm0=⟨y,sol⟩):=hc;have HCB:Hid (Blk W1 g cur 64):=hcb;have HCS:Hid (k*8+8≤cur.size):=hcs;have hgl:g<W1.heap.size:=hcb.lt;have hgv2:g≠w.heap.size:=fun q=>HGN.o cur (by rw [← q];exact hcb);have HOW:Hid (Calls Tryz.prog 117 #[.agg #[zI y.me,zI y.rv,zI y.nx,zI y.mo,zI y.bo,zI y.fr,.slice dp dn dc],.agg #[zI v.ow,zI v.bp]] W1.drew fun e w'=>OwPost W1.drew y ⟨v.ow,v.bp⟩ e w'):=bowing y dp dn dc ⟨v.ow,v.bp⟩ W1.drew ⟨hx0.ds.came.below (Below.refl _ _).drew,hwf0⟩ (ev_ow HMA.o);have HC0:Hid (cur[k*8+0]?=some (zI y.me)):=hcc 0 (by decide);have HC1:Hid (cur[k*8+1]?=some (zI y.rv)):=hcc 1 (by decide);have HC2:Hid (cur[k*8+2]?=some (zI y.nx)):=hcc 2 (by decide);have HC3:Hid (cur[k*8+3]?=some (zI y.mo)):=hcc 3 (by decide);have HC4:Hid (cur[k*8+4]?=some (zI y.bo)):=hcc 4 (by decide);have HC5:Hid (cur[k*8+5]?=some (zI y.fr)):=hcc 5 (by decide);have HC6:Hid (cur[k*8+6]?=some (.slice dp dn dc)):=hcc 6 (by decide);have HC7:Hid (cur[k*8+7]?=some (.slice sp sn sc)):=hcc 7 (by decide);clear hcc hx hc hx0 hwf0 hgb hcs;obtain ⟨O,hO⟩:∃ O,k*8=O:=⟨_,rfl⟩
 have HO:Hid (k*8=O):=hO;rw [hO] at HCS HC0 HC1 HC2 HC3 HC4 HC5 HC6 HC7;rw [hO];clear hO;go_wp2_with fail;clear q1 q5 c0 c1;refine wp_region_held_drew (S:=fun u=>Blk u w.heap.size #[zI v.kd,zI v.me,zI v.mo,zI v.id,zI v.te,zI v.de,zI v.fe,zI v.pr,zI v.ch,zI v.un,zI v.tg,zI v.ow,zI v.bp] 125) (by kernel_rfl) (show _ from Blk.drew H1v.o 1) (fun hHeld=>?_);have z0:W1.drew.cell? ⟨g,O,none⟩=some (zI y.me):=(HCB.o.cell (O+0)).trans HC0.o;have z1:W1.drew.cell? ⟨g,O+1,none⟩=some (zI y.rv):=(HCB.o.cell (O+1)).trans HC1.o;have z2:W1.drew.cell? ⟨g,O+2,none⟩=some (zI y.nx):=(HCB.o.cell (O+2)).trans HC2.o;have z3:W1.drew.cell? ⟨g,O+3,none⟩=some (zI y.mo):=(HCB.o.cell (O+3)).trans HC3.o;have z4:W1.drew.cell? ⟨g,O+4,none⟩=some (zI y.bo):=(HCB.o.cell (O+4)).trans HC4.o;have z5:W1.drew.cell? ⟨g,O+5,none⟩=some (zI y.fr):=(HCB.o.cell (O+5)).trans HC5.o;have z6:W1.drew.cell? ⟨g,O+6,none⟩=some (.slice dp dn dc):=(HCB.o.cell (O+6)).trans HC6.o;refine zqs 0 21 (.pointer (some ⟨g,O,none⟩)) rfl rfl (by kernel_rfl) zid rfl (fun v hv=>by clear hv;go_simp) hHeld ?_;simp only [zq];refine zqs 1 22 (.pointer (some ⟨g,O,none⟩)) rfl rfl (by kernel_rfl) zid rfl (fun v hv=>by clear hv;go_simp) hHeld ?_;simp only [zq];refine zqs 2 23 (.pointer (some ⟨g,O,none⟩)) rfl rfl (by kernel_rfl) zid rfl (fun v hv=>by clear hv;go_simp) hHeld ?_;simp only [zq];refine zqs 3 24 (.pointer (some ⟨g,O,none⟩)) rfl rfl (by kernel_rfl) zid rfl (fun v hv=>by clear hv;go_simp) hHeld ?_;simp only [zq];refine zqs 5 26 (.pointer (some ⟨w.heap.size,11,none⟩)) rfl rfl (by kernel_rfl) zid rfl (fun v hv=>by clear hv;go_simp) hHeld ?_;simp only [zq];refine zqt 6 27 (.agg #[zI v.ow,zI v.bp]) rfl rfl (by kernel_rfl) zid (Or.inl ⟨by rfl,fun v hv=>by have g0:=hv.cell 11;have g1:=hv.cell 12;clear hv;go_simp⟩) hHeld ?_;simp only [zq];refine zqo 4 (by kernel_rfl) rfl (fun K hK=>?_);rw [if_pos (by rfl)]
 refine wp_runOp (v:= .agg #[zI y.me,zI y.rv,zI y.nx,zI y.mo,zI y.bo,zI y.fr,.slice dp dn dc]) (w':=W1.drew) 25 rfl (by clear hK;go_simp) ?_;refine hK.o _ _ (Blk.drew H1v.o 1) (fun hHeld=>?_);clear hK K z0 z1 z2 z3 z4 z5 z6;simp only [zq];refine zqo 7 (by kernel_rfl) rfl (fun K hK=>?_);rw [if_pos (by rfl)];refine wp_callOpP 28 rfl (by clear hK;go_simp) HOW.o ?_;rintro e w2 ⟨hb,hp⟩;rcases hp with ⟨b,pb,lb,cb,rfl,hi,hf⟩ | ⟨b,f,hf,rfl,hi⟩
 case inr=>
  exact .inr ⟨_,rfl,rfl,HK1.o.trans (.of ((Below.refl W1.heap.size W1).drew.trans hb) HR1.o.sz),.inr ⟨f,[],hf,rfl,.inr (.inr (.inr (.inr ⟨HMA.o,HN1.o,k,⟨y,sol⟩,HFA.o,by rw [HC.o];exact .inl ⟨HK5.o,b,hi,fun q=>absurd q hf⟩,fun q=>absurd q hf⟩)))⟩⟩
 refine .inl ⟨_,rfl,?_⟩;have hb2:Below W1.heap.size W1 w2:=(Below.refl W1.heap.size W1).drew.trans hb;have HV2:=shN H1v hb2;have HC2:=shN HCB hb2;have HB2:Hid (Below W1.heap.size W1 w2):=hb2;have HI:Hid (OweIs y ⟨v.ow,v.bp⟩ b 0):=hi;have HF:Hid (deb.Fresh w2 W1.heap.size pb lb cb b.ds):=hf;refine hK.o _ _ HV2.o (fun hHeld=>?_);clear hK K hi hf hb hb2 HOW;unfold acc.Ac.v acc.Ac.cs;simp only [zq];refine zqs 8 29 (.pointer (some ⟨g,O,none⟩)) rfl rfl (by kernel_rfl) zid rfl (fun v hv=>by clear hv;go_simp) hHeld ?_;simp only [zq];refine zqs 9 30 (.pointer (some ⟨g,O,none⟩)) rfl rfl (by kernel_rfl) zid rfl (fun v hv=>by clear hv;go_simp) hHeld ?_;simp only [zq];refine zqo 10 (by kernel_rfl) rfl (fun K hK=>?_);rw [if_pos (by rfl)];refine wp_letOpN 61 _ _ rfl g O rfl (.agg #[zI b.me,zI b.rv,zI b.nx,zI b.mo,zI b.bo,zI b.fr,.slice pb lb cb]) rfl #[zI b.me,zI b.rv,zI b.nx,zI b.mo,zI b.bo,zI b.fr,.slice pb lb cb] rfl (by kernel_rfl) (by simp [Value.oneCell']) cur 64 HC2.o (by have:=HCS.o;simp;omega) (putAll cur O [zI b.me,zI b.rv,zI b.nx,zI b.mo,zI b.bo,zI b.fr,.slice pb lb cb]) rfl rfl ?_;intro WF hU;have M1:Hid (Blk WF w.heap.size #[zI v.kd,zI v.me,zI v.mo,zI v.id,zI v.te,zI v.de,zI v.fe,zI v.pr,zI v.ch,zI v.un,zI v.tg,zI v.ow,zI v.bp] 125):=hU.keep HV2.o (Ne.symm hgv2)
 have MF:Hid (WPost w0 base gW B t pt lt ct (StepIs t bk v) w (.returned (.tuple #[])) WF):=by
  have hh:HapIs t ⟨y,sol⟩ v ⟨b,sol⟩ 0:= .inl ⟨HK5.o,b,HI.o,fun _=>rfl⟩;refine (charge_wr HR1.o HKL.o HX.o HC.o HCB.o (by rw [HO.o];exact HCS.o) (by rw [HO.o];exact HC7.o) HMA.o hh HB2.o HF.o (by rw [HO.o];exact hU)).back HK1.o (fun bb f hr=>?_);obtain ⟨c',h1,h2⟩:=hr;exact .inr (.inr (.inr (.inr ⟨HMA.o,HN1.o,k,c',HFA.o,h1,h2⟩)))
 refine hK.o _ _ M1.o (fun hHeld=>?_);clear hK K hU;refine wpAnyH_done (by kernel_rfl) ?_ _;clear hHeld;go_wp2_with fail;go_end0;exact MF.o
end book
end Go.Proofs.YtdpfnedfakgolaaGreatDoor
