import Derived.Test.YtdpfnedfakgolaaGreatDoorVVRnt43
set_option linter.unusedVariables false
set_option linter.unusedSimpArgs false
set_option maxHeartbeats 4000000
set_option maxRecDepth 100000
namespace Go.Proofs.YtdpfnedfakgolaaGreatDoor
namespace vnd
open disk (RepIs AppIs)
open book (Ev ev0 EMay evL evOf EncIs DecIs Cm cm0 So so0 BookIs Sees ECame FirstAt NoneAt Tells)
open acc (Ac Tm Bi TCame ACame SellIs GrantIs RekeyIs)
open ora (Pr IssueIs)
open token (Tok TTab fmtL)
open rcp (Rc rc0)
open cell (Wr RowU RowW)
open Go.RowKit
theorem psell1 (B0 B1 B2:Nat) (x:Ac) (p:Option Addr) (ln cp:Nat) (t:Tm) (pt:Option Addr) (lt ct:Nat) (te mo:Int) (w:World) (hB0:Blk w B0 #[.slice pt lt ct,zI t.ff,zI t.fb,zI t.db,zI t.al] 30) (hB1:Blk w B1 #[zI te] 3) (hB2:Blk w B2 #[zI mo] 3) (hx:ACame w x p ln cp) (ht:TCame w t pt lt ct) (hte:(Lit.int .i64 te).wf=true) (hmo:(Lit.int .i64 mo).wf=true):Calls Tryz.prog 51 (#[x.v p ln cp]++#[.pointer (some ⟨B0,0,none⟩),.pointer (some ⟨B1,0,none⟩),.pointer (some ⟨B2,0,none⟩)]) w fun e w'=>BGot w (SellIs x t te mo) e w':=by
 have HK0:Hid (∀ W,Below w.heap.size w W→Blk W B0 #[.slice pt lt ct,zI t.ff,zI t.fb,zI t.db,zI t.al] 30):=fun W hW=>hB0.next hW;have HK1:Hid (∀ W,Below w.heap.size w W→Blk W B1 #[zI te] 3):=fun W hW=>hB1.next hW;have HK2:Hid (∀ W,Below w.heap.size w W→Blk W B2 #[zI mo] 3):=fun W hW=>hB2.next hW;have HD:Hid (∀ W,Below w.heap.size w W→Calls Tryz.prog 52 #[.agg #[zI x.me,zI x.rv,zI x.nx,zI x.mo,zI x.bo,zI x.fr,.slice p ln cp],.agg #[.slice pt lt ct,zI t.ff,zI t.fb,zI t.db,zI t.al],zI te,zI mo] W fun e w'=>acc.BPost W (SellIs x t te mo) e w'):=fun W hW=>acc.ksell W x p ln cp t pt lt ct te mo (hx.below hW) (ht.below hW) hte hmo;clear hx ht hB0 hB1 hB2 hte hmo;unfold acc.Ac.v acc.Ac.cs;show Calls Tryz.prog 51 #[.agg #[zI x.me,zI x.rv,zI x.nx,zI x.mo,zI x.bo,zI x.fr,.slice p ln cp],.pointer (some ⟨B0,0,none⟩),.pointer (some ⟨B1,0,none⟩),.pointer (some ⟨B2,0,none⟩)] w _;obtain ⟨W0,HWW,H0a,H0r,H0l,H0B,hs0⟩:=sh3 w #[zI x.me,zI x.rv,zI x.nx,zI x.mo,zI x.bo,zI x.fr,.slice p ln cp] 61 #[zI 0,zI 0,zI 0,zI 0,zI 0,zI 0,zS] 61 #[zI 0,zI 0,zI 0,zI 0,zI 0,zI 0,zI 0] 48;go_enter Tryz.func51,Tryz.ntmps51;go_upto_region 1 with fail
 rw [HWW.o];clear HWW;have HD0:=HD.o W0 H0B.o;have HC0:=HK0.o W0 H0B.o;have HC0h:Hid (Blk W0 B0 #[.slice pt lt ct,zI t.ff,zI t.fb,zI t.db,zI t.al] 30):=HC0;clear HC0;have qc1:W0.cell? ⟨B1,0,none⟩=some (zI te):=(HK1.o W0 H0B.o).cell 0;have qc2:W0.cell? ⟨B2,0,none⟩=some (zI mo):=(HK2.o W0 H0B.o).cell 0
 go_wp2_with (first
  | (refine zqw rfl rfl rfl HC0h zqu30 ?_)
  | (refine zqw rfl rfl rfl H0a zqu61 ?_)
  | (refine zqw rfl rfl rfl H0r zqu61 ?_)
  | (refine zqw rfl rfl rfl H0l zqu48 ?_)
  | fail)
 refine HD0.mono ?_;rintro e w1 ⟨b,ll,p4,n4,c4,f4,rfl,hsi,_,hb1⟩;have H1a:=shN H0a hb1;have H1r:=shN H0r hb1;have H1l:=shN H0l hb1;have H1B:=shB H0B hb1;have hsw1:W0.heap.size≤w1.heap.size:=hb1.size;clear hb1 H0a H0r H0l H0B;clear HC0h HD0 HD HK0 qc1 HK1 qc2 HK2;unfold acc.Ac.v acc.Ac.cs acc.Bi.v;have HSI:Hid ((SellIs x t te mo) b ll f4):=hsi;clear hsi
 go_wp2_with (first
  | (refine zql rfl rfl rfl rfl zqu61 (by simp [Value.oneCell']) H1r rfl ?_)
  | (refine zqw rfl rfl rfl H1a zqu61 ?_)
  | (refine zqw rfl rfl rfl H1r zqu61 ?_)
  | (refine zqw rfl rfl rfl H1l zqu48 ?_)
  | fail)
 intro W2 hU;have H2a:=shK hU H1a (by omega);have H2r:Hid (Blk W2 (w.heap.size+1) #[zI b.me,zI b.rv,zI b.nx,zI b.mo,zI b.bo,zI b.fr,.slice p4 n4 c4] 61):=hU.blk;have H2l:=shK hU H1l (by omega);have H2B:=shV hU H1B (by omega);have hsW2:W2.heap.size=w1.heap.size:=hU.size;clear hU H1a H1r H1l H1B
 go_wp2_with (first
  | (refine zql rfl rfl rfl rfl zqu48 (by simp [Value.oneCell']) H2l rfl ?_)
  | (refine zqw rfl rfl rfl H2a zqu61 ?_)
  | (refine zqw rfl rfl rfl H2r zqu61 ?_)
  | (refine zqw rfl rfl rfl H2l zqu48 ?_)
  | fail)
 intro W3 hU;have H3a:=shK hU H2a (by omega);have H3r:=shK hU H2r (by omega);have H3l:Hid (Blk W3 (w.heap.size+1+1) #[zI ll.id,zI ll.te,zI ll.de,zI ll.fe,zI ll.pr,zI ll.ch,zI ll.un] 48):=hU.blk;have H3B:=shV hU H2B (by omega);have hsW3:W3.heap.size=W2.heap.size:=hU.size;clear hU H2a H2r H2l H2B;have Rr0:Hid (W3.cell? ⟨w.heap.size+1,0,none⟩=some (zI b.me)):=H3r.o.cell 0;have Rr1:Hid (W3.cell? ⟨w.heap.size+1,1,none⟩=some (zI b.rv)):=H3r.o.cell 1;have Rr2:Hid (W3.cell? ⟨w.heap.size+1,2,none⟩=some (zI b.nx)):=H3r.o.cell 2;have Rr3:Hid (W3.cell? ⟨w.heap.size+1,3,none⟩=some (zI b.mo)):=H3r.o.cell 3;have Rr4:Hid (W3.cell? ⟨w.heap.size+1,4,none⟩=some (zI b.bo)):=H3r.o.cell 4;have Rr5:Hid (W3.cell? ⟨w.heap.size+1,5,none⟩=some (zI b.fr)):=H3r.o.cell 5;have Rr6:Hid (W3.cell? ⟨w.heap.size+1,6,none⟩=some (.slice p4 n4 c4)):=H3r.o.cell 6;obtain ⟨Rl0,Rl1,Rl2,Rl3,Rl4,Rl5,Rl6⟩:=shc7 H3l;go_wp2_with fail;exact bodyPost_ret (v:= .tuple #[.agg #[zI b.me,zI b.rv,zI b.nx,zI b.mo,zI b.bo,zI b.fr,.slice p4 n4 c4],.agg #[zI ll.id,zI ll.te,zI ll.de,zI ll.fe,zI ll.pr,zI ll.ch,zI ll.un],zI f4]) (by simp [results,Tryz.results51,Rr0.o,Rr1.o,Rr2.o,Rr3.o,Rr4.o,Rr5.o,Rr6.o,Rl0.o,Rl1.o,Rl2.o,Rl3.o,Rl4.o,Rl5.o,Rl6.o,go_sem]) rfl ⟨b,ll,p4,n4,c4,f4,rfl,HSI.o,H3B.o⟩
theorem psell (t:Tm) (pt:Option Addr) (lt ct:Nat) (a:Option Addr) (n cap:Nat) (c:List Int) (ao:Option Addr) (no ko:Nat) (o:List Pr) (me te mo dr:Int) (w:World) (tt:TTab w) (ht:TCame w t pt lt ct) (h:Dk w a n cap c) (ho:ora.Came w ao no ko o) (hme:(Lit.int .i64 me).wf=true) (hte:(Lit.int .i64 te).wf=true) (hmo:(Lit.int .i64 mo).wf=true) (hdr:(Lit.int .i64 dr).wf=true):Calls Tryz.prog 22 #[.agg #[.slice pt lt ct,zI t.ff,zI t.fb,zI t.db,zI t.al],.slice a n cap,.agg #[.slice ao no ko],zI me,zI te,zI mo,zI dr] w fun e w'=>TokGot w (TokIs 2 t c o me te mo dr) e w':=by
 have H0t:Hid (Blk ((((((w.alloc (.cells #[.slice pt lt ct,zI t.ff,zI t.fb,zI t.db,zI t.al] 30)).alloc (.cells #[.slice ao no ko] 34)).alloc (.cells #[zI te] 3)).alloc (.cells #[zI mo] 3)).alloc (.cells #[zS] 34)).alloc (.cells #[zI 0,zI 0,zI 0,zI 0,zI 0,zI 0,zI 0,zI 0,.string ⟨#[]⟩] 50)) (w.heap.size) #[.slice pt lt ct,zI t.ff,zI t.fb,zI t.db,zI t.al] 30):=(((((Blk.new w _ _).alloc _).alloc _).alloc _).alloc _).alloc _;have H0o:Hid (Blk ((((((w.alloc (.cells #[.slice pt lt ct,zI t.ff,zI t.fb,zI t.db,zI t.al] 30)).alloc (.cells #[.slice ao no ko] 34)).alloc (.cells #[zI te] 3)).alloc (.cells #[zI mo] 3)).alloc (.cells #[zS] 34)).alloc (.cells #[zI 0,zI 0,zI 0,zI 0,zI 0,zI 0,zI 0,zI 0,.string ⟨#[]⟩] 50)) (w.heap.size+1) #[.slice ao no ko] 34):=((((Blk.new1 w _ _ _).alloc _).alloc _).alloc _).alloc _;have H0e:Hid (Blk ((((((w.alloc (.cells #[.slice pt lt ct,zI t.ff,zI t.fb,zI t.db,zI t.al] 30)).alloc (.cells #[.slice ao no ko] 34)).alloc (.cells #[zI te] 3)).alloc (.cells #[zI mo] 3)).alloc (.cells #[zS] 34)).alloc (.cells #[zI 0,zI 0,zI 0,zI 0,zI 0,zI 0,zI 0,zI 0,.string ⟨#[]⟩] 50)) (w.heap.size+1+1) #[zI te] 3):=(((Blk.new2 w _ _ _ _).alloc _).alloc _).alloc _;have H0m:Hid (Blk ((((((w.alloc (.cells #[.slice pt lt ct,zI t.ff,zI t.fb,zI t.db,zI t.al] 30)).alloc (.cells #[.slice ao no ko] 34)).alloc (.cells #[zI te] 3)).alloc (.cells #[zI mo] 3)).alloc (.cells #[zS] 34)).alloc (.cells #[zI 0,zI 0,zI 0,zI 0,zI 0,zI 0,zI 0,zI 0,.string ⟨#[]⟩] 50)) (w.heap.size+1+1+1) #[zI mo] 3):=((Blk.new3 w _ _ _ _ _).alloc _).alloc _;have H0r:Hid (Blk ((((((w.alloc (.cells #[.slice pt lt ct,zI t.ff,zI t.fb,zI t.db,zI t.al] 30)).alloc (.cells #[.slice ao no ko] 34)).alloc (.cells #[zI te] 3)).alloc (.cells #[zI mo] 3)).alloc (.cells #[zS] 34)).alloc (.cells #[zI 0,zI 0,zI 0,zI 0,zI 0,zI 0,zI 0,zI 0,.string ⟨#[]⟩] 50)) (w.heap.size+1+1+1+1) #[zS] 34):=(blk_new4 w _ _ _ _ _ _).alloc _
 have H0p:Hid (Blk ((((((w.alloc (.cells #[.slice pt lt ct,zI t.ff,zI t.fb,zI t.db,zI t.al] 30)).alloc (.cells #[.slice ao no ko] 34)).alloc (.cells #[zI te] 3)).alloc (.cells #[zI mo] 3)).alloc (.cells #[zS] 34)).alloc (.cells #[zI 0,zI 0,zI 0,zI 0,zI 0,zI 0,zI 0,zI 0,.string ⟨#[]⟩] 50)) (w.heap.size+1+1+1+1+1) #[zI 0,zI 0,zI 0,zI 0,zI 0,zI 0,zI 0,zI 0,.string ⟨#[]⟩] 50):=blk_new5 w _ _ _ _ _ _ _;have H0B:Hid (Below w.heap.size w ((((((w.alloc (.cells #[.slice pt lt ct,zI t.ff,zI t.fb,zI t.db,zI t.al] 30)).alloc (.cells #[.slice ao no ko] 34)).alloc (.cells #[zI te] 3)).alloc (.cells #[zI mo] 3)).alloc (.cells #[zS] 34)).alloc (.cells #[zI 0,zI 0,zI 0,zI 0,zI 0,zI 0,zI 0,zI 0,.string ⟨#[]⟩] 50))):=((((((Below.refl w.heap.size w).alloc (by simp) _).alloc (by simp) _).alloc (by simp;omega) _).alloc (by simp;omega) _).alloc (by simp;omega) _).alloc (by simp;omega) _;have hs0:w.heap.size+1+1+1+1+1<((((((w.alloc (.cells #[.slice pt lt ct,zI t.ff,zI t.fb,zI t.db,zI t.al] 30)).alloc (.cells #[.slice ao no ko] 34)).alloc (.cells #[zI te] 3)).alloc (.cells #[zI mo] 3)).alloc (.cells #[zS] 34)).alloc (.cells #[zI 0,zI 0,zI 0,zI 0,zI 0,zI 0,zI 0,zI 0,.string ⟨#[]⟩] 50)).heap.size:=H0p.o.lt;generalize hWW:((((((w.alloc (.cells #[.slice pt lt ct,zI t.ff,zI t.fb,zI t.db,zI t.al] 30)).alloc (.cells #[.slice ao no ko] 34)).alloc (.cells #[zI te] 3)).alloc (.cells #[zI mo] 3)).alloc (.cells #[zS] 34)).alloc (.cells #[zI 0,zI 0,zI 0,zI 0,zI 0,zI 0,zI 0,zI 0,.string ⟨#[]⟩] 50))=W0 at *;have HWW:Hid (((((((w.alloc (.cells #[.slice pt lt ct,zI t.ff,zI t.fb,zI t.db,zI t.al] 30)).alloc (.cells #[.slice ao no ko] 34)).alloc (.cells #[zI te] 3)).alloc (.cells #[zI mo] 3)).alloc (.cells #[zS] 34)).alloc (.cells #[zI 0,zI 0,zI 0,zI 0,zI 0,zI 0,zI 0,zI 0,.string ⟨#[]⟩] 50))=W0):=hWW;clear hWW;go_enter Tryz.func22,Tryz.ntmps22;go_upto_region 1 with fail
 rw [HWW.o];clear HWW
 have HVE:Hid (Calls Tryz.prog 49 #[.agg #[.slice pt lt ct,zI t.ff,zI t.fb,zI t.db,zI t.al],.slice a n cap,.agg #[.slice ao no ko],.agg #[zI 2,zI me,zI mo,zI dr,.func (.func 51) #[] #[.pointer (some ⟨w.heap.size,0,none⟩),.pointer (some ⟨w.heap.size+1+1,0,none⟩),.pointer (some ⟨w.heap.size+1+1+1,0,none⟩)]]] W0 fun e w'=>TokGot W0 (TokIs 2 t c o me te mo dr) e w'):=by
  refine pvend (kd:=2) (te:=te) (Is:=fun x=>SellIs x t te mo) t pt lt ct a n cap c ao no ko o me mo dr 51 #[.pointer (some ⟨w.heap.size,0,none⟩),.pointer (some ⟨w.heap.size+1+1,0,none⟩),.pointer (some ⟨w.heap.size+1+1+1,0,none⟩)] W0 (tt.below H0B.o) (ht.below H0B.o) (h.below H0B.o) (ho.below H0B.o) (fun _ _=>by kernel_rfl) ?_ ?_ ?_ ?_
  ·intro W x p ln cp hW hx;exact psell1 (w.heap.size) (w.heap.size+1+1) (w.heap.size+1+1+1) x p ln cp t pt lt ct te mo W (H0t.o.next hW) (H0e.o.next hW) (H0m.o.next hW) hx (ht.below (bel_step H0B.o hW)) hte hmo
  ·intro cm b l hh q;exact .inl ⟨rfl,q⟩
  ·intro x b l q;exact ⟨0,l.un,.inr ⟨by decide,rfl,rfl⟩,fun tg htg=>tokB_ok (by decide) (sell_tok q) htg⟩
  ·intro x b l tg q hm htg;exact (sell_ev q hm htg).1
 clear tt ht h ho hme hte hmo hdr;have hmf:∀ (fn:Fn) (first cap:Array Value) (w:World),(Instr.makeFunc fn first cap).run Tryz.prog w = .ok (.func fn first cap) w:=fun _ _ _ _=>rfl;have qm0:W0.cell? ⟨w.heap.size+1+1+1,0,none⟩=some (zI mo):=H0m.o.cell 0
 go_wp2_with (first
  | (refine zqw rfl rfl rfl H0t zqu30 ?_)
  | (refine zqw rfl rfl rfl H0o zqu34 ?_)
  | (refine wp_whole rfl 3 _ rfl _ rfl 3 _ _ H0e.o Tryz.underlying3 rfl (by kernel_rfl) ?_)
  | (refine wp_whole rfl 3 _ rfl _ rfl 3 _ _ H0m.o Tryz.underlying3 rfl (by kernel_rfl) ?_)
  | (refine zqw rfl rfl rfl H0r zqu34 ?_)
  | (refine zqw rfl rfl rfl H0p zqu50 ?_)
  | fail)
 refine HVE.o.mono ?_;rintro e w1 ⟨p3,m3,c3,ls,p5,n5,c5,o5,⟨rme,rid,rte,rde,rfe,rpr,rch,run,rtk⟩,f5,rfl,hri,hrw,hnw,hle,hm,hrp,hnl,hcp,hnp,hb1⟩;have H1t:=shN H0t hb1;have H1o:=shN H0o hb1;have H1e:=shN H0e hb1;have H1m:=shN H0m hb1;have H1r:=shN H0r hb1;have H1p:=shN H0p hb1;have H1B:=shB H0B hb1;have hsw1:W0.heap.size≤w1.heap.size:=hb1.size;clear hb1 H0t H0o H0e H0m H0r H0p H0B;clear qm0;clear HVE hmf;have HRI:Hid (TokIs 2 t c o me te mo dr ls o5 ⟨rme,rid,rte,rde,rfe,rpr,rch,run,rtk⟩ f5):=hri;have HRW:Hid (cell.RowW w1 p3 m3 ls):=hrw;have HRP:Hid (ora.RowP w1 p5 n5 o5):=hrp;have HNW:Hid (∀ x,p3=some x→W0.heap.size≤x.block):=hnw;have HNP:Hid (∀ x,p5=some x→W0.heap.size≤x.block):=hnp;have HL:Hid (m3≤c3∧m3≤100000∧(p5=none→c5=0)∧n5≤c5):=⟨hle,hm,hnl,hcp⟩
 clear hri hrw hnw hle hm hrp hnl hcp hnp;unfold rcp.Rc.v rcp.Rc.cs
 go_wp2_with (first
  | (refine zql rfl rfl rfl rfl zqu34 (by simp [Value.oneCell']) H1r rfl ?_)
  | (refine zqw rfl rfl rfl H1t zqu30 ?_)
  | (refine zqw rfl rfl rfl H1o zqu34 ?_)
  | (refine wp_whole rfl 3 _ rfl _ rfl 3 _ _ H1e.o Tryz.underlying3 rfl (by kernel_rfl) ?_)
  | (refine wp_whole rfl 3 _ rfl _ rfl 3 _ _ H1m.o Tryz.underlying3 rfl (by kernel_rfl) ?_)
  | (refine zqw rfl rfl rfl H1r zqu34 ?_)
  | (refine zqw rfl rfl rfl H1p zqu50 ?_)
  | fail)
 intro W2 hU;have HR2:Hid (cell.RowW W2 p3 m3 ls):=rowW_upd HRW.o hU (fun _ x hx=>by have:=HNW.o x hx;omega);have HP2:Hid (ora.RowP W2 p5 n5 o5):=rowP_off HRP.o (fun x hx=>by have:=HNP.o x hx;omega) hU;have H2t:=shK hU H1t (by omega);have H2o:=shK hU H1o (by omega);have H2e:=shK hU H1e (by omega);have H2m:=shK hU H1m (by omega);have H2r:Hid (Blk W2 (w.heap.size+1+1+1+1) #[.slice p5 n5 c5] 34):=hU.blk;have H2p:=shK hU H1p (by omega);have H2B:=shV hU H1B (by omega);have hsW2:W2.heap.size=w1.heap.size:=hU.size;clear hU H1t H1o H1e H1m H1r H1p H1B;clear HRW HRP
 go_wp2_with (first
  | (refine zql rfl rfl rfl rfl zqu50 (by simp [Value.oneCell']) H2p rfl ?_)
  | (refine zqw rfl rfl rfl H2t zqu30 ?_)
  | (refine zqw rfl rfl rfl H2o zqu34 ?_)
  | (refine wp_whole rfl 3 _ rfl _ rfl 3 _ _ H2e.o Tryz.underlying3 rfl (by kernel_rfl) ?_)
  | (refine wp_whole rfl 3 _ rfl _ rfl 3 _ _ H2m.o Tryz.underlying3 rfl (by kernel_rfl) ?_)
  | (refine zqw rfl rfl rfl H2r zqu34 ?_)
  | (refine zqw rfl rfl rfl H2p zqu50 ?_)
  | fail)
 intro W3 hU;have HR3:Hid (cell.RowW W3 p3 m3 ls):=rowW_upd HR2.o hU (fun _ x hx=>by have:=HNW.o x hx;omega);have HP3:Hid (ora.RowP W3 p5 n5 o5):=rowP_off HP2.o (fun x hx=>by have:=HNP.o x hx;omega) hU;have H3t:=shK hU H2t (by omega);have H3o:=shK hU H2o (by omega);have H3e:=shK hU H2e (by omega);have H3m:=shK hU H2m (by omega);have H3r:=shK hU H2r (by omega);have H3p:Hid (Blk W3 (w.heap.size+1+1+1+1+1) #[zI rme,zI rid,zI rte,zI rde,zI rfe,zI rpr,zI rch,zI run,.string ⟨rtk.toArray⟩] 50):=hU.blk;have H3B:=shV hU H2B (by omega);have hsW3:W3.heap.size=W2.heap.size:=hU.size;clear hU H2t H2o H2e H2m H2r H2p H2B;clear HR2 HP2;have Rr0:Hid (W3.cell? ⟨w.heap.size+1+1+1+1,0,none⟩=some (.slice p5 n5 c5)):=H3r.o.cell 0;obtain ⟨Rp0,Rp1,Rp2,Rp3,Rp4,Rp5,Rp6,Rp7,Rp8⟩:=shc9 H3p;go_wp2_with fail;exact bodyPost_ret (v:= .tuple #[.slice p3 m3 c3,.agg #[.slice p5 n5 c5],.agg #[zI rme,zI rid,zI rte,zI rde,zI rfe,zI rpr,zI rch,zI run,.string ⟨rtk.toArray⟩],zI f5]) (by simp [results,Tryz.results22,Rr0.o,Rp0.o,Rp1.o,Rp2.o,Rp3.o,Rp4.o,Rp5.o,Rp6.o,Rp7.o,Rp8.o,go_sem]) rfl ⟨p3,m3,c3,ls,p5,n5,c5,o5,⟨rme,rid,rte,rde,rfe,rpr,rch,run,rtk⟩,f5,rfl,HRI.o,HR3.o,(fun x hx=>by have:=HNW.o x hx;omega),HL.o.1,HL.o.2.1,HP3.o,HL.o.2.2.1,HL.o.2.2.2,(fun x hx=>by have:=HNP.o x hx;omega),H3B.o⟩
theorem ksell {w0:World} (tt:TTab w0):KvSell w0:=fun W t pt lt ct a n cap c ao no ko o me te mo dr hW ht hd ho h1 h2 h3 h4=>psell t pt lt ct a n cap c ao no ko o me te mo dr W (tt.below hW) ht hd ho h1 h2 h3 h4
theorem pgrant1 (B0 B1:Nat) (x:Ac) (p:Option Addr) (ln cp:Nat) (t:Tm) (pt:Option Addr) (lt ct:Nat) (mo:Int) (w:World) (hB0:Blk w B0 #[.slice pt lt ct,zI t.ff,zI t.fb,zI t.db,zI t.al] 30) (hB1:Blk w B1 #[zI mo] 3) (hx:ACame w x p ln cp) (ht:TCame w t pt lt ct) (hmo:(Lit.int .i64 mo).wf=true):Calls Tryz.prog 47 (#[x.v p ln cp]++#[.pointer (some ⟨B0,0,none⟩),.pointer (some ⟨B1,0,none⟩)]) w fun e w'=>BGot w (GrantIs x t mo) e w':=by
 have HK0:Hid (∀ W,Below w.heap.size w W→Blk W B0 #[.slice pt lt ct,zI t.ff,zI t.fb,zI t.db,zI t.al] 30):=fun W hW=>hB0.next hW;have HK1:Hid (∀ W,Below w.heap.size w W→Blk W B1 #[zI mo] 3):=fun W hW=>hB1.next hW;have HD:Hid (∀ W,Below w.heap.size w W→Calls Tryz.prog 48 #[.agg #[zI x.me,zI x.rv,zI x.nx,zI x.mo,zI x.bo,zI x.fr,.slice p ln cp],.agg #[.slice pt lt ct,zI t.ff,zI t.fb,zI t.db,zI t.al],zI mo] W fun e w'=>acc.BPost W (GrantIs x t mo) e w'):=fun W hW=>acc.kgrant W x p ln cp t pt lt ct mo (hx.below hW) (ht.below hW) hmo;clear hx ht hB0 hB1 hmo;unfold acc.Ac.v acc.Ac.cs;show Calls Tryz.prog 47 #[.agg #[zI x.me,zI x.rv,zI x.nx,zI x.mo,zI x.bo,zI x.fr,.slice p ln cp],.pointer (some ⟨B0,0,none⟩),.pointer (some ⟨B1,0,none⟩)] w _;obtain ⟨W0,HWW,H0a,H0r,H0l,H0B,hs0⟩:=sh3 w #[zI x.me,zI x.rv,zI x.nx,zI x.mo,zI x.bo,zI x.fr,.slice p ln cp] 61 #[zI 0,zI 0,zI 0,zI 0,zI 0,zI 0,zS] 61 #[zI 0,zI 0,zI 0,zI 0,zI 0,zI 0,zI 0] 48;go_enter Tryz.func47,Tryz.ntmps47;go_upto_region 1 with fail
 rw [HWW.o];clear HWW;have HD0:=HD.o W0 H0B.o;have HC0:=HK0.o W0 H0B.o;have HC0h:Hid (Blk W0 B0 #[.slice pt lt ct,zI t.ff,zI t.fb,zI t.db,zI t.al] 30):=HC0;clear HC0;have qc1:W0.cell? ⟨B1,0,none⟩=some (zI mo):=(HK1.o W0 H0B.o).cell 0
 go_wp2_with (first
  | (refine zqw rfl rfl rfl HC0h zqu30 ?_)
  | (refine zqw rfl rfl rfl H0a zqu61 ?_)
  | (refine zqw rfl rfl rfl H0r zqu61 ?_)
  | (refine zqw rfl rfl rfl H0l zqu48 ?_)
  | fail)
 refine HD0.mono ?_;rintro e w1 ⟨b,ll,p4,n4,c4,f4,rfl,hsi,_,hb1⟩;have H1a:=shN H0a hb1;have H1r:=shN H0r hb1;have H1l:=shN H0l hb1;have H1B:=shB H0B hb1;have hsw1:W0.heap.size≤w1.heap.size:=hb1.size;clear hb1 H0a H0r H0l H0B;clear HC0h HD0 HD HK0 qc1 HK1;unfold acc.Ac.v acc.Ac.cs acc.Bi.v;have HSI:Hid ((GrantIs x t mo) b ll f4):=hsi;clear hsi
 go_wp2_with (first
  | (refine zql rfl rfl rfl rfl zqu61 (by simp [Value.oneCell']) H1r rfl ?_)
  | (refine zqw rfl rfl rfl H1a zqu61 ?_)
  | (refine zqw rfl rfl rfl H1r zqu61 ?_)
  | (refine zqw rfl rfl rfl H1l zqu48 ?_)
  | fail)
 intro W2 hU;have H2a:=shK hU H1a (by omega);have H2r:Hid (Blk W2 (w.heap.size+1) #[zI b.me,zI b.rv,zI b.nx,zI b.mo,zI b.bo,zI b.fr,.slice p4 n4 c4] 61):=hU.blk;have H2l:=shK hU H1l (by omega);have H2B:=shV hU H1B (by omega);have hsW2:W2.heap.size=w1.heap.size:=hU.size;clear hU H1a H1r H1l H1B
 go_wp2_with (first
  | (refine zql rfl rfl rfl rfl zqu48 (by simp [Value.oneCell']) H2l rfl ?_)
  | (refine zqw rfl rfl rfl H2a zqu61 ?_)
  | (refine zqw rfl rfl rfl H2r zqu61 ?_)
  | (refine zqw rfl rfl rfl H2l zqu48 ?_)
  | fail)
 intro W3 hU;have H3a:=shK hU H2a (by omega);have H3r:=shK hU H2r (by omega);have H3l:Hid (Blk W3 (w.heap.size+1+1) #[zI ll.id,zI ll.te,zI ll.de,zI ll.fe,zI ll.pr,zI ll.ch,zI ll.un] 48):=hU.blk;have H3B:=shV hU H2B (by omega);have hsW3:W3.heap.size=W2.heap.size:=hU.size;clear hU H2a H2r H2l H2B;have Rr0:Hid (W3.cell? ⟨w.heap.size+1,0,none⟩=some (zI b.me)):=H3r.o.cell 0;have Rr1:Hid (W3.cell? ⟨w.heap.size+1,1,none⟩=some (zI b.rv)):=H3r.o.cell 1;have Rr2:Hid (W3.cell? ⟨w.heap.size+1,2,none⟩=some (zI b.nx)):=H3r.o.cell 2;have Rr3:Hid (W3.cell? ⟨w.heap.size+1,3,none⟩=some (zI b.mo)):=H3r.o.cell 3;have Rr4:Hid (W3.cell? ⟨w.heap.size+1,4,none⟩=some (zI b.bo)):=H3r.o.cell 4;have Rr5:Hid (W3.cell? ⟨w.heap.size+1,5,none⟩=some (zI b.fr)):=H3r.o.cell 5;have Rr6:Hid (W3.cell? ⟨w.heap.size+1,6,none⟩=some (.slice p4 n4 c4)):=H3r.o.cell 6;obtain ⟨Rl0,Rl1,Rl2,Rl3,Rl4,Rl5,Rl6⟩:=shc7 H3l;go_wp2_with fail;exact bodyPost_ret (v:= .tuple #[.agg #[zI b.me,zI b.rv,zI b.nx,zI b.mo,zI b.bo,zI b.fr,.slice p4 n4 c4],.agg #[zI ll.id,zI ll.te,zI ll.de,zI ll.fe,zI ll.pr,zI ll.ch,zI ll.un],zI f4]) (by simp [results,Tryz.results47,Rr0.o,Rr1.o,Rr2.o,Rr3.o,Rr4.o,Rr5.o,Rr6.o,Rl0.o,Rl1.o,Rl2.o,Rl3.o,Rl4.o,Rl5.o,Rl6.o,go_sem]) rfl ⟨b,ll,p4,n4,c4,f4,rfl,HSI.o,H3B.o⟩
theorem pgrant (t:Tm) (pt:Option Addr) (lt ct:Nat) (a:Option Addr) (n cap:Nat) (c:List Int) (ao:Option Addr) (no ko:Nat) (o:List Pr) (me mo dr:Int) (w:World) (tt:TTab w) (ht:TCame w t pt lt ct) (h:Dk w a n cap c) (ho:ora.Came w ao no ko o) (hme:(Lit.int .i64 me).wf=true) (hmo:(Lit.int .i64 mo).wf=true) (hdr:(Lit.int .i64 dr).wf=true):Calls Tryz.prog 20 #[.agg #[.slice pt lt ct,zI t.ff,zI t.fb,zI t.db,zI t.al],.slice a n cap,.agg #[.slice ao no ko],zI me,zI mo,zI dr] w fun e w'=>TokGot w (TokIs 3 t c o me 0 mo dr) e w':=by
 obtain ⟨W0,HWW,H0t,H0o,H0m,H0r,H0p,H0B,hs0⟩:=sh5 w #[.slice pt lt ct,zI t.ff,zI t.fb,zI t.db,zI t.al] 30 #[.slice ao no ko] 34 #[zI mo] 3 #[zS] 34 #[zI 0,zI 0,zI 0,zI 0,zI 0,zI 0,zI 0,zI 0,.string ⟨#[]⟩] 50;go_enter Tryz.func20,Tryz.ntmps20;go_upto_region 1 with fail
 rw [HWW.o];clear HWW
 have HVE:Hid (Calls Tryz.prog 49 #[.agg #[.slice pt lt ct,zI t.ff,zI t.fb,zI t.db,zI t.al],.slice a n cap,.agg #[.slice ao no ko],.agg #[zI 3,zI me,zI mo,zI dr,.func (.func 47) #[] #[.pointer (some ⟨w.heap.size,0,none⟩),.pointer (some ⟨w.heap.size+1+1,0,none⟩)]]] W0 fun e w'=>TokGot W0 (TokIs 3 t c o me 0 mo dr) e w'):=by
  refine pvend (kd:=3) (te:=0) (Is:=fun x=>GrantIs x t mo) t pt lt ct a n cap c ao no ko o me mo dr 47 #[.pointer (some ⟨w.heap.size,0,none⟩),.pointer (some ⟨w.heap.size+1+1,0,none⟩)] W0 (tt.below H0B.o) (ht.below H0B.o) (h.below H0B.o) (ho.below H0B.o) (fun _ _=>by kernel_rfl) ?_ ?_ ?_ ?_
  ·intro W x p ln cp hW hx;exact pgrant1 (w.heap.size) (w.heap.size+1+1) x p ln cp t pt lt ct mo W (H0t.o.next hW) (H0m.o.next hW) hx (ht.below (bel_step H0B.o hW)) hmo
  ·intro cm b l hh q;exact .inr (.inl ⟨rfl,q⟩)
  ·intro x b l q;exact ⟨0,l.un,.inr ⟨by decide,rfl,rfl⟩,fun tg htg=>tokB_ok (by decide) (grant_tok q) htg⟩
  ·intro x b l tg q hm htg;exact grant_ev q hm htg
 clear tt ht h ho hme hmo hdr;have hmf:∀ (fn:Fn) (first cap:Array Value) (w:World),(Instr.makeFunc fn first cap).run Tryz.prog w = .ok (.func fn first cap) w:=fun _ _ _ _=>rfl;have qm0:W0.cell? ⟨w.heap.size+1+1,0,none⟩=some (zI mo):=H0m.o.cell 0
 go_wp2_with (first
  | (refine zqw rfl rfl rfl H0t zqu30 ?_)
  | (refine zqw rfl rfl rfl H0o zqu34 ?_)
  | (refine wp_whole rfl 3 _ rfl _ rfl 3 _ _ H0m.o Tryz.underlying3 rfl (by kernel_rfl) ?_)
  | (refine zqw rfl rfl rfl H0r zqu34 ?_)
  | (refine zqw rfl rfl rfl H0p zqu50 ?_)
  | fail)
 refine HVE.o.mono ?_;rintro e w1 ⟨p3,m3,c3,ls,p5,n5,c5,o5,⟨rme,rid,rte,rde,rfe,rpr,rch,run,rtk⟩,f5,rfl,hri,hrw,hnw,hle,hm,hrp,hnl,hcp,hnp,hb1⟩;have H1t:=shN H0t hb1;have H1o:=shN H0o hb1;have H1m:=shN H0m hb1;have H1r:=shN H0r hb1;have H1p:=shN H0p hb1;have H1B:=shB H0B hb1;have hsw1:W0.heap.size≤w1.heap.size:=hb1.size;clear hb1 H0t H0o H0m H0r H0p H0B;clear qm0;clear HVE hmf;have HRI:Hid (TokIs 3 t c o me 0 mo dr ls o5 ⟨rme,rid,rte,rde,rfe,rpr,rch,run,rtk⟩ f5):=hri;have HRW:Hid (cell.RowW w1 p3 m3 ls):=hrw;have HRP:Hid (ora.RowP w1 p5 n5 o5):=hrp;have HNW:Hid (∀ x,p3=some x→W0.heap.size≤x.block):=hnw;have HNP:Hid (∀ x,p5=some x→W0.heap.size≤x.block):=hnp;have HL:Hid (m3≤c3∧m3≤100000∧(p5=none→c5=0)∧n5≤c5):=⟨hle,hm,hnl,hcp⟩
 clear hri hrw hnw hle hm hrp hnl hcp hnp;unfold rcp.Rc.v rcp.Rc.cs
 go_wp2_with (first
  | (refine zql rfl rfl rfl rfl zqu34 (by simp [Value.oneCell']) H1r rfl ?_)
  | (refine zqw rfl rfl rfl H1t zqu30 ?_)
  | (refine zqw rfl rfl rfl H1o zqu34 ?_)
  | (refine wp_whole rfl 3 _ rfl _ rfl 3 _ _ H1m.o Tryz.underlying3 rfl (by kernel_rfl) ?_)
  | (refine zqw rfl rfl rfl H1r zqu34 ?_)
  | (refine zqw rfl rfl rfl H1p zqu50 ?_)
  | fail)
 intro W2 hU;have HR2:Hid (cell.RowW W2 p3 m3 ls):=rowW_upd HRW.o hU (fun _ x hx=>by have:=HNW.o x hx;omega);have HP2:Hid (ora.RowP W2 p5 n5 o5):=rowP_off HRP.o (fun x hx=>by have:=HNP.o x hx;omega) hU;have H2t:=shK hU H1t (by omega);have H2o:=shK hU H1o (by omega);have H2m:=shK hU H1m (by omega);have H2r:Hid (Blk W2 (w.heap.size+1+1+1) #[.slice p5 n5 c5] 34):=hU.blk;have H2p:=shK hU H1p (by omega);have H2B:=shV hU H1B (by omega);have hsW2:W2.heap.size=w1.heap.size:=hU.size;clear hU H1t H1o H1m H1r H1p H1B;clear HRW HRP
 go_wp2_with (first
  | (refine zql rfl rfl rfl rfl zqu50 (by simp [Value.oneCell']) H2p rfl ?_)
  | (refine zqw rfl rfl rfl H2t zqu30 ?_)
  | (refine zqw rfl rfl rfl H2o zqu34 ?_)
  | (refine wp_whole rfl 3 _ rfl _ rfl 3 _ _ H2m.o Tryz.underlying3 rfl (by kernel_rfl) ?_)
  | (refine zqw rfl rfl rfl H2r zqu34 ?_)
  | (refine zqw rfl rfl rfl H2p zqu50 ?_)
  | fail)
 intro W3 hU;have HR3:Hid (cell.RowW W3 p3 m3 ls):=rowW_upd HR2.o hU (fun _ x hx=>by have:=HNW.o x hx;omega);have HP3:Hid (ora.RowP W3 p5 n5 o5):=rowP_off HP2.o (fun x hx=>by have:=HNP.o x hx;omega) hU;have H3t:=shK hU H2t (by omega);have H3o:=shK hU H2o (by omega);have H3m:=shK hU H2m (by omega);have H3r:=shK hU H2r (by omega);have H3p:Hid (Blk W3 (w.heap.size+1+1+1+1) #[zI rme,zI rid,zI rte,zI rde,zI rfe,zI rpr,zI rch,zI run,.string ⟨rtk.toArray⟩] 50):=hU.blk;have H3B:=shV hU H2B (by omega);have hsW3:W3.heap.size=W2.heap.size:=hU.size;clear hU H2t H2o H2m H2r H2p H2B;clear HR2 HP2;have Rr0:Hid (W3.cell? ⟨w.heap.size+1+1+1,0,none⟩=some (.slice p5 n5 c5)):=H3r.o.cell 0;obtain ⟨Rp0,Rp1,Rp2,Rp3,Rp4,Rp5,Rp6,Rp7,Rp8⟩:=shc9 H3p;go_wp2_with fail;exact bodyPost_ret (v:= .tuple #[.slice p3 m3 c3,.agg #[.slice p5 n5 c5],.agg #[zI rme,zI rid,zI rte,zI rde,zI rfe,zI rpr,zI rch,zI run,.string ⟨rtk.toArray⟩],zI f5]) (by simp [results,Tryz.results20,Rr0.o,Rp0.o,Rp1.o,Rp2.o,Rp3.o,Rp4.o,Rp5.o,Rp6.o,Rp7.o,Rp8.o,go_sem]) rfl ⟨p3,m3,c3,ls,p5,n5,c5,o5,⟨rme,rid,rte,rde,rfe,rpr,rch,run,rtk⟩,f5,rfl,HRI.o,HR3.o,(fun x hx=>by have:=HNW.o x hx;omega),HL.o.1,HL.o.2.1,HP3.o,HL.o.2.2.1,HL.o.2.2.2,(fun x hx=>by have:=HNP.o x hx;omega),H3B.o⟩
theorem kgrant {w0:World} (tt:TTab w0):KvGrant w0:=fun W t pt lt ct a n cap c ao no ko o me mo dr hW ht hd ho h1 h3 h4=>pgrant t pt lt ct a n cap c ao no ko o me mo dr W (tt.below hW) ht hd ho h1 h3 h4
theorem rekey_up {a b:Ac} {l:Bi} (h:RekeyIs a b l 0):b.rv=a.rv+1:=by
 rcases h with ⟨_,_,_,h⟩ | ⟨_,_,_,_,h⟩ | ⟨_,_,_,_,_,h⟩ | ⟨_,_,_,rfl,_,_⟩
 ·cases h
 ·cases h
 ·cases h
 ·rfl
theorem prekey (t:Tm) (pt:Option Addr) (lt ct:Nat) (a:Option Addr) (n cap:Nat) (c:List Int) (ao:Option Addr) (no ko:Nat) (o:List Pr) (me dr:Int) (w:World) (tt:TTab w) (ht:TCame w t pt lt ct) (h:Dk w a n cap c) (ho:ora.Came w ao no ko o) (hme:(Lit.int .i64 me).wf=true) (hdr:(Lit.int .i64 dr).wf=true):Calls Tryz.prog 21 #[.agg #[.slice pt lt ct,zI t.ff,zI t.fb,zI t.db,zI t.al],.slice a n cap,.agg #[.slice ao no ko],zI me,zI dr] w fun e w'=>TokGot w (TokIs 4 t c o me 0 0 dr) e w':=by
 obtain ⟨W0,HWW,H0t,H0o,H0r,H0p,H0B,hs0⟩:=sh4 w #[.slice pt lt ct,zI t.ff,zI t.fb,zI t.db,zI t.al] 30 #[.slice ao no ko] 34 #[zS] 34 #[zI 0,zI 0,zI 0,zI 0,zI 0,zI 0,zI 0,zI 0,.string ⟨#[]⟩] 50;go_enter Tryz.func21,Tryz.ntmps21;go_upto_region 1 with fail
 rw [HWW.o];clear HWW
 have HVE:Hid (Calls Tryz.prog 49 #[.agg #[.slice pt lt ct,zI t.ff,zI t.fb,zI t.db,zI t.al],.slice a n cap,.agg #[.slice ao no ko],.agg #[zI 4,zI me,zI 0,zI dr,.func (.func 50) #[] #[]]] W0 fun e w'=>TokGot W0 (TokIs 4 t c o me 0 0 dr) e w'):=by
  refine pvend (kd:=4) (te:=0) (Is:=RekeyIs) t pt lt ct a n cap c ao no ko o me 0 dr 50 #[] W0 (tt.below H0B.o) (ht.below H0B.o) (h.below H0B.o) (ho.below H0B.o) (fun _ _=>by kernel_rfl) ?_ ?_ ?_ ?_
  ·intro W x p ln cp hW hx;exact (acc.krekey W x p ln cp hx).mono fun e w' q=>BGot.of q
  ·intro cm b l hh q;exact .inr (.inr ⟨rfl,q⟩)
  ·intro x b l q;exact ⟨2,x.rv+1,.inl ⟨rfl,rfl,(rekey_up q).symm⟩,fun tg htg=>tokB_ok4 (rekey_tok q) htg⟩
  ·intro x b l tg q hm htg;exact rekey_ev q hm htg
 clear tt ht h ho hme hdr
 go_wp2_with (first
  | (refine zqw rfl rfl rfl H0t zqu30 ?_)
  | (refine zqw rfl rfl rfl H0o zqu34 ?_)
  | (refine zqw rfl rfl rfl H0r zqu34 ?_)
  | (refine zqw rfl rfl rfl H0p zqu50 ?_)
  | fail)
 refine HVE.o.mono ?_;rintro e w1 ⟨p3,m3,c3,ls,p5,n5,c5,o5,⟨rme,rid,rte,rde,rfe,rpr,rch,run,rtk⟩,f5,rfl,hri,hrw,hnw,hle,hm,hrp,hnl,hcp,hnp,hb1⟩;have H1t:=shN H0t hb1;have H1o:=shN H0o hb1;have H1r:=shN H0r hb1;have H1p:=shN H0p hb1;have H1B:=shB H0B hb1;have hsw1:W0.heap.size≤w1.heap.size:=hb1.size;clear hb1 H0t H0o H0r H0p H0B;clear HVE;have HRI:Hid (TokIs 4 t c o me 0 0 dr ls o5 ⟨rme,rid,rte,rde,rfe,rpr,rch,run,rtk⟩ f5):=hri;have HRW:Hid (cell.RowW w1 p3 m3 ls):=hrw;have HRP:Hid (ora.RowP w1 p5 n5 o5):=hrp;have HNW:Hid (∀ x,p3=some x→W0.heap.size≤x.block):=hnw;have HNP:Hid (∀ x,p5=some x→W0.heap.size≤x.block):=hnp;have HL:Hid (m3≤c3∧m3≤100000∧(p5=none→c5=0)∧n5≤c5):=⟨hle,hm,hnl,hcp⟩
 clear hri hrw hnw hle hm hrp hnl hcp hnp;unfold rcp.Rc.v rcp.Rc.cs
 go_wp2_with (first
  | (refine zql rfl rfl rfl rfl zqu34 (by simp [Value.oneCell']) H1r rfl ?_)
  | (refine zqw rfl rfl rfl H1t zqu30 ?_)
  | (refine zqw rfl rfl rfl H1o zqu34 ?_)
  | (refine zqw rfl rfl rfl H1r zqu34 ?_)
  | (refine zqw rfl rfl rfl H1p zqu50 ?_)
  | fail)
 intro W2 hU;have HR2:Hid (cell.RowW W2 p3 m3 ls):=rowW_upd HRW.o hU (fun _ x hx=>by have:=HNW.o x hx;omega);have HP2:Hid (ora.RowP W2 p5 n5 o5):=rowP_off HRP.o (fun x hx=>by have:=HNP.o x hx;omega) hU;have H2t:=shK hU H1t (by omega);have H2o:=shK hU H1o (by omega);have H2r:Hid (Blk W2 (w.heap.size+1+1) #[.slice p5 n5 c5] 34):=hU.blk;have H2p:=shK hU H1p (by omega);have H2B:=shV hU H1B (by omega);have hsW2:W2.heap.size=w1.heap.size:=hU.size;clear hU H1t H1o H1r H1p H1B;clear HRW HRP
 go_wp2_with (first
  | (refine zql rfl rfl rfl rfl zqu50 (by simp [Value.oneCell']) H2p rfl ?_)
  | (refine zqw rfl rfl rfl H2t zqu30 ?_)
  | (refine zqw rfl rfl rfl H2o zqu34 ?_)
  | (refine zqw rfl rfl rfl H2r zqu34 ?_)
  | (refine zqw rfl rfl rfl H2p zqu50 ?_)
  | fail)
 intro W3 hU;have HR3:Hid (cell.RowW W3 p3 m3 ls):=rowW_upd HR2.o hU (fun _ x hx=>by have:=HNW.o x hx;omega);have HP3:Hid (ora.RowP W3 p5 n5 o5):=rowP_off HP2.o (fun x hx=>by have:=HNP.o x hx;omega) hU;have H3t:=shK hU H2t (by omega);have H3o:=shK hU H2o (by omega);have H3r:=shK hU H2r (by omega);have H3p:Hid (Blk W3 (w.heap.size+1+1+1) #[zI rme,zI rid,zI rte,zI rde,zI rfe,zI rpr,zI rch,zI run,.string ⟨rtk.toArray⟩] 50):=hU.blk;have H3B:=shV hU H2B (by omega);have hsW3:W3.heap.size=W2.heap.size:=hU.size;clear hU H2t H2o H2r H2p H2B;clear HR2 HP2;have Rr0:Hid (W3.cell? ⟨w.heap.size+1+1,0,none⟩=some (.slice p5 n5 c5)):=H3r.o.cell 0;obtain ⟨Rp0,Rp1,Rp2,Rp3,Rp4,Rp5,Rp6,Rp7,Rp8⟩:=shc9 H3p;go_wp2_with fail;exact bodyPost_ret (v:= .tuple #[.slice p3 m3 c3,.agg #[.slice p5 n5 c5],.agg #[zI rme,zI rid,zI rte,zI rde,zI rfe,zI rpr,zI rch,zI run,.string ⟨rtk.toArray⟩],zI f5]) (by simp [results,Tryz.results21,Rr0.o,Rp0.o,Rp1.o,Rp2.o,Rp3.o,Rp4.o,Rp5.o,Rp6.o,Rp7.o,Rp8.o,go_sem]) rfl ⟨p3,m3,c3,ls,p5,n5,c5,o5,⟨rme,rid,rte,rde,rfe,rpr,rch,run,rtk⟩,f5,rfl,HRI.o,HR3.o,(fun x hx=>by have:=HNW.o x hx;omega),HL.o.1,HL.o.2.1,HP3.o,HL.o.2.2.1,HL.o.2.2.2,(fun x hx=>by have:=HNP.o x hx;omega),H3B.o⟩
theorem krekey {w0:World} (tt:TTab w0):KvRekey w0:=fun W t pt lt ct a n cap c ao no ko o me dr hW ht hd ho h1 h4=>prekey t pt lt ct a n cap c ao no ko o me dr W (tt.below hW) ht hd ho h1 h4
theorem preg (t:Tm) (pt:Option Addr) (lt ct:Nat) (a:Option Addr) (n cap:Nat) (c:List Int) (me:Int) (w:World) (ht:TCame w t pt lt ct) (h:Dk w a n cap c):Calls Tryz.prog 17 #[.agg #[.slice pt lt ct,zI t.ff,zI t.fb,zI t.db,zI t.al],.slice a n cap,zI me] w fun e w'=>WrGot w (RegIs t c me) e w':=by
 have HC:Hid (∀ W,Below w.heap.size w W→Dk W a n cap c):=fun W hW=>h.below hW;have HT:Hid (∀ W,Below w.heap.size w W→TCame W t pt lt ct):=fun W hW=>ht.below hW;clear h ht;obtain ⟨W0,HWW,H0t,H0B,hs0⟩:=sh1 w #[.slice pt lt ct,zI t.ff,zI t.fb,zI t.db,zI t.al] 30;go_enter Tryz.func17,Tryz.ntmps17;go_upto_region 1 with fail
 rw [HWW.o];clear HWW;have HOP:Hid (Calls Tryz.prog 18 #[.agg #[.slice pt lt ct,zI t.ff,zI t.fb,zI t.db,zI t.al],.slice a n cap] W0 fun e w'=>OpnP W0 t a n cap c e w'):=popen t pt lt ct a n cap c W0 (HT.o _ H0B.o) (HC.o _ H0B.o)
 go_wp2_with (first
  | (refine zqw rfl rfl rfl H0t zqu30 ?_)
  | fail)
 refine HOP.o.mono ?_;rintro e w1 (⟨f,rfl,h0,hli,hb1⟩ | ⟨p2,m2,c2,xs,bk,l,rfl,hli,hkp,hse,hm2,hb1⟩)
 ·have d0:(f != 0)=true:=by simpa using h0
  have H1t:=shN H0t hb1;have H1B:=shB H0B hb1;have hsw1:W0.heap.size≤w1.heap.size:=hb1.size;clear hb1 H0t H0B;have HLI:Hid (f≠0∧LoadIs t c [] f):=⟨h0,hli⟩
  clear h0 hli HOP;obtain ⟨W2,HWW,H2s,HBB,hsW2⟩:=sh1 w1 #[zS,zS,zI 0] 78;have H2t:=shN H1t HBB.o;have H2B:=shB H1B HBB.o;go_upto_region 2 with fail
  clear H1t H1B;rw [HWW.o];clear HWW HBB;have HV:Hid (RegIs t c me [] f):=⟨[],f,HLI.o.2,.inl ⟨HLI.o.1,rfl,rfl⟩⟩
  clear HLI;go_wp2_with fail;go_ret2;exact ⟨none,0,0,[],f,rfl,HV.o,⟨rfl,.inl rfl⟩,(fun x hx=>by cases hx),Nat.le_refl _,Nat.zero_le _,H2B.o⟩
 ·have HLI:Hid (LoadIs t c bk 0):=hli;have HKI:Hid (KeptIs c l 0):=hkp;have HSE:Hid (Sees w1 p2 m2 xs bk):=hse;have H1t:=shN H0t hb1;have H1B:=shB H0B hb1;have hsw1:W0.heap.size≤w1.heap.size:=hb1.size;clear hb1 H0t H0B;have HL2:Hid (l.length≤120):=load_len hli hkp;clear hli hkp hse HOP;have H2X:Hid (Below w1.heap.size w1 w1):=Below.refl _ _;obtain ⟨W2,HWW,H3s,H3X,hsW2⟩:=sh1 w1 #[.slice p2 m2 c2,.slice a n cap,zI (l.length:Int)] 78;have H3t:=shN H1t H3X.o;have H3B:=shB H1B H3X.o;go_upto_region 2 with fail
  clear H1t H2X H1B;rw [HWW.o];clear HWW;have HSW:Hid (Sees W2 p2 m2 xs bk):=HSE.o.below H3X.o;clear HSE;by_cases h1:me<0
  ·have d1:decide (me<0)=true:=decide_eq_true h1;have HV:Hid (RegIs t c me [] 2):=⟨bk,0,HLI.o,.inr (.inl ⟨rfl,by omega,rfl,rfl⟩)⟩
   clear h1;go_wp2_with fail;go_ret2;exact ⟨none,0,0,[],2,rfl,HV.o,⟨rfl,.inl rfl⟩,(fun x hx=>by cases hx),Nat.le_refl _,Nat.zero_le _,H3B.o⟩
  ·have d1:decide (me<0)=false:=decide_eq_false h1;by_cases h2:50≤me
   ·have d2:decide (50≤me)=true:=decide_eq_true h2;have HV:Hid (RegIs t c me [] 2):=⟨bk,0,HLI.o,.inr (.inl ⟨rfl,by omega,rfl,rfl⟩)⟩
    clear h1 h2;go_wp2_with fail;go_ret2;exact ⟨none,0,0,[],2,rfl,HV.o,⟨rfl,.inl rfl⟩,(fun x hx=>by cases hx),Nat.le_refl _,Nat.zero_le _,H3B.o⟩
   ·have d2:decide (50≤me)=false:=decide_eq_false h2;have HME:Hid (0≤me∧me≤49):=(by omega:0≤me∧me≤49)
    clear h1 h2;have HCU:Hid (Calls Tryz.prog 34 #[.agg #[.slice p2 m2 c2,.slice a n cap,zI (l.length:Int)],zI me] W2 fun e w'=>CusP W2 bk me e w'):=pcust p2 m2 c2 xs bk a n cap _ me W2 HSW.o hm2
    go_wp2_with (first
     | (refine zqw rfl rfl rfl H3t zqu30 ?_)
     | (refine zqw rfl rfl rfl H3s zqu78 ?_)
     | fail)
    refine HCU.o.mono ?_;rintro e w3 ⟨hb3,⟨rfl,hno⟩ | ⟨k,dp,dn,dc,sp,sn,sc,rfl,hft,hkb,hcm,hso⟩⟩
    ·have HNO:Hid (NoneAt bk me):=hno;clear hno HCU HSW;have H4t:=shN H3t hb3;have H4s:=shN H3s hb3;have H4B:=shB H3B hb3;have hsw3:W2.heap.size≤w3.heap.size:=hb3.size;clear hb3 H3t H3s H3B;obtain ⟨W4,HWW,H5q,HBB,hsW4⟩:=sh1 w3 #[zI 0,zI 0,zI 0,zI 0,zI 0,zI 0,zS,zS] 64;have H5t:=shN H4t HBB.o;have H5s:=shN H4s HBB.o;have H5B:=shB H4B HBB.o;go_upto_region 7 with fail
     clear H4t H4s H4B;rw [HWW.o];clear HWW HBB;have HEV:Hid (EMay (regE me)):=⟨HME.o,.inl ⟨rfl,rfl,rfl,rfl,rfl,rfl,rfl,rfl,rfl,rfl,rfl,rfl⟩⟩
     have HKE:Hid (Calls Tryz.prog 43 #[.agg #[.slice p2 m2 c2,.slice a n cap,zI (l.length:Int)],.agg #[zI 1,zI me,zI 0,zI 0,zI 0,zI 0,zI 0,zI 0,zI 0,zI 0,zI 0,zI 0,zI 0]] W4 fun e w'=>WrGot W4 (KeepIs c (regE me)) e w'):=pkeep p2 m2 c2 a n cap c l (regE me) W4 (HC.o _ H5B.o) HKI.o HL2.o HEV.o
     go_wp2_with (first
      | (refine zqw rfl rfl rfl H5t zqu30 ?_)
      | (refine zqw rfl rfl rfl H5s zqu78 ?_)
      | (refine zqw rfl rfl rfl H5q zqu64 ?_)
      | fail)
     refine HKE.o.mono ?_;rintro e w5 ⟨p3,m3,c3,ls,f3,rfl,hke,hrow,hnew,hle,hsm,hb5⟩;have H6t:=shN H5t hb5;have H6s:=shN H5s hb5;have H6q:=shN H5q hb5;have H6B:=shB H5B hb5;have hsw5:W4.heap.size≤w5.heap.size:=hb5.size;clear hb5 H5t H5s H5q H5B;have HV:Hid (RegIs t c me ls f3):=⟨bk,0,HLI.o,.inr (.inr (.inr ⟨rfl,HME.o,HNO.o,hke⟩))⟩
     have HRW:Hid (cell.RowW w5 p3 m3 ls):=hrow;have HNW:Hid (∀ x,p3=some x→w.heap.size≤x.block):=fun x hx=>Nat.le_trans (by omega) (hnew x hx);clear hke hrow hnew HKE;go_wp2_with fail;go_ret2;exact ⟨p3,m3,c3,ls,f3,rfl,HV.o,HRW.o,HNW.o,hle,hsm,H6B.o⟩
    ·have HFT:Hid (FirstAt bk me k):=hft;have HWF:Hid (acc.wf6 (bk.getD k cm0).a):=load_wf HLI.o _ (book.getD_in hkb);have HCM:Hid (tar.Came W2 dp dn dc (bk.getD k cm0).a.ds):=hcm;have HSO:Hid (book.RowS W2 sp sn (bk.getD k cm0).so):=hso;have HK3:Hid (Below W2.heap.size W2 w3):=hb3;clear hft hkb hcm hso HCU HSW;generalize hy:(bk.getD k cm0).a=y at *;have HY:Hid ((bk.getD k cm0).a=y):=hy;clear hy;have H4t:=shN H3t hb3;have H4s:=shN H3s hb3;have H4B:=shB H3B hb3;have hsw3:W2.heap.size≤w3.heap.size:=hb3.size;clear hb3 H3t H3s H3B;have H5t:Hid (Blk (w3.alloc (.cells #[zI y.me,zI y.rv,zI y.nx,zI y.mo,zI y.bo,zI y.fr,.slice dp dn dc,.slice sp sn sc] 64)) (w.heap.size) #[.slice pt lt ct,zI t.ff,zI t.fb,zI t.db,zI t.al] 30):=H4t.o.alloc _;have H5s:Hid (Blk (w3.alloc (.cells #[zI y.me,zI y.rv,zI y.nx,zI y.mo,zI y.bo,zI y.fr,.slice dp dn dc,.slice sp sn sc] 64)) (w1.heap.size) #[.slice p2 m2 c2,.slice a n cap,zI (l.length:Int)] 78):=H4s.o.alloc _;have H5Y:Hid (Below W2.heap.size W2 (w3.alloc (.cells #[zI y.me,zI y.rv,zI y.nx,zI y.mo,zI y.bo,zI y.fr,.slice dp dn dc,.slice sp sn sc] 64))):=HK3.o.alloc HK3.o.size _;have H5q:Hid (Blk (w3.alloc (.cells #[zI y.me,zI y.rv,zI y.nx,zI y.mo,zI y.bo,zI y.fr,.slice dp dn dc,.slice sp sn sc] 64)) (w3.heap.size) #[zI y.me,zI y.rv,zI y.nx,zI y.mo,zI y.bo,zI y.fr,.slice dp dn dc,.slice sp sn sc] 64):=Blk.new w3 _ _;have H5B:Hid (Below w.heap.size w (w3.alloc (.cells #[zI y.me,zI y.rv,zI y.nx,zI y.mo,zI y.bo,zI y.fr,.slice dp dn dc,.slice sp sn sc] 64))):=H4B.o.alloc H4B.o.size _;have hsW4:w3.heap.size<(w3.alloc (.cells #[zI y.me,zI y.rv,zI y.nx,zI y.mo,zI y.bo,zI y.fr,.slice dp dn dc,.slice sp sn sc] 64)).heap.size:=(Blk.new w3 #[zI y.me,zI y.rv,zI y.nx,zI y.mo,zI y.bo,zI y.fr,.slice dp dn dc,.slice sp sn sc] 64).lt;go_upto_region 7 with fail
     clear H4t H4s HK3 H4B;generalize (w3.alloc (.cells #[zI y.me,zI y.rv,zI y.nx,zI y.mo,zI y.bo,zI y.fr,.slice dp dn dc,.slice sp sn sc] 64))=W4 at *;have HV:Hid (RegIs t c me [] 21):=⟨bk,0,HLI.o,.inr (.inr (.inl ⟨rfl,HME.o,HFT.o.some,rfl,rfl⟩))⟩
     go_wp2_with fail;go_ret2;exact ⟨none,0,0,[],21,rfl,HV.o,⟨rfl,.inl rfl⟩,(fun x hx=>by cases hx),Nat.le_refl _,Nat.zero_le _,H5B.o⟩
theorem kreg:KvReg:=fun W t pt lt ct a n cap c me ht hd _=>preg t pt lt ct a n cap c me W ht hd
end vnd
end Go.Proofs.YtdpfnedfakgolaaGreatDoor
