import Derived.Test.YtnpblpbohcegoaaGreatDoorVBGws43
set_option linter.unusedVariables false
set_option linter.unusedSimpArgs false
set_option maxHeartbeats 4000000
set_option maxRecDepth 100000
namespace Go.Proofs.YtnpblpbohcegoaaGreatDoor
namespace vnd
open disk (RepIs AppIs)
open book (Ev ev0 EMay evL evOf EncIs DecIs Cm cm0 So so0 BookIs Sees ECame FirstAt NoneAt Tells)
open acc (Ac Tm Bi TCame ACame SellIs GrantIs RekeyIs)
open ora (Pr IssueIs)
open token (Tok TTab fmtL)
open rcp (Rc rc0)
open cell (Wr RowU RowW)
open Go.RowKit
theorem pgrant1 (B0 B1:Nat) (x:Ac) (p:Option Addr) (ln cp:Nat) (t:Tm) (pt:Option Addr) (lt ct:Nat) (mo:Int) (w:World) (hB0:Blk w B0 #[.slice pt lt ct,zI t.ff,zI t.fb,zI t.db,zI t.al] 24) (hB1:Blk w B1 #[zI mo] 3) (hx:ACame w x p ln cp) (ht:TCame w t pt lt ct) (hmo:(Lit.int .i64 mo).wf=true):Calls Tryz.prog 76 (#[x.v p ln cp]++#[.pointer (some ⟨B0,0,none⟩),.pointer (some ⟨B1,0,none⟩)]) w fun e w'=>BGot w (GrantIs x t mo) e w':=by
 have HK0:Hid (∀ W,Below w.heap.size w W→Blk W B0 #[.slice pt lt ct,zI t.ff,zI t.fb,zI t.db,zI t.al] 24):=fun W hW=>hB0.next hW;have HK1:Hid (∀ W,Below w.heap.size w W→Blk W B1 #[zI mo] 3):=fun W hW=>hB1.next hW;have HD:Hid (∀ W,Below w.heap.size w W→Calls Tryz.prog 77 #[.agg #[zI x.me,zI x.rv,zI x.nx,zI x.mo,zI x.bo,zI x.fr,.slice p ln cp],.agg #[.slice pt lt ct,zI t.ff,zI t.fb,zI t.db,zI t.al],zI mo] W fun e w'=>acc.BPost W (GrantIs x t mo) e w'):=fun W hW=>acc.kgrant W x p ln cp t pt lt ct mo (hx.below hW) (ht.below hW) hmo;clear hx ht hB0 hB1 hmo;unfold acc.Ac.v acc.Ac.cs;show Calls Tryz.prog 76 #[.agg #[zI x.me,zI x.rv,zI x.nx,zI x.mo,zI x.bo,zI x.fr,.slice p ln cp],.pointer (some ⟨B0,0,none⟩),.pointer (some ⟨B1,0,none⟩)] w _;obtain ⟨W0,HWW,H0a,H0r,H0l,H0B,hs0⟩:=sh3 w #[zI x.me,zI x.rv,zI x.nx,zI x.mo,zI x.bo,zI x.fr,.slice p ln cp] 51 #[zI 0,zI 0,zI 0,zI 0,zI 0,zI 0,zS] 51 #[zI 0,zI 0,zI 0,zI 0,zI 0,zI 0,zI 0] 68;go_enter Tryz.func76,Tryz.ntmps76;go_upto_region 1 with fail
 rw [HWW.o];clear HWW;have HD0:=HD.o W0 H0B.o;have HC0:=HK0.o W0 H0B.o;have HC0h:Hid (Blk W0 B0 #[.slice pt lt ct,zI t.ff,zI t.fb,zI t.db,zI t.al] 24):=HC0;clear HC0;have qc1:W0.cell? ⟨B1,0,none⟩=some (zI mo):=(HK1.o W0 H0B.o).cell 0
 go_wp2_with (first
  | (refine zqw rfl rfl rfl HC0h zqu24 ?_)
  | (refine zqw rfl rfl rfl H0a zqu51 ?_)
  | (refine zqw rfl rfl rfl H0r zqu51 ?_)
  | (refine zqw rfl rfl rfl H0l zqu68 ?_)
  | fail)
 refine HD0.mono ?_;rintro e w1 ⟨b,ll,p4,n4,c4,f4,rfl,hsi,_,hb1⟩;have H1a:=shN H0a hb1;have H1r:=shN H0r hb1;have H1l:=shN H0l hb1;have H1B:=shB H0B hb1;have hsw1:W0.heap.size≤w1.heap.size:=hb1.size;clear hb1 H0a H0r H0l H0B;clear HC0h HD0 HD HK0 qc1 HK1;unfold acc.Ac.v acc.Ac.cs acc.Bi.v;have HSI:Hid ((GrantIs x t mo) b ll f4):=hsi;clear hsi
 go_wp2_with (first
  | (refine zql rfl rfl rfl rfl zqu51 (by simp [Value.oneCell']) H1r rfl ?_)
  | (refine zqw rfl rfl rfl H1a zqu51 ?_)
  | (refine zqw rfl rfl rfl H1r zqu51 ?_)
  | (refine zqw rfl rfl rfl H1l zqu68 ?_)
  | fail)
 intro W2 hU;have H2a:=shK hU H1a (by omega);have H2r:Hid (Blk W2 (w.heap.size+1) #[zI b.me,zI b.rv,zI b.nx,zI b.mo,zI b.bo,zI b.fr,.slice p4 n4 c4] 51):=hU.blk;have H2l:=shK hU H1l (by omega);have H2B:=shV hU H1B (by omega);have hsW2:W2.heap.size=w1.heap.size:=hU.size;clear hU H1a H1r H1l H1B
 go_wp2_with (first
  | (refine zql rfl rfl rfl rfl zqu68 (by simp [Value.oneCell']) H2l rfl ?_)
  | (refine zqw rfl rfl rfl H2a zqu51 ?_)
  | (refine zqw rfl rfl rfl H2r zqu51 ?_)
  | (refine zqw rfl rfl rfl H2l zqu68 ?_)
  | fail)
 intro W3 hU;have H3a:=shK hU H2a (by omega);have H3r:=shK hU H2r (by omega);have H3l:Hid (Blk W3 (w.heap.size+1+1) #[zI ll.id,zI ll.te,zI ll.de,zI ll.fe,zI ll.pr,zI ll.ch,zI ll.un] 68):=hU.blk;have H3B:=shV hU H2B (by omega);have hsW3:W3.heap.size=W2.heap.size:=hU.size;clear hU H2a H2r H2l H2B;have Rr0:Hid (W3.cell? ⟨w.heap.size+1,0,none⟩=some (zI b.me)):=H3r.o.cell 0;have Rr1:Hid (W3.cell? ⟨w.heap.size+1,1,none⟩=some (zI b.rv)):=H3r.o.cell 1;have Rr2:Hid (W3.cell? ⟨w.heap.size+1,2,none⟩=some (zI b.nx)):=H3r.o.cell 2;have Rr3:Hid (W3.cell? ⟨w.heap.size+1,3,none⟩=some (zI b.mo)):=H3r.o.cell 3;have Rr4:Hid (W3.cell? ⟨w.heap.size+1,4,none⟩=some (zI b.bo)):=H3r.o.cell 4;have Rr5:Hid (W3.cell? ⟨w.heap.size+1,5,none⟩=some (zI b.fr)):=H3r.o.cell 5;have Rr6:Hid (W3.cell? ⟨w.heap.size+1,6,none⟩=some (.slice p4 n4 c4)):=H3r.o.cell 6;obtain ⟨Rl0,Rl1,Rl2,Rl3,Rl4,Rl5,Rl6⟩:=shc7 H3l;go_wp2_with fail;exact bodyPost_ret (v:= .tuple #[.agg #[zI b.me,zI b.rv,zI b.nx,zI b.mo,zI b.bo,zI b.fr,.slice p4 n4 c4],.agg #[zI ll.id,zI ll.te,zI ll.de,zI ll.fe,zI ll.pr,zI ll.ch,zI ll.un],zI f4]) (by simp [results,Tryz.results76,Rr0.o,Rr1.o,Rr2.o,Rr3.o,Rr4.o,Rr5.o,Rr6.o,Rl0.o,Rl1.o,Rl2.o,Rl3.o,Rl4.o,Rl5.o,Rl6.o,go_sem]) rfl ⟨b,ll,p4,n4,c4,f4,rfl,HSI.o,H3B.o⟩
theorem pgrant (t:Tm) (pt:Option Addr) (lt ct:Nat) (a:Option Addr) (n cap:Nat) (c:List Int) (ao:Option Addr) (no ko:Nat) (o:List Pr) (me mo dr:Int) (w:World) (tt:TTab w) (ht:TCame w t pt lt ct) (h:Dk w a n cap c) (ho:ora.Came w ao no ko o) (hme:(Lit.int .i64 me).wf=true) (hmo:(Lit.int .i64 mo).wf=true) (hdr:(Lit.int .i64 dr).wf=true):Calls Tryz.prog 43 #[.agg #[.slice pt lt ct,zI t.ff,zI t.fb,zI t.db,zI t.al],.slice a n cap,.agg #[.slice ao no ko],zI me,zI mo,zI dr] w fun e w'=>TokGot w (TokIs 3 t c o me 0 mo dr) e w':=by
 obtain ⟨W0,HWW,H0t,H0o,H0m,H0r,H0p,H0B,hs0⟩:=sh5 w #[.slice pt lt ct,zI t.ff,zI t.fb,zI t.db,zI t.al] 24 #[.slice ao no ko] 39 #[zI mo] 3 #[zS] 39 #[zI 0,zI 0,zI 0,zI 0,zI 0,zI 0,zI 0,zI 0,.string ⟨#[]⟩] 78;go_enter Tryz.func43,Tryz.ntmps43;go_upto_region 1 with fail
 rw [HWW.o];clear HWW
 have HVE:Hid (Calls Tryz.prog 78 #[.agg #[.slice pt lt ct,zI t.ff,zI t.fb,zI t.db,zI t.al],.slice a n cap,.agg #[.slice ao no ko],.agg #[zI 3,zI me,zI mo,zI dr,.func (.func 76) #[] #[.pointer (some ⟨w.heap.size,0,none⟩),.pointer (some ⟨w.heap.size+1+1,0,none⟩)]]] W0 fun e w'=>TokGot W0 (TokIs 3 t c o me 0 mo dr) e w'):=by
  refine pvend (kd:=3) (te:=0) (Is:=fun x=>GrantIs x t mo) t pt lt ct a n cap c ao no ko o me mo dr 76 #[.pointer (some ⟨w.heap.size,0,none⟩),.pointer (some ⟨w.heap.size+1+1,0,none⟩)] W0 (tt.below H0B.o) (ht.below H0B.o) (h.below H0B.o) (ho.below H0B.o) (fun _ _=>by kernel_rfl) ?_ ?_ ?_ ?_
  ·intro W x p ln cp hW hx;exact pgrant1 (w.heap.size) (w.heap.size+1+1) x p ln cp t pt lt ct mo W (H0t.o.next hW) (H0m.o.next hW) hx (ht.below (bel_step H0B.o hW)) hmo
  ·intro cm b l hh q;exact .inr (.inl ⟨rfl,q⟩)
  ·intro x b l q;exact ⟨0,l.un,.inr ⟨by decide,rfl,rfl⟩,fun tg htg=>tokB_ok (by decide) (grant_tok q) htg⟩
  ·intro x b l tg q hm htg;exact grant_ev q hm htg
 clear tt ht h ho hme hmo hdr;have hmf:∀ (fn:Fn) (first cap:Array Value) (w:World),(Instr.makeFunc fn first cap).run Tryz.prog w = .ok (.func fn first cap) w:=fun _ _ _ _=>rfl;have qm0:W0.cell? ⟨w.heap.size+1+1,0,none⟩=some (zI mo):=H0m.o.cell 0
 go_wp2_with (first
  | (refine zqw rfl rfl rfl H0t zqu24 ?_)
  | (refine zqw rfl rfl rfl H0o zqu39 ?_)
  | (refine wp_whole rfl 3 _ rfl _ rfl 3 _ _ H0m.o Tryz.underlying3 rfl (by kernel_rfl) ?_)
  | (refine zqw rfl rfl rfl H0r zqu39 ?_)
  | (refine zqw rfl rfl rfl H0p zqu78 ?_)
  | fail)
 refine HVE.o.mono ?_;rintro e w1 ⟨p3,m3,c3,ls,p5,n5,c5,o5,⟨rme,rid,rte,rde,rfe,rpr,rch,run,rtk⟩,f5,rfl,hri,hrw,hnw,hle,hm,hrp,hnl,hcp,hnp,hb1⟩;have H1t:=shN H0t hb1;have H1o:=shN H0o hb1;have H1m:=shN H0m hb1;have H1r:=shN H0r hb1;have H1p:=shN H0p hb1;have H1B:=shB H0B hb1;have hsw1:W0.heap.size≤w1.heap.size:=hb1.size;clear hb1 H0t H0o H0m H0r H0p H0B;clear qm0;clear HVE hmf;have HRI:Hid (TokIs 3 t c o me 0 mo dr ls o5 ⟨rme,rid,rte,rde,rfe,rpr,rch,run,rtk⟩ f5):=hri;have HRW:Hid (cell.RowW w1 p3 m3 ls):=hrw;have HRP:Hid (ora.RowP w1 p5 n5 o5):=hrp;have HNW:Hid (∀ x,p3=some x→W0.heap.size≤x.block):=hnw;have HNP:Hid (∀ x,p5=some x→W0.heap.size≤x.block):=hnp;have HL:Hid (m3≤c3∧m3≤100000∧(p5=none→c5=0)∧n5≤c5):=⟨hle,hm,hnl,hcp⟩
 clear hri hrw hnw hle hm hrp hnl hcp hnp;unfold rcp.Rc.v rcp.Rc.cs
 go_wp2_with (first
  | (refine zql rfl rfl rfl rfl zqu39 (by simp [Value.oneCell']) H1r rfl ?_)
  | (refine zqw rfl rfl rfl H1t zqu24 ?_)
  | (refine zqw rfl rfl rfl H1o zqu39 ?_)
  | (refine wp_whole rfl 3 _ rfl _ rfl 3 _ _ H1m.o Tryz.underlying3 rfl (by kernel_rfl) ?_)
  | (refine zqw rfl rfl rfl H1r zqu39 ?_)
  | (refine zqw rfl rfl rfl H1p zqu78 ?_)
  | fail)
 intro W2 hU;have HR2:Hid (cell.RowW W2 p3 m3 ls):=rowW_upd HRW.o hU (fun _ x hx=>by have:=HNW.o x hx;omega);have HP2:Hid (ora.RowP W2 p5 n5 o5):=rowP_off HRP.o (fun x hx=>by have:=HNP.o x hx;omega) hU;have H2t:=shK hU H1t (by omega);have H2o:=shK hU H1o (by omega);have H2m:=shK hU H1m (by omega);have H2r:Hid (Blk W2 (w.heap.size+1+1+1) #[.slice p5 n5 c5] 39):=hU.blk;have H2p:=shK hU H1p (by omega);have H2B:=shV hU H1B (by omega);have hsW2:W2.heap.size=w1.heap.size:=hU.size;clear hU H1t H1o H1m H1r H1p H1B;clear HRW HRP
 go_wp2_with (first
  | (refine zql rfl rfl rfl rfl zqu78 (by simp [Value.oneCell']) H2p rfl ?_)
  | (refine zqw rfl rfl rfl H2t zqu24 ?_)
  | (refine zqw rfl rfl rfl H2o zqu39 ?_)
  | (refine wp_whole rfl 3 _ rfl _ rfl 3 _ _ H2m.o Tryz.underlying3 rfl (by kernel_rfl) ?_)
  | (refine zqw rfl rfl rfl H2r zqu39 ?_)
  | (refine zqw rfl rfl rfl H2p zqu78 ?_)
  | fail)
 intro W3 hU;have HR3:Hid (cell.RowW W3 p3 m3 ls):=rowW_upd HR2.o hU (fun _ x hx=>by have:=HNW.o x hx;omega);have HP3:Hid (ora.RowP W3 p5 n5 o5):=rowP_off HP2.o (fun x hx=>by have:=HNP.o x hx;omega) hU;have H3t:=shK hU H2t (by omega);have H3o:=shK hU H2o (by omega);have H3m:=shK hU H2m (by omega);have H3r:=shK hU H2r (by omega);have H3p:Hid (Blk W3 (w.heap.size+1+1+1+1) #[zI rme,zI rid,zI rte,zI rde,zI rfe,zI rpr,zI rch,zI run,.string ⟨rtk.toArray⟩] 78):=hU.blk;have H3B:=shV hU H2B (by omega);have hsW3:W3.heap.size=W2.heap.size:=hU.size;clear hU H2t H2o H2m H2r H2p H2B;clear HR2 HP2;have Rr0:Hid (W3.cell? ⟨w.heap.size+1+1+1,0,none⟩=some (.slice p5 n5 c5)):=H3r.o.cell 0;obtain ⟨Rp0,Rp1,Rp2,Rp3,Rp4,Rp5,Rp6,Rp7,Rp8⟩:=shc9 H3p;go_wp2_with fail;exact bodyPost_ret (v:= .tuple #[.slice p3 m3 c3,.agg #[.slice p5 n5 c5],.agg #[zI rme,zI rid,zI rte,zI rde,zI rfe,zI rpr,zI rch,zI run,.string ⟨rtk.toArray⟩],zI f5]) (by simp [results,Tryz.results43,Rr0.o,Rp0.o,Rp1.o,Rp2.o,Rp3.o,Rp4.o,Rp5.o,Rp6.o,Rp7.o,Rp8.o,go_sem]) rfl ⟨p3,m3,c3,ls,p5,n5,c5,o5,⟨rme,rid,rte,rde,rfe,rpr,rch,run,rtk⟩,f5,rfl,HRI.o,HR3.o,(fun x hx=>by have:=HNW.o x hx;omega),HL.o.1,HL.o.2.1,HP3.o,HL.o.2.2.1,HL.o.2.2.2,(fun x hx=>by have:=HNP.o x hx;omega),H3B.o⟩
theorem kgrant {w0:World} (tt:TTab w0):KvGrant w0:=fun W t pt lt ct a n cap c ao no ko o me mo dr hW ht hd ho h1 h3 h4=>pgrant t pt lt ct a n cap c ao no ko o me mo dr W (tt.below hW) ht hd ho h1 h3 h4
theorem rekey_up {a b:Ac} {l:Bi} (h:RekeyIs a b l 0):b.rv=a.rv+1:=by
 rcases h with ⟨_,_,_,h⟩ | ⟨_,_,_,_,h⟩ | ⟨_,_,_,_,_,h⟩ | ⟨_,_,_,rfl,_,_⟩
 ·cases h
 ·cases h
 ·cases h
 ·rfl
theorem prekey (t:Tm) (pt:Option Addr) (lt ct:Nat) (a:Option Addr) (n cap:Nat) (c:List Int) (ao:Option Addr) (no ko:Nat) (o:List Pr) (me dr:Int) (w:World) (tt:TTab w) (ht:TCame w t pt lt ct) (h:Dk w a n cap c) (ho:ora.Came w ao no ko o) (hme:(Lit.int .i64 me).wf=true) (hdr:(Lit.int .i64 dr).wf=true):Calls Tryz.prog 44 #[.agg #[.slice pt lt ct,zI t.ff,zI t.fb,zI t.db,zI t.al],.slice a n cap,.agg #[.slice ao no ko],zI me,zI dr] w fun e w'=>TokGot w (TokIs 4 t c o me 0 0 dr) e w':=by
 obtain ⟨W0,HWW,H0t,H0o,H0r,H0p,H0B,hs0⟩:=sh4 w #[.slice pt lt ct,zI t.ff,zI t.fb,zI t.db,zI t.al] 24 #[.slice ao no ko] 39 #[zS] 39 #[zI 0,zI 0,zI 0,zI 0,zI 0,zI 0,zI 0,zI 0,.string ⟨#[]⟩] 78;go_enter Tryz.func44,Tryz.ntmps44;go_upto_region 1 with fail
 rw [HWW.o];clear HWW
 have HVE:Hid (Calls Tryz.prog 78 #[.agg #[.slice pt lt ct,zI t.ff,zI t.fb,zI t.db,zI t.al],.slice a n cap,.agg #[.slice ao no ko],.agg #[zI 4,zI me,zI 0,zI dr,.func (.func 79) #[] #[]]] W0 fun e w'=>TokGot W0 (TokIs 4 t c o me 0 0 dr) e w'):=by
  refine pvend (kd:=4) (te:=0) (Is:=RekeyIs) t pt lt ct a n cap c ao no ko o me 0 dr 79 #[] W0 (tt.below H0B.o) (ht.below H0B.o) (h.below H0B.o) (ho.below H0B.o) (fun _ _=>by kernel_rfl) ?_ ?_ ?_ ?_
  ·intro W x p ln cp hW hx;exact (acc.krekey W x p ln cp hx).mono fun e w' q=>BGot.of q
  ·intro cm b l hh q;exact .inr (.inr ⟨rfl,q⟩)
  ·intro x b l q;exact ⟨2,x.rv+1,.inl ⟨rfl,rfl,(rekey_up q).symm⟩,fun tg htg=>tokB_ok4 (rekey_tok q) htg⟩
  ·intro x b l tg q hm htg;exact rekey_ev q hm htg
 clear tt ht h ho hme hdr
 go_wp2_with (first
  | (refine zqw rfl rfl rfl H0t zqu24 ?_)
  | (refine zqw rfl rfl rfl H0o zqu39 ?_)
  | (refine zqw rfl rfl rfl H0r zqu39 ?_)
  | (refine zqw rfl rfl rfl H0p zqu78 ?_)
  | fail)
 refine HVE.o.mono ?_;rintro e w1 ⟨p3,m3,c3,ls,p5,n5,c5,o5,⟨rme,rid,rte,rde,rfe,rpr,rch,run,rtk⟩,f5,rfl,hri,hrw,hnw,hle,hm,hrp,hnl,hcp,hnp,hb1⟩;have H1t:=shN H0t hb1;have H1o:=shN H0o hb1;have H1r:=shN H0r hb1;have H1p:=shN H0p hb1;have H1B:=shB H0B hb1;have hsw1:W0.heap.size≤w1.heap.size:=hb1.size;clear hb1 H0t H0o H0r H0p H0B;clear HVE;have HRI:Hid (TokIs 4 t c o me 0 0 dr ls o5 ⟨rme,rid,rte,rde,rfe,rpr,rch,run,rtk⟩ f5):=hri;have HRW:Hid (cell.RowW w1 p3 m3 ls):=hrw;have HRP:Hid (ora.RowP w1 p5 n5 o5):=hrp;have HNW:Hid (∀ x,p3=some x→W0.heap.size≤x.block):=hnw;have HNP:Hid (∀ x,p5=some x→W0.heap.size≤x.block):=hnp;have HL:Hid (m3≤c3∧m3≤100000∧(p5=none→c5=0)∧n5≤c5):=⟨hle,hm,hnl,hcp⟩
 clear hri hrw hnw hle hm hrp hnl hcp hnp;unfold rcp.Rc.v rcp.Rc.cs
 go_wp2_with (first
  | (refine zql rfl rfl rfl rfl zqu39 (by simp [Value.oneCell']) H1r rfl ?_)
  | (refine zqw rfl rfl rfl H1t zqu24 ?_)
  | (refine zqw rfl rfl rfl H1o zqu39 ?_)
  | (refine zqw rfl rfl rfl H1r zqu39 ?_)
  | (refine zqw rfl rfl rfl H1p zqu78 ?_)
  | fail)
 intro W2 hU;have HR2:Hid (cell.RowW W2 p3 m3 ls):=rowW_upd HRW.o hU (fun _ x hx=>by have:=HNW.o x hx;omega);have HP2:Hid (ora.RowP W2 p5 n5 o5):=rowP_off HRP.o (fun x hx=>by have:=HNP.o x hx;omega) hU;have H2t:=shK hU H1t (by omega);have H2o:=shK hU H1o (by omega);have H2r:Hid (Blk W2 (w.heap.size+1+1) #[.slice p5 n5 c5] 39):=hU.blk;have H2p:=shK hU H1p (by omega);have H2B:=shV hU H1B (by omega);have hsW2:W2.heap.size=w1.heap.size:=hU.size;clear hU H1t H1o H1r H1p H1B;clear HRW HRP
 go_wp2_with (first
  | (refine zql rfl rfl rfl rfl zqu78 (by simp [Value.oneCell']) H2p rfl ?_)
  | (refine zqw rfl rfl rfl H2t zqu24 ?_)
  | (refine zqw rfl rfl rfl H2o zqu39 ?_)
  | (refine zqw rfl rfl rfl H2r zqu39 ?_)
  | (refine zqw rfl rfl rfl H2p zqu78 ?_)
  | fail)
 intro W3 hU;have HR3:Hid (cell.RowW W3 p3 m3 ls):=rowW_upd HR2.o hU (fun _ x hx=>by have:=HNW.o x hx;omega);have HP3:Hid (ora.RowP W3 p5 n5 o5):=rowP_off HP2.o (fun x hx=>by have:=HNP.o x hx;omega) hU;have H3t:=shK hU H2t (by omega);have H3o:=shK hU H2o (by omega);have H3r:=shK hU H2r (by omega);have H3p:Hid (Blk W3 (w.heap.size+1+1+1) #[zI rme,zI rid,zI rte,zI rde,zI rfe,zI rpr,zI rch,zI run,.string ⟨rtk.toArray⟩] 78):=hU.blk;have H3B:=shV hU H2B (by omega);have hsW3:W3.heap.size=W2.heap.size:=hU.size;clear hU H2t H2o H2r H2p H2B;clear HR2 HP2;have Rr0:Hid (W3.cell? ⟨w.heap.size+1+1,0,none⟩=some (.slice p5 n5 c5)):=H3r.o.cell 0;obtain ⟨Rp0,Rp1,Rp2,Rp3,Rp4,Rp5,Rp6,Rp7,Rp8⟩:=shc9 H3p;go_wp2_with fail;exact bodyPost_ret (v:= .tuple #[.slice p3 m3 c3,.agg #[.slice p5 n5 c5],.agg #[zI rme,zI rid,zI rte,zI rde,zI rfe,zI rpr,zI rch,zI run,.string ⟨rtk.toArray⟩],zI f5]) (by simp [results,Tryz.results44,Rr0.o,Rp0.o,Rp1.o,Rp2.o,Rp3.o,Rp4.o,Rp5.o,Rp6.o,Rp7.o,Rp8.o,go_sem]) rfl ⟨p3,m3,c3,ls,p5,n5,c5,o5,⟨rme,rid,rte,rde,rfe,rpr,rch,run,rtk⟩,f5,rfl,HRI.o,HR3.o,(fun x hx=>by have:=HNW.o x hx;omega),HL.o.1,HL.o.2.1,HP3.o,HL.o.2.2.1,HL.o.2.2.2,(fun x hx=>by have:=HNP.o x hx;omega),H3B.o⟩
theorem krekey {w0:World} (tt:TTab w0):KvRekey w0:=fun W t pt lt ct a n cap c ao no ko o me dr hW ht hd ho h1 h4=>prekey t pt lt ct a n cap c ao no ko o me dr W (tt.below hW) ht hd ho h1 h4
theorem pload (t:Tm) (pt:Option Addr) (lt ct:Nat) (a:Option Addr) (n cap:Nat) (c:List Int) (w:World) (ht:TCame w t pt lt ct) (h:Dk w a n cap c):Calls Tryz.prog 15 #[.agg #[.slice pt lt ct,zI t.ff,zI t.fb,zI t.db,zI t.al],.slice a n cap] w fun e w'=>LoadPost w t c e w':=by
 have HC:Hid (∀ W,Below w.heap.size w W→Dk W a n cap c):=fun W hW=>h.below hW;have HT:Hid (∀ W,Below w.heap.size w W→TCame W t pt lt ct):=fun W hW=>ht.below hW;clear h ht;obtain ⟨W0,HWW,H0t,H0r,H0B,hs0⟩:=sh2 w #[.slice pt lt ct,zI t.ff,zI t.fb,zI t.db,zI t.al] 24 #[zS] 46;go_enter Tryz.func15,Tryz.ntmps15;go_upto_region 1 with fail
 rw [HWW.o];clear HWW;have HOP:Hid (Calls Tryz.prog 23 #[.agg #[.slice pt lt ct,zI t.ff,zI t.fb,zI t.db,zI t.al],.slice a n cap] W0 fun e w'=>OpnP W0 t a n cap c e w'):=popen t pt lt ct a n cap c W0 (HT.o _ H0B.o) (HC.o _ H0B.o)
 go_wp2_with (first
  | (refine zqw rfl rfl rfl H0t zqu24 ?_)
  | (refine zqw rfl rfl rfl H0r zqu46 ?_)
  | fail)
 refine HOP.o.mono ?_;rintro e w1 (⟨f,rfl,h0,hli,hb1⟩ | ⟨p2,m2,c2,xs,bk,l,rfl,hli,hkp,hse,hm2,hb1⟩)
 ·have d0:(f != 0)=true:=by simpa using h0
  have H1t:=shN H0t hb1;have H1r:=shN H0r hb1;have H1B:=shB H0B hb1;have hsw1:W0.heap.size≤w1.heap.size:=hb1.size;clear hb1 H0t H0r H0B;have HLI:Hid (f≠0∧LoadIs t c [] f):=⟨h0,hli⟩
  clear h0 hli HOP;obtain ⟨W2,HWW,H2s,HBB,hsW2⟩:=sh1 w1 #[zS,zS,zI 0] 87;have H2t:=shN H1t HBB.o;have H2r:=shN H1r HBB.o;have H2B:=shB H1B HBB.o;go_upto_region 2 with fail
  clear H1t H1r H1B;rw [HWW.o];clear HWW HBB;have qs0:W2.cell? ⟨w1.heap.size,0,none⟩=some (zS):=H2s.o.cell 0
  go_wp2_with (first
   | (refine zql rfl rfl rfl rfl zqu46 (by simp [Value.oneCell']) H2r rfl ?_)
   | (refine zqw rfl rfl rfl H2t zqu24 ?_)
   | (refine zqw rfl rfl rfl H2r zqu46 ?_)
   | (refine zqw rfl rfl rfl H2s zqu87 ?_)
   | fail)
  intro W3 hU;have H3t:=shK hU H2t (by omega);have H3r:Hid (Blk W3 (w.heap.size+1) #[zS] 46):=hU.blk;have H3s:=shK hU H2s (by omega);have H3B:=shV hU H2B (by omega);have hsW3:W3.heap.size=W2.heap.size:=hU.size;clear hU H2t H2r H2s H2B;clear qs0;have Rr0:Hid (W3.cell? ⟨w.heap.size+1,0,none⟩=some (zS)):=H3r.o.cell 0;go_wp2_with fail;exact bodyPost_ret (v:= .tuple #[.agg #[zS],zI f]) (by simp [results,Tryz.results15,Rr0.o,go_sem]) rfl ⟨none,0,0,[],[],f,rfl,HLI.o.2,book.sees_nil _,Nat.zero_le _,H3B.o⟩
 ·have HLI:Hid (LoadIs t c bk 0):=hli;have HKI:Hid (KeptIs c l 0):=hkp;have HSE:Hid (Sees w1 p2 m2 xs bk):=hse;have H1t:=shN H0t hb1;have H1r:=shN H0r hb1;have H1B:=shB H0B hb1;have hsw1:W0.heap.size≤w1.heap.size:=hb1.size;clear hb1 H0t H0r H0B;have HL2:Hid (l.length≤120):=load_len hli hkp;clear hli hkp hse HOP;have H2X:Hid (Below w1.heap.size w1 w1):=Below.refl _ _;obtain ⟨W2,HWW,H3s,H3X,hsW2⟩:=sh1 w1 #[.slice p2 m2 c2,.slice a n cap,zI (l.length:Int)] 87;have H3t:=shN H1t H3X.o;have H3r:=shN H1r H3X.o;have H3B:=shB H1B H3X.o;go_upto_region 2 with fail
  clear H1t H1r H2X H1B;rw [HWW.o];clear HWW;have HSW:Hid (Sees W2 p2 m2 xs bk):=HSE.o.below H3X.o;clear HSE;have qs0:W2.cell? ⟨w1.heap.size,0,none⟩=some (.slice p2 m2 c2):=H3s.o.cell 0
  go_wp2_with (first
   | (refine zql rfl rfl rfl rfl zqu46 (by simp [Value.oneCell']) H3r rfl ?_)
   | (refine zqw rfl rfl rfl H3t zqu24 ?_)
   | (refine zqw rfl rfl rfl H3r zqu46 ?_)
   | (refine zqw rfl rfl rfl H3s zqu87 ?_)
   | fail)
  intro W3 hU;have HS3:Hid (Sees W3 p2 m2 xs bk):=sees_far HSW.o (one_odd H3r.o) hU;have H4t:=shK hU H3t (by omega);have H4r:Hid (Blk W3 (w.heap.size+1) #[.slice p2 m2 c2] 46):=hU.blk;have H4s:=shK hU H3s (by omega);have H4B:=shV hU H3B (by omega);have hsW3:W3.heap.size=W2.heap.size:=hU.size;clear hU H3t H3r H3s H3B;clear qs0;have Rr0:Hid (W3.cell? ⟨w.heap.size+1,0,none⟩=some (.slice p2 m2 c2)):=H4r.o.cell 0;go_wp2_with fail;exact bodyPost_ret (v:= .tuple #[.agg #[.slice p2 m2 c2],zI 0]) (by simp [results,Tryz.results15,Rr0.o,go_sem]) rfl ⟨p2,m2,c2,xs,bk,0,rfl,HLI.o,HS3.o,hm2,H4B.o⟩
theorem kload:KvLoad:=fun W t pt lt ct a n cap c ht hd=>pload t pt lt ct a n cap c W ht hd
end vnd
end Go.Proofs.YtnpblpbohcegoaaGreatDoor
