import Derived.Test.YtnpblpbohcegoaaGreatDoorVVRry24
import Derived.Test.YtnpblpbohcegoaaGreatDoorVVRry27
set_option linter.unusedVariables false
set_option linter.unusedSimpArgs false
set_option maxHeartbeats 4000000
set_option maxRecDepth 100000
namespace Go.Proofs.YtnpblpbohcegoaaGreatDoor
namespace vnd
open book (Ev ev0 Cm cm0 So so0 Sees)
open acc (Ac Tm Bi)
open ora (Pr)
open cell (Wr RowU RowW)
open rcp (Rc rc0)
open Go.RowKit
theorem served2 {w:World} (K:KvRekey w) (t:Tm) (pt:Option Addr) (lt ct:Nat) (a:Option Addr) (n cap:Nat) (c:List Int) (ao:Option Addr) (no ko:Nat) (o:List Pr) (x:Od) (ht:acc.TCame w t pt lt ct) (h:Dk w a n cap c) (ho:ora.Came w ao no ko o) (hx:wf5 x) (hk:check.pick x.k 8=2):Calls Tryz.prog 21 #[.agg #[.slice pt lt ct,zI t.ff,zI t.fb,zI t.db,zI t.al,.slice a n cap,.slice ao no ko],.agg #[zI x.k,zI x.m,zI x.a,zI x.b,zI x.d]] w fun e w'=>ServePost w ao no (ServedIs t c o x) e w':=by
 have HT:Hid (∀ W,Below w.heap.size w W→acc.TCame W t pt lt ct):=fun W hW=>ht.below hW;have HC:Hid (∀ W,Below w.heap.size w W→Dk W a n cap c):=fun W hW=>h.below hW;have HO:Hid (∀ W,Below w.heap.size w W→ora.Came W ao no ko o):=fun W hW=>ho.below hW;have HKK:Hid (KvRekey w):=K;have HPM:Hid (∀ W,Calls Tryz.prog 18 #[zI x.m,zI 3] W fun e w'=>e = .returned (zI (check.pick x.m 3))∧w'=W):=fun W=>check.picked_any x.m 3 W hx.2.1 (by decide) (by decide);have HPD:Hid (∀ W,Calls Tryz.prog 18 #[zI x.d,zI 65536] W fun e w'=>e = .returned (zI (check.pick x.d 65536))∧w'=W):=fun W=>check.picked_any x.d 65536 W hx.2.2.2.2 (by decide) (by decide);have HPK:Hid (∀ W,Calls Tryz.prog 18 #[zI x.k,zI 8] W fun e w'=>e = .returned (zI (check.pick x.k 8))∧w'=W):=fun W=>check.picked_any x.k 8 W hx.1 (by decide) (by decide);clear h ht ho K hx;obtain ⟨W0,HWW,H0s,H0x,H0r,H0p,H0B,hs0⟩:=sh4 w #[.slice pt lt ct,zI t.ff,zI t.fb,zI t.db,zI t.al,.slice a n cap,.slice ao no ko] 41 #[zI x.k,zI x.m,zI x.a,zI x.b,zI x.d] 75 #[zS] 39 #[zI 0,zI 0,zI 0,zI 0,zI 0,zI 0,zI 0,zI 0,.string ⟨#[]⟩] 78;go_enter Tryz.func21,Tryz.ntmps21;go_upto_region 1 with fail
 rw [HWW.o];clear HWW;have qx1:W0.cell? ⟨w.heap.size+1,1,none⟩=some (zI x.m):=H0x.o.cell 1;go_wp2_with fail;refine (HPM.o _).mono ?_;rintro e wz ⟨rfl,hwz⟩;subst wz;clear HPM qx1;have qx4:W0.cell? ⟨w.heap.size+1,4,none⟩=some (zI x.d):=H0x.o.cell 4;go_wp2_with fail;refine (HPD.o _).mono ?_;rintro e wz ⟨rfl,hwz⟩;subst wz;clear HPD qx4;have qx0:W0.cell? ⟨w.heap.size+1,0,none⟩=some (zI x.k):=H0x.o.cell 0;go_wp2_with fail;refine (HPK.o _).mono ?_;rintro e wz ⟨rfl,hwz⟩;subst wz;clear HPK qx0;have t0:(check.pick x.k 8 == 0)=false:=by rw [hk];rfl
 have t1:(check.pick x.k 8 == 1)=false:=by rw [hk];rfl
 have t2:(check.pick x.k 8 == 2)=true:=by rw [hk];rfl
 have HSI:Hid (∀ ls o2 r f,TokIs 4 t c o (check.pick x.m 3) 0 0 (check.pick x.d 65536) ls o2 r f→ServedIs t c o x ls o2 r f):=fun ls o2 r f hh=> .inr (.inr (.inl ⟨hk,hh⟩));have bm:=And.intro (check.pick_nonneg x.m 3 (by decide)) (check.pick_lt x.m 3 (by decide));have bd:=And.intro (check.pick_nonneg x.d 65536 (by decide)) (check.pick_lt x.d 65536 (by decide));clear hk;generalize check.pick x.k 8=kk at *;generalize check.pick x.m 3=me at *;generalize check.pick x.d 65536=dr at *;have HKL:Hid (∀ W,Below W0.heap.size W0 W→Calls Tryz.prog 44 #[.agg #[.slice pt lt ct,zI t.ff,zI t.fb,zI t.db,zI t.al],.slice a n cap,.agg #[.slice ao no ko],zI me,zI dr] W fun e w'=>TokGot W (TokIs 4 t c o me 0 0 dr) e w'):=fun W hW=>HKK.o W t pt lt ct a n cap c ao no ko o me dr (bel_step H0B.o hW) (HT.o _ (bel_step H0B.o hW)) (HC.o _ (bel_step H0B.o hW)) (HO.o _ (bel_step H0B.o hW)) (tar.wf_mid (by omega) (by omega)) (tar.wf_mid (by omega) (by omega));clear HKK HT HC HO;obtain ⟨qs0,qs1,qs2,qs3,qs4,qs5,qs6⟩:=scl7 H0s;go_wp2_with fail;clear qs0 qs1 qs2 qs3 qs4 qs5 qs6;refine (HKL.o _ (Below.refl _ _)).mono ?_;rintro e w1 ⟨p,m,cp,ls,p5,n5,c5,o2,r,f,rfl,hri,hrw,hnw,hle,hm,hrp,hnl,hcp,hnp,hb⟩;have H1s:=shN H0s hb;have H1x:=shN H0x hb;have H1r:=shN H0r hb;have H1p:=shN H0p hb;have H1B:=shB H0B hb;have hsw1:W0.heap.size≤w1.heap.size:=hb.size;clear hb H0s H0x H0r H0p H0B;unfold rcp.Rc.v rcp.Rc.cs;have HWW0:Hid (RowW w1 p m ls):=hrw;have HPP0:Hid (ora.RowP w1 p5 n5 o2):=hrp;have HV:Hid (ServedIs t c o x ls o2 r f):=HSI.o _ _ _ _ hri;have HNN:Hid ((∀ y,p=some y→W0.heap.size≤y.block)∧(∀ y,p5=some y→W0.heap.size≤y.block)∧(p5=none→c5=0)):=⟨hnw,hnp,hnl⟩
 clear hri hrw hrp hnw hnp hnl HKL HSI;have H2Q:Hid (Below w1.heap.size w1 w1):=Below.refl _ _;obtain ⟨wc,HWW,H3a,H3m,H3Q,-⟩:=sh2 w1 #[.slice p5 n5 c5] 39 #[zI r.me,zI r.id,zI r.te,zI r.de,zI r.fe,zI r.pr,zI r.ch,zI r.un,.string ⟨r.tk.toArray⟩] 78;have H3s:=shN H1s H3Q.o;have H3x:=shN H1x H3Q.o;have H3r:=shN H1r H3Q.o;have H3p:=shN H1p H3Q.o;have H3B:=shB H1B H3Q.o;go_upto_region 12 with fail
 clear H1s H1x H1r H1p H2Q H1B;rw [HWW.o];clear HWW;have HWW:Hid (RowW wc p m ls):=HWW0.o.below H3Q.o;have HPP:Hid (ora.RowP wc p5 n5 o2):=HPP0.o.below H3Q.o;have hg1:W0.heap.size≤w1.heap.size:=by omega
 go_wp2_with fail;refine wp_region_held_drew (S:=fun v=>Blk v (w1.heap.size) #[.slice p5 n5 c5] 39∧Blk v (w1.heap.size+1) #[zI r.me,zI r.id,zI r.te,zI r.de,zI r.fe,zI r.pr,zI r.ch,zI r.un,.string ⟨r.tk.toArray⟩] 78) (by kernel_rfl) ⟨Blk.drew H3a.o 1,Blk.drew H3m.o 1⟩ (fun hHeld=>?_);refine zqs 0 96 (.slice p m cp) rfl rfl (by kernel_rfl) zid rfl (fun v hv=>by clear hv;go_simp) hHeld ?_;simp only [zq];refine zqt 1 97 (.agg #[.slice p5 n5 c5]) rfl rfl (by kernel_rfl) zid (Or.inl ⟨by rfl,fun v hv=>by have g0:=hv.1.cell 0;clear hv;go_simp⟩) hHeld ?_;simp only [zq];refine zqt 2 98 (.agg #[zI r.me,zI r.id,zI r.te,zI r.de,zI r.fe,zI r.pr,zI r.ch,zI r.un,.string ⟨r.tk.toArray⟩]) rfl rfl (by kernel_rfl) zid (Or.inl ⟨by rfl,fun v hv=>by have g0:=hv.2.cell 0;have g1:=hv.2.cell 1;have g2:=hv.2.cell 2;have g3:=hv.2.cell 3;have g4:=hv.2.cell 4;have g5:=hv.2.cell 5;have g6:=hv.2.cell 6;have g7:=hv.2.cell 7;have g8:=hv.2.cell 8;clear hv;go_simp⟩) hHeld ?_;simp only [zq];refine zqs 3 99 (zI f) rfl rfl (by kernel_rfl) zid rfl (fun v hv=>by clear hv;go_simp) hHeld ?_;simp only [zq];refine zqs 4 4 (.slice p m cp) rfl rfl (by kernel_rfl) zid rfl (fun v hv=>by clear hv;go_simp) hHeld ?_;simp only [zq];refine zqo 5 (by kernel_rfl) rfl (fun K hK=>?_);rw [if_pos (by rfl)];refine wp_letOp 39 _ _ rfl (w.heap.size+1+1) rfl #[.slice p5 n5 c5] rfl (by kernel_rfl) (by simp [Value.oneCell']) #[zS] 39 (Blk.drew H3r.o 1) rfl rfl ?_;intro V1 hU;have H4s:Hid (Blk V1 (w.heap.size) #[.slice pt lt ct,zI t.ff,zI t.fb,zI t.db,zI t.al,.slice a n cap,.slice ao no ko] 41):=hU.keep (Blk.drew H3s.o 1) (by omega);have H4x:Hid (Blk V1 (w.heap.size+1) #[zI x.k,zI x.m,zI x.a,zI x.b,zI x.d] 75):=hU.keep (Blk.drew H3x.o 1) (by omega);have H4r:Hid (Blk V1 (w.heap.size+1+1) #[.slice p5 n5 c5] 39):=hU.blk;have H4p:Hid (Blk V1 (w.heap.size+1+1+1) #[zI 0,zI 0,zI 0,zI 0,zI 0,zI 0,zI 0,zI 0,.string ⟨#[]⟩] 78):=hU.keep (Blk.drew H3p.o 1) (by omega)
 have H4a:Hid (Blk V1 (w1.heap.size) #[.slice p5 n5 c5] 39):=hU.keep (Blk.drew H3a.o 1) (by omega);have H4m:Hid (Blk V1 (w1.heap.size+1) #[zI r.me,zI r.id,zI r.te,zI r.de,zI r.fe,zI r.pr,zI r.ch,zI r.un,.string ⟨r.tk.toArray⟩] 78):=hU.keep (Blk.drew H3m.o 1) (by omega);have HRW1:Hid (RowW V1 p m ls):=rowW_updK (HWW.o.below (bel_drew (Below.refl _ _) 1)) hU (fun hn y hy=>by have:=HNN.o.1 y hy;omega);have HRP1:Hid (ora.RowP V1 p5 n5 o2):=rowP_updK (HPP.o.below (bel_drew (Below.refl _ _) 1)) hU (fun hn y hy=>by have:=HNN.o.2.1 y hy;omega);have H4B:Hid (Below w.heap.size w V1):=hU.bel _ _ (by omega) H3B.o.drew;clear hU H3s H3x H3r H3p H3a H3m H3B;refine hK.o _ _ ⟨H4a.o,H4m.o⟩ (fun hHeld=>?_);clear hK K;refine zqo 6 (by kernel_rfl) rfl (fun K hK=>?_);rw [if_pos (by rfl)];refine wp_letOp 78 _ _ rfl (w.heap.size+1+1+1) rfl #[zI r.me,zI r.id,zI r.te,zI r.de,zI r.fe,zI r.pr,zI r.ch,zI r.un,.string ⟨r.tk.toArray⟩] rfl (by kernel_rfl) (by simp [Value.oneCell']) #[zI 0,zI 0,zI 0,zI 0,zI 0,zI 0,zI 0,zI 0,.string ⟨#[]⟩] 78 H4p.o rfl rfl ?_;intro V2 hU;have H5s:=shK hU H4s (by omega);have H5x:=shK hU H4x (by omega);have H5r:=shK hU H4r (by omega);have H5p:Hid (Blk V2 (w.heap.size+1+1+1) #[zI r.me,zI r.id,zI r.te,zI r.de,zI r.fe,zI r.pr,zI r.ch,zI r.un,.string ⟨r.tk.toArray⟩] 78):=hU.blk;have H5a:=shK hU H4a (by omega);have H5m:=shK hU H4m (by omega);have HRW2:Hid (RowW V2 p m ls):=rowW_updK HRW1.o hU (fun hn y hy=>by have:=HNN.o.1 y hy;omega);have HRP2:Hid (ora.RowP V2 p5 n5 o2):=rowP_updK HRP1.o hU (fun hn y hy=>by have:=HNN.o.2.1 y hy;omega);have H5B:=shV hU H4B (by omega);clear hU H4s H4x H4r H4p H4a H4m H4B;refine hK.o _ _ ⟨H5a.o,H5m.o⟩ (fun hHeld=>?_);clear hK K;refine zqs 7 7 (zI f) rfl rfl (by kernel_rfl) zid rfl (fun v hv=>by clear hv;go_simp) hHeld ?_;simp only [zq];refine wpAnyH_done (by kernel_rfl) ?_ _;clear hHeld;have Rr0:Hid (V2.cell? ⟨w.heap.size+1+1,0,none⟩=some (.slice p5 n5 c5)):=H5r.o.cell 0
 obtain ⟨Rp0,Rp1,Rp2,Rp3,Rp4,Rp5,Rp6,Rp7,Rp8⟩:=shc9 H5p;go_wp2_with fail;exact bodyPost_ret (v:= .tuple #[.slice p m cp,.agg #[.slice p5 n5 c5],.agg #[zI r.me,zI r.id,zI r.te,zI r.de,zI r.fe,zI r.pr,zI r.ch,zI r.un,.string ⟨r.tk.toArray⟩],zI f]) (by simp [results,Tryz.results21,Rr0.o,Rp0.o,Rp1.o,Rp2.o,Rp3.o,Rp4.o,Rp5.o,Rp6.o,Rp7.o,Rp8.o,go_sem]) rfl ⟨p,m,cp,ls,p5,n5,c5,o2,r,f,rfl,HV.o,HRW2.o,(fun y hy=>by have:=HNN.o.1 y hy;omega),(by omega),(by omega),HRP2.o,HNN.o.2.2,(by omega),(fun _ y hy=> .inl (by have:=HNN.o.2.1 y hy;omega)),H5B.o⟩
end vnd
namespace acc
open tar (Du du0 Came RowD Ld PairT)
open Go.RowKit
theorem powe1 (B0 g:Nat) (x:Ac) (p:Option Addr) (len cap:Nat) (q:Du) (w:World) (hB0:Blk w B0 #[zI q.a,zI q.b] 70) (hw:Blk w g (wcs x bi0 p len cap) 252) (hl:Ld 70 w (g+1) (.slice p len cap) x.ds) (ha:AMay x):Calls Tryz.prog 118 #[.pointer (some ⟨g,0,none⟩),.pointer (some ⟨B0,0,none⟩)] w fun e w'=>WPost w g (Or0 (fun y _ f=>OweIs x q y f)) e w':=by
 have HIN:Hid (Calls Tryz.prog 119 #[.pointer (some ⟨g,0,none⟩),.agg #[zI q.a,zI q.b]] w fun e w'=>WPost w g (Or0 (fun y _ f=>OweIs x q y f)) e w'):=powe g x p len cap q w hw hl ha;have HK0:Hid (Blk w B0 #[zI q.a,zI q.b] 70):=hB0;clear hw ha hl;go_enter Tryz.func118,Tryz.ntmps118;go_wp2_with (first | (refine zqw rfl rfl rfl HK0 zqu70 ?_) | fail)
 refine HIN.o.mono ?_;rintro e w1 hx;have HX:Hid (WPost w g (Or0 (fun y _ f=>OweIs x q y f)) e w1):=hx;obtain ⟨y,b,q2,n,c,f,rfl,_⟩:=hx;clear HIN;go_wp2_with fail;go_ret;exact HX.o
theorem kowe:KcOwe:=by
 intro w x p len cap q ha hq;unfold Ac.v Ac.cs;obtain ⟨W0,HWW,H0d,H0e,H0r,H0B,hs0⟩:=sh3 w #[zI x.me,zI x.rv,zI x.nx,zI x.mo,zI x.bo,zI x.fr,.slice p len cap] 51 #[zI q.a,zI q.b] 70 #[zI 0,zI 0,zI 0,zI 0,zI 0,zI 0,zS] 51;have H0R:Hid (Came W0 p len cap x.ds):=ha.ds.below H0B.o;go_enter Tryz.func75,Tryz.ntmps75;go_upto_region 1 with fail
 rw [HWW.o];clear HWW;have HXe:Hid (∀ W,Below W0.heap.size W0 W→Blk W (w.heap.size+1) #[zI q.a,zI q.b] 70):=fun W hW=>H0e.o.next hW
 have HWK:Hid (Calls Tryz.prog 117 #[.agg #[zI x.me,zI x.rv,zI x.nx,zI x.mo,zI x.bo,zI x.fr,.slice p len cap],.func (.func 118) #[] #[.pointer (some ⟨w.heap.size+1,0,none⟩)]] W0 fun e w'=>BPost W0 (fun y _ f=>OweIs x q y f) e w'):=by
  refine pwork 118 #[.pointer (some ⟨w.heap.size+1,0,none⟩)] (fun y _ f=>OweIs x q y f) x p len cap W0 H0R.o (fun h=> .inl ⟨h,rfl,rfl⟩) (fun _ _=>by kernel_rfl) ?_;intro hm W g p' cap' hB hg hblk hld;exact powe1 _ g x p' len cap' q W (HXe.o W hB) hblk hld hm
 clear ha HXe
 go_wp2_with (first
  | (refine zqw rfl rfl rfl H0d zqu51 ?_)
  | (refine zqw rfl rfl rfl H0e zqu70 ?_)
  | (refine zqw rfl rfl rfl H0r zqu51 ?_)
  | fail)
 refine HWK.o.mono ?_;rintro e w1 ⟨b,l,pr,lr,cr,fz,rfl,hi,hf,hb1⟩;have H1d:=shN H0d hb1;have H1e:=shN H0e hb1;have H1r:=shN H0r hb1;have H1R:Hid (Came w1 p len cap x.ds):=H0R.o.below hb1;have H1B:=shB H0B hb1;have hsw1:W0.heap.size≤w1.heap.size:=hb1.size;clear hb1 H0d H0e H0r H0R H0B;unfold Ac.v Ac.cs Bi.v;clear HWK;have H2F:Hid (deb.Fresh w1 W0.heap.size pr lr cr b.ds):=hf;have HUPF:Hid (0<lr→∀ y,pr=some y→y.block<w1.heap.size):=came_lt H2F.o.came;have HV:Hid (OweIs x q b fz):=hi;clear hf hi;obtain ⟨W4,HWW,H3n,H3c,HBB,hsW4⟩:=sh2 w1 #[zI b.me,zI b.rv,zI b.nx,zI b.mo,zI b.bo,zI b.fr,.slice pr lr cr] 51 #[zI l.id,zI l.te,zI l.de,zI l.fe,zI l.pr,zI l.ch,zI l.un] 68;have H3d:=shN H1d HBB.o;have H3e:=shN H1e HBB.o;have H3r:=shN H1r HBB.o;have H3F:Hid (deb.Fresh W4 W0.heap.size pr lr cr b.ds):=H2F.o.below HBB.o;have H3B:=shB H1B HBB.o;clear H1d H1e H1r H2F H1B;go_upto_region 2 with fail
 rw [HWW.o];clear HWW HBB
 go_wp2_with (first
  | (refine zql rfl rfl rfl rfl zqu51 (by simp [Value.oneCell']) H3r rfl ?_)
  | (refine zqw rfl rfl rfl H3d zqu51 ?_)
  | (refine zqw rfl rfl rfl H3e zqu70 ?_)
  | (refine zqw rfl rfl rfl H3r zqu51 ?_)
  | (refine zqw rfl rfl rfl H3n zqu51 ?_)
  | (refine zqw rfl rfl rfl H3c zqu68 ?_)
  | fail)
 intro W5 hU;have H4d:=shK hU H3d (by omega);have H4e:=shK hU H3e (by omega);have H4r:Hid (Blk W5 (w.heap.size+1+1) #[zI b.me,zI b.rv,zI b.nx,zI b.mo,zI b.bo,zI b.fr,.slice pr lr cr] 51):=hU.blk;have H4n:=shK hU H3n (by omega);have H4c:=shK hU H3c (by omega);have H4F:Hid (deb.Fresh W5 W0.heap.size pr lr cr b.ds):=fresh_updN H3F.o hU (fun hn y hy=>by have f1:=H3F.o.new hn y hy;have f2:=HUPF.o hn y hy;omega);have H4B:=shV hU H3B (by omega);have hsW5:W5.heap.size=W4.heap.size:=hU.size;clear hU H3d H3e H3r H3n H3c H3F H3B;obtain ⟨Rr0,Rr1,Rr2,Rr3,Rr4,Rr5,Rr6⟩:=shc7 H4r;go_wp2_with fail;exact bodyPost_ret (v:= .tuple #[.agg #[zI b.me,zI b.rv,zI b.nx,zI b.mo,zI b.bo,zI b.fr,.slice pr lr cr],zI fz]) (by simp [results,Tryz.results75,Rr0.o,Rr1.o,Rr2.o,Rr3.o,Rr4.o,Rr5.o,Rr6.o,go_sem]) rfl ⟨b,pr,lr,cr,fz,rfl,HV.o,H4F.o.low (by omega),H4B.o⟩
end acc
namespace book
open Go.RowKit
open acc (Ac Tm Bi APost BPost TFault TRight OpenIs OweIs SellIs GrantIs RekeyIs wf6 ACame TCame fresh_updN fresh_drew came_lt)
def OwPost (w:World) (x:Ac) (d:tar.Du) (e:Ending) (w':World):Prop:=Below w.heap.size w w'∧((∃ b pb lb cb,e = .returned (acc.Ac.v b pb lb cb)∧OweIs x d b 0∧deb.Fresh w' w.heap.size pb lb cb b.ds)∨∃ b f,f≠0∧e = .panicked (thrown f)∧OweIs x d b f)
theorem bowing (x:Ac) (p:Option Addr) (len cap:Nat) (d:tar.Du) (w:World) (ha:ACame w x p len cap) (hd:(Lit.int .i64 d.a).wf=true∧(Lit.int .i64 d.b).wf=true):Calls Tryz.prog 72 #[.agg #[zI x.me,zI x.rv,zI x.nx,zI x.mo,zI x.bo,zI x.fr,.slice p len cap],.agg #[zI d.a,zI d.b]] w fun e w'=>OwPost w x d e w':=by
 have HNO:Hid (∀ (f:Int) (hf:f≠0) W,Calls Tryz.prog 112 #[zI f] W fun e w'=>e = .panicked (thrown f)∧w'=W):=fun f hf W=>insist_no f hf W;have HOK:Hid (∀ W,Calls Tryz.prog 112 #[zI 0] W fun e w'=>e = .returned (.tuple #[])∧w'=W):=fun W=>insist_ok W;obtain ⟨W0,HWW,H0a,H0d,H0r,H0B,hs0⟩:=sh3 w #[zI x.me,zI x.rv,zI x.nx,zI x.mo,zI x.bo,zI x.fr,.slice p len cap] 51 #[zI d.a,zI d.b] 70 #[zI 0,zI 0,zI 0,zI 0,zI 0,zI 0,zS] 51;have H0A:Hid (ACame W0 x p len cap):=ha.below H0B.o;go_enter Tryz.func72,Tryz.ntmps72;go_upto_region 1 with fail
 rw [HWW.o];clear HWW;have HSL:Hid (Calls Tryz.prog 75 #[.agg #[zI x.me,zI x.rv,zI x.nx,zI x.mo,zI x.bo,zI x.fr,.slice p len cap],.agg #[zI d.a,zI d.b]] W0 fun e w'=>APost W0 (OweIs x d) e w'):=acc.kowe _ x p len cap d H0A.o hd;clear hd ha;have HS0:Hid (w.heap.size≤W0.heap.size):=H0B.o.size
 go_wp2_with (first
  | (refine zqw rfl rfl rfl H0a zqu51 ?_)
  | (refine zqw rfl rfl rfl H0d zqu70 ?_)
  | (refine zqw rfl rfl rfl H0r zqu51 ?_)
  | fail)
 refine HSL.o.mono ?_;rintro e w1 ⟨b,pb,lb,cb,f,rfl,hi,hf,hb1⟩;have hW1:W0.heap.size≤w1.heap.size:=hb1.size;have HI:Hid (OweIs x d b f):=hi;have HF1:Hid (deb.Fresh w1 W0.heap.size pb lb cb b.ds):=hf;have H1a:=shN H0a hb1;have H1d:=shN H0d hb1;have H1r:=shN H0r hb1;have H1B:=shB H0B hb1;clear H0a H0d H0r H0B;clear hi hf hb1 HSL;unfold acc.Ac.v acc.Ac.cs
 go_wp2_with (first
  | (refine zql rfl rfl rfl rfl zqu51 (by simp [Value.oneCell']) H1a rfl ?_)
  | (refine zqw rfl rfl rfl H1a zqu51 ?_)
  | (refine zqw rfl rfl rfl H1d zqu70 ?_)
  | (refine zqw rfl rfl rfl H1r zqu51 ?_)
  | fail)
 intro V1 hU;have H2a:Hid (Blk V1 (w.heap.size) #[zI b.me,zI b.rv,zI b.nx,zI b.mo,zI b.bo,zI b.fr,.slice pb lb cb] 51):=hU.blk;have H2d:=shK hU H1d (by omega);have H2r:=shK hU H1r (by omega);have H2B:=shV hU H1B (by omega);clear H1a H1d H1r H1B;have HF2:Hid (deb.Fresh V1 W0.heap.size pb lb cb b.ds):=fresh_updN HF1.o hU (fun hn y hy=>by have f1:=HF1.o.new hn y hy;omega);clear hU HF1;by_cases h0:f=0
 case neg=>
  have HN1:=HNO.o f h0;have HN2:Hid (∀ W,Calls Tryz.prog 112 #[zI f] W fun e w'=>e = .panicked (thrown f)∧w'=W):=HN1;have HNE:Hid (f≠0):=h0;clear HN1 HNO h0
  go_wp2_with (first
   | (refine zqw rfl rfl rfl H2a zqu51 ?_)
   | (refine zqw rfl rfl rfl H2d zqu70 ?_)
   | (refine zqw rfl rfl rfl H2r zqu51 ?_)
   | fail)
  refine (HN2.o _).mono ?_;rintro e W9 ⟨rfl,rfl⟩;exact ⟨rfl,H2B.o,.inr ⟨b,f,HNE.o,rfl,HI.o⟩⟩
 subst h0
 go_wp2_with (first
  | (refine zqw rfl rfl rfl H2a zqu51 ?_)
  | (refine zqw rfl rfl rfl H2d zqu70 ?_)
  | (refine zqw rfl rfl rfl H2r zqu51 ?_)
  | fail)
 refine (HOK.o _).mono ?_;rintro e W9 ⟨rfl,hw9⟩;obtain rfl:V1=W9:=hw9.symm
 go_wp2_with (first
  | (refine zql rfl rfl rfl rfl zqu51 (by simp [Value.oneCell']) H2r rfl ?_)
  | (refine zqw rfl rfl rfl H2a zqu51 ?_)
  | (refine zqw rfl rfl rfl H2d zqu70 ?_)
  | (refine zqw rfl rfl rfl H2r zqu51 ?_)
  | fail)
 intro V2 hU;have H3a:=shK hU H2a (by omega);have H3d:=shK hU H2d (by omega);have H3r:Hid (Blk V2 (w.heap.size+1+1) #[zI b.me,zI b.rv,zI b.nx,zI b.mo,zI b.bo,zI b.fr,.slice pb lb cb] 51):=hU.blk;have H3B:=shV hU H2B (by omega);clear H2a H2d H2r H2B;have HF3:Hid (deb.Fresh V2 W0.heap.size pb lb cb b.ds):=fresh_updN HF2.o hU (fun hn y hy=>by have f1:=HF2.o.new hn y hy;omega);clear hU HF2;obtain ⟨R0,R1,R2,R3,R4,R5,R6⟩:=shc7 H3r;go_wp2_with fail;exact bodyPost_ret (v:= .agg #[zI b.me,zI b.rv,zI b.nx,zI b.mo,zI b.bo,zI b.fr,.slice pb lb cb]) (by simp [results,Tryz.results72,R0.o,R1.o,R2.o,R3.o,R4.o,R5.o,R6.o,go_sem]) rfl ⟨H3B.o,.inl ⟨b,pb,lb,cb,rfl,HI.o,HF3.o.low HS0.o⟩⟩
end book
namespace token
open words
open Go.RowKit
theorem words_no (c i a t:Int) (w:World) (ht:TTab w) (h:flawT c i a t≠0) :
  Calls Tryz.prog 52 #[.agg #[zI c,zI i,zI a,zI t]] w fun e w'=>e = .returned (.tuple #[.agg #[.int .u32 0,.int .u32 0,.int .u32 0],zI (flawT c i a t)])∧Below w.heap.size w w':=by
 have HF:Hid (∀ W,TTab W→Calls Tryz.prog 85 #[.agg #[zI c,zI i,zI a,zI t]] W fun e w'=>e = .returned (zI (flawT c i a t))∧Below W.heap.size W w'):=fun W hW=>flaw_any c i a t W hW;have hd:(flawT c i a t != 0)=true:=by simpa using h
 have hb0:Below w.heap.size w ((w.alloc (.cells #[zI c,zI i,zI a,zI t] 96)).alloc (.cells #[.int .u32 0,.int .u32 0,.int .u32 0] 131)):=(bel_box _ _).alloc (by simp) _;have HB:Hid (Below w.heap.size w ((w.alloc (.cells #[zI c,zI i,zI a,zI t] 96)).alloc (.cells #[.int .u32 0,.int .u32 0,.int .u32 0] 131))):=hb0;have HT:Hid (TTab ((w.alloc (.cells #[zI c,zI i,zI a,zI t] 96)).alloc (.cells #[.int .u32 0,.int .u32 0,.int .u32 0] 131))):=ht.below hb0;have HX:Hid (Blk ((w.alloc (.cells #[zI c,zI i,zI a,zI t] 96)).alloc (.cells #[.int .u32 0,.int .u32 0,.int .u32 0] 131)) (w.heap.size+1) #[.int .u32 0,.int .u32 0,.int .u32 0] 131):=Blk.new1 _ _ _ _;clear ht h hb0;generalize flawT c i a t=f at *;go_enter Tryz.func52,Tryz.ntmps52;go_wp2_with fail;refine (HF.o _ HT.o).mono ?_;rintro e w1 ⟨rfl,hb1⟩;have hX:=HX.o.next hb1;have hB1:=bel_step HB.o hb1;have HB1:Hid (Below w.heap.size w (((w1.setCell ⟨w.heap.size+1,0,none⟩ (.int .u32 0)).setCell ⟨w.heap.size+1,1,none⟩ (.int .u32 0)).setCell ⟨w.heap.size+1,2,none⟩ (.int .u32 0))):=bel_set (bel_set (bel_set hB1 _ _ _ (by omega)) _ _ _ (by omega)) _ _ _ (by omega);have RR:Blk (((w1.setCell ⟨w.heap.size+1,0,none⟩ (.int .u32 0)).setCell ⟨w.heap.size+1,1,none⟩ (.int .u32 0)).setCell ⟨w.heap.size+1,2,none⟩ (.int .u32 0)) (w.heap.size+1) #[.int .u32 0,.int .u32 0,.int .u32 0] 131:=((hX.set 0 _).set 1 _).set 2 _;have R0:Hid (_=_):=RR.cell 0;have R1:Hid (_=_):=RR.cell 1;have R2:Hid (_=_):=RR.cell 2;have x0:=hX.cell 0;have x1:=hX.cell 1;have x2:=hX.cell 2;have f0:=hX.free 0;have f1:=hX.free 1;have f2:=hX.free 2;clear hb1 HF HB HT HX hX RR hB1;go_wp2_with fail;refine bodyPost_ret (v:= .tuple #[.agg #[.int .u32 0,.int .u32 0,.int .u32 0],zI f]) (by simp [results,Tryz.results52,R0.o,R1.o,R2.o,go_sem]) rfl ⟨rfl,HB1.o⟩
def WordsPost (w:World) (k:Tok) (e:Ending) (w':World):Prop:=∃ a b c:Nat,e = .returned (.tuple #[.agg #[.int .u32 (a:Int),.int .u32 (b:Int),.int .u32 (c:Int)],zI 0])∧WN a b c (k.num*97)∧Below w.heap.size w w'
theorem words_ok (k:Tok) (w:World) (ht:TTab w) (hk:k.ok) :
  Calls Tryz.prog 52 #[k.v] w fun e w'=>WordsPost w k e w':=by
 have HF:Hid (∀ W,TTab W→Calls Tryz.prog 85 #[.agg #[zI (k.c:Int),zI (k.i:Int),zI (k.a:Int),zI (k.t:Int)]] W fun e w'=>e = .returned (zI 0)∧Below W.heap.size W w'):=fun W hW=>by
  have:=flaw_any k.c k.i k.a k.t W hW
  rwa [flaw_tok.2 hk] at this
 have HP:Hid (∀ W,TTab W→Calls Tryz.prog 87 #[.agg #[zI (k.c:Int),zI (k.i:Int),zI (k.a:Int),zI (k.t:Int)]] W fun e w'=>PackPost W k e w'):=fun W hW=>pack_any k W hk hW
 have HQ:Hid (∀ (x y z:Nat) W,WN x y z k.num→Calls Tryz.prog 86 #[.agg #[.int .u32 (x:Int),.int .u32 (y:Int),.int .u32 (z:Int)],.int .u32 97] W fun e w'=>∃ (a' b' c':Nat) (o:Int),e = .returned (.tuple #[.agg #[.int .u32 (a':Int),.int .u32 (b':Int),.int .u32 (c':Int)],.int .u32 o])∧WN a' b' c' (k.num*97)∧Below W.heap.size W w'):=fun x y z W hW=>
  times_wn x y z k.num 97 W hW (by omega) (by have:=num_bd hk;omega)
 have hb0:Below w.heap.size w ((w.alloc (.cells #[zI (k.c:Int),zI (k.i:Int),zI (k.a:Int),zI (k.t:Int)] 96)).alloc (.cells #[.int .u32 0,.int .u32 0,.int .u32 0] 131)):=(bel_box _ _).alloc (by simp) _;have HB:Hid (Below w.heap.size w ((w.alloc (.cells #[zI (k.c:Int),zI (k.i:Int),zI (k.a:Int),zI (k.t:Int)] 96)).alloc (.cells #[.int .u32 0,.int .u32 0,.int .u32 0] 131))):=hb0;have HT:Hid (TTab ((w.alloc (.cells #[zI (k.c:Int),zI (k.i:Int),zI (k.a:Int),zI (k.t:Int)] 96)).alloc (.cells #[.int .u32 0,.int .u32 0,.int .u32 0] 131))):=ht.below hb0;have HR:Hid (Blk ((w.alloc (.cells #[zI (k.c:Int),zI (k.i:Int),zI (k.a:Int),zI (k.t:Int)] 96)).alloc (.cells #[.int .u32 0,.int .u32 0,.int .u32 0] 131)) (w.heap.size+1) #[.int .u32 0,.int .u32 0,.int .u32 0] 131):=Blk.new1 _ _ _ _;have HX:Hid (Blk ((w.alloc (.cells #[zI (k.c:Int),zI (k.i:Int),zI (k.a:Int),zI (k.t:Int)] 96)).alloc (.cells #[.int .u32 0,.int .u32 0,.int .u32 0] 131)) w.heap.size #[zI (k.c:Int),zI (k.i:Int),zI (k.a:Int),zI (k.t:Int)] 96):=(Blk.new _ _ _).alloc _;clear ht hk hb0;unfold Tok.v;go_enter Tryz.func52,Tryz.ntmps52;go_wp2_with fail;refine (HF.o _ HT.o).mono ?_;rintro e w1 ⟨rfl,hb1⟩;have HB1:=shB HB hb1;have HT1:Hid (TTab w1):=HT.o.below hb1;have HR1:=shN HR hb1;have hX:=HX.o.next hb1;have x0:=hX.cell 0;have x1:=hX.cell 1;have x2:=hX.cell 2;have x3:=hX.cell 3;clear hb1 HF HB HT HX hX HR;go_wp2_with fail;refine (HP.o _ HT1.o).mono ?_;rintro e w2 ⟨x,y,z,rfl,hwn,hb2⟩;have HB2:=shB HB1 hb2;have HR2:=shN HR1 hb2;have HN:Hid (WN x y z k.num):=hwn;clear hb2 hwn HB1 HT1 HP x0 x1 x2 x3 HR1;go_wp2_with fail;refine (HQ.o _ _ _ _ HN.o).mono ?_;rintro e w3 ⟨a',b',c',o,rfl,hwn,hb3⟩;have hB3:=(bel_step HB2.o hb3).alloc (bel_step HB2.o hb3).size (.cells #[.int .u32 (a':Int),.int .u32 (b':Int),.int .u32 (c':Int)] 131);have hR3:=(HR2.o.next hb3).alloc (.cells #[.int .u32 (a':Int),.int .u32 (b':Int),.int .u32 (c':Int)] 131)
 have HN3:Hid (WN a' b' c' (k.num*97)):=hwn;clear hb3 HB2 HQ HR2 HN hwn;have HB4:Hid (Below w.heap.size w ((((w3.alloc (.cells #[.int .u32 (a':Int),.int .u32 (b':Int),.int .u32 (c':Int)] 131)).setCell ⟨w.heap.size+1,0,none⟩ (.int .u32 (a':Int))).setCell ⟨w.heap.size+1,1,none⟩ (.int .u32 (b':Int))).setCell ⟨w.heap.size+1,2,none⟩ (.int .u32 (c':Int)))):=bel_set (bel_set (bel_set hB3 _ _ _ (by omega)) _ _ _ (by omega)) _ _ _ (by omega);have RR:Blk ((((w3.alloc (.cells #[.int .u32 (a':Int),.int .u32 (b':Int),.int .u32 (c':Int)] 131)).setCell ⟨w.heap.size+1,0,none⟩ (.int .u32 (a':Int))).setCell ⟨w.heap.size+1,1,none⟩ (.int .u32 (b':Int))).setCell ⟨w.heap.size+1,2,none⟩ (.int .u32 (c':Int))) (w.heap.size+1) #[.int .u32 (a':Int),.int .u32 (b':Int),.int .u32 (c':Int)] 131:=((hR3.set 0 _).set 1 _).set 2 _;have R0:Hid (_=_):=RR.cell 0;have R1:Hid (_=_):=RR.cell 1;have R2:Hid (_=_):=RR.cell 2;have x0:=hR3.cell 0;have x1:=hR3.cell 1;have x2:=hR3.cell 2;have f0:=hR3.free 0;have f1:=hR3.free 1;have f2:=hR3.free 2;clear RR hR3 hB3;go_wp2_with fail;refine bodyPost_ret (v:= .tuple #[.agg #[.int .u32 (a':Int),.int .u32 (b':Int),.int .u32 (c':Int)],zI 0]) (by simp [results,Tryz.results52,R0.o,R1.o,R2.o,go_sem]) rfl ⟨a',b',c',rfl,HN3.o,HB4.o⟩
theorem str_list (ns:List Int):(strOf ns).data.toList=ns.map byt:=by
 have h:∀ (ns:List Int) (r:ByteArray),(ns.foldl (fun r n=>r.push (UInt8.ofNat n.toNat)) r).data.toList=r.data.toList++ns.map byt:=by
  intro ns
  induction ns with
  | nil=>intro r;simp
  | cons x l ih=>intro r;rw [List.foldl_cons,ih];simp [ByteArray.push,byt]
 have:=h ns ByteArray.empty;simpa [strOf] using this
theorem str_size (ns:List Int):(strOf ns).size=ns.length:=by
 rw [← check.len_eq,str_list];simp
theorem rep_list (n:Nat):Lib.repeatL [48] n=List.replicate n 48:=by
 induction n with
 | zero=>rfl
 | succ n ih=>rw [Lib.repeatL,ih];rfl
theorem bytes_ext {a b:ByteArray} (h:a.data.toList=b.data.toList):a=b:=by
 cases a;cases b;congr 1;exact Array.toList_inj.1 h
theorem pad_fmt (V n:Nat) (h:n+(decL V).length=20):(⟨(Lib.repeatL [48] n).toArray⟩:ByteArray)++strOf (decL V)=fmtB V:=by
 apply bytes_ext;rw [fmtB_list,show ((⟨(Lib.repeatL [48] n).toArray⟩:ByteArray)++strOf (decL V)).data.toList=Lib.repeatL [48] n++(strOf (decL V)).data.toList by simp,str_list,rep_list];unfold fmtL;rw [show 20 - (decL V).length=n by omega]
theorem show_wn (a b c V:Nat) (w:World) (h:WN a b c V) :
  Calls Tryz.prog 53 #[.agg #[.int .u32 (a:Int),.int .u32 (b:Int),.int .u32 (c:Int)]] w fun e w'=>e = .returned (.string (strOf (decL V)))∧Below w.heap.size w w':=by
 have hk:=wn_ok h;have:=show_any ⟨a,b,c⟩ w hk.1
 rwa [hk.2,Int.toNat_natCast] at this
theorem format_ok (k:Tok) (w:World) (ht:TTab w) (hk:k.ok) :
  Calls Tryz.prog 27 #[k.v] w fun e w'=>e = .returned (.tuple #[.string (fmtB (97*k.num)),zI 0])∧Below w.heap.size w w':=by
 have HF:Hid (∀ W,TTab W→Calls Tryz.prog 52 #[.agg #[zI (k.c:Int),zI (k.i:Int),zI (k.a:Int),zI (k.t:Int)]] W fun e w'=>WordsPost W k e w'):=fun W hW=>words_ok k W hW hk;have hnb:=num_bd hk;have hln:=dec_len20 (V:=k.num*97) (by omega);have hsz:=str_size (decL (k.num*97));have HSh:Hid (∀ (a b c:Nat) W,WN a b c (k.num*97)→Calls Tryz.prog 53 #[.agg #[.int .u32 (a:Int),.int .u32 (b:Int),.int .u32 (c:Int)]] W fun e w'=>e = .returned (.string (strOf (decL (k.num*97))))∧Below W.heap.size W w'):=fun a b c W hW=>show_wn a b c _ W hW;obtain ⟨n,hn⟩:∃ n:Nat,n+(decL (k.num*97)).length=20:=⟨20 - (decL (k.num*97)).length,by omega⟩
 have HRp:Hid (∀ W,Calls Tryz.prog 54 #[.string ⟨#[48]⟩,zI (n:Int)] W fun e w'=>e = .returned (.string ⟨(Lib.repeatL [48] n).toArray⟩)∧Below W.heap.size W w'):=fun W=>Tryz.strings_Repeat ⟨#[48]⟩ n W (by omega) (by show 1*n≤_;omega)
 have HX:Hid ((⟨(Lib.repeatL [48] n).toArray⟩:ByteArray)++strOf (decL (k.num*97))=fmtB (97*k.num)):=by
  show _=_;rw [pad_fmt _ _ hn,Nat.mul_comm]
 have hzz:(⟨(Lib.repeatL [48] n).toArray⟩:ByteArray).size=n:=by
  show (Lib.repeatL [48] n).toArray.size=n;rw [rep_list];simp
 have HT:Hid (TTab (w.alloc (.cells #[zI (k.c:Int),zI (k.i:Int),zI (k.a:Int),zI (k.t:Int)] 96))):=ht.below (bel_box _ _);have HB:Hid (Below w.heap.size w (w.alloc (.cells #[zI (k.c:Int),zI (k.i:Int),zI (k.a:Int),zI (k.t:Int)] 96))):=bel_box _ _;rw [← hsz] at hn hln;clear ht hk hnb hsz;generalize strOf (decL (k.num*97))=D at *;generalize (⟨(Lib.repeatL [48] n).toArray⟩:ByteArray)=Z at *;have hds:(20:Int) - (D.size:Int)=(n:Int):=by omega
 unfold Tok.v;go_enter Tryz.func27,Tryz.ntmps27;go_wp2_with fail;refine (HF.o _ HT.o).mono ?_;rintro e w1 ⟨a,b,c,rfl,hwn,hb1⟩;have hN:=Blk.new w1 #[.int .u32 (a:Int),.int .u32 (b:Int),.int .u32 (c:Int)] 131;have HB1:Hid (Below w.heap.size w (w1.alloc (.cells #[.int .u32 (a:Int),.int .u32 (b:Int),.int .u32 (c:Int)] 131))):=(bel_step HB.o hb1).alloc (bel_step HB.o hb1).size _;have HW:Hid (WN a b c (k.num*97)):=hwn;have c0:=hN.cell 0;have c1:=hN.cell 1;have c2:=hN.cell 2;clear hb1 HF HB HT hwn hN;go_wp2_with fail;refine (HSh.o _ _ _ _ HW.o).mono ?_;rintro e w2 ⟨rfl,hb2⟩;have HB2:=shB HB1 hb2;clear hb2 HSh HB1 HW c0 c1 c2;go_wp2_with fail;refine (HRp.o _).mono ?_;rintro e w3 ⟨rfl,hb3⟩;have HB3:=shB HB2 hb3;clear hb3 HRp HB2;go_wp2_with fail;refine bodyPost_ret (v:= .tuple #[.string (Z++D),zI 0]) (by simp [results,Tryz.results27,go_sem]) rfl ⟨by rw [HX.o],HB3.o⟩
end token
end Go.Proofs.YtnpblpbohcegoaaGreatDoor
