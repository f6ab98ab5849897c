import Derived.Test.YtnpblpbohcegoaaGreatDoorVVCut22
import Derived.Test.YtnpblpbohcegoaaGreatDoorVVCut25
import Derived.Test.YtnpblpbohcegoaaGreatDoorVVCut27
set_option linter.unusedVariables false
set_option linter.unusedSimpArgs false
set_option maxHeartbeats 4000000
set_option maxRecDepth 100000
namespace Go.Proofs.YtnpblpbohcegoaaGreatDoor
namespace vnd
open book (Ev ev0 Cm cm0 So so0 Sees)
open acc (Ac Tm Bi)
open ora (Pr)
open cell (Wr RowU RowW)
open rcp (Rc rc0)
open Go.RowKit
theorem served2 {w:World} (K:KvRekey w) (t:Tm) (pt:Option Addr) (lt ct:Nat) (a:Option Addr) (n cap:Nat) (c:List Int) (ao:Option Addr) (no ko:Nat) (o:List Pr) (x:Od) (ht:acc.TCame w t pt lt ct) (h:Dk w a n cap c) (ho:ora.Came w ao no ko o) (hx:wf5 x) (hk:check.pick x.k 8=2):Calls Tryz.prog 21 #[.agg #[.slice pt lt ct,zI t.ff,zI t.fb,zI t.db,zI t.al,.slice a n cap,.slice ao no ko],.agg #[zI x.k,zI x.m,zI x.a,zI x.b,zI x.d]] w fun e w'=>ServePost w ao no (ServedIs t c o x) e w':=by
 have HT:Hid (∀ W,Below w.heap.size w W→acc.TCame W t pt lt ct):=fun W hW=>ht.below hW;have HC:Hid (∀ W,Below w.heap.size w W→Dk W a n cap c):=fun W hW=>h.below hW;have HO:Hid (∀ W,Below w.heap.size w W→ora.Came W ao no ko o):=fun W hW=>ho.below hW;have HKK:Hid (KvRekey w):=K;have HPM:Hid (∀ W,Calls Tryz.prog 18 #[zI x.m,zI 3] W fun e w'=>e = .returned (zI (check.pick x.m 3))∧w'=W):=fun W=>check.picked_any x.m 3 W hx.2.1 (by decide) (by decide);have HPD:Hid (∀ W,Calls Tryz.prog 18 #[zI x.d,zI 65536] W fun e w'=>e = .returned (zI (check.pick x.d 65536))∧w'=W):=fun W=>check.picked_any x.d 65536 W hx.2.2.2.2 (by decide) (by decide);have HPK:Hid (∀ W,Calls Tryz.prog 18 #[zI x.k,zI 8] W fun e w'=>e = .returned (zI (check.pick x.k 8))∧w'=W):=fun W=>check.picked_any x.k 8 W hx.1 (by decide) (by decide);clear h ht ho K hx;obtain ⟨W0,HWW,H0s,H0x,H0r,H0p,H0B,hs0⟩:=sh4 w #[.slice pt lt ct,zI t.ff,zI t.fb,zI t.db,zI t.al,.slice a n cap,.slice ao no ko] 41 #[zI x.k,zI x.m,zI x.a,zI x.b,zI x.d] 75 #[zS] 39 #[zI 0,zI 0,zI 0,zI 0,zI 0,zI 0,zI 0,zI 0,.string ⟨#[]⟩] 78;go_enter Tryz.func21,Tryz.ntmps21;go_upto_region 1 with fail
 rw [HWW.o];clear HWW;have qx1:W0.cell? ⟨w.heap.size+1,1,none⟩=some (zI x.m):=H0x.o.cell 1;go_wp2_with fail;refine (HPM.o _).mono ?_;rintro e wz ⟨rfl,hwz⟩;subst wz;clear HPM qx1;have qx4:W0.cell? ⟨w.heap.size+1,4,none⟩=some (zI x.d):=H0x.o.cell 4;go_wp2_with fail;refine (HPD.o _).mono ?_;rintro e wz ⟨rfl,hwz⟩;subst wz;clear HPD qx4;have qx0:W0.cell? ⟨w.heap.size+1,0,none⟩=some (zI x.k):=H0x.o.cell 0;go_wp2_with fail;refine (HPK.o _).mono ?_;rintro e wz ⟨rfl,hwz⟩;subst wz;clear HPK qx0;have t0:(check.pick x.k 8 == 0)=false:=by rw [hk];rfl
 have t1:(check.pick x.k 8 == 1)=false:=by rw [hk];rfl
 have t2:(check.pick x.k 8 == 2)=true:=by rw [hk];rfl
 have HSI:Hid (∀ ls o2 r f,TokIs 4 t c o (check.pick x.m 3) 0 0 (check.pick x.d 65536) ls o2 r f→ServedIs t c o x ls o2 r f):=fun ls o2 r f hh=> .inr (.inr (.inl ⟨hk,hh⟩));have bm:=And.intro (check.pick_nonneg x.m 3 (by decide)) (check.pick_lt x.m 3 (by decide));have bd:=And.intro (check.pick_nonneg x.d 65536 (by decide)) (check.pick_lt x.d 65536 (by decide));clear hk;generalize check.pick x.k 8=kk at *;generalize check.pick x.m 3=me at *;generalize check.pick x.d 65536=dr at *;have HKL:Hid (∀ W,Below W0.heap.size W0 W→Calls Tryz.prog 44 #[.agg #[.slice pt lt ct,zI t.ff,zI t.fb,zI t.db,zI t.al],.slice a n cap,.agg #[.slice ao no ko],zI me,zI dr] W fun e w'=>TokGot W (TokIs 4 t c o me 0 0 dr) e w'):=fun W hW=>HKK.o W t pt lt ct a n cap c ao no ko o me dr (bel_step H0B.o hW) (HT.o _ (bel_step H0B.o hW)) (HC.o _ (bel_step H0B.o hW)) (HO.o _ (bel_step H0B.o hW)) (tar.wf_mid (by omega) (by omega)) (tar.wf_mid (by omega) (by omega));clear HKK HT HC HO;obtain ⟨qs0,qs1,qs2,qs3,qs4,qs5,qs6⟩:=scl7 H0s;go_wp2_with fail;clear qs0 qs1 qs2 qs3 qs4 qs5 qs6;refine (HKL.o _ (Below.refl _ _)).mono ?_;rintro e w1 ⟨p,m,cp,ls,p5,n5,c5,o2,r,f,rfl,hri,hrw,hnw,hle,hm,hrp,hnl,hcp,hnp,hb⟩;have H1s:=shN H0s hb;have H1x:=shN H0x hb;have H1r:=shN H0r hb;have H1p:=shN H0p hb;have H1B:=shB H0B hb;have hsw1:W0.heap.size≤w1.heap.size:=hb.size;clear hb H0s H0x H0r H0p H0B;unfold rcp.Rc.v rcp.Rc.cs;have HWW0:Hid (RowW w1 p m ls):=hrw;have HPP0:Hid (ora.RowP w1 p5 n5 o2):=hrp;have HV:Hid (ServedIs t c o x ls o2 r f):=HSI.o _ _ _ _ hri;have HNN:Hid ((∀ y,p=some y→W0.heap.size≤y.block)∧(∀ y,p5=some y→W0.heap.size≤y.block)∧(p5=none→c5=0)):=⟨hnw,hnp,hnl⟩
 clear hri hrw hrp hnw hnp hnl HKL HSI;have H2Q:Hid (Below w1.heap.size w1 w1):=Below.refl _ _;obtain ⟨wc,HWW,H3a,H3m,H3Q,-⟩:=sh2 w1 #[.slice p5 n5 c5] 39 #[zI r.me,zI r.id,zI r.te,zI r.de,zI r.fe,zI r.pr,zI r.ch,zI r.un,.string ⟨r.tk.toArray⟩] 78;have H3s:=shN H1s H3Q.o;have H3x:=shN H1x H3Q.o;have H3r:=shN H1r H3Q.o;have H3p:=shN H1p H3Q.o;have H3B:=shB H1B H3Q.o;go_upto_region 12 with fail
 clear H1s H1x H1r H1p H2Q H1B;rw [HWW.o];clear HWW;have HWW:Hid (RowW wc p m ls):=HWW0.o.below H3Q.o;have HPP:Hid (ora.RowP wc p5 n5 o2):=HPP0.o.below H3Q.o;have hg1:W0.heap.size≤w1.heap.size:=by omega
 go_wp2_with fail;refine wp_region_held_drew (S:=fun v=>Blk v (w1.heap.size) #[.slice p5 n5 c5] 39∧Blk v (w1.heap.size+1) #[zI r.me,zI r.id,zI r.te,zI r.de,zI r.fe,zI r.pr,zI r.ch,zI r.un,.string ⟨r.tk.toArray⟩] 78) (by kernel_rfl) ⟨Blk.drew H3a.o 1,Blk.drew H3m.o 1⟩ (fun hHeld=>?_);refine zqs 0 96 (.slice p m cp) rfl rfl (by kernel_rfl) zid rfl (fun v hv=>by clear hv;go_simp) hHeld ?_;simp only [zq];refine zqt 1 97 (.agg #[.slice p5 n5 c5]) rfl rfl (by kernel_rfl) zid (Or.inl ⟨by rfl,fun v hv=>by have g0:=hv.1.cell 0;clear hv;go_simp⟩) hHeld ?_;simp only [zq];refine zqt 2 98 (.agg #[zI r.me,zI r.id,zI r.te,zI r.de,zI r.fe,zI r.pr,zI r.ch,zI r.un,.string ⟨r.tk.toArray⟩]) rfl rfl (by kernel_rfl) zid (Or.inl ⟨by rfl,fun v hv=>by have g0:=hv.2.cell 0;have g1:=hv.2.cell 1;have g2:=hv.2.cell 2;have g3:=hv.2.cell 3;have g4:=hv.2.cell 4;have g5:=hv.2.cell 5;have g6:=hv.2.cell 6;have g7:=hv.2.cell 7;have g8:=hv.2.cell 8;clear hv;go_simp⟩) hHeld ?_;simp only [zq];refine zqs 3 99 (zI f) rfl rfl (by kernel_rfl) zid rfl (fun v hv=>by clear hv;go_simp) hHeld ?_;simp only [zq];refine zqs 4 4 (.slice p m cp) rfl rfl (by kernel_rfl) zid rfl (fun v hv=>by clear hv;go_simp) hHeld ?_;simp only [zq];refine zqo 5 (by kernel_rfl) rfl (fun K hK=>?_);rw [if_pos (by rfl)];refine wp_letOp 39 _ _ rfl (w.heap.size+1+1) rfl #[.slice p5 n5 c5] rfl (by kernel_rfl) (by simp [Value.oneCell']) #[zS] 39 (Blk.drew H3r.o 1) rfl rfl ?_;intro V1 hU;have H4s:Hid (Blk V1 (w.heap.size) #[.slice pt lt ct,zI t.ff,zI t.fb,zI t.db,zI t.al,.slice a n cap,.slice ao no ko] 41):=hU.keep (Blk.drew H3s.o 1) (by omega);have H4x:Hid (Blk V1 (w.heap.size+1) #[zI x.k,zI x.m,zI x.a,zI x.b,zI x.d] 75):=hU.keep (Blk.drew H3x.o 1) (by omega);have H4r:Hid (Blk V1 (w.heap.size+1+1) #[.slice p5 n5 c5] 39):=hU.blk;have H4p:Hid (Blk V1 (w.heap.size+1+1+1) #[zI 0,zI 0,zI 0,zI 0,zI 0,zI 0,zI 0,zI 0,.string ⟨#[]⟩] 78):=hU.keep (Blk.drew H3p.o 1) (by omega)
 have H4a:Hid (Blk V1 (w1.heap.size) #[.slice p5 n5 c5] 39):=hU.keep (Blk.drew H3a.o 1) (by omega);have H4m:Hid (Blk V1 (w1.heap.size+1) #[zI r.me,zI r.id,zI r.te,zI r.de,zI r.fe,zI r.pr,zI r.ch,zI r.un,.string ⟨r.tk.toArray⟩] 78):=hU.keep (Blk.drew H3m.o 1) (by omega);have HRW1:Hid (RowW V1 p m ls):=rowW_updK (HWW.o.below (bel_drew (Below.refl _ _) 1)) hU (fun hn y hy=>by have:=HNN.o.1 y hy;omega);have HRP1:Hid (ora.RowP V1 p5 n5 o2):=rowP_updK (HPP.o.below (bel_drew (Below.refl _ _) 1)) hU (fun hn y hy=>by have:=HNN.o.2.1 y hy;omega);have H4B:Hid (Below w.heap.size w V1):=hU.bel _ _ (by omega) H3B.o.drew;clear hU H3s H3x H3r H3p H3a H3m H3B;refine hK.o _ _ ⟨H4a.o,H4m.o⟩ (fun hHeld=>?_);clear hK K;refine zqo 6 (by kernel_rfl) rfl (fun K hK=>?_);rw [if_pos (by rfl)];refine wp_letOp 78 _ _ rfl (w.heap.size+1+1+1) rfl #[zI r.me,zI r.id,zI r.te,zI r.de,zI r.fe,zI r.pr,zI r.ch,zI r.un,.string ⟨r.tk.toArray⟩] rfl (by kernel_rfl) (by simp [Value.oneCell']) #[zI 0,zI 0,zI 0,zI 0,zI 0,zI 0,zI 0,zI 0,.string ⟨#[]⟩] 78 H4p.o rfl rfl ?_;intro V2 hU;have H5s:=shK hU H4s (by omega);have H5x:=shK hU H4x (by omega);have H5r:=shK hU H4r (by omega);have H5p:Hid (Blk V2 (w.heap.size+1+1+1) #[zI r.me,zI r.id,zI r.te,zI r.de,zI r.fe,zI r.pr,zI r.ch,zI r.un,.string ⟨r.tk.toArray⟩] 78):=hU.blk;have H5a:=shK hU H4a (by omega);have H5m:=shK hU H4m (by omega);have HRW2:Hid (RowW V2 p m ls):=rowW_updK HRW1.o hU (fun hn y hy=>by have:=HNN.o.1 y hy;omega);have HRP2:Hid (ora.RowP V2 p5 n5 o2):=rowP_updK HRP1.o hU (fun hn y hy=>by have:=HNN.o.2.1 y hy;omega);have H5B:=shV hU H4B (by omega);clear hU H4s H4x H4r H4p H4a H4m H4B;refine hK.o _ _ ⟨H5a.o,H5m.o⟩ (fun hHeld=>?_);clear hK K;refine zqs 7 7 (zI f) rfl rfl (by kernel_rfl) zid rfl (fun v hv=>by clear hv;go_simp) hHeld ?_;simp only [zq];refine wpAnyH_done (by kernel_rfl) ?_ _;clear hHeld;have Rr0:Hid (V2.cell? ⟨w.heap.size+1+1,0,none⟩=some (.slice p5 n5 c5)):=H5r.o.cell 0
 obtain ⟨Rp0,Rp1,Rp2,Rp3,Rp4,Rp5,Rp6,Rp7,Rp8⟩:=shc9 H5p;go_wp2_with fail;exact bodyPost_ret (v:= .tuple #[.slice p m cp,.agg #[.slice p5 n5 c5],.agg #[zI r.me,zI r.id,zI r.te,zI r.de,zI r.fe,zI r.pr,zI r.ch,zI r.un,.string ⟨r.tk.toArray⟩],zI f]) (by simp [results,Tryz.results21,Rr0.o,Rp0.o,Rp1.o,Rp2.o,Rp3.o,Rp4.o,Rp5.o,Rp6.o,Rp7.o,Rp8.o,go_sem]) rfl ⟨p,m,cp,ls,p5,n5,c5,o2,r,f,rfl,HV.o,HRW2.o,(fun y hy=>by have:=HNN.o.1 y hy;omega),(by omega),(by omega),HRP2.o,HNN.o.2.2,(by omega),(fun _ y hy=> .inl (by have:=HNN.o.2.1 y hy;omega)),H5B.o⟩
open disk (RepIs AppIs May repD lenAt appW)
open book (EMay evL evOf EncIs DecIs BookIs FirstAt NoneAt Tells billOf soldOf StepIs HapIs)
open acc (SellIs GrantIs RekeyIs OweIs)
open ora (IssueIs)
open cell (wrt)
def Three (bk:List Cm):Prop:=bk.length=3∧∀ i,i<3→(bk.getD i cm0).a.me=(i:Int)
theorem three_set {t:Tm} {bk:List Cm} {v:Ev} {k:Nat} {x:Cm} (h:Three bk) (hs:StepIs t bk v (bk.set k x) 0):Three (bk.set k x):=by
 have hg:=step_grows hs;refine ⟨by rw [List.length_set];exact h.1,fun i hi=>?_⟩;rw [(hg.2 i (by rw [h.1];exact hi)).1];exact h.2 i hi
theorem app_ne (c:List Int) (e:Nat) (v:Ev):appW c e (evL v)≠[]:=fun h=>by
 have:=disk.app_len c e (evL v);rw [h,book.evL_len] at this;simp only [List.length_nil] at this;split at this <;> omega
structure Stepped (t:Tm) (c:List Int) (n:Nat) (l:List Ev) (bk:List Cm) (v:Ev) (bk':List Cm) (ls:List Wr):Prop where
 ev:EMay v
 step:StepIs t bk v bk' 0
 keep:KeepIs c v ls 0
 some:ls≠[]
 whole:Shop t (wrt c ls) n (l++[v]) bk'
 torn:∀ k,k<ls.length→Shop t (wrt c (ls.take k)) n l bk
theorem stepped {t:Tm} {c:List Int} {n:Nat} {l:List Ev} {bk bk':List Cm} {v:Ev} {ls:List Wr} (h:Shop t c n l bk) (hn:l.length<120) (hf:14*l.length+13<n) (hv:EMay v) (hs:StepIs t bk v bk' 0) (hk:KeepIs c v ls 0):Stepped t c n l bk v bk' ls:=by
 obtain ⟨e,h1,h2⟩:=h.next hn hf hv hs hk;exact ⟨hv,hs,hk,by rw [e];exact app_ne _ _ _,h1,h2⟩
theorem serve_step {t:Tm} {c:List Int} {n:Nat} {l:List Ev} {bk:List Cm} {o:List Pr} {x:Od} {ls:List Wr} {o':List Pr} {r:Rc} (h:Shop t c n l bk) (h3:Three bk) (hn:l.length<120) (hf:14*l.length+13<n) (hs:ServedIs t c o x ls o' r 0):∃ v bk',Stepped t c n l bk v bk' ls∧Three bk':=by
 rcases hs with ⟨_,hc,_,_⟩ | ⟨_,hc⟩ | ⟨_,hc⟩ | ⟨_,hc⟩
 ·obtain ⟨k,b,_,hv,hst,hke⟩:=cha_step h.load hc;exact ⟨_,_,stepped h hn hf hv hst hke,three_set h3 hst⟩
 ·obtain ⟨k,b,l2,tg,_,_,_,hv,hst,hke,_⟩:=tok_step (.inr (.inl rfl)) h.load hc;exact ⟨_,_,stepped h hn hf hv hst hke,three_set h3 hst⟩
 ·obtain ⟨k,b,l2,tg,_,_,_,hv,hst,hke,_⟩:=tok_step (.inr (.inr ⟨rfl,rfl⟩)) h.load hc;exact ⟨_,_,stepped h hn hf hv hst hke,three_set h3 hst⟩
 ·obtain ⟨k,b,l2,tg,_,_,_,hv,hst,hke,_⟩:=tok_step (.inl rfl) h.load hc;exact ⟨_,_,stepped h hn hf hv hst hke,three_set h3 hst⟩
theorem serve_no {t:Tm} {c:List Int} {o:List Pr} {x:Od} {ls:List Wr} {o':List Pr} {r:Rc} {f:Int} (hs:ServedIs t c o x ls o' r f) (hf:f≠0):ls=[]∧r=rc0:=by
 rcases hs with ⟨_,⟨bk,g,_,⟨_,a,_⟩ | ⟨_,_,a,_⟩ | ⟨_,k,b,y,_,_,⟨_,a,_⟩ | ⟨_,a⟩⟩⟩,_,e⟩ | ⟨_,hc⟩ | ⟨_,hc⟩ | ⟨_,hc⟩
 ·exact ⟨a,e⟩
 ·exact ⟨a,e⟩
 ·exact ⟨a,e⟩
 ·exact ⟨a.no hf,e⟩
 ·exact ⟨(tok_no hc hf).1,(tok_no hc hf).2.2⟩
 ·exact ⟨(tok_no hc hf).1,(tok_no hc hf).2.2⟩
 ·exact ⟨(tok_no hc hf).1,(tok_no hc hf).2.2⟩
theorem shop_blank {t:Tm} (ht:acc.TRight t) {n:Nat} (h0:1≤n) (h1:n≤2048):Shop t (List.replicate n 0) n [] []:=
 ⟨List.length_replicate,disk.Tape.blank h0 h1,(fun v hv=>by cases hv),.inr (.inr ⟨ht,by simp,0,fun _=>[],rfl,(fun i hi=>absurd hi (Nat.not_lt_zero _)),.inl ⟨rfl,rfl,rfl,rfl⟩⟩)⟩
def Regs (bk:List Cm) (k:Nat):Prop:=bk.length=k∧∀ i,i<k→(bk.getD i cm0).a.me=(i:Int)
theorem Regs.none {bk:List Cm} {k:Nat} (h:Regs bk k):NoneAt bk (k:Int):=fun j hj=>by
 rw [h.1] at hj;rw [h.2 j hj];omega
theorem Regs.next {bk:List Cm} {k:Nat} (h:Regs bk k) (so:List So):Regs (bk++[⟨⟨(k:Int),0,1,0,0,-1,[]⟩,so⟩]) (k+1):=by
 refine ⟨by rw [List.length_append,h.1];rfl,fun i hi=>?_⟩;by_cases e:i<bk.length
 ·rw [getD_appC _ _ _ e];exact h.2 i (by rw [← h.1];exact e)
 ·obtain rfl:i=bk.length:=by have:=h.1;omega
  have:(bk++[(⟨⟨(k:Int),0,1,0,0,-1,[]⟩,so⟩:Cm)]).getD bk.length cm0=⟨⟨(k:Int),0,1,0,0,-1,[]⟩,so⟩:=by simp [List.getD]
  rw [this];show (k:Int)=_;rw [h.1]
theorem reg_yes {t:Tm} {c:List Int} {n:Nat} {l:List Ev} {bk:List Cm} {k:Nat} {ls:List Wr} {f:Int} (h:Shop t c n l bk) (hr:Regs bk k) (hk:k<50) (hn:l.length<120) (hf:14*l.length+13<n) (hs:RegIs t c (k:Int) ls f):f=0∧Stepped t c n l bk (regE (k:Int)) (bk++[⟨⟨(k:Int),0,1,0,0,-1,[]⟩,[]⟩]) ls:=by
 obtain ⟨bk',g,hl,hh⟩:=hs;obtain ⟨rfl,rfl⟩:=hl.one h.load;rcases hh with ⟨p,_⟩ | ⟨_,p,_⟩ | ⟨_,_,p,_⟩ | ⟨_,hm,hno,hke⟩
 ·exact absurd rfl p
 ·exact absurd ⟨by omega,by omega⟩ p
 ·exact absurd hr.none p
 ·have hev:EMay (regE (k:Int)):=⟨hm,.inl ⟨rfl,rfl,rfl,rfl,rfl,rfl,rfl,rfl,rfl,rfl,rfl,rfl⟩⟩
  obtain ⟨_,rfl⟩:=keep_tape h.tape h.may hev hn (by rw [h.len];exact hf) hke;exact ⟨rfl,stepped h hn hf hev (.inr (.inr (.inl ⟨hev,rfl,hno,rfl,rfl⟩))) hke⟩
end vnd
namespace book
open Go.RowKit
open acc (Ac Tm Bi APost BPost TFault TRight OpenIs OweIs SellIs GrantIs RekeyIs wf6 ACame TCame fresh_updN fresh_drew came_lt)
def OwPost (w:World) (x:Ac) (d:tar.Du) (e:Ending) (w':World):Prop:=Below w.heap.size w w'∧((∃ b pb lb cb,e = .returned (acc.Ac.v b pb lb cb)∧OweIs x d b 0∧deb.Fresh w' w.heap.size pb lb cb b.ds)∨∃ b f,f≠0∧e = .panicked (thrown f)∧OweIs x d b f)
theorem bowing (x:Ac) (p:Option Addr) (len cap:Nat) (d:tar.Du) (w:World) (ha:ACame w x p len cap) (hd:(Lit.int .i64 d.a).wf=true∧(Lit.int .i64 d.b).wf=true):Calls Tryz.prog 72 #[.agg #[zI x.me,zI x.rv,zI x.nx,zI x.mo,zI x.bo,zI x.fr,.slice p len cap],.agg #[zI d.a,zI d.b]] w fun e w'=>OwPost w x d e w':=by
 have HNO:Hid (∀ (f:Int) (hf:f≠0) W,Calls Tryz.prog 112 #[zI f] W fun e w'=>e = .panicked (thrown f)∧w'=W):=fun f hf W=>insist_no f hf W;have HOK:Hid (∀ W,Calls Tryz.prog 112 #[zI 0] W fun e w'=>e = .returned (.tuple #[])∧w'=W):=fun W=>insist_ok W;obtain ⟨W0,HWW,H0a,H0d,H0r,H0B,hs0⟩:=sh3 w #[zI x.me,zI x.rv,zI x.nx,zI x.mo,zI x.bo,zI x.fr,.slice p len cap] 51 #[zI d.a,zI d.b] 70 #[zI 0,zI 0,zI 0,zI 0,zI 0,zI 0,zS] 51;have H0A:Hid (ACame W0 x p len cap):=ha.below H0B.o;go_enter Tryz.func72,Tryz.ntmps72;go_upto_region 1 with fail
 rw [HWW.o];clear HWW;have HSL:Hid (Calls Tryz.prog 75 #[.agg #[zI x.me,zI x.rv,zI x.nx,zI x.mo,zI x.bo,zI x.fr,.slice p len cap],.agg #[zI d.a,zI d.b]] W0 fun e w'=>APost W0 (OweIs x d) e w'):=acc.kowe _ x p len cap d H0A.o hd;clear hd ha;have HS0:Hid (w.heap.size≤W0.heap.size):=H0B.o.size
 go_wp2_with (first
  | (refine zqw rfl rfl rfl H0a zqu51 ?_)
  | (refine zqw rfl rfl rfl H0d zqu70 ?_)
  | (refine zqw rfl rfl rfl H0r zqu51 ?_)
  | fail)
 refine HSL.o.mono ?_;rintro e w1 ⟨b,pb,lb,cb,f,rfl,hi,hf,hb1⟩;have hW1:W0.heap.size≤w1.heap.size:=hb1.size;have HI:Hid (OweIs x d b f):=hi;have HF1:Hid (deb.Fresh w1 W0.heap.size pb lb cb b.ds):=hf;have H1a:=shN H0a hb1;have H1d:=shN H0d hb1;have H1r:=shN H0r hb1;have H1B:=shB H0B hb1;clear H0a H0d H0r H0B;clear hi hf hb1 HSL;unfold acc.Ac.v acc.Ac.cs
 go_wp2_with (first
  | (refine zql rfl rfl rfl rfl zqu51 (by simp [Value.oneCell']) H1a rfl ?_)
  | (refine zqw rfl rfl rfl H1a zqu51 ?_)
  | (refine zqw rfl rfl rfl H1d zqu70 ?_)
  | (refine zqw rfl rfl rfl H1r zqu51 ?_)
  | fail)
 intro V1 hU;have H2a:Hid (Blk V1 (w.heap.size) #[zI b.me,zI b.rv,zI b.nx,zI b.mo,zI b.bo,zI b.fr,.slice pb lb cb] 51):=hU.blk;have H2d:=shK hU H1d (by omega);have H2r:=shK hU H1r (by omega);have H2B:=shV hU H1B (by omega);clear H1a H1d H1r H1B;have HF2:Hid (deb.Fresh V1 W0.heap.size pb lb cb b.ds):=fresh_updN HF1.o hU (fun hn y hy=>by have f1:=HF1.o.new hn y hy;omega);clear hU HF1;by_cases h0:f=0
 case neg=>
  have HN1:=HNO.o f h0;have HN2:Hid (∀ W,Calls Tryz.prog 112 #[zI f] W fun e w'=>e = .panicked (thrown f)∧w'=W):=HN1;have HNE:Hid (f≠0):=h0;clear HN1 HNO h0
  go_wp2_with (first
   | (refine zqw rfl rfl rfl H2a zqu51 ?_)
   | (refine zqw rfl rfl rfl H2d zqu70 ?_)
   | (refine zqw rfl rfl rfl H2r zqu51 ?_)
   | fail)
  refine (HN2.o _).mono ?_;rintro e W9 ⟨rfl,rfl⟩;exact ⟨rfl,H2B.o,.inr ⟨b,f,HNE.o,rfl,HI.o⟩⟩
 subst h0
 go_wp2_with (first
  | (refine zqw rfl rfl rfl H2a zqu51 ?_)
  | (refine zqw rfl rfl rfl H2d zqu70 ?_)
  | (refine zqw rfl rfl rfl H2r zqu51 ?_)
  | fail)
 refine (HOK.o _).mono ?_;rintro e W9 ⟨rfl,hw9⟩;obtain rfl:V1=W9:=hw9.symm
 go_wp2_with (first
  | (refine zql rfl rfl rfl rfl zqu51 (by simp [Value.oneCell']) H2r rfl ?_)
  | (refine zqw rfl rfl rfl H2a zqu51 ?_)
  | (refine zqw rfl rfl rfl H2d zqu70 ?_)
  | (refine zqw rfl rfl rfl H2r zqu51 ?_)
  | fail)
 intro V2 hU;have H3a:=shK hU H2a (by omega);have H3d:=shK hU H2d (by omega);have H3r:Hid (Blk V2 (w.heap.size+1+1) #[zI b.me,zI b.rv,zI b.nx,zI b.mo,zI b.bo,zI b.fr,.slice pb lb cb] 51):=hU.blk;have H3B:=shV hU H2B (by omega);clear H2a H2d H2r H2B;have HF3:Hid (deb.Fresh V2 W0.heap.size pb lb cb b.ds):=fresh_updN HF2.o hU (fun hn y hy=>by have f1:=HF2.o.new hn y hy;omega);clear hU HF2;obtain ⟨R0,R1,R2,R3,R4,R5,R6⟩:=shc7 H3r;go_wp2_with fail;exact bodyPost_ret (v:= .agg #[zI b.me,zI b.rv,zI b.nx,zI b.mo,zI b.bo,zI b.fr,.slice pb lb cb]) (by simp [results,Tryz.results72,R0.o,R1.o,R2.o,R3.o,R4.o,R5.o,R6.o,go_sem]) rfl ⟨H3B.o,.inl ⟨b,pb,lb,cb,rfl,HI.o,HF3.o.low HS0.o⟩⟩
end book
end Go.Proofs.YtnpblpbohcegoaaGreatDoor
