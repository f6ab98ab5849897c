import Derived.Test.YtdpfnedfakgolaaGreatDoorVVPer18
import Derived.Test.YtdpfnedfakgolaaGreatDoorVVPer20
set_option linter.unusedVariables false
set_option linter.unusedSimpArgs false
set_option maxHeartbeats 4000000
set_option maxRecDepth 100000
namespace Go.Proofs.YtdpfnedfakgolaaGreatDoor
namespace vnd
open book (Ev ev0 Cm cm0 So so0 Sees)
open acc (Ac Tm Bi)
open ora (Pr)
open cell (Wr RowU RowW)
open rcp (Rc rc0)
open Go.RowKit
def TokGot (w:World) (R:List Wr→List Pr→Rc→Int→Prop) (e:Ending) (w':World):Prop:=∃ p m cp ls p5 n5 c5 o' r f,e = .returned (.tuple #[.slice p m cp,.agg #[.slice p5 n5 c5],rcp.Rc.v r,zI f])∧R ls o' r f∧RowW w' p m ls∧(∀ x,p=some x→w.heap.size≤x.block)∧m≤cp∧m≤100000∧ora.RowP w' p5 n5 o'∧(p5=none→c5=0)∧n5≤c5∧(∀ y,p5=some y→w.heap.size≤y.block)∧Below w.heap.size w w'
structure Od where
 k:Int
 m:Int
 a:Int
 b:Int
 d:Int
def od0:Od:=⟨0,0,0,0,0⟩
def wf5 (x:Od):Prop:=(Lit.int .i64 x.k).wf=true∧(Lit.int .i64 x.m).wf=true∧(Lit.int .i64 x.a).wf=true∧(Lit.int .i64 x.b).wf=true∧(Lit.int .i64 x.d).wf=true
def ServedIs (t:Tm) (c:List Int) (o:List Pr) (x:Od) (ls:List Wr) (o':List Pr) (r:Rc) (f:Int):Prop:=
 (check.pick x.k 8=0∧ChaIs t c (check.pick x.m 3) (1+check.pick x.a 100000) (check.pick x.b 1000) ls f∧o'=o∧r=rc0) ∨
 (check.pick x.k 8=1∧TokIs 3 t c o (check.pick x.m 3) 0 (check.pick x.b 12) (check.pick x.d 65536) ls o' r f) ∨
 (check.pick x.k 8=2∧TokIs 4 t c o (check.pick x.m 3) 0 0 (check.pick x.d 65536) ls o' r f) ∨
 ((check.pick x.k 8≠0∧check.pick x.k 8≠1∧check.pick x.k 8≠2)∧TokIs 2 t c o (check.pick x.m 3) (1+check.pick x.a 1000000) (check.pick x.b 12) (check.pick x.d 65536) ls o' r f)
def ServePost (w:World) (ao:Option Addr) (no:Nat) (R:List Wr→List Pr→Rc→Int→Prop) (e:Ending) (w':World):Prop:=∃ p m cp ls p5 n5 c5 o' r f,e = .returned (.tuple #[.slice p m cp,.agg #[.slice p5 n5 c5],rcp.Rc.v r,zI f])∧R ls o' r f∧RowW w' p m ls∧(∀ x,p=some x→w.heap.size≤x.block)∧m≤cp∧m≤100000∧ora.RowP w' p5 n5 o'∧(p5=none→c5=0)∧n5≤c5∧(0<n5→∀ y,p5=some y→w.heap.size≤y.block∨(0<no∧ao=some y))∧Below w.heap.size w w'
theorem rowW_updK {w W:World} {g:Nat} {cs:Array Value} {T:TypeId} {p:Option Addr} {n:Nat} {l:List Wr} (h:RowW w p n l) (hU:Upd w W g cs T) (hg:0<n→∀ y,p=some y→y.block≠g):RowW W p n l:=by
 refine ⟨h.1,?_⟩;rcases h.2 with h0 | ⟨b,off,rfl,hc⟩
 ·exact .inl h0
 ·refine .inr ⟨b,off,rfl,fun i hi=>?_⟩;have hne:b≠g:=hg (by omega) _ rfl;rw [hU.cell _ hne rfl,hU.cell _ hne rfl];exact hc i hi
theorem rowW_ltK {w:World} {p:Option Addr} {n:Nat} {l:List Wr} (h:RowW w p n l):0<n→∀ y,p=some y→y.block<w.heap.size:=fun hn y hy=>by
 rcases h.2 with h0 | ⟨b,off,rfl,hc⟩
 ·omega
 ·cases hy;exact World.block_lt_of_cell? w _ (hc 0 hn).1
theorem rowP_ltK {w:World} {p:Option Addr} {n:Nat} {l:List Pr} (h:ora.RowP w p n l):0<n→∀ y,p=some y→y.block<w.heap.size:=fun hn y hy=>by
 obtain ⟨b,off,h8,l8,_⟩:=h.at hn;rw [h8] at hy;cases hy;exact l8
theorem rowP_updK {w W:World} {g:Nat} {cs:Array Value} {T:TypeId} {p:Option Addr} {n:Nat} {l:List Pr} (h:ora.RowP w p n l) (hU:Upd w W g cs T) (hg:0<n→∀ y,p=some y→y.block≠g):ora.RowP W p n l:=by
 refine ⟨h.1,?_⟩;rcases h.2 with h0 | ⟨b,off,rfl,hc⟩
 ·exact .inl h0
 ·refine .inr ⟨b,off,rfl,fun i hi=>?_⟩;have hne:b≠g:=hg (by omega) _ rfl;obtain ⟨h0,h1,h2,h3⟩:=hc i hi;exact ⟨by rw [hU.cell _ hne rfl];exact h0,by rw [hU.cell _ hne rfl];exact h1,by rw [hU.cell _ hne rfl];exact h2,by rw [hU.cell _ hne rfl];exact h3⟩
def KvCha:Prop:=∀ (W:World) (t:Tm) (pt:Option Addr) (lt ct:Nat) (a:Option Addr) (n cap:Nat) (c:List Int) (me:Int) (q:tar.Du),acc.TCame W t pt lt ct→Dk W a n cap c→(Lit.int .i64 me).wf=true→(Lit.int .i64 q.a).wf=true→(Lit.int .i64 q.b).wf=true→Calls Tryz.prog 19 #[t.v pt lt ct,.slice a n cap,zI me,.agg #[zI q.a,zI q.b]] W fun e w'=>WrGot W (ChaIs t c me q.a q.b) e w'
theorem served0 (K:KvCha) (t:Tm) (pt:Option Addr) (lt ct:Nat) (a:Option Addr) (n cap:Nat) (c:List Int) (ao:Option Addr) (no ko:Nat) (o:List Pr) (x:Od) (w:World) (ht:acc.TCame w t pt lt ct) (h:Dk w a n cap c) (ho:ora.Came w ao no ko o) (hx:wf5 x) (hk:check.pick x.k 8=0):Calls Tryz.prog 8 #[.agg #[.slice pt lt ct,zI t.ff,zI t.fb,zI t.db,zI t.al,.slice a n cap,.slice ao no ko],.agg #[zI x.k,zI x.m,zI x.a,zI x.b,zI x.d]] w fun e w'=>ServePost w ao no (ServedIs t c o x) e w':=by
 have HT:Hid (∀ W,Below w.heap.size w W→acc.TCame W t pt lt ct):=fun W hW=>ht.below hW;have HC:Hid (∀ W,Below w.heap.size w W→Dk W a n cap c):=fun W hW=>h.below hW;have HO:Hid (∀ W,Below w.heap.size w W→ora.Came W ao no ko o):=fun W hW=>ho.below hW;have HKK:Hid KvCha:=K;have HPM:Hid (∀ W,Calls Tryz.prog 7 #[zI x.m,zI 3] W fun e w'=>e = .returned (zI (check.pick x.m 3))∧w'=W):=fun W=>check.picked_any x.m 3 W hx.2.1 (by decide) (by decide);have HPD:Hid (∀ W,Calls Tryz.prog 7 #[zI x.d,zI 65536] W fun e w'=>e = .returned (zI (check.pick x.d 65536))∧w'=W):=fun W=>check.picked_any x.d 65536 W hx.2.2.2.2 (by decide) (by decide);have HPK:Hid (∀ W,Calls Tryz.prog 7 #[zI x.k,zI 8] W fun e w'=>e = .returned (zI (check.pick x.k 8))∧w'=W):=fun W=>check.picked_any x.k 8 W hx.1 (by decide) (by decide);have HPA:Hid (∀ W,Calls Tryz.prog 7 #[zI x.a,zI 100000] W fun e w'=>e = .returned (zI (check.pick x.a 100000))∧w'=W):=fun W=>check.picked_any x.a 100000 W hx.2.2.1 (by decide) (by decide);have HPB:Hid (∀ W,Calls Tryz.prog 7 #[zI x.b,zI 1000] W fun e w'=>e = .returned (zI (check.pick x.b 1000))∧w'=W):=fun W=>check.picked_any x.b 1000 W hx.2.2.2.1 (by decide) (by decide);have HLO:Hid (0<no→∀ y,ao=some y→y.block<w.heap.size):=rowP_ltK ho.row;clear h ht ho K hx;obtain ⟨W0,HWW,H0s,H0x,H0r,H0p,H0B,hs0⟩:=sh4 w #[.slice pt lt ct,zI t.ff,zI t.fb,zI t.db,zI t.al,.slice a n cap,.slice ao no ko] 36 #[zI x.k,zI x.m,zI x.a,zI x.b,zI x.d] 27 #[zS] 34 #[zI 0,zI 0,zI 0,zI 0,zI 0,zI 0,zI 0,zI 0,.string ⟨#[]⟩] 50;go_enter Tryz.func8,Tryz.ntmps8;go_upto_region 1 with fail
 rw [HWW.o];clear HWW;have qx1:W0.cell? ⟨w.heap.size+1,1,none⟩=some (zI x.m):=H0x.o.cell 1;go_wp2_with fail;refine (HPM.o _).mono ?_;rintro e wz ⟨rfl,hwz⟩;subst wz;clear HPM qx1;have qx4:W0.cell? ⟨w.heap.size+1,4,none⟩=some (zI x.d):=H0x.o.cell 4;go_wp2_with fail;refine (HPD.o _).mono ?_;rintro e wz ⟨rfl,hwz⟩;subst wz;clear HPD qx4;have qx0:W0.cell? ⟨w.heap.size+1,0,none⟩=some (zI x.k):=H0x.o.cell 0;go_wp2_with fail;refine (HPK.o _).mono ?_;rintro e wz ⟨rfl,hwz⟩;subst wz;clear HPK qx0;have t0:(check.pick x.k 8 == 0)=true:=by rw [hk];rfl
 have HSI:Hid (∀ ls f,ChaIs t c (check.pick x.m 3) (1+check.pick x.a 100000) (check.pick x.b 1000) ls f→ServedIs t c o x ls o rc0 f):=fun ls f hh=> .inl ⟨hk,hh,rfl,rfl⟩;have bm:=And.intro (check.pick_nonneg x.m 3 (by decide)) (check.pick_lt x.m 3 (by decide));have ba:=And.intro (check.pick_nonneg x.a 100000 (by decide)) (check.pick_lt x.a 100000 (by decide));have bb:=And.intro (check.pick_nonneg x.b 1000 (by decide)) (check.pick_lt x.b 1000 (by decide));have hwa:IntKind.i64.wrap (1+check.pick x.a 100000)=1+check.pick x.a 100000:=by rw [IntKind.wrap_i64];omega
 clear hk;generalize check.pick x.k 8=kk at *;generalize check.pick x.m 3=me at *;generalize check.pick x.d 65536=dr at *;generalize check.pick x.a 100000=qa at *;generalize check.pick x.b 1000=qb at *;have f0:(Lit.int .i64 me).wf=true:=tar.wf_mid (by omega) (by omega);have f1:(Lit.int .i64 (1+qa)).wf=true:=tar.wf_mid (by omega) (by omega);have f2:(Lit.int .i64 qb).wf=true:=tar.wf_mid (by omega) (by omega);have HKL:Hid (∀ W,Below W0.heap.size W0 W→Calls Tryz.prog 19 #[.agg #[.slice pt lt ct,zI t.ff,zI t.fb,zI t.db,zI t.al],.slice a n cap,zI me,.agg #[zI (1+qa),zI qb]] W fun e w'=>WrGot W (ChaIs t c me (1+qa) qb) e w'):=fun W hW=>HKK.o W t pt lt ct a n cap c me ⟨1+qa,qb⟩ (HT.o _ (bel_step H0B.o hW)) (HC.o _ (bel_step H0B.o hW)) f0 f1 f2;clear HKK HT HC f0 f1 f2;go_wp2_with fail;have ls0:w.heap.size<W0.heap.size:=H0s.o.lt;have lx0:w.heap.size+1<W0.heap.size:=H0x.o.lt;obtain ⟨z0,z1,z2,z3,z4,z5,z6⟩:=scl7 H0s;have u2:W0.cell? ⟨w.heap.size+1,2,none⟩=some (zI x.a):=H0x.o.cell 2;have u3:W0.cell? ⟨w.heap.size+1,3,none⟩=some (zI x.b):=H0x.o.cell 3;have HB0:Hid (Below W0.heap.size W0 W0.drew):=(Below.refl _ _).drew;refine wp_region_held_drew (S:=fun v=>Below W0.heap.size W0 v) (by kernel_rfl) HB0.o (fun hHeld=>?_);refine zqs 0 36 (.pointer (some ⟨w.heap.size,0,none⟩)) rfl rfl (by kernel_rfl) zid rfl (fun v hv=>by clear hv;go_simp) hHeld ?_;simp only [zq];refine zqt 1 37 (.agg #[.slice pt lt ct,zI t.ff,zI t.fb,zI t.db,zI t.al]) rfl rfl (by kernel_rfl) zid (Or.inl ⟨by rfl,fun v hv=>by have g0:=(hv.cell (p:=⟨w.heap.size,0,none⟩) ls0).trans z0;have g1:=(hv.cell (p:=⟨w.heap.size,1,none⟩) ls0).trans z1;have g2:=(hv.cell (p:=⟨w.heap.size,2,none⟩) ls0).trans z2;have g3:=(hv.cell (p:=⟨w.heap.size,3,none⟩) ls0).trans z3;have g4:=(hv.cell (p:=⟨w.heap.size,4,none⟩) ls0).trans z4;clear hv;go_simp⟩) hHeld ?_;simp only [zq];refine zqs 2 38 (.pointer (some ⟨w.heap.size,5,none⟩)) rfl rfl (by kernel_rfl) zid rfl (fun v hv=>by clear hv;go_simp) hHeld ?_
 simp only [zq];refine zqt 3 39 (.slice a n cap) rfl rfl (by kernel_rfl) zid (Or.inl ⟨by rfl,fun v hv=>by have g5:=(hv.cell (p:=⟨w.heap.size,5,none⟩) ls0).trans z5;clear hv;go_simp⟩) hHeld ?_;simp only [zq];refine zqs 4 40 (zI me) rfl rfl (by kernel_rfl) zid rfl (fun v hv=>by clear hv;go_simp) hHeld ?_;simp only [zq];refine zqs 5 41 (.pointer (some ⟨w.heap.size+1,2,none⟩)) rfl rfl (by kernel_rfl) zid rfl (fun v hv=>by clear hv;go_simp) hHeld ?_;simp only [zq];refine zqt 6 42 (zI x.a) rfl rfl (by kernel_rfl) zid (Or.inl ⟨by rfl,fun v hv=>by have g2:=(hv.cell (p:=⟨w.heap.size+1,2,none⟩) lx0).trans u2;clear hv;go_simp⟩) hHeld ?_;simp only [zq];refine call_at 7 43 (zI qa) _ rfl rfl (by kernel_rfl) (by kernel_rfl) (by kernel_rfl) zid 7 #[zI x.a,zI 100000] ⟨by rfl,fun v hv=>by go_simp⟩ (fun v _=>HPA.o v) hHeld ?_;simp only [zq];refine zqs 8 44 (zI (1+qa)) rfl rfl (by kernel_rfl) zid rfl (fun v hv=>by clear hv;go_simp) hHeld ?_;simp only [zq];refine zqs 9 45 (.pointer (some ⟨w.heap.size+1,3,none⟩)) rfl rfl (by kernel_rfl) zid rfl (fun v hv=>by clear hv;go_simp) hHeld ?_;simp only [zq];refine zqt 10 46 (zI x.b) rfl rfl (by kernel_rfl) zid (Or.inl ⟨by rfl,fun v hv=>by have g3:=(hv.cell (p:=⟨w.heap.size+1,3,none⟩) lx0).trans u3;clear hv;go_simp⟩) hHeld ?_;simp only [zq];refine call_at 11 47 (zI qb) _ rfl rfl (by kernel_rfl) (by kernel_rfl) (by kernel_rfl) zid 7 #[zI x.b,zI 1000] ⟨by rfl,fun v hv=>by go_simp⟩ (fun v _=>HPB.o v) hHeld ?_;simp only [zq];refine zqs 12 48 (.agg #[zI (1+qa),zI qb]) rfl rfl (by kernel_rfl) zid rfl (fun v hv=>by clear hv;go_simp) hHeld ?_;simp only [zq];clear z0 z1 z2 z3 z4 z5 z6 u2 u3;refine zqo 13 (by kernel_rfl) rfl (fun K hK=>?_);rw [if_pos (by rfl)];refine wp_callOp 49 rfl (by clear hK;go_simp) (HKL.o _ HB0.o) ?_;rintro e w1 ⟨p,m,cp,ls,f,rfl,hri,hrw,hnw,hle,hm,hbx⟩;have hb1:Below W0.heap.size W0 w1:=bel_step HB0.o hbx;have HWW:Hid (RowW w1 p m ls):=hrw
 have HV:Hid (ServedIs t c o x ls o rc0 f):=HSI.o _ _ hri;have HNN:Hid (∀ y,p=some y→W0.heap.size≤y.block):=hnw;have H1s:=shN H0s hb1;have H1x:=shN H0x hb1;have H1r:=shN H0r hb1;have H1p:=shN H0p hb1;have H1B:=shB H0B hb1;have HOO:Hid (ora.Came w1 ao no ko o):=HO.o _ H1B.o;have HPP:Hid (ora.RowP w1 ao no o):=HOO.o.row;refine ⟨_,rfl,hK.o _ _ hb1 (fun hHeld=>?_)⟩;clear hK K hbx hri hrw hnw HKL HSI HB0 HO H0s H0x H0r H0p H0B;simp only [zq];refine zqs 14 35 (.tuple #[.slice p m cp,zI f]) rfl rfl (by kernel_rfl) zid rfl (fun v hv=>by clear hv;go_simp) hHeld ?_;simp only [zq];refine zqs 15 50 (.slice p m cp) rfl rfl (by kernel_rfl) zid rfl (fun v hv=>by clear hv;go_simp) hHeld ?_;simp only [zq];refine zqs 16 51 (zI f) rfl rfl (by kernel_rfl) zid rfl (fun v hv=>by clear hv;go_simp) hHeld ?_;simp only [zq];refine zqs 17 10 (.slice p m cp) rfl rfl (by kernel_rfl) zid rfl (fun v hv=>by clear hv;go_simp) hHeld ?_;simp only [zq];refine zqs 18 11 (zI f) rfl rfl (by kernel_rfl) zid rfl (fun v hv=>by clear hv;go_simp) hHeld ?_;simp only [zq];refine wpAnyH_done (by kernel_rfl) ?_ _;clear hHeld hb1;go_wp2_with fail;refine wp_region_held_drew (S:=fun v=>Blk v (w.heap.size) #[.slice pt lt ct,zI t.ff,zI t.fb,zI t.db,zI t.al,.slice a n cap,.slice ao no ko] 36) (by kernel_rfl) (Blk.drew H1s.o 1) (fun hHeld=>?_);refine zqs 0 52 (.slice p m cp) rfl rfl (by kernel_rfl) zid rfl (fun v hv=>by clear hv;go_simp) hHeld ?_;simp only [zq];refine zqs 1 53 (.pointer (some ⟨w.heap.size,6,none⟩)) rfl rfl (by kernel_rfl) zid rfl (fun v hv=>by clear hv;go_simp) hHeld ?_;simp only [zq];refine zqt 2 54 (.agg #[.slice ao no ko]) rfl rfl (by kernel_rfl) zid (Or.inl ⟨by rfl,fun v hv=>by have g0:=hv.cell 6;clear hv;go_simp⟩) hHeld ?_;simp only [zq];refine zqs 3 55 (.agg #[zI 0,zI 0,zI 0,zI 0,zI 0,zI 0,zI 0,zI 0,.string ⟨#[]⟩]) rfl rfl (by kernel_rfl) zid rfl (fun v hv=>by clear hv;go_simp) hHeld ?_;simp only [zq];refine zqs 4 56 (zI f) rfl rfl (by kernel_rfl) zid rfl (fun v hv=>by clear hv;go_simp) hHeld ?_
 simp only [zq];refine zqs 5 4 (.slice p m cp) rfl rfl (by kernel_rfl) zid rfl (fun v hv=>by clear hv;go_simp) hHeld ?_;simp only [zq];refine zqo 6 (by kernel_rfl) rfl (fun K hK=>?_);rw [if_pos (by rfl)];refine wp_letOp 34 _ _ rfl (w.heap.size+1+1) rfl #[.slice ao no ko] rfl (by kernel_rfl) (by simp [Value.oneCell']) #[zS] 34 (Blk.drew H1r.o 1) rfl rfl ?_;intro V1 hU;have H2s:Hid (Blk V1 (w.heap.size) #[.slice pt lt ct,zI t.ff,zI t.fb,zI t.db,zI t.al,.slice a n cap,.slice ao no ko] 36):=hU.keep (Blk.drew H1s.o 1) (by omega);have H2x:Hid (Blk V1 (w.heap.size+1) #[zI x.k,zI x.m,zI x.a,zI x.b,zI x.d] 27):=hU.keep (Blk.drew H1x.o 1) (by omega);have H2r:Hid (Blk V1 (w.heap.size+1+1) #[.slice ao no ko] 34):=hU.blk;have H2p:Hid (Blk V1 (w.heap.size+1+1+1) #[zI 0,zI 0,zI 0,zI 0,zI 0,zI 0,zI 0,zI 0,.string ⟨#[]⟩] 50):=hU.keep (Blk.drew H1p.o 1) (by omega);have HRW1:Hid (RowW V1 p m ls):=rowW_updK (HWW.o.below (bel_drew (Below.refl _ _) 1)) hU (fun hn y hy=>by have:=HNN.o y hy;omega);have HRP1:Hid (ora.RowP V1 ao no o):=rowP_updK (HPP.o.below (bel_drew (Below.refl _ _) 1)) hU (fun hn y hy=>by have:=HLO.o hn y hy;omega);have H2B:Hid (Below w.heap.size w V1):=hU.bel _ _ (by omega) H1B.o.drew;clear hU H1s H1x H1r H1p H1B;refine hK.o _ _ H2s.o (fun hHeld=>?_);clear hK K;refine zqo 7 (by kernel_rfl) rfl (fun K hK=>?_);rw [if_pos (by rfl)];refine wp_letOp 50 _ _ rfl (w.heap.size+1+1+1) rfl #[zI 0,zI 0,zI 0,zI 0,zI 0,zI 0,zI 0,zI 0,.string ⟨#[]⟩] rfl (by kernel_rfl) (by simp [Value.oneCell']) #[zI 0,zI 0,zI 0,zI 0,zI 0,zI 0,zI 0,zI 0,.string ⟨#[]⟩] 50 H2p.o rfl rfl ?_;intro V2 hU;have H3s:=shK hU H2s (by omega);have H3x:=shK hU H2x (by omega);have H3r:=shK hU H2r (by omega);have H3p:Hid (Blk V2 (w.heap.size+1+1+1) #[zI 0,zI 0,zI 0,zI 0,zI 0,zI 0,zI 0,zI 0,.string ⟨#[]⟩] 50):=hU.blk;have HRW2:Hid (RowW V2 p m ls):=rowW_updK HRW1.o hU (fun hn y hy=>by have:=HNN.o y hy;omega)
 have HRP2:Hid (ora.RowP V2 ao no o):=rowP_updK HRP1.o hU (fun hn y hy=>by have:=HLO.o hn y hy;omega);have H3B:=shV hU H2B (by omega);clear hU H2s H2x H2r H2p H2B;refine hK.o _ _ H3s.o (fun hHeld=>?_);clear hK K;refine zqs 8 7 (zI f) rfl rfl (by kernel_rfl) zid rfl (fun v hv=>by clear hv;go_simp) hHeld ?_;simp only [zq];refine wpAnyH_done (by kernel_rfl) ?_ _;clear hHeld;have Rr0:Hid (V2.cell? ⟨w.heap.size+1+1,0,none⟩=some (.slice ao no ko)):=H3r.o.cell 0;obtain ⟨Rp0,Rp1,Rp2,Rp3,Rp4,Rp5,Rp6,Rp7,Rp8⟩:=shc9 H3p;go_wp2_with fail;exact bodyPost_ret (v:= .tuple #[.slice p m cp,.agg #[.slice ao no ko],.agg #[zI 0,zI 0,zI 0,zI 0,zI 0,zI 0,zI 0,zI 0,.string ⟨#[]⟩],zI f]) (by simp [results,Tryz.results8,Rr0.o,Rp0.o,Rp1.o,Rp2.o,Rp3.o,Rp4.o,Rp5.o,Rp6.o,Rp7.o,Rp8.o,go_sem]) rfl ⟨p,m,cp,ls,ao,no,ko,o,rc0,f,rfl,HV.o,HRW2.o,(fun y hy=>by have:=HNN.o y hy;omega),(by omega),(by omega),HRP2.o,HOO.o.nil,HOO.o.le,(fun hn y hy=> .inr ⟨hn,hy⟩),H3B.o⟩
def KvRekey (w0:World):Prop:=∀ (W:World) (t:Tm) (pt:Option Addr) (lt ct:Nat) (a:Option Addr) (n cap:Nat) (c:List Int) (ao:Option Addr) (no ko:Nat) (o:List Pr) (me dr:Int),Below w0.heap.size w0 W→acc.TCame W t pt lt ct→Dk W a n cap c→ora.Came W ao no ko o→(Lit.int .i64 me).wf=true→(Lit.int .i64 dr).wf=true→Calls Tryz.prog 21 #[t.v pt lt ct,.slice a n cap,.agg #[.slice ao no ko],zI me,zI dr] W fun e w'=>TokGot W (TokIs 4 t c o me 0 0 dr) e w'
theorem KvRekey.up {w0 w:World} (K:KvRekey w0) (hb:Below w0.heap.size w0 w):KvRekey w:=fun W t pt lt ct a n cap c ao no ko o me dr hW=>K W t pt lt ct a n cap c ao no ko o me dr (bel_step hb hW)
end vnd
namespace cell
open Go.RowKit
def GaveC (w:World) (zs:List Int) (c:Int) (e:Ending) (w':World):Prop:=
 ∃ a cap,e = .returned (.tuple #[.slice a zs.length cap,zI c])∧RowU w' a zs.length zs∧(a=none→cap=0)∧zs.length≤cap∧Below w.heap.size w w'
theorem GaveC.mk {w w':World} {zs:List Int} {c:Int} {a:Option Addr} {n cap:Nat} (hr:RowU w' a n zs) (hn:a=none→cap=0) (hc:n≤cap) (hb:Below w.heap.size w w'):GaveC w zs c (.returned (.tuple #[.slice a n cap,zI c])) w':=by
 obtain ⟨h1,h2⟩:=hr;subst h1;exact ⟨a,cap,rfl,⟨rfl,h2⟩,hn,hc,hb⟩
end cell
namespace disk
open Go.RowKit cell
theorem blank_cap (n:Nat) (w:World) (h1:1≤n) (h2:n≤2048) :
  Calls Tryz.prog 15 #[zI (n:Int)] w fun e w'=>GaveC w (List.replicate n 0) 0 e w':=by
 have HM:Hid (∀ W,Calls Tryz.prog 38 #[zI (n:Int)] W fun e w'=>e = .returned (.bool true)∧w'=W):=fun W=>may_yes _ W (by omega) (by omega);have hmk:∀ W:World,(Instr.makeSlice 31 (zI (n:Int)) (zI (n:Int))).run Tryz.prog W = .ok (.slice (some ⟨W.heap.size,0,none⟩) n n) (W.alloc (.cells (arr (List.replicate n 0)) 87)):=make_u32 n (by omega);have HL:Hid ((List.replicate n (0:Int)).length=n):=List.length_replicate;generalize List.replicate n (0:Int)=zs at *;go_enter Tryz.func15,Tryz.ntmps15;go_wp2_with fail;refine (HM.o _).mono ?_;rintro e w1 ⟨rfl,rfl⟩;go_wp2_with fail;go_ret2;exact GaveC.mk (Blk.rowU (Blk.new _ _ _) HL.o) (fun h=>by cases h) (Nat.le_refl _) ((Below.refl _ _).alloc (Nat.le_refl _) _)
end disk
namespace vnd
open book (Ev ev0 Cm cm0 So so0 Sees)
open acc (Ac Tm Bi)
open ora (Pr)
open cell (Wr RowU)
open rcp (Rc rc0)
open Go.RowKit
def KvLoad:Prop:=∀ (W:World) (t:Tm) (pt:Option Addr) (lt ct:Nat) (a:Option Addr) (n cap:Nat) (c:List Int),acc.TCame W t pt lt ct→Dk W a n cap c→Calls Tryz.prog 6 #[t.v pt lt ct,.slice a n cap] W fun e w'=>LoadPost W t c e w'
open book (EMay evL evOf EncIs DecIs BookIs FirstAt NoneAt Tells)
open acc (SellIs GrantIs RekeyIs OweIs)
open ora (IssueIs)
open token (Tok fmtL)
theorem sell_tok {a:Ac} {t:Tm} {te m:Int} {b:Ac} {l:Bi} (h:SellIs a t te m b l 0):(1≤l.id∧l.id≤1048575)∧1≤l.un∧l.un≤2097151:=by
 rcases h with ⟨h,rfl,rfl⟩ | ⟨_,_,h,_⟩ | ⟨_,_,_,h,_⟩ | ⟨hr,ht,hn,_,u,hu,rfl,rfl⟩
 ·rcases h with ⟨_,h⟩ | ⟨_,h1,h2⟩ | ⟨_,_,_,h⟩
  ·cases h
  ·exact absurd (h2.ok.1 rfl) h1
  ·exact absurd rfl h.ne
 ·cases h
 ·cases h
 ·have h1:=hr.1.2.2.2.1.1;have h2:=hu.1;unfold tar.Top at h2;have h3:u≠0:=fun e=>ht.2.2 (by rw [← e];exact hu);refine ⟨⟨h1,hn⟩,?_,?_⟩
  ·show 1≤u;omega
  ·show u≤2097151;omega
theorem grant_tok {a:Ac} {t:Tm} {m:Int} {b:Ac} {l:Bi} (h:GrantIs a t m b l 0):(1≤l.id∧l.id≤1048575)∧1≤l.un∧l.un≤2097151:=by
 rcases h with ⟨h,rfl,rfl⟩ | ⟨_,_,h,_⟩ | ⟨_,_,_,h,_⟩ | ⟨_,_,_,_,h,_⟩ | ⟨hr,ha,_,hn,_,rfl,rfl⟩
 ·rcases h with ⟨_,h⟩ | ⟨_,h1,h2⟩ | ⟨_,_,_,h⟩
  ·cases h
  ·exact absurd (h2.ok.1 rfl) h1
  ·exact absurd rfl h.ne
 ·cases h
 ·cases h
 ·cases h
 ·have h1:=hr.1.2.2.2.1.1;have h2:=hr.2.1.2.2.2.2;refine ⟨⟨h1,hn⟩,?_,?_⟩
  ·show 1≤t.al;have:=h2.1;omega
  ·exact h2.2
theorem rekey_tok {a:Ac} {b:Ac} {l:Bi} (h:RekeyIs a b l 0):(1≤l.id∧l.id≤1048575)∧1≤a.rv+1∧a.rv+1≤15:=by
 rcases h with ⟨_,_,_,h⟩ | ⟨_,_,_,_,h⟩ | ⟨_,_,_,_,_,h⟩ | ⟨ha,hr,hn,rfl,rfl,_⟩
 ·cases h
 ·cases h
 ·cases h
 ·exact ⟨⟨ha.2.2.2.1.1,hn⟩,by have:=ha.2.2.1.1;omega,by omega⟩
theorem tokB_ok {kd rv:Int} {l:Bi} {tg:Int} (hk:kd≠4) (h:(1≤l.id∧l.id≤1048575)∧1≤l.un∧l.un≤2097151) (ht:0≤tg∧tg≤65535):(tokB kd rv l tg).ok∧(tokB kd rv l tg).v = .agg #[zI 0,zI l.id,zI l.un,zI tg]:=by
 have e:tokB kd rv l tg=⟨0,l.id.toNat,l.un.toNat,tg.toNat⟩:=by unfold tokB;rw [if_neg hk]
 rw [e];refine ⟨⟨by show (0:Nat)≤3;omega,?_,?_,?_,?_,fun _=>?_,(fun h=>by cases h),fun h=>by rcases h with h | h <;> cases h⟩,?_⟩
 ·show 1≤l.id.toNat;omega
 ·show l.id.toNat≤1048575;omega
 ·show tg.toNat≤65535;omega
 ·show l.un.toNat≤2097151;omega
 ·show 1≤l.un.toNat;omega
 ·unfold token.Tok.v;show Value.agg #[zI ((0:Nat):Int),zI (l.id.toNat:Int),zI (l.un.toNat:Int),zI (tg.toNat:Int)]=_;rw [Int.toNat_of_nonneg (by omega),Int.toNat_of_nonneg (by omega),Int.toNat_of_nonneg ht.1];rfl
theorem tokB_ok4 {rv:Int} {l:Bi} {tg:Int} (h:(1≤l.id∧l.id≤1048575)∧1≤rv+1∧rv+1≤15) (ht:0≤tg∧tg≤65535):(tokB 4 rv l tg).ok∧(tokB 4 rv l tg).v = .agg #[zI 2,zI l.id,zI (rv+1),zI tg]:=by
 have e:tokB 4 rv l tg=⟨2,l.id.toNat,(rv+1).toNat,tg.toNat⟩:=by unfold tokB;rw [if_pos rfl]
 rw [e];refine ⟨⟨by show (2:Nat)≤3;omega,?_,?_,?_,?_,(fun h=>by cases h),fun _=>⟨?_,?_⟩,fun h=>by rcases h with h | h <;> cases h⟩,?_⟩
 ·show 1≤l.id.toNat;omega
 ·show l.id.toNat≤1048575;omega
 ·show tg.toNat≤65535;omega
 ·show (rv+1).toNat≤2097151;omega
 ·show 1≤(rv+1).toNat;omega
 ·show (rv+1).toNat≤15;omega
 ·unfold token.Tok.v;show Value.agg #[zI ((2:Nat):Int),zI (l.id.toNat:Int),zI ((rv+1).toNat:Int),zI (tg.toNat:Int)]=_;rw [Int.toNat_of_nonneg (by omega),Int.toNat_of_nonneg (by omega),Int.toNat_of_nonneg ht.1];rfl
theorem issue_tag {l ls:List Pr} {m r b d x:Int} (h:IssueIs l m r b d ls x 0):0≤x∧x≤65535:=by
 rcases h with ⟨_,_,_,h⟩ | ⟨_,_,_,_,h⟩ | ⟨hm,hp,⟨i,hi,rfl⟩,_,_⟩ | ⟨_,_,_,_,_,_,h⟩ | ⟨_,hp,_,_,_,rfl,_⟩
 ·cases h
 ·cases h
 ·exact (hm.each i hi.lt).1.2.2.2
 ·cases h
 ·exact hp.2.2.2
end vnd
namespace token
open words
open Go.RowKit
theorem bits_wn (a b c lo n V:Nat) (w:World) (h:WN a b c V) (n0:1≤n) (n1:n≤64) (hl:lo+n≤96) :
  Calls Tryz.prog 28 #[.agg #[.int .u32 (a:Int),.int .u32 (b:Int),.int .u32 (c:Int)],zI (lo:Int),zI (n:Int)] w fun e w'=>e = .returned (.tuple #[.int .u64 (V / 2 ^ lo % 2 ^ n:Nat),zI 0])∧Below w.heap.size w w':=by
 have:=bits_any a b c lo n w h.a1 h.b1 h.c1 n0 n1 hl
 rwa [bits_num h.a1 h.b1 h.c1 n1,h.val] at this
theorem wrap_i (v:Nat) (h:v<9223372036854775808):IntKind.i64.wrap (v:Int)=(v:Int):=by rw [IntKind.wrap_i64];omega
end token
namespace words
open Go.RowKit
theorem cutWord_any (B:Nat) (n:Int) (w:World) (hc:w.cell? ⟨B,0,none⟩=some (.int .u64 n)) (hf:w.frozen? ⟨B,0,none⟩=false) :
  Calls Tryz.prog 91 #[.pointer (some ⟨B,0,none⟩)] w fun e w'=>e = .returned (.int .u32 (n % 4294967296))∧w'=w.setCell ⟨B,0,none⟩ (.int .u64 (n / 4294967296)):=by
 go_enter Tryz.func91,Tryz.ntmps91;go_wp2;go_ret;exact ⟨rfl,rfl⟩
theorem timesStep_any (B M:Nat) (n x m:Int) (w:World) (hc:w.cell? ⟨B,0,none⟩=some (.int .u64 n)) (hf:w.frozen? ⟨B,0,none⟩=false) (hm:w.cell? ⟨M,0,none⟩=some (.int .u32 m)) (h0:0≤n) (h1:n<4294967296) (x0:0≤x) (x1:x<4294967296) (m0:0≤m) (m1:m<4294967296) :
  Calls Tryz.prog 90 #[.int .u32 x,.pointer (some ⟨B,0,none⟩),.pointer (some ⟨M,0,none⟩)] w fun e w'=>e = .returned (.int .u32 ((n+x*m) % 4294967296))∧Acc w w' B (.int .u64 ((n+x*m) / 4294967296)):=by
 have hA:Acc w w B (.int .u64 n):=Acc.refl hc hf;have HA:Hid (Acc w w B (.int .u64 n)):=hA;obtain ⟨p1,p2⟩:=prod_bd x0 x1 m0 m1;clear hA;go_enter Tryz.func90,Tryz.ntmps90;go_wp2_with fail;refine (cutWord_any B (n+x*m) _ (by apply World.cell?_setCell_same;exact hc) (by rw [World.frozen?_setCell];exact hf)).mono ?_;rintro e w' ⟨rfl,rfl⟩;go_wp2_with fail;go_ret;exact ⟨rfl,(HA.o.set _).set _⟩
end words
namespace token
open words
open Go.RowKit
theorem body_ok (k:Tok) (w:World) (ht:TTab w) (hk:k.ok) :
  Calls Tryz.prog 10 #[k.v] w fun e w'=>e = .returned (.tuple #[zI (k.body:Int),zI 0])∧Below w.heap.size w w':=by
 have HF:Hid (∀ W,TTab W→Calls Tryz.prog 27 #[.agg #[zI (k.c:Int),zI (k.i:Int),zI (k.a:Int),zI (k.t:Int)]] W fun e w'=>e = .returned (zI 0)∧Below W.heap.size W w'):=fun W hW=>by
  have:=flaw_any k.c k.i k.a k.t W hW
  rwa [flaw_tok.2 hk] at this
 have HP:Hid (∀ W,TTab W→Calls Tryz.prog 29 #[.agg #[zI (k.c:Int),zI (k.i:Int),zI (k.a:Int),zI (k.t:Int)]] W fun e w'=>PackPost W k e w'):=fun W hW=>pack_any k W hk hW
 have HQ:Hid (∀ (x y z:Nat) W,WN x y z k.num→Calls Tryz.prog 28 #[.agg #[.int .u32 (x:Int),.int .u32 (y:Int),.int .u32 (z:Int)],zI 16,zI 43] W fun e w'=>e = .returned (.tuple #[.int .u64 (k.body:Int),zI 0])∧Below W.heap.size W w'):=fun x y z W hW=>by
  have:=bits_wn x y z 16 43 k.num W hW (by omega) (by omega) (by omega)
  rwa [show k.num / 2 ^ 16 % 2 ^ 43=k.body from body_num hk] at this
 have hwr:IntKind.i64.wrap (k.body:Int)=(k.body:Int):=wrap_i _ (by have:=body_bd hk;omega);have HT:Hid (TTab (w.alloc (.cells #[zI (k.c:Int),zI (k.i:Int),zI (k.a:Int),zI (k.t:Int)] 54))):=ht.below (bel_box _ _);have HB:Hid (Below w.heap.size w (w.alloc (.cells #[zI (k.c:Int),zI (k.i:Int),zI (k.a:Int),zI (k.t:Int)] 54))):=bel_box _ _;have HX:Hid (Blk (w.alloc (.cells #[zI (k.c:Int),zI (k.i:Int),zI (k.a:Int),zI (k.t:Int)] 54)) w.heap.size #[zI (k.c:Int),zI (k.i:Int),zI (k.a:Int),zI (k.t:Int)] 54):=Blk.new _ _ _;clear ht hk;unfold Tok.v;generalize (k.body:Int)=bd at *;go_enter Tryz.func10,Tryz.ntmps10;go_wp2_with fail;refine (HF.o _ HT.o).mono ?_;rintro e w1 ⟨rfl,hb1⟩;have HB1:=shB HB hb1;have HT1:Hid (TTab w1):=HT.o.below hb1;have hX:=HX.o.next hb1;have x0:=hX.cell 0;have x1:=hX.cell 1;have x2:=hX.cell 2;have x3:=hX.cell 3;clear hb1 HF HB HT HX hX;go_wp2_with fail;refine (HP.o _ HT1.o).mono ?_;rintro e w2 ⟨x,y,z,rfl,hwn,hb2⟩;have HB2:=shB HB1 hb2;have HN:Hid (WN x y z k.num):=hwn;clear hb2 hwn HB1 HT1 HP x0 x1 x2 x3;go_wp2_with fail;refine (HQ.o _ _ _ _ HN.o).mono ?_;rintro e w3 ⟨rfl,hb3⟩;have HB3:=shB HB2 hb3;clear hb3 HB2 HQ;go_wp2_with fail;refine bodyPost_ret (v:= .tuple #[zI bd,zI 0]) (by simp [results,Tryz.results10,go_sem]) rfl ⟨rfl,HB3.o⟩
end token
namespace book
open Go.RowKit
def cellsE:List Ev→List Value
 | []=>[]
 | x :: l=>x.cl++cellsE l
theorem cellsE_len (l:List Ev):(cellsE l).length=l.length*13:=by
 induction l with
 | nil=>rfl
 | cons e l ih=>rw [cellsE,List.length_append,ih,List.length_cons];show 13+_=_;omega
theorem oneE (l:List Ev):∀ u∈cellsE l,u.oneCell'=true:=by
 induction l with
 | nil=>intro u hu;cases hu
 | cons e l ih=>
  intro u hu;rw [cellsE] at hu;rcases List.mem_append.1 hu with hu | hu
  ·simp only [Ev.cl,List.mem_cons,List.not_mem_nil,or_false] at hu;rcases hu with rfl | rfl | rfl | rfl | rfl | rfl | rfl | rfl | rfl | rfl | rfl | rfl | rfl <;> rfl
  ·exact ih u hu
theorem cellsE_at (l:List Ev) (k j:Nat) (hk:k<l.length) (hj:j<13):(cellsE l)[k*13+j]?=(l.getD k ev0).cl[j]?:=by
 induction l generalizing k with
 | nil=>simp at hk
 | cons x l ih=>
  have h8:x.cl.length=13:=rfl;cases k with
  | zero=>rw [Nat.zero_mul,Nat.zero_add,cellsE,List.getElem?_append_left (by omega)];rfl
  | succ k=>
   rw [show (k+1)*13+j=x.cl.length+(k*13+j) by omega,cellsE,List.getElem?_append_right (by omega),Nat.add_sub_cancel_left];exact ih k (by simpa using hk)
structure ECame (w:World) (a:Option Addr) (n cap:Nat) (l:List Ev):Prop where
 row:RowE w a n l
 nil:a=none→cap=0
 room:n≤cap
 bytes:n*104≤140737488351232
 wf:∀ v∈l,wf13 v
theorem evI:(Tryz.prog.info? 125).map (fun i=>(i.zero,i.size,i.bytes))=some (some (.agg ev0.cl.toArray),13,104):=by kernel_rfl
end book
namespace vnd
open disk (RepIs AppIs)
open book (Ev ev0 EMay evL evOf EncIs DecIs Cm cm0 So so0 BookIs Sees ECame FirstAt NoneAt)
open acc (Ac Tm Bi TCame ACame)
open cell (Wr RowU)
open Go.RowKit
theorem rowP_off {w W:World} {g:Nat} {v':Array Value} {T':TypeId} {p:Option Addr} {n:Nat} {l:List ora.Pr} (h:ora.RowP w p n l) (hg:∀ y,p=some y→y.block≠g) (hU:Upd w W g v' T'):ora.RowP W p n l:=by
 refine ⟨h.1,?_⟩;rcases h.2 with h0 | ⟨b,off,rfl,hc⟩
 ·exact .inl h0
 ·refine .inr ⟨b,off,rfl,fun i hi=>?_⟩;have hne:b≠g:=hg _ rfl;have h1:=hc i hi;unfold ora.PrAt at h1 ⊢;have hx:∀ o,W.cell? ⟨b,o,none⟩=w.cell? ⟨b,o,none⟩:=fun o=>hU.cell ⟨b,o,none⟩ hne rfl;simpa only [hx] using h1
end vnd
namespace disk
open Go.RowKit cell
theorem rec_at {c:List Int} {p m x:Nat} (hm:(c.getD p 0).toNat=m) (hx:x<m):(recAt c p).getD x 0=c.getD (p+1+x) 0:=by
 unfold recAt;rw [hm];simp [List.getD,List.getElem?_drop,hx]
theorem rec_len {c:List Int} {p m:Nat} (hm:(c.getD p 0).toNat=m) (hf:p+m<c.length):(recAt c p).length=m:=by
 unfold recAt;rw [hm,List.length_take,List.length_drop];omega
def KReplay:Prop:=∀ (W:World) (a:Option Addr) (n cap:Nat) (c:List Int),RowU W a n c→(a=none→cap=0)→n≤cap→n*4≤140737488351232→(∀ x∈c,0≤x∧x<4294967296)→Calls Tryz.prog 72 #[.slice a n cap] W fun e w'=>RepNew W c e w'
end disk
namespace book
open Go.RowKit
theorem eqI (d:Nat) (a b:Int) (w:World):(Op.equalIn (d+1) 3 (zI a) (zI b)).run Tryz.prog w = .ok (a == b) w:=run_equalIn_int w d _ _ _ a b Tryz.underlying3
theorem eqBi_f0 (a0 a1 a2 a3 a4 a5 a6:Int) (w:World):(part 3 #[zI a0,zI a1,zI a2,zI a3,zI a4,zI a5,zI a6] 0).run Tryz.prog w = .ok (zI a0) w:=by kernel_rfl
theorem eqBi_f1 (a0 a1 a2 a3 a4 a5 a6:Int) (w:World):(part 3 #[zI a0,zI a1,zI a2,zI a3,zI a4,zI a5,zI a6] 1).run Tryz.prog w = .ok (zI a1) w:=by kernel_rfl
theorem eqBi_f2 (a0 a1 a2 a3 a4 a5 a6:Int) (w:World):(part 3 #[zI a0,zI a1,zI a2,zI a3,zI a4,zI a5,zI a6] 2).run Tryz.prog w = .ok (zI a2) w:=by kernel_rfl
theorem eqBi_f3 (a0 a1 a2 a3 a4 a5 a6:Int) (w:World):(part 3 #[zI a0,zI a1,zI a2,zI a3,zI a4,zI a5,zI a6] 3).run Tryz.prog w = .ok (zI a3) w:=by kernel_rfl
theorem eqBi_f4 (a0 a1 a2 a3 a4 a5 a6:Int) (w:World):(part 3 #[zI a0,zI a1,zI a2,zI a3,zI a4,zI a5,zI a6] 4).run Tryz.prog w = .ok (zI a4) w:=by kernel_rfl
theorem eqBi_f5 (a0 a1 a2 a3 a4 a5 a6:Int) (w:World):(part 3 #[zI a0,zI a1,zI a2,zI a3,zI a4,zI a5,zI a6] 5).run Tryz.prog w = .ok (zI a5) w:=by kernel_rfl
theorem eqBi_f6 (a0 a1 a2 a3 a4 a5 a6:Int) (w:World):(part 3 #[zI a0,zI a1,zI a2,zI a3,zI a4,zI a5,zI a6] 6).run Tryz.prog w = .ok (zI a6) w:=by kernel_rfl
theorem eqBi (d:Nat) (a0 a1 a2 a3 a4 a5 a6 b0 b1 b2 b3 b4 b5 b6:Int) (w:World):(Op.equalIn (d+2) 48 (.agg #[zI a0,zI a1,zI a2,zI a3,zI a4,zI a5,zI a6]) (.agg #[zI b0,zI b1,zI b2,zI b3,zI b4,zI b5,zI b6])).run Tryz.prog w = .ok (decide (a0=b0∧a1=b1∧a2=b2∧a3=b3∧a4=b4∧a5=b5∧a6=b6)) w:=by
 rw [run_equalIn_agg w (d+1) 48 _ _ (by kernel_rfl) (by kernel_rfl)];simp only [Program.fieldsOf,Tryz.underlying48,Op.eqFields,Sem.run_bind,Sem.run_ite,eqBi_f0,eqBi_f1,eqBi_f2,eqBi_f3,eqBi_f4,eqBi_f5,eqBi_f6,Result.andThen_ok,eqI];by_cases h0:a0=b0
 case neg=>simp [h0]
 subst h0;by_cases h1:a1=b1
 case neg=>simp [h1]
 subst h1;by_cases h2:a2=b2
 case neg=>simp [h2]
 subst h2;by_cases h3:a3=b3
 case neg=>simp [h3]
 subst h3;by_cases h4:a4=b4
 case neg=>simp [h4]
 subst h4;by_cases h5:a5=b5
 case neg=>simp [h5]
 subst h5;by_cases h6:a6=b6
 case neg=>simp [h6]
 subst h6;simp
theorem eqDe_f0 (a0 a1:Int) (w:World):(part 3 #[zI a0,zI a1] 0).run Tryz.prog w = .ok (zI a0) w:=by kernel_rfl
theorem eqDe_f1 (a0 a1:Int) (w:World):(part 3 #[zI a0,zI a1] 1).run Tryz.prog w = .ok (zI a1) w:=by kernel_rfl
theorem eqDe (d:Nat) (a0 a1 b0 b1:Int) (w:World):(Op.equalIn (d+2) 83 (.agg #[zI a0,zI a1]) (.agg #[zI b0,zI b1])).run Tryz.prog w = .ok (decide (a0=b0∧a1=b1)) w:=by
 rw [run_equalIn_agg w (d+1) 83 _ _ (by kernel_rfl) (by kernel_rfl)];simp only [Program.fieldsOf,Tryz.underlying83,Op.eqFields,Sem.run_bind,Sem.run_ite,eqDe_f0,eqDe_f1,Result.andThen_ok,eqI];by_cases h0:a0=b0
 case neg=>simp [h0]
 subst h0;by_cases h1:a1=b1
 case neg=>simp [h1]
 subst h1;simp
theorem eqEv_f0 (a0 a1 a2 a3 a4 a5 a6 a7 a8 a9 a10 a11 a12:Int) (w:World):(part 3 #[zI a0,zI a1,zI a2,zI a3,zI a4,zI a5,zI a6,zI a7,zI a8,zI a9,zI a10,zI a11,zI a12] 0).run Tryz.prog w = .ok (zI a0) w:=by kernel_rfl
theorem eqEv_f1 (a0 a1 a2 a3 a4 a5 a6 a7 a8 a9 a10 a11 a12:Int) (w:World):(part 3 #[zI a0,zI a1,zI a2,zI a3,zI a4,zI a5,zI a6,zI a7,zI a8,zI a9,zI a10,zI a11,zI a12] 1).run Tryz.prog w = .ok (zI a1) w:=by kernel_rfl
theorem eqEv_f2 (a0 a1 a2 a3 a4 a5 a6 a7 a8 a9 a10 a11 a12:Int) (w:World):(part 3 #[zI a0,zI a1,zI a2,zI a3,zI a4,zI a5,zI a6,zI a7,zI a8,zI a9,zI a10,zI a11,zI a12] 2).run Tryz.prog w = .ok (zI a2) w:=by kernel_rfl
theorem eqEv_f3 (a0 a1 a2 a3 a4 a5 a6 a7 a8 a9 a10 a11 a12:Int) (w:World):(part 48 #[zI a0,zI a1,zI a2,zI a3,zI a4,zI a5,zI a6,zI a7,zI a8,zI a9,zI a10,zI a11,zI a12] 3).run Tryz.prog w = .ok (.agg #[zI a3,zI a4,zI a5,zI a6,zI a7,zI a8,zI a9]) w:=by kernel_rfl
theorem eqEv_f10 (a0 a1 a2 a3 a4 a5 a6 a7 a8 a9 a10 a11 a12:Int) (w:World):(part 3 #[zI a0,zI a1,zI a2,zI a3,zI a4,zI a5,zI a6,zI a7,zI a8,zI a9,zI a10,zI a11,zI a12] 10).run Tryz.prog w = .ok (zI a10) w:=by kernel_rfl
theorem eqEv_f11 (a0 a1 a2 a3 a4 a5 a6 a7 a8 a9 a10 a11 a12:Int) (w:World):(part 83 #[zI a0,zI a1,zI a2,zI a3,zI a4,zI a5,zI a6,zI a7,zI a8,zI a9,zI a10,zI a11,zI a12] 11).run Tryz.prog w = .ok (.agg #[zI a11,zI a12]) w:=by kernel_rfl
theorem eqEv (d:Nat) (a0 a1 a2 a3 a4 a5 a6 a7 a8 a9 a10 a11 a12 b0 b1 b2 b3 b4 b5 b6 b7 b8 b9 b10 b11 b12:Int) (w:World):(Op.equalIn (d+3) 125 (.agg #[zI a0,zI a1,zI a2,zI a3,zI a4,zI a5,zI a6,zI a7,zI a8,zI a9,zI a10,zI a11,zI a12]) (.agg #[zI b0,zI b1,zI b2,zI b3,zI b4,zI b5,zI b6,zI b7,zI b8,zI b9,zI b10,zI b11,zI b12])).run Tryz.prog w = .ok (decide (a0=b0∧a1=b1∧a2=b2∧a3=b3∧a4=b4∧a5=b5∧a6=b6∧a7=b7∧a8=b8∧a9=b9∧a10=b10∧a11=b11∧a12=b12)) w:=by
 rw [run_equalIn_agg w (d+2) 125 _ _ (by kernel_rfl) (by kernel_rfl)];simp only [Program.fieldsOf,Tryz.underlying125,Op.eqFields,Sem.run_bind,Sem.run_ite,eqEv_f0,eqEv_f1,eqEv_f2,eqEv_f3,eqEv_f10,eqEv_f11,Result.andThen_ok,eqI,eqBi,eqDe];by_cases h0:a0=b0
 case neg=>simp [h0]
 subst h0;by_cases h1:a1=b1
 case neg=>simp [h1]
 subst h1;by_cases h2:a2=b2
 case neg=>simp [h2]
 subst h2;by_cases h3:a3=b3∧a4=b4∧a5=b5∧a6=b6∧a7=b7∧a8=b8∧a9=b9
 case neg=>
  have h3d:=decide_eq_false h3;have hx:¬ (a0=a0∧a1=a1∧a2=a2∧a3=b3∧a4=b4∧a5=b5∧a6=b6∧a7=b7∧a8=b8∧a9=b9∧a10=b10∧a11=b11∧a12=b12):=fun h=>h3 ⟨h.2.2.2.1,h.2.2.2.2.1,h.2.2.2.2.2.1,h.2.2.2.2.2.2.1,h.2.2.2.2.2.2.2.1,h.2.2.2.2.2.2.2.2.1,h.2.2.2.2.2.2.2.2.2.1⟩;simp only [h3d,decide_eq_false hx];simp;intro e3 e4 e5 e6 e7 e8 e9;exact absurd ⟨e3,e4,e5,e6,e7,e8,e9⟩ h3
 obtain ⟨rfl,rfl,rfl,rfl,rfl,rfl,rfl⟩:=h3;by_cases h10:a10=b10
 case neg=>simp [h10]
 subst h10;by_cases h11:a11=b11
 case neg=>simp [h11]
 subst h11;by_cases h12:a12=b12
 case neg=>simp [h12]
 subst h12;simp
def KOf:Prop:=∀ (W:World) (t:acc.Tm) (pt:Option Addr) (lt ct:Nat) (pl:Option Addr) (n cap:Nat) (l:List Ev),acc.TCame W t pt lt ct→ECame W pl n cap l→Calls Tryz.prog 45 #[t.v pt lt ct,.slice pl n cap] W fun e w'=>BookPost W t l e w'
end book
namespace disk
open Go.RowKit cell
theorem app_yes {c:List Int} {p:Nat} {r:List Int} (h:p+r.length+1<c.length):putW p r r.length++[⟨(p:Int)+(r.length:Int)+1,0⟩]++[⟨(p:Int),(r.length:Int)⟩]=appW c p r:=by
 unfold appW zeroW;rw [if_pos h,List.append_assoc,show ((p+r.length+1:Nat):Int)=(p:Int)+(r.length:Int)+1 by omega]
theorem app_no {c:List Int} {p:Nat} {r:List Int} (h:¬ p+r.length+1<c.length):putW p r r.length++[⟨(p:Int),(r.length:Int)⟩]=appW c p r:=by
 unfold appW zeroW;rw [if_neg h,List.nil_append]
end disk
namespace book
open Go.RowKit
def FindPost (w:World) (l:List Cu) (me:Int) (e:Ending) (w':World):Prop:=∃ x f,e = .returned (.tuple #[zI x,zI f])∧FindIs l me x f∧Below w.heap.size w w'
end book
namespace vnd
open disk (RepIs AppIs)
open book (Ev ev0 EMay evL evOf EncIs DecIs Cm cm0 So so0 BookIs Sees ECame FirstAt NoneAt)
open acc (Ac Tm Bi TCame ACame)
open cell (Wr RowU)
open Go.RowKit
theorem pref (x:Int) (w:World):Calls Tryz.prog 83 #[zI x] w fun e w'=>e = .returned (.tuple #[zS,.agg #[zS],.agg #[zI 0,zI 0,zI 0,zI 0,zI 0,zI 0,zI 0,zI 0,.string ⟨#[]⟩],zI x])∧Below w.heap.size w w':=by
 obtain ⟨W0,HWW,H0o,H0r,H0B,hs0⟩:=sh2 w #[zS] 34 #[zI 0,zI 0,zI 0,zI 0,zI 0,zI 0,zI 0,zI 0,.string ⟨#[]⟩] 50;go_enter Tryz.func83,Tryz.ntmps83;go_upto_region 1 with fail
 rw [HWW.o];clear HWW
 go_wp2_with (first
  | (refine zql rfl rfl rfl rfl zqu34 (by simp [Value.oneCell']) H0o rfl ?_)
  | (refine zqw rfl rfl rfl H0o zqu34 ?_)
  | (refine zqw rfl rfl rfl H0r zqu50 ?_)
  | fail)
 intro W1 hU;have H1o:Hid (Blk W1 (w.heap.size) #[zS] 34):=hU.blk;have H1r:=shK hU H0r (by omega);have H1B:=shV hU H0B (by omega);have hsW1:W1.heap.size=W0.heap.size:=hU.size;clear hU H0o H0r H0B
 go_wp2_with (first
  | (refine zql rfl rfl rfl rfl zqu50 (by simp [Value.oneCell']) H1r rfl ?_)
  | (refine zqw rfl rfl rfl H1o zqu34 ?_)
  | (refine zqw rfl rfl rfl H1r zqu50 ?_)
  | fail)
 intro W2 hU;have H2o:=shK hU H1o (by omega);have H2r:Hid (Blk W2 (w.heap.size+1) #[zI 0,zI 0,zI 0,zI 0,zI 0,zI 0,zI 0,zI 0,.string ⟨#[]⟩] 50):=hU.blk;have H2B:=shV hU H1B (by omega);have hsW2:W2.heap.size=W1.heap.size:=hU.size;clear hU H1o H1r H1B;have Ro0:Hid (W2.cell? ⟨w.heap.size,0,none⟩=some (zS)):=H2o.o.cell 0;obtain ⟨Rr0,Rr1,Rr2,Rr3,Rr4,Rr5,Rr6,Rr7,Rr8⟩:=shc9 H2r;go_wp2_with fail;exact bodyPost_ret (v:= .tuple #[zS,.agg #[zS],.agg #[zI 0,zI 0,zI 0,zI 0,zI 0,zI 0,zI 0,zI 0,.string ⟨#[]⟩],zI x]) (by simp [results,Tryz.results83,Ro0.o,Rr0.o,Rr1.o,Rr2.o,Rr3.o,Rr4.o,Rr5.o,Rr6.o,Rr7.o,Rr8.o,go_sem]) rfl ⟨rfl,H2B.o⟩
end vnd
namespace acc
open Go.ChangeShapes Go.WideShapes Go.ChangeAt Go.RowKit Go.Deep
theorem open_deal {H:Type} {enc:TypeId × Value→H} {W:World} {r:Reach} {b0 b1:Nat} {held:Bool} {v:Value} {d:DataW H} {ps:List MemPlace}
  (hval:Value.okWide Tryz.prog W r b0 24 v) (h:DataW.Trod enc Tryz.prog W b1 (fun _=>true) held 24 v d ps) (hs:∀ n∈d.weights Tryz.prog 24,n≤reachBytes) :
  ∃ (x:Tm) (p:Option Addr) (len cap:Nat),v=x.v p len cap∧TCame W x p len cap:=by
 have hu:=Tryz.underlying24;have hc:Tryz.prog.cellsOf 24=5:=by kernel_rfl
 have ci:Tryz.prog.cellsOf 3=1:=by kernel_rfl
 have csl:Tryz.prog.cellsOf 22=1:=by kernel_rfl
 obtain ⟨cs,rfl,hsz⟩:=okWide_struct hu hval;rw [hc] at hsz
 obtain ⟨c0,c1,c2,c3,c4,rfl⟩:∃ c0 c1 c2 c3 c4,cs=#[c0,c1,c2,c3,c4]:=by
  cases cs with
  | mk l=>match l,hsz with
   | [c0,c1,c2,c3,c4],_=>exact ⟨c0,c1,c2,c3,c4,rfl⟩
 obtain ⟨fuel,hf⟩:=h;obtain ⟨xs,n,hx,hd,_,hlen,hg⟩:=DataW.trod_struct hu hf
 match xs,hlen with
 | [y0,y1,y2,y3,y4],_=>
  have g0:=hg 0 _ rfl;have g1:=hg 1 _ rfl;have g2:=hg 2 _ rfl;have g3:=hg 3 _ rfl;have g4:=hg 4 _ rfl;simp [Value.cells,ci,csl] at g0 g1 g2 g3 g4;obtain ⟨x1,e1,-,w1⟩:=DataW.trod_int Tryz.underlying3 g1;obtain ⟨x2,e2,-,w2⟩:=DataW.trod_int Tryz.underlying3 g2;obtain ⟨x3,e3,-,w3⟩:=DataW.trod_int Tryz.underlying3 g3;obtain ⟨x4,e4,-,w4⟩:=DataW.trod_int Tryz.underlying3 g4;simp at e1 e2 e3 e4;subst e1 e2 e3 e4;rcases Deep.open_slice_pairs Tryz.underlying22 Tryz.underlying168 (by kernel_rfl) rfl rfl (by kernel_rfl) (by kernel_rfl) g0 with ⟨hcs,_⟩ | ⟨x,l,c,mm,fu,V0,V1,D0,D1,P0,P1,hcs,_,hl,hm,hmm,hy,hall⟩
  ·simp at hcs;subst hcs;exact ⟨⟨[],x1,x2,x3,x4⟩,none,0,0,rfl,⟨tar.RowD.nil _ _,(fun _=>rfl),Nat.le_refl _,by omega,(fun x hx=>by cases hx)⟩,⟨w1,w2,w3,w4⟩⟩
  ·simp at hcs;subst hcs;simp only [if_true] at hmm;subst hmm
   have hr:=tar.rowD_of (len:=l) (w:=W) (a:=x) (m:=mm) (by omega) (fun j hj=>by
    obtain ⟨k0,k1,t0,t1⟩:=hall j hj;obtain ⟨z0,hv0,_,hw0⟩:=DataW.trod_int Tryz.underlying3 t0;obtain ⟨z1,hv1,_,hw1⟩:=DataW.trod_int Tryz.underlying3 t1;simp only [List.cons.injEq,and_true] at hv0 hv1;rw [hv0] at k0;rw [hv1] at k1
    exact ⟨z0,z1,k0,k1,hw0,hw1⟩)
   obtain ⟨zs,r1,r2⟩:=hr;subst hy;obtain ⟨hd1,_⟩:=Prod.mk.inj hd;subst hd1;have h1:=hs ((l+(mm - l))*Tryz.prog.bytesOf 168) (by simp [DataW.weights,hu,DataW.weightsEach,Tryz.underlying22]);rw [show Tryz.prog.bytesOf 168=16 from by kernel_rfl] at h1;simp only [reachBytes] at h1;exact ⟨⟨zs,x1,x2,x3,x4⟩,some x,l,mm,rfl,⟨r1,(fun h=>by cases h),hl,by omega,r2⟩,⟨w1,w2,w3,w4⟩⟩
end acc
end Go.Proofs.YtdpfnedfakgolaaGreatDoor
