import Derived.Test.YtdpfnedfakgolaaGreatDoorVVRnt22
set_option linter.unusedVariables false
set_option linter.unusedSimpArgs false
set_option maxHeartbeats 4000000
set_option maxRecDepth 100000
namespace Go.Proofs.YtdpfnedfakgolaaGreatDoor
namespace vnd
open book (Ev ev0 Cm cm0 So so0 Sees)
open acc (Ac Tm Bi)
open ora (Pr)
open cell (Wr RowU RowW)
open rcp (Rc rc0)
open Go.RowKit
theorem served0 (K:KvCha) (t:Tm) (pt:Option Addr) (lt ct:Nat) (a:Option Addr) (n cap:Nat) (c:List Int) (ao:Option Addr) (no ko:Nat) (o:List Pr) (x:Od) (w:World) (ht:acc.TCame w t pt lt ct) (h:Dk w a n cap c) (ho:ora.Came w ao no ko o) (hx:wf5 x) (hk:check.pick x.k 8=0):Calls Tryz.prog 8 #[.agg #[.slice pt lt ct,zI t.ff,zI t.fb,zI t.db,zI t.al,.slice a n cap,.slice ao no ko],.agg #[zI x.k,zI x.m,zI x.a,zI x.b,zI x.d]] w fun e w'=>ServePost w ao no (ServedIs t c o x) e w':=by
 have HT:Hid (∀ W,Below w.heap.size w W→acc.TCame W t pt lt ct):=fun W hW=>ht.below hW;have HC:Hid (∀ W,Below w.heap.size w W→Dk W a n cap c):=fun W hW=>h.below hW;have HO:Hid (∀ W,Below w.heap.size w W→ora.Came W ao no ko o):=fun W hW=>ho.below hW;have HKK:Hid KvCha:=K;have HPM:Hid (∀ W,Calls Tryz.prog 7 #[zI x.m,zI 3] W fun e w'=>e = .returned (zI (check.pick x.m 3))∧w'=W):=fun W=>check.picked_any x.m 3 W hx.2.1 (by decide) (by decide);have HPD:Hid (∀ W,Calls Tryz.prog 7 #[zI x.d,zI 65536] W fun e w'=>e = .returned (zI (check.pick x.d 65536))∧w'=W):=fun W=>check.picked_any x.d 65536 W hx.2.2.2.2 (by decide) (by decide);have HPK:Hid (∀ W,Calls Tryz.prog 7 #[zI x.k,zI 8] W fun e w'=>e = .returned (zI (check.pick x.k 8))∧w'=W):=fun W=>check.picked_any x.k 8 W hx.1 (by decide) (by decide);have HPA:Hid (∀ W,Calls Tryz.prog 7 #[zI x.a,zI 100000] W fun e w'=>e = .returned (zI (check.pick x.a 100000))∧w'=W):=fun W=>check.picked_any x.a 100000 W hx.2.2.1 (by decide) (by decide);have HPB:Hid (∀ W,Calls Tryz.prog 7 #[zI x.b,zI 1000] W fun e w'=>e = .returned (zI (check.pick x.b 1000))∧w'=W):=fun W=>check.picked_any x.b 1000 W hx.2.2.2.1 (by decide) (by decide);have HLO:Hid (0<no→∀ y,ao=some y→y.block<w.heap.size):=rowP_ltK ho.row;clear h ht ho K hx;obtain ⟨W0,HWW,H0s,H0x,H0r,H0p,H0B,hs0⟩:=sh4 w #[.slice pt lt ct,zI t.ff,zI t.fb,zI t.db,zI t.al,.slice a n cap,.slice ao no ko] 36 #[zI x.k,zI x.m,zI x.a,zI x.b,zI x.d] 27 #[zS] 34 #[zI 0,zI 0,zI 0,zI 0,zI 0,zI 0,zI 0,zI 0,.string ⟨#[]⟩] 50;go_enter Tryz.func8,Tryz.ntmps8;go_upto_region 1 with fail
 rw [HWW.o];clear HWW;have qx1:W0.cell? ⟨w.heap.size+1,1,none⟩=some (zI x.m):=H0x.o.cell 1;go_wp2_with fail;refine (HPM.o _).mono ?_;rintro e wz ⟨rfl,hwz⟩;subst wz;clear HPM qx1;have qx4:W0.cell? ⟨w.heap.size+1,4,none⟩=some (zI x.d):=H0x.o.cell 4;go_wp2_with fail;refine (HPD.o _).mono ?_;rintro e wz ⟨rfl,hwz⟩;subst wz;clear HPD qx4;have qx0:W0.cell? ⟨w.heap.size+1,0,none⟩=some (zI x.k):=H0x.o.cell 0;go_wp2_with fail;refine (HPK.o _).mono ?_;rintro e wz ⟨rfl,hwz⟩;subst wz;clear HPK qx0;have t0:(check.pick x.k 8 == 0)=true:=by rw [hk];rfl
 have HSI:Hid (∀ ls f,ChaIs t c (check.pick x.m 3) (1+check.pick x.a 100000) (check.pick x.b 1000) ls f→ServedIs t c o x ls o rc0 f):=fun ls f hh=> .inl ⟨hk,hh,rfl,rfl⟩;have bm:=And.intro (check.pick_nonneg x.m 3 (by decide)) (check.pick_lt x.m 3 (by decide));have ba:=And.intro (check.pick_nonneg x.a 100000 (by decide)) (check.pick_lt x.a 100000 (by decide));have bb:=And.intro (check.pick_nonneg x.b 1000 (by decide)) (check.pick_lt x.b 1000 (by decide));have hwa:IntKind.i64.wrap (1+check.pick x.a 100000)=1+check.pick x.a 100000:=by rw [IntKind.wrap_i64];omega
 clear hk;generalize check.pick x.k 8=kk at *;generalize check.pick x.m 3=me at *;generalize check.pick x.d 65536=dr at *;generalize check.pick x.a 100000=qa at *;generalize check.pick x.b 1000=qb at *;have f0:(Lit.int .i64 me).wf=true:=tar.wf_mid (by omega) (by omega);have f1:(Lit.int .i64 (1+qa)).wf=true:=tar.wf_mid (by omega) (by omega);have f2:(Lit.int .i64 qb).wf=true:=tar.wf_mid (by omega) (by omega);have HKL:Hid (∀ W,Below W0.heap.size W0 W→Calls Tryz.prog 19 #[.agg #[.slice pt lt ct,zI t.ff,zI t.fb,zI t.db,zI t.al],.slice a n cap,zI me,.agg #[zI (1+qa),zI qb]] W fun e w'=>WrGot W (ChaIs t c me (1+qa) qb) e w'):=fun W hW=>HKK.o W t pt lt ct a n cap c me ⟨1+qa,qb⟩ (HT.o _ (bel_step H0B.o hW)) (HC.o _ (bel_step H0B.o hW)) f0 f1 f2;clear HKK HT HC f0 f1 f2;go_wp2_with fail;have ls0:w.heap.size<W0.heap.size:=H0s.o.lt;have lx0:w.heap.size+1<W0.heap.size:=H0x.o.lt;obtain ⟨z0,z1,z2,z3,z4,z5,z6⟩:=scl7 H0s;have u2:W0.cell? ⟨w.heap.size+1,2,none⟩=some (zI x.a):=H0x.o.cell 2;have u3:W0.cell? ⟨w.heap.size+1,3,none⟩=some (zI x.b):=H0x.o.cell 3;have HB0:Hid (Below W0.heap.size W0 W0.drew):=(Below.refl _ _).drew;refine wp_region_held_drew (S:=fun v=>Below W0.heap.size W0 v) (by kernel_rfl) HB0.o (fun hHeld=>?_);refine zqs 0 36 (.pointer (some ⟨w.heap.size,0,none⟩)) rfl rfl (by kernel_rfl) zid rfl (fun v hv=>by clear hv;go_simp) hHeld ?_;simp only [Act.put,zq];refine zqt 1 37 (.agg #[.slice pt lt ct,zI t.ff,zI t.fb,zI t.db,zI t.al]) rfl rfl (by kernel_rfl) zid (Or.inl ⟨by rfl,fun v hv=>by have g0:=(hv.cell (p:=⟨w.heap.size,0,none⟩) ls0).trans z0;have g1:=(hv.cell (p:=⟨w.heap.size,1,none⟩) ls0).trans z1;have g2:=(hv.cell (p:=⟨w.heap.size,2,none⟩) ls0).trans z2;have g3:=(hv.cell (p:=⟨w.heap.size,3,none⟩) ls0).trans z3;have g4:=(hv.cell (p:=⟨w.heap.size,4,none⟩) ls0).trans z4;clear hv;go_simp⟩) hHeld ?_;simp only [Act.put,zq]
 refine zqs 2 38 (.pointer (some ⟨w.heap.size,5,none⟩)) rfl rfl (by kernel_rfl) zid rfl (fun v hv=>by clear hv;go_simp) hHeld ?_;simp only [Act.put,zq];refine zqt 3 39 (.slice a n cap) rfl rfl (by kernel_rfl) zid (Or.inl ⟨by rfl,fun v hv=>by have g5:=(hv.cell (p:=⟨w.heap.size,5,none⟩) ls0).trans z5;clear hv;go_simp⟩) hHeld ?_;simp only [Act.put,zq];refine zqs 4 40 (zI me) rfl rfl (by kernel_rfl) zid rfl (fun v hv=>by clear hv;go_simp) hHeld ?_;simp only [Act.put,zq];refine zqs 5 41 (.pointer (some ⟨w.heap.size+1,2,none⟩)) rfl rfl (by kernel_rfl) zid rfl (fun v hv=>by clear hv;go_simp) hHeld ?_;simp only [Act.put,zq];refine zqt 6 42 (zI x.a) rfl rfl (by kernel_rfl) zid (Or.inl ⟨by rfl,fun v hv=>by have g2:=(hv.cell (p:=⟨w.heap.size+1,2,none⟩) lx0).trans u2;clear hv;go_simp⟩) hHeld ?_;simp only [Act.put,zq];refine call_at 7 43 (zI qa) _ rfl rfl (by kernel_rfl) (by kernel_rfl) (by kernel_rfl) zid 7 #[zI x.a,zI 100000] ⟨by rfl,fun v hv=>by go_simp⟩ (fun v _=>HPA.o v) hHeld ?_;simp only [Act.put,zq];refine zqs 8 44 (zI (1+qa)) rfl rfl (by kernel_rfl) zid rfl (fun v hv=>by clear hv;go_simp) hHeld ?_;simp only [Act.put,zq];refine zqs 9 45 (.pointer (some ⟨w.heap.size+1,3,none⟩)) rfl rfl (by kernel_rfl) zid rfl (fun v hv=>by clear hv;go_simp) hHeld ?_;simp only [Act.put,zq];refine zqt 10 46 (zI x.b) rfl rfl (by kernel_rfl) zid (Or.inl ⟨by rfl,fun v hv=>by have g3:=(hv.cell (p:=⟨w.heap.size+1,3,none⟩) lx0).trans u3;clear hv;go_simp⟩) hHeld ?_;simp only [Act.put,zq];refine call_at 11 47 (zI qb) _ rfl rfl (by kernel_rfl) (by kernel_rfl) (by kernel_rfl) zid 7 #[zI x.b,zI 1000] ⟨by rfl,fun v hv=>by go_simp⟩ (fun v _=>HPB.o v) hHeld ?_;simp only [Act.put,zq];refine zqs 12 48 (.agg #[zI (1+qa),zI qb]) rfl rfl (by kernel_rfl) zid rfl (fun v hv=>by clear hv;go_simp) hHeld ?_;simp only [Act.put,zq];clear z0 z1 z2 z3 z4 z5 z6 u2 u3;refine zqo 13 (by kernel_rfl) rfl (fun K hK=>?_);rw [if_pos (by rfl)]
 refine wp_callOp 49 rfl (by clear hK;go_simp) (HKL.o _ HB0.o) ?_;rintro e w1 ⟨p,m,cp,ls,f,rfl,hri,hrw,hnw,hle,hm,hbx⟩;have hb1:Below W0.heap.size W0 w1:=bel_step HB0.o hbx;have HWW:Hid (RowW w1 p m ls):=hrw;have HV:Hid (ServedIs t c o x ls o rc0 f):=HSI.o _ _ hri;have HNN:Hid (∀ y,p=some y→W0.heap.size≤y.block):=hnw;have H1s:=shN H0s hb1;have H1x:=shN H0x hb1;have H1r:=shN H0r hb1;have H1p:=shN H0p hb1;have H1B:=shB H0B hb1;have HOO:Hid (ora.Came w1 ao no ko o):=HO.o _ H1B.o;have HPP:Hid (ora.RowP w1 ao no o):=HOO.o.row;refine ⟨_,rfl,hK.o _ _ hb1 (fun hHeld=>?_)⟩;clear hK K hbx hri hrw hnw HKL HSI HB0 HO H0s H0x H0r H0p H0B;simp only [Act.put,zq];refine zqs 14 35 (.tuple #[.slice p m cp,zI f]) rfl rfl (by kernel_rfl) zid rfl (fun v hv=>by clear hv;go_simp) hHeld ?_;simp only [Act.put,zq];refine zqs 15 50 (.slice p m cp) rfl rfl (by kernel_rfl) zid rfl (fun v hv=>by clear hv;go_simp) hHeld ?_;simp only [Act.put,zq];refine zqs 16 51 (zI f) rfl rfl (by kernel_rfl) zid rfl (fun v hv=>by clear hv;go_simp) hHeld ?_;simp only [Act.put,zq];refine zqs 17 10 (.slice p m cp) rfl rfl (by kernel_rfl) zid rfl (fun v hv=>by clear hv;go_simp) hHeld ?_;simp only [Act.put,zq];refine zqs 18 11 (zI f) rfl rfl (by kernel_rfl) zid rfl (fun v hv=>by clear hv;go_simp) hHeld ?_;simp only [Act.put,zq];refine wpAnyH_done (by kernel_rfl) ?_ _;clear hHeld hb1;go_wp2_with fail;refine wp_region_held_drew (S:=fun v=>Blk v (w.heap.size) #[.slice pt lt ct,zI t.ff,zI t.fb,zI t.db,zI t.al,.slice a n cap,.slice ao no ko] 36) (by kernel_rfl) (Blk.drew H1s.o 1) (fun hHeld=>?_);refine zqs 0 52 (.slice p m cp) rfl rfl (by kernel_rfl) zid rfl (fun v hv=>by clear hv;go_simp) hHeld ?_;simp only [Act.put,zq];refine zqs 1 53 (.pointer (some ⟨w.heap.size,6,none⟩)) rfl rfl (by kernel_rfl) zid rfl (fun v hv=>by clear hv;go_simp) hHeld ?_;simp only [Act.put,zq];refine zqt 2 54 (.agg #[.slice ao no ko]) rfl rfl (by kernel_rfl) zid (Or.inl ⟨by rfl,fun v hv=>by have g0:=hv.cell 6;clear hv;go_simp⟩) hHeld ?_
 simp only [Act.put,zq];refine zqs 3 55 (.agg #[zI 0,zI 0,zI 0,zI 0,zI 0,zI 0,zI 0,zI 0,.string ⟨#[]⟩]) rfl rfl (by kernel_rfl) zid rfl (fun v hv=>by clear hv;go_simp) hHeld ?_;simp only [Act.put,zq];refine zqs 4 56 (zI f) rfl rfl (by kernel_rfl) zid rfl (fun v hv=>by clear hv;go_simp) hHeld ?_;simp only [Act.put,zq];refine zqs 5 4 (.slice p m cp) rfl rfl (by kernel_rfl) zid rfl (fun v hv=>by clear hv;go_simp) hHeld ?_;simp only [Act.put,zq];refine zqo 6 (by kernel_rfl) rfl (fun K hK=>?_);rw [if_pos (by rfl)];refine wp_letOp 34 _ _ rfl (w.heap.size+1+1) rfl #[.slice ao no ko] rfl (by kernel_rfl) (by simp [Value.oneCell']) #[zS] 34 (Blk.drew H1r.o 1) rfl rfl ?_;intro V1 hU;have H2s:Hid (Blk V1 (w.heap.size) #[.slice pt lt ct,zI t.ff,zI t.fb,zI t.db,zI t.al,.slice a n cap,.slice ao no ko] 36):=hU.keep (Blk.drew H1s.o 1) (by omega);have H2x:Hid (Blk V1 (w.heap.size+1) #[zI x.k,zI x.m,zI x.a,zI x.b,zI x.d] 27):=hU.keep (Blk.drew H1x.o 1) (by omega);have H2r:Hid (Blk V1 (w.heap.size+1+1) #[.slice ao no ko] 34):=hU.blk;have H2p:Hid (Blk V1 (w.heap.size+1+1+1) #[zI 0,zI 0,zI 0,zI 0,zI 0,zI 0,zI 0,zI 0,.string ⟨#[]⟩] 50):=hU.keep (Blk.drew H1p.o 1) (by omega);have HRW1:Hid (RowW V1 p m ls):=rowW_updK (HWW.o.below (bel_drew (Below.refl _ _) 1)) hU (fun hn y hy=>by have:=HNN.o y hy;omega);have HRP1:Hid (ora.RowP V1 ao no o):=rowP_updK (HPP.o.below (bel_drew (Below.refl _ _) 1)) hU (fun hn y hy=>by have:=HLO.o hn y hy;omega);have H2B:Hid (Below w.heap.size w V1):=hU.bel _ _ (by omega) H1B.o.drew;clear hU H1s H1x H1r H1p H1B;refine hK.o _ _ H2s.o (fun hHeld=>?_);clear hK K;refine zqo 7 (by kernel_rfl) rfl (fun K hK=>?_);rw [if_pos (by rfl)];refine wp_letOp 50 _ _ rfl (w.heap.size+1+1+1) rfl #[zI 0,zI 0,zI 0,zI 0,zI 0,zI 0,zI 0,zI 0,.string ⟨#[]⟩] rfl (by kernel_rfl) (by simp [Value.oneCell']) #[zI 0,zI 0,zI 0,zI 0,zI 0,zI 0,zI 0,zI 0,.string ⟨#[]⟩] 50 H2p.o rfl rfl ?_
 intro V2 hU;have H3s:=shK hU H2s (by omega);have H3x:=shK hU H2x (by omega);have H3r:=shK hU H2r (by omega);have H3p:Hid (Blk V2 (w.heap.size+1+1+1) #[zI 0,zI 0,zI 0,zI 0,zI 0,zI 0,zI 0,zI 0,.string ⟨#[]⟩] 50):=hU.blk;have HRW2:Hid (RowW V2 p m ls):=rowW_updK HRW1.o hU (fun hn y hy=>by have:=HNN.o y hy;omega);have HRP2:Hid (ora.RowP V2 ao no o):=rowP_updK HRP1.o hU (fun hn y hy=>by have:=HLO.o hn y hy;omega);have H3B:=shV hU H2B (by omega);clear hU H2s H2x H2r H2p H2B;refine hK.o _ _ H3s.o (fun hHeld=>?_);clear hK K;refine zqs 8 7 (zI f) rfl rfl (by kernel_rfl) zid rfl (fun v hv=>by clear hv;go_simp) hHeld ?_;simp only [Act.put,zq];refine wpAnyH_done (by kernel_rfl) ?_ _;clear hHeld;have Rr0:Hid (V2.cell? ⟨w.heap.size+1+1,0,none⟩=some (.slice ao no ko)):=H3r.o.cell 0;obtain ⟨Rp0,Rp1,Rp2,Rp3,Rp4,Rp5,Rp6,Rp7,Rp8⟩:=shc9 H3p;go_wp2_with fail;exact bodyPost_ret (v:= .tuple #[.slice p m cp,.agg #[.slice ao no ko],.agg #[zI 0,zI 0,zI 0,zI 0,zI 0,zI 0,zI 0,zI 0,.string ⟨#[]⟩],zI f]) (by simp [results,Tryz.results8,Rr0.o,Rp0.o,Rp1.o,Rp2.o,Rp3.o,Rp4.o,Rp5.o,Rp6.o,Rp7.o,Rp8.o,go_sem]) rfl ⟨p,m,cp,ls,ao,no,ko,o,rc0,f,rfl,HV.o,HRW2.o,(fun y hy=>by have:=HNN.o y hy;omega),(by omega),(by omega),HRP2.o,HOO.o.nil,HOO.o.le,(fun hn y hy=> .inr ⟨hn,hy⟩),H3B.o⟩
end vnd
namespace disk
open Go.RowKit cell
set_option maxRecDepth 100000
theorem lr_cells {T : TypeId} {w : World} {base : Nat} {v : Value} {l : List Sli} (h : Lr T w base v l) : v.cells = #[v] := by
 obtain ⟨a, cap, rfl⟩ := h.len
 rfl
theorem lr_one {T : TypeId} {w : World} {base : Nat} {v : Value} {l : List Sli} (h : Lr T w base v l) : v.oneCell' = true := by
 obtain ⟨a, cap, rfl⟩ := h.len
 rfl
set_option maxHeartbeats 4000000 in
theorem put_record (w : World) (L : Nat) (V : Value) (sl : List Sli) (zs : List (List Int)) (R : List Int) (b off m : Nat) (W : World) (h : Box w L V sl zs W) (hr : RowU W (some ⟨b, off, none⟩) m R) (h1 : 1 ≤ m) (h2 : m ≤ 64) (hs : sl.length ≤ 1000000) :
  Calls Tryz.prog 109 #[.slice (some ⟨b, off, none⟩) m m, .pointer (some ⟨L, 0, none⟩)] W fun e w' => e = .returned (.tuple #[]) ∧ ∃ V' sl', Box w L V' sl' (zs ++ [R]) w' := by
 have HC : Hid (Calls Tryz.prog 110 #[.slice (some ⟨b, off, none⟩) m m] W.drew fun e w' => GaveU W.drew R e w') := clone_any _ m m R _ hr (by omega)
 have HBU0 : Hid (Box w L V sl zs W.drew) := h.next (Below.refl _ _).drew
 have HB0 : Hid (Box w L V sl zs W.drew) := HBU0.out
 have HRL : Hid (R.length = m) := hr.1
 have HM1 : Hid (0 < m) := h1
 have HM6 : Hid (m ≤ 100000) := Nat.le_trans h2 (by decide)
 have HS6 : Hid (sl.length ≤ 1000000) := hs
 clear hr h h1 h2 hs
 go_enter Tryz.func109, Tryz.ntmps109
 refine wp_region_held_drew (S := fun v => True) (by kernel_rfl) trivial (fun hHeld => ?_)
 generalize W.drew = U0 at *
 refine zqs 1 4 (.slice (some ⟨b, off, none⟩) m m) rfl rfl (by kernel_rfl) (fun _ _ _ h => h) rfl (fun v hv => by clear hv; go_simp) hHeld ?_
 simp only [Act.put, zqa, zqb, zqc]
 refine wpAnyH_ready (rs := [0, 2]) (by kernel_rfl) (by simp) (AllReadyH.cons rfl (fun K hK => ?_) (AllReadyH.cons rfl (fun K hK => ?_) AllReadyH.nil))
 ·rw [if_pos (by rfl)]
  have cU0 : U0.cell? ⟨L, 0, none⟩ = some V := HBU0.out.blk.cell 0
  refine wp_runOp (v := V) (w' := U0) 3 rfl (by clear hK; go_simp) ?_
  refine hK.out _ _ trivial (fun hHeld => ?_)
  clear hK cU0
  simp only [Act.put, zqa, zqb, zqc]
  refine zqo 2 (by kernel_rfl) rfl (fun K hK => ?_)
  rw [if_pos (by rfl)]
  refine wp_callOp 5 rfl (by clear hK; go_simp) (HC.out) ?_
  rintro e U1 ⟨v5, rfl, hws, hb⟩
  obtain ⟨a5, cap5, rfl, hrow, hnl, hcp⟩ := Ws.row hws
  rw [HRL.out] at hrow hcp ⊢
  obtain ⟨g, o5, rfl, hg5, hc5⟩ := hrow.at HM1.out
  have HCP : Hid (m ≤ cap5) := hcp
  have HG : Hid (U0.heap.size ≤ g) := (World.ownsRow.lt hws g rfl).1
  have HRU1 : Hid (RowU U1 (some ⟨g, o5, none⟩) m R ∧ g < U1.heap.size) := ⟨hrow, hg5⟩
  have HBU1 : Hid (Box w L V sl zs U1) := HBU0.out.next hb
  refine ⟨_, rfl, hK.out _ _ trivial (fun hHeld => ?_)⟩
  clear hK HC hws hb hnl hcp hc5 hg5 hrow HBU0
  simp only [Act.put, zqa, zqb, zqc]
  have HNE : Hid (some g ≠ V.ownBlock) := fun e => by have := (World.ownsRow.lt HB0.out.row g e.symm).2; have := HG.out; omega
  have HGL : Hid (L + 1 ≤ g) := by have := HB0.out.blk.lt; have := HG.out; show _ ≤ _; omega
  refine zqo 3 (by kernel_rfl) rfl (fun K hK => ?_)
  rw [if_pos (by rfl)]
  have hb : Below U1.heap.size U1 (U1.alloc (.cells #[.slice (some ⟨g, o5, none⟩) m cap5] 31)) := (Below.refl _ _).alloc (Nat.le_refl _) _
  have HBU2 : Hid (Box w L V sl zs (U1.alloc (.cells #[.slice (some ⟨g, o5, none⟩) m cap5] 31))) := HBU1.out.next hb
  have HRU2 : Hid (RowU (U1.alloc (.cells #[.slice (some ⟨g, o5, none⟩) m cap5] 31)) (some ⟨g, o5, none⟩) m R ∧ g < (U1.alloc (.cells #[.slice (some ⟨g, o5, none⟩) m cap5] 31)).heap.size) := ⟨HRU1.out.1.below hb, Nat.lt_of_lt_of_le HRU1.out.2 hb.size⟩
  have HX : Hid ((U1.alloc (.cells #[.slice (some ⟨g, o5, none⟩) m cap5] 31)).cell? ⟨U1.heap.size, 0, none⟩ = some (.slice (some ⟨g, o5, none⟩) m cap5)) := (Blk.new _ _ _).cell 0
  clear hb
  refine wp_runOp (v := .slice (some ⟨U1.heap.size, 0, none⟩) 1 1) (w' := (U1.alloc (.cells #[.slice (some ⟨g, o5, none⟩) m cap5] 31))) 6 rfl (by clear hK; go_simp) ?_
  refine hK.out _ _ trivial (fun hHeld => ?_)
  clear hK HBU1 HRU1
  simp only [Act.put, zqa, zqb, zqc]
  generalize U1.heap.size = G at *
  generalize (U1.alloc (.cells #[.slice (some ⟨g, o5, none⟩) m cap5] 31)) = U2 at *
  refine zqo 4 (by kernel_rfl) rfl (fun K hK => ?_)
  refine step_sli sliT rfl _ _ rfl (L + 1) G V sl ⟨some ⟨g, o5, none⟩, m, cap5⟩ rfl rfl HBU2.out.row HX.out HS6.out (HBU2.out.blk.lt) ?_
  intro v7 W3 h3 hg3 ho3
  refine hK.out _ _ trivial (fun hHeld => ?_)
  clear hK
  simp only [Act.put, zqa, zqb, zqc]
  refine zqo 5 (by kernel_rfl) rfl (fun K hK => ?_)
  rw [if_pos (by rfl)]
  refine wp_letOne 173 _ _ rfl L rfl v7 rfl (lr_cells h3) (by kernel_rfl) (lr_one h3) V 173 (HBU2.out.kept hg3) rfl ?_
  intro W4 hU
  have HF : Hid (Box w L v7 (sl ++ [⟨some ⟨g, o5, none⟩, m, cap5⟩]) (zs ++ [R]) W4) := box_step HBU2.out rfl HRU2.out.2 HNE.out HGL.out HRU2.out.1 ⟨HM6.out, HCP.out, fun h => by cases h⟩ h3 hg3 ho3 hU
  refine hK.out _ _ trivial (fun hHeld => ?_)
  clear hK hU h3 hg3 ho3
  refine wpAnyH_done (by kernel_rfl) ?_ _
  clear hHeld
  go_wp2_with fail
  go_end0
  exact ⟨rfl, _, _, HF.out⟩
 ·rw [if_pos (by rfl)]
  refine wp_callOp 5 rfl (by clear hK; go_simp) (HC.out) ?_
  rintro e U1 ⟨v5, rfl, hws, hb⟩
  obtain ⟨a5, cap5, rfl, hrow, hnl, hcp⟩ := Ws.row hws
  rw [HRL.out] at hrow hcp ⊢
  obtain ⟨g, o5, rfl, hg5, hc5⟩ := hrow.at HM1.out
  have HCP : Hid (m ≤ cap5) := hcp
  have HG : Hid (U0.heap.size ≤ g) := (World.ownsRow.lt hws g rfl).1
  have HRU1 : Hid (RowU U1 (some ⟨g, o5, none⟩) m R ∧ g < U1.heap.size) := ⟨hrow, hg5⟩
  have HBU1 : Hid (Box w L V sl zs U1) := HBU0.out.next hb
  refine ⟨_, rfl, hK.out _ _ trivial (fun hHeld => ?_)⟩
  clear hK HC hws hb hnl hcp hc5 hg5 hrow HBU0
  simp only [Act.put, zqa, zqb, zqc]
  have HNE : Hid (some g ≠ V.ownBlock) := fun e => by have := (World.ownsRow.lt HB0.out.row g e.symm).2; have := HG.out; omega
  have HGL : Hid (L + 1 ≤ g) := by have := HB0.out.blk.lt; have := HG.out; show _ ≤ _; omega
  refine wpAnyH_ready (rs := [0, 3]) (by kernel_rfl) (by simp) (AllReadyH.cons rfl (fun K hK => ?_) (AllReadyH.cons rfl (fun K hK => ?_) AllReadyH.nil))
  ·rw [if_pos (by rfl)]
   have cU1 : U1.cell? ⟨L, 0, none⟩ = some V := HBU1.out.blk.cell 0
   refine wp_runOp (v := V) (w' := U1) 3 rfl (by clear hK; go_simp) ?_
   refine hK.out _ _ trivial (fun hHeld => ?_)
   clear hK cU1
   simp only [Act.put, zqa, zqb, zqc]
   refine zqo 3 (by kernel_rfl) rfl (fun K hK => ?_)
   rw [if_pos (by rfl)]
   have hb : Below U1.heap.size U1 (U1.alloc (.cells #[.slice (some ⟨g, o5, none⟩) m cap5] 31)) := (Below.refl _ _).alloc (Nat.le_refl _) _
   have HBU2 : Hid (Box w L V sl zs (U1.alloc (.cells #[.slice (some ⟨g, o5, none⟩) m cap5] 31))) := HBU1.out.next hb
   have HRU2 : Hid (RowU (U1.alloc (.cells #[.slice (some ⟨g, o5, none⟩) m cap5] 31)) (some ⟨g, o5, none⟩) m R ∧ g < (U1.alloc (.cells #[.slice (some ⟨g, o5, none⟩) m cap5] 31)).heap.size) := ⟨HRU1.out.1.below hb, Nat.lt_of_lt_of_le HRU1.out.2 hb.size⟩
   have HX : Hid ((U1.alloc (.cells #[.slice (some ⟨g, o5, none⟩) m cap5] 31)).cell? ⟨U1.heap.size, 0, none⟩ = some (.slice (some ⟨g, o5, none⟩) m cap5)) := (Blk.new _ _ _).cell 0
   clear hb
   refine wp_runOp (v := .slice (some ⟨U1.heap.size, 0, none⟩) 1 1) (w' := (U1.alloc (.cells #[.slice (some ⟨g, o5, none⟩) m cap5] 31))) 6 rfl (by clear hK; go_simp) ?_
   refine hK.out _ _ trivial (fun hHeld => ?_)
   clear hK HBU1 HRU1
   simp only [Act.put, zqa, zqb, zqc]
   generalize U1.heap.size = G at *
   generalize (U1.alloc (.cells #[.slice (some ⟨g, o5, none⟩) m cap5] 31)) = U2 at *
   refine zqo 4 (by kernel_rfl) rfl (fun K hK => ?_)
   refine step_sli sliT rfl _ _ rfl (L + 1) G V sl ⟨some ⟨g, o5, none⟩, m, cap5⟩ rfl rfl HBU2.out.row HX.out HS6.out (HBU2.out.blk.lt) ?_
   intro v7 W3 h3 hg3 ho3
   refine hK.out _ _ trivial (fun hHeld => ?_)
   clear hK
   simp only [Act.put, zqa, zqb, zqc]
   refine zqo 5 (by kernel_rfl) rfl (fun K hK => ?_)
   rw [if_pos (by rfl)]
   refine wp_letOne 173 _ _ rfl L rfl v7 rfl (lr_cells h3) (by kernel_rfl) (lr_one h3) V 173 (HBU2.out.kept hg3) rfl ?_
   intro W4 hU
   have HF : Hid (Box w L v7 (sl ++ [⟨some ⟨g, o5, none⟩, m, cap5⟩]) (zs ++ [R]) W4) := box_step HBU2.out rfl HRU2.out.2 HNE.out HGL.out HRU2.out.1 ⟨HM6.out, HCP.out, fun h => by cases h⟩ h3 hg3 ho3 hU
   refine hK.out _ _ trivial (fun hHeld => ?_)
   clear hK hU h3 hg3 ho3
   refine wpAnyH_done (by kernel_rfl) ?_ _
   clear hHeld
   go_wp2_with fail
   go_end0
   exact ⟨rfl, _, _, HF.out⟩
  ·rw [if_pos (by rfl)]
   have hb : Below U1.heap.size U1 (U1.alloc (.cells #[.slice (some ⟨g, o5, none⟩) m cap5] 31)) := (Below.refl _ _).alloc (Nat.le_refl _) _
   have HBU2 : Hid (Box w L V sl zs (U1.alloc (.cells #[.slice (some ⟨g, o5, none⟩) m cap5] 31))) := HBU1.out.next hb
   have HRU2 : Hid (RowU (U1.alloc (.cells #[.slice (some ⟨g, o5, none⟩) m cap5] 31)) (some ⟨g, o5, none⟩) m R ∧ g < (U1.alloc (.cells #[.slice (some ⟨g, o5, none⟩) m cap5] 31)).heap.size) := ⟨HRU1.out.1.below hb, Nat.lt_of_lt_of_le HRU1.out.2 hb.size⟩
   have HX : Hid ((U1.alloc (.cells #[.slice (some ⟨g, o5, none⟩) m cap5] 31)).cell? ⟨U1.heap.size, 0, none⟩ = some (.slice (some ⟨g, o5, none⟩) m cap5)) := (Blk.new _ _ _).cell 0
   clear hb
   refine wp_runOp (v := .slice (some ⟨U1.heap.size, 0, none⟩) 1 1) (w' := (U1.alloc (.cells #[.slice (some ⟨g, o5, none⟩) m cap5] 31))) 6 rfl (by clear hK; go_simp) ?_
   refine hK.out _ _ trivial (fun hHeld => ?_)
   clear hK HBU1 HRU1
   simp only [Act.put, zqa, zqb, zqc]
   generalize U1.heap.size = G at *
   generalize (U1.alloc (.cells #[.slice (some ⟨g, o5, none⟩) m cap5] 31)) = U2 at *
   refine zqo 0 (by kernel_rfl) rfl (fun K hK => ?_)
   rw [if_pos (by rfl)]
   have cU2 : U2.cell? ⟨L, 0, none⟩ = some V := HBU2.out.blk.cell 0
   refine wp_runOp (v := V) (w' := U2) 3 rfl (by clear hK; go_simp) ?_
   refine hK.out _ _ trivial (fun hHeld => ?_)
   clear hK cU2
   simp only [Act.put, zqa, zqb, zqc]
   refine zqo 4 (by kernel_rfl) rfl (fun K hK => ?_)
   refine step_sli sliT rfl _ _ rfl (L + 1) G V sl ⟨some ⟨g, o5, none⟩, m, cap5⟩ rfl rfl HBU2.out.row HX.out HS6.out (HBU2.out.blk.lt) ?_
   intro v7 W3 h3 hg3 ho3
   refine hK.out _ _ trivial (fun hHeld => ?_)
   clear hK
   simp only [Act.put, zqa, zqb, zqc]
   refine zqo 5 (by kernel_rfl) rfl (fun K hK => ?_)
   rw [if_pos (by rfl)]
   refine wp_letOne 173 _ _ rfl L rfl v7 rfl (lr_cells h3) (by kernel_rfl) (lr_one h3) V 173 (HBU2.out.kept hg3) rfl ?_
   intro W4 hU
   have HF : Hid (Box w L v7 (sl ++ [⟨some ⟨g, o5, none⟩, m, cap5⟩]) (zs ++ [R]) W4) := box_step HBU2.out rfl HRU2.out.2 HNE.out HGL.out HRU2.out.1 ⟨HM6.out, HCP.out, fun h => by cases h⟩ h3 hg3 ho3 hU
   refine hK.out _ _ trivial (fun hHeld => ?_)
   clear hK hU h3 hg3 ho3
   refine wpAnyH_done (by kernel_rfl) ?_ _
   clear hHeld
   go_wp2_with fail
   go_end0
   exact ⟨rfl, _, _, HF.out⟩
end disk
end Go.Proofs.YtdpfnedfakgolaaGreatDoor
