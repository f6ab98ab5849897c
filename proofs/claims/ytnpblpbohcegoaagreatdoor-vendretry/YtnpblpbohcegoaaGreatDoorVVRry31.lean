import Derived.Test.YtnpblpbohcegoaaGreatDoorVVRry23
set_option linter.unusedVariables false
set_option linter.unusedSimpArgs false
set_option maxHeartbeats 4000000
set_option maxRecDepth 100000
namespace Go.Proofs.YtnpblpbohcegoaaGreatDoor
namespace vnd
open book (Ev ev0 Cm cm0 So so0 Sees)
open acc (Ac Tm Bi)
open ora (Pr)
open cell (Wr RowU RowW)
open rcp (Rc rc0)
open Go.RowKit
theorem served0 (K:KvCha) (t:Tm) (pt:Option Addr) (lt ct:Nat) (a:Option Addr) (n cap:Nat) (c:List Int) (ao:Option Addr) (no ko:Nat) (o:List Pr) (x:Od) (w:World) (ht:acc.TCame w t pt lt ct) (h:Dk w a n cap c) (ho:ora.Came w ao no ko o) (hx:wf5 x) (hk:check.pick x.k 8=0):Calls Tryz.prog 21 #[.agg #[.slice pt lt ct,zI t.ff,zI t.fb,zI t.db,zI t.al,.slice a n cap,.slice ao no ko],.agg #[zI x.k,zI x.m,zI x.a,zI x.b,zI x.d]] w fun e w'=>ServePost w ao no (ServedIs t c o x) e w':=by
 have HT:Hid (∀ W,Below w.heap.size w W→acc.TCame W t pt lt ct):=fun W hW=>ht.below hW;have HC:Hid (∀ W,Below w.heap.size w W→Dk W a n cap c):=fun W hW=>h.below hW;have HO:Hid (∀ W,Below w.heap.size w W→ora.Came W ao no ko o):=fun W hW=>ho.below hW;have HKK:Hid KvCha:=K;have HPM:Hid (∀ W,Calls Tryz.prog 18 #[zI x.m,zI 3] W fun e w'=>e = .returned (zI (check.pick x.m 3))∧w'=W):=fun W=>check.picked_any x.m 3 W hx.2.1 (by decide) (by decide);have HPD:Hid (∀ W,Calls Tryz.prog 18 #[zI x.d,zI 65536] W fun e w'=>e = .returned (zI (check.pick x.d 65536))∧w'=W):=fun W=>check.picked_any x.d 65536 W hx.2.2.2.2 (by decide) (by decide);have HPK:Hid (∀ W,Calls Tryz.prog 18 #[zI x.k,zI 8] W fun e w'=>e = .returned (zI (check.pick x.k 8))∧w'=W):=fun W=>check.picked_any x.k 8 W hx.1 (by decide) (by decide);have HPA:Hid (∀ W,Calls Tryz.prog 18 #[zI x.a,zI 100000] W fun e w'=>e = .returned (zI (check.pick x.a 100000))∧w'=W):=fun W=>check.picked_any x.a 100000 W hx.2.2.1 (by decide) (by decide);have HPB:Hid (∀ W,Calls Tryz.prog 18 #[zI x.b,zI 1000] W fun e w'=>e = .returned (zI (check.pick x.b 1000))∧w'=W):=fun W=>check.picked_any x.b 1000 W hx.2.2.2.1 (by decide) (by decide);have HLO:Hid (0<no→∀ y,ao=some y→y.block<w.heap.size):=rowP_ltK ho.row;clear h ht ho K hx;obtain ⟨W0,HWW,H0s,H0x,H0r,H0p,H0B,hs0⟩:=sh4 w #[.slice pt lt ct,zI t.ff,zI t.fb,zI t.db,zI t.al,.slice a n cap,.slice ao no ko] 41 #[zI x.k,zI x.m,zI x.a,zI x.b,zI x.d] 75 #[zS] 39 #[zI 0,zI 0,zI 0,zI 0,zI 0,zI 0,zI 0,zI 0,.string ⟨#[]⟩] 78;go_enter Tryz.func21,Tryz.ntmps21;go_upto_region 1 with fail
 rw [HWW.o];clear HWW;have qx1:W0.cell? ⟨w.heap.size+1,1,none⟩=some (zI x.m):=H0x.o.cell 1;go_wp2_with fail;refine (HPM.o _).mono ?_;rintro e wz ⟨rfl,hwz⟩;subst wz;clear HPM qx1;have qx4:W0.cell? ⟨w.heap.size+1,4,none⟩=some (zI x.d):=H0x.o.cell 4;go_wp2_with fail;refine (HPD.o _).mono ?_;rintro e wz ⟨rfl,hwz⟩;subst wz;clear HPD qx4;have qx0:W0.cell? ⟨w.heap.size+1,0,none⟩=some (zI x.k):=H0x.o.cell 0;go_wp2_with fail;refine (HPK.o _).mono ?_;rintro e wz ⟨rfl,hwz⟩;subst wz;clear HPK qx0;have t0:(check.pick x.k 8 == 0)=true:=by rw [hk];rfl
 have HSI:Hid (∀ ls f,ChaIs t c (check.pick x.m 3) (1+check.pick x.a 100000) (check.pick x.b 1000) ls f→ServedIs t c o x ls o rc0 f):=fun ls f hh=> .inl ⟨hk,hh,rfl,rfl⟩;have bm:=And.intro (check.pick_nonneg x.m 3 (by decide)) (check.pick_lt x.m 3 (by decide));have ba:=And.intro (check.pick_nonneg x.a 100000 (by decide)) (check.pick_lt x.a 100000 (by decide));have bb:=And.intro (check.pick_nonneg x.b 1000 (by decide)) (check.pick_lt x.b 1000 (by decide));have hwa:IntKind.i64.wrap (1+check.pick x.a 100000)=1+check.pick x.a 100000:=by rw [IntKind.wrap_i64];omega
 clear hk;generalize check.pick x.k 8=kk at *;generalize check.pick x.m 3=me at *;generalize check.pick x.d 65536=dr at *;generalize check.pick x.a 100000=qa at *;generalize check.pick x.b 1000=qb at *;have f0:(Lit.int .i64 me).wf=true:=tar.wf_mid (by omega) (by omega);have f1:(Lit.int .i64 (1+qa)).wf=true:=tar.wf_mid (by omega) (by omega);have f2:(Lit.int .i64 qb).wf=true:=tar.wf_mid (by omega) (by omega);have HKL:Hid (∀ W,Below W0.heap.size W0 W→Calls Tryz.prog 42 #[.agg #[.slice pt lt ct,zI t.ff,zI t.fb,zI t.db,zI t.al],.slice a n cap,zI me,.agg #[zI (1+qa),zI qb]] W fun e w'=>WrGot W (ChaIs t c me (1+qa) qb) e w'):=fun W hW=>HKK.o W t pt lt ct a n cap c me ⟨1+qa,qb⟩ (HT.o _ (bel_step H0B.o hW)) (HC.o _ (bel_step H0B.o hW)) f0 f1 f2;clear HKK HT HC f0 f1 f2;go_wp2_with fail;have ls0:w.heap.size<W0.heap.size:=H0s.o.lt;have lx0:w.heap.size+1<W0.heap.size:=H0x.o.lt;obtain ⟨z0,z1,z2,z3,z4,z5,z6⟩:=scl7 H0s;have u2:W0.cell? ⟨w.heap.size+1,2,none⟩=some (zI x.a):=H0x.o.cell 2;have u3:W0.cell? ⟨w.heap.size+1,3,none⟩=some (zI x.b):=H0x.o.cell 3;have HB0:Hid (Below W0.heap.size W0 W0.drew):=(Below.refl _ _).drew;refine wp_region_held_drew (S:=fun v=>Below W0.heap.size W0 v) (by kernel_rfl) HB0.o (fun hHeld=>?_);refine zqs 0 36 (.pointer (some ⟨w.heap.size,0,none⟩)) rfl rfl (by kernel_rfl) zid rfl (fun v hv=>by clear hv;go_simp) hHeld ?_;simp only [zq];refine zqt 1 37 (.agg #[.slice pt lt ct,zI t.ff,zI t.fb,zI t.db,zI t.al]) rfl rfl (by kernel_rfl) zid (Or.inl ⟨by rfl,fun v hv=>by have g0:=(hv.cell (p:=⟨w.heap.size,0,none⟩) ls0).trans z0;have g1:=(hv.cell (p:=⟨w.heap.size,1,none⟩) ls0).trans z1;have g2:=(hv.cell (p:=⟨w.heap.size,2,none⟩) ls0).trans z2;have g3:=(hv.cell (p:=⟨w.heap.size,3,none⟩) ls0).trans z3;have g4:=(hv.cell (p:=⟨w.heap.size,4,none⟩) ls0).trans z4;clear hv;go_simp⟩) hHeld ?_;simp only [zq];refine zqs 2 38 (.pointer (some ⟨w.heap.size,5,none⟩)) rfl rfl (by kernel_rfl) zid rfl (fun v hv=>by clear hv;go_simp) hHeld ?_
 simp only [zq];refine zqt 3 39 (.slice a n cap) rfl rfl (by kernel_rfl) zid (Or.inl ⟨by rfl,fun v hv=>by have g5:=(hv.cell (p:=⟨w.heap.size,5,none⟩) ls0).trans z5;clear hv;go_simp⟩) hHeld ?_;simp only [zq];refine zqs 4 40 (zI me) rfl rfl (by kernel_rfl) zid rfl (fun v hv=>by clear hv;go_simp) hHeld ?_;simp only [zq];refine zqs 5 41 (.pointer (some ⟨w.heap.size+1,2,none⟩)) rfl rfl (by kernel_rfl) zid rfl (fun v hv=>by clear hv;go_simp) hHeld ?_;simp only [zq];refine zqt 6 42 (zI x.a) rfl rfl (by kernel_rfl) zid (Or.inl ⟨by rfl,fun v hv=>by have g2:=(hv.cell (p:=⟨w.heap.size+1,2,none⟩) lx0).trans u2;clear hv;go_simp⟩) hHeld ?_;simp only [zq];refine call_at 7 43 (zI qa) _ rfl rfl (by kernel_rfl) (by kernel_rfl) (by kernel_rfl) zid 18 #[zI x.a,zI 100000] ⟨by rfl,fun v hv=>by go_simp⟩ (fun v _=>HPA.o v) hHeld ?_;simp only [zq];refine zqs 8 44 (zI (1+qa)) rfl rfl (by kernel_rfl) zid rfl (fun v hv=>by clear hv;go_simp) hHeld ?_;simp only [zq];refine zqs 9 45 (.pointer (some ⟨w.heap.size+1,3,none⟩)) rfl rfl (by kernel_rfl) zid rfl (fun v hv=>by clear hv;go_simp) hHeld ?_;simp only [zq];refine zqt 10 46 (zI x.b) rfl rfl (by kernel_rfl) zid (Or.inl ⟨by rfl,fun v hv=>by have g3:=(hv.cell (p:=⟨w.heap.size+1,3,none⟩) lx0).trans u3;clear hv;go_simp⟩) hHeld ?_;simp only [zq];refine call_at 11 47 (zI qb) _ rfl rfl (by kernel_rfl) (by kernel_rfl) (by kernel_rfl) zid 18 #[zI x.b,zI 1000] ⟨by rfl,fun v hv=>by go_simp⟩ (fun v _=>HPB.o v) hHeld ?_;simp only [zq];refine zqs 12 48 (.agg #[zI (1+qa),zI qb]) rfl rfl (by kernel_rfl) zid rfl (fun v hv=>by clear hv;go_simp) hHeld ?_;simp only [zq];clear z0 z1 z2 z3 z4 z5 z6 u2 u3;refine zqo 13 (by kernel_rfl) rfl (fun K hK=>?_);rw [if_pos (by rfl)];refine wp_callOp 49 rfl (by clear hK;go_simp) (HKL.o _ HB0.o) ?_;rintro e w1 ⟨p,m,cp,ls,f,rfl,hri,hrw,hnw,hle,hm,hbx⟩;have hb1:Below W0.heap.size W0 w1:=bel_step HB0.o hbx;have HWW:Hid (RowW w1 p m ls):=hrw
 have HV:Hid (ServedIs t c o x ls o rc0 f):=HSI.o _ _ hri;have HNN:Hid (∀ y,p=some y→W0.heap.size≤y.block):=hnw;have H1s:=shN H0s hb1;have H1x:=shN H0x hb1;have H1r:=shN H0r hb1;have H1p:=shN H0p hb1;have H1B:=shB H0B hb1;have HOO:Hid (ora.Came w1 ao no ko o):=HO.o _ H1B.o;have HPP:Hid (ora.RowP w1 ao no o):=HOO.o.row;refine ⟨_,rfl,hK.o _ _ hb1 (fun hHeld=>?_)⟩;clear hK K hbx hri hrw hnw HKL HSI HB0 HO H0s H0x H0r H0p H0B;simp only [zq];refine zqs 14 35 (.tuple #[.slice p m cp,zI f]) rfl rfl (by kernel_rfl) zid rfl (fun v hv=>by clear hv;go_simp) hHeld ?_;simp only [zq];refine zqs 15 50 (.slice p m cp) rfl rfl (by kernel_rfl) zid rfl (fun v hv=>by clear hv;go_simp) hHeld ?_;simp only [zq];refine zqs 16 51 (zI f) rfl rfl (by kernel_rfl) zid rfl (fun v hv=>by clear hv;go_simp) hHeld ?_;simp only [zq];refine zqs 17 10 (.slice p m cp) rfl rfl (by kernel_rfl) zid rfl (fun v hv=>by clear hv;go_simp) hHeld ?_;simp only [zq];refine zqs 18 11 (zI f) rfl rfl (by kernel_rfl) zid rfl (fun v hv=>by clear hv;go_simp) hHeld ?_;simp only [zq];refine wpAnyH_done (by kernel_rfl) ?_ _;clear hHeld hb1;go_wp2_with fail;refine wp_region_held_drew (S:=fun v=>Blk v (w.heap.size) #[.slice pt lt ct,zI t.ff,zI t.fb,zI t.db,zI t.al,.slice a n cap,.slice ao no ko] 41) (by kernel_rfl) (Blk.drew H1s.o 1) (fun hHeld=>?_);refine zqs 0 52 (.slice p m cp) rfl rfl (by kernel_rfl) zid rfl (fun v hv=>by clear hv;go_simp) hHeld ?_;simp only [zq];refine zqs 1 53 (.pointer (some ⟨w.heap.size,6,none⟩)) rfl rfl (by kernel_rfl) zid rfl (fun v hv=>by clear hv;go_simp) hHeld ?_;simp only [zq];refine zqt 2 54 (.agg #[.slice ao no ko]) rfl rfl (by kernel_rfl) zid (Or.inl ⟨by rfl,fun v hv=>by have g0:=hv.cell 6;clear hv;go_simp⟩) hHeld ?_;simp only [zq];refine zqs 3 55 (.agg #[zI 0,zI 0,zI 0,zI 0,zI 0,zI 0,zI 0,zI 0,.string ⟨#[]⟩]) rfl rfl (by kernel_rfl) zid rfl (fun v hv=>by clear hv;go_simp) hHeld ?_;simp only [zq];refine zqs 4 56 (zI f) rfl rfl (by kernel_rfl) zid rfl (fun v hv=>by clear hv;go_simp) hHeld ?_
 simp only [zq];refine zqs 5 4 (.slice p m cp) rfl rfl (by kernel_rfl) zid rfl (fun v hv=>by clear hv;go_simp) hHeld ?_;simp only [zq];refine zqo 6 (by kernel_rfl) rfl (fun K hK=>?_);rw [if_pos (by rfl)];refine wp_letOp 39 _ _ rfl (w.heap.size+1+1) rfl #[.slice ao no ko] rfl (by kernel_rfl) (by simp [Value.oneCell']) #[zS] 39 (Blk.drew H1r.o 1) rfl rfl ?_;intro V1 hU;have H2s:Hid (Blk V1 (w.heap.size) #[.slice pt lt ct,zI t.ff,zI t.fb,zI t.db,zI t.al,.slice a n cap,.slice ao no ko] 41):=hU.keep (Blk.drew H1s.o 1) (by omega);have H2x:Hid (Blk V1 (w.heap.size+1) #[zI x.k,zI x.m,zI x.a,zI x.b,zI x.d] 75):=hU.keep (Blk.drew H1x.o 1) (by omega);have H2r:Hid (Blk V1 (w.heap.size+1+1) #[.slice ao no ko] 39):=hU.blk;have H2p:Hid (Blk V1 (w.heap.size+1+1+1) #[zI 0,zI 0,zI 0,zI 0,zI 0,zI 0,zI 0,zI 0,.string ⟨#[]⟩] 78):=hU.keep (Blk.drew H1p.o 1) (by omega);have HRW1:Hid (RowW V1 p m ls):=rowW_updK (HWW.o.below (bel_drew (Below.refl _ _) 1)) hU (fun hn y hy=>by have:=HNN.o y hy;omega);have HRP1:Hid (ora.RowP V1 ao no o):=rowP_updK (HPP.o.below (bel_drew (Below.refl _ _) 1)) hU (fun hn y hy=>by have:=HLO.o hn y hy;omega);have H2B:Hid (Below w.heap.size w V1):=hU.bel _ _ (by omega) H1B.o.drew;clear hU H1s H1x H1r H1p H1B;refine hK.o _ _ H2s.o (fun hHeld=>?_);clear hK K;refine zqo 7 (by kernel_rfl) rfl (fun K hK=>?_);rw [if_pos (by rfl)];refine wp_letOp 78 _ _ rfl (w.heap.size+1+1+1) rfl #[zI 0,zI 0,zI 0,zI 0,zI 0,zI 0,zI 0,zI 0,.string ⟨#[]⟩] rfl (by kernel_rfl) (by simp [Value.oneCell']) #[zI 0,zI 0,zI 0,zI 0,zI 0,zI 0,zI 0,zI 0,.string ⟨#[]⟩] 78 H2p.o rfl rfl ?_;intro V2 hU;have H3s:=shK hU H2s (by omega);have H3x:=shK hU H2x (by omega);have H3r:=shK hU H2r (by omega);have H3p:Hid (Blk V2 (w.heap.size+1+1+1) #[zI 0,zI 0,zI 0,zI 0,zI 0,zI 0,zI 0,zI 0,.string ⟨#[]⟩] 78):=hU.blk;have HRW2:Hid (RowW V2 p m ls):=rowW_updK HRW1.o hU (fun hn y hy=>by have:=HNN.o y hy;omega)
 have HRP2:Hid (ora.RowP V2 ao no o):=rowP_updK HRP1.o hU (fun hn y hy=>by have:=HLO.o hn y hy;omega);have H3B:=shV hU H2B (by omega);clear hU H2s H2x H2r H2p H2B;refine hK.o _ _ H3s.o (fun hHeld=>?_);clear hK K;refine zqs 8 7 (zI f) rfl rfl (by kernel_rfl) zid rfl (fun v hv=>by clear hv;go_simp) hHeld ?_;simp only [zq];refine wpAnyH_done (by kernel_rfl) ?_ _;clear hHeld;have Rr0:Hid (V2.cell? ⟨w.heap.size+1+1,0,none⟩=some (.slice ao no ko)):=H3r.o.cell 0;obtain ⟨Rp0,Rp1,Rp2,Rp3,Rp4,Rp5,Rp6,Rp7,Rp8⟩:=shc9 H3p;go_wp2_with fail;exact bodyPost_ret (v:= .tuple #[.slice p m cp,.agg #[.slice ao no ko],.agg #[zI 0,zI 0,zI 0,zI 0,zI 0,zI 0,zI 0,zI 0,.string ⟨#[]⟩],zI f]) (by simp [results,Tryz.results21,Rr0.o,Rp0.o,Rp1.o,Rp2.o,Rp3.o,Rp4.o,Rp5.o,Rp6.o,Rp7.o,Rp8.o,go_sem]) rfl ⟨p,m,cp,ls,ao,no,ko,o,rc0,f,rfl,HV.o,HRW2.o,(fun y hy=>by have:=HNN.o y hy;omega),(by omega),(by omega),HRP2.o,HOO.o.nil,HOO.o.le,(fun hn y hy=> .inr ⟨hn,hy⟩),H3B.o⟩
end vnd
namespace ora
open Go.RowKit
set_option maxRecDepth 100000
theorem step_pr {w : World} {ops : Array Oper} {o : Oper} {a : Act} {K : Act → World → Prop} {Q : Exit → Act → World → Prop} {E : Prop} (hgd : o.guard = none) (s x : Operand)
  (ho : o.op = .call { callee := .builtin .append, args := #[s, x], argTypes := #[37, 37] })
  (base G : Nat) (v : Value) (l : List Pr) (r : Pr) (hs : a.eval s = v) (hx : a.eval x = .slice (some ⟨G, 0, none⟩) 1 1) (hv : Pw w base v l) (hu : PrAt w G 0 r) (hn : l.length ≤ 1000000) (hbase : base ≤ w.heap.size)
  (h : ∀ v' w', Pw w' base v' (l ++ [r]) → w.grownBy w' v.ownBlock → K (a.put o.dst v') w') : if Region.wanted o (yielded ops a.tmps) = true then Oper.wp Tryz.prog o a w K Q else E := by
 have hw : Region.wanted o (yielded ops a.tmps) = true := by simp [Region.wanted, hgd]
 rw [if_pos hw]
 obtain ⟨i0, hi, hz0, hz1, hz2⟩ := info_parts info_pr
 obtain ⟨v', w', hr, h2, h3, _⟩ := run_append_own (P := Tryz.prog) w base 37 o.type 279 i0 (.agg #[.int .i64 0, .int .i64 0, .int .i64 0, .int .i64 0]) 4 32 Tryz.underlying37 hi hz0 hz1 hz2 rfl (by decide) v l.length (cellsP l) hv ⟨G, 0, none⟩ 1 1 (cellsP [r]) rfl (by
  intro j u hj
  match j, hj with
  | 0, hj => simp [cellsP] at hj; subst hj; simpa [Addr.add] using hu.1
  | 1, hj => simp [cellsP] at hj; subst hj; simpa [Addr.add] using hu.2.1
  | 2, hj => simp [cellsP] at hj; subst hj; simpa [Addr.add] using hu.2.2.1
  | 3, hj => simp [cellsP] at hj; subst hj; simpa [Addr.add] using hu.2.2.2
  | j + 4, hj => simp [cellsP] at hj) (oneP [r]) (by unfold maxLen; omega) (by omega) hbase
 unfold Oper.wp execOp
 simp only [ho, resolve, invoke, builtin, Sem.run_bind, Sem.run_pure, Result.andThen_ok, List.map_toArray, List.map_cons, List.map_nil, hs, hx, hr]
 refine h v' w' ?_ h3
 unfold Pw
 rw [List.length_append, cellsP_app]
 exact h2
def IssueQ (w : World) (l : List Pr) (m r b d : Int) (e : Ending) (w' : World) : Prop :=
 ∃ v ls x c, e = .returned (.tuple #[.agg #[v], .int .i64 x, .int .i64 c]) ∧ Pw w' w.heap.size v ls ∧ IssueIs l m r b d ls x c ∧ Below w.heap.size w w'
theorem Pw.lies {w : World} {base : Nat} {v : Value} {l : List Pr} (h : Pw w base v l) : ∃ a cap, v = .slice a l.length cap ∧ RowP w a l.length l ∧ (a = none → cap = 0) ∧ l.length ≤ cap ∧ (∀ y, a = some y → base ≤ y.block ∧ y.block < w.heap.size) := by
 obtain ⟨a, cap, hv, h1, h2, h3⟩ := h.row
 refine ⟨a, cap, hv, h1, h2, h3, fun y hy => ?_⟩
 subst hy
 have := World.ownsRow.lt h y.block (by rw [hv]; rfl)
 exact ⟨this.1, this.2⟩
structure Bj (w wr : World) (a : Option Addr) (n cap : Nat) (l : List Pr) (G : Nat) (m r b d : Int) : Prop where
 bi : Bi w wr a n cap l
 pr : Blk wr G #[.int .i64 m, .int .i64 r, .int .i64 b, .int .i64 d] 279
theorem Bj.next {w wr w' : World} {a : Option Addr} {n cap : Nat} {l : List Pr} {G : Nat} {m r b d : Int} (h : Bj w wr a n cap l G m r b d) (hb : Below wr.heap.size wr w') : Bj w w' a n cap l G m r b d := ⟨h.bi.next hb, h.pr.next hb⟩
theorem Bj.alloc {w wr : World} {a : Option Addr} {n cap : Nat} {l : List Pr} {G : Nat} {m r b d : Int} (h : Bj w wr a n cap l G m r b d) (o : Obj) : Bj w (wr.alloc o) a n cap l G m r b d := h.next ((Below.refl _ _).alloc (Nat.le_refl _) _)
theorem Bj.drew {w wr : World} {a : Option Addr} {n cap : Nat} {l : List Pr} {G : Nat} {m r b d : Int} (h : Bj w wr a n cap l G m r b d) (q : Nat) : Bj w (wr.drewN q) a n cap l G m r b d := h.next (bel_drew (Below.refl _ _) q)
theorem Bj.cells {w wr : World} {a : Option Addr} {n cap : Nat} {l : List Pr} {G : Nat} {m r b d : Int} (h : Bj w wr a n cap l G m r b d) : wr.cell? ⟨w.heap.size, 0, none⟩ = some (.slice a n cap) ∧ wr.cell? ⟨G, 0, none⟩ = some (.int .i64 m) ∧ wr.cell? ⟨G, 0 + 1, none⟩ = some (.int .i64 r) ∧ wr.cell? ⟨G, 0 + 2, none⟩ = some (.int .i64 b) ∧ wr.cell? ⟨G, 0 + 3, none⟩ = some (.int .i64 d) :=
 ⟨h.bi.bo.box.cell 0, h.pr.cell 0, h.pr.cell 1, h.pr.cell 2, h.pr.cell 3⟩
theorem Bj.ne {w wr : World} {a : Option Addr} {n cap : Nat} {l : List Pr} {G : Nat} {m r b d : Int} (h : Bj w wr a n cap l G m r b d) : w.heap.size + 1 ≠ G := by
 rintro rfl
 have h1 := h.pr; have h2 := h.bi.out
 unfold Blk at h1 h2
 rw [h1] at h2; simp at h2
theorem Bj.put {w wr : World} {a : Option Addr} {n cap : Nat} {l : List Pr} {G : Nat} {m r b d : Int} (h : Bj w wr a n cap l G m r b d) (u : Value) : (wr.setCell ⟨w.heap.size + 1, 0, none⟩ u).cell? ⟨w.heap.size, 0, none⟩ = some (.slice a n cap) ∧ (wr.setCell ⟨w.heap.size + 1, 0, none⟩ u).cell? ⟨G, 0, none⟩ = some (.int .i64 m) ∧ (wr.setCell ⟨w.heap.size + 1, 0, none⟩ u).cell? ⟨G, 0 + 1, none⟩ = some (.int .i64 r) ∧ (wr.setCell ⟨w.heap.size + 1, 0, none⟩ u).cell? ⟨G, 0 + 2, none⟩ = some (.int .i64 b) ∧ (wr.setCell ⟨w.heap.size + 1, 0, none⟩ u).cell? ⟨G, 0 + 3, none⟩ = some (.int .i64 d) := by
 have h1 := Blk.other h.bi.bo.box 0 u (G' := w.heap.size + 1) (by omega)
 have h2 := Blk.other h.pr 0 u h.ne
 exact ⟨h1.cell 0, h2.cell 0, h2.cell 1, h2.cell 2, h2.cell 3⟩
structure En (w W : World) (v : Value) (ls : List Pr) : Prop where
 pw : Pw W w.heap.size v ls
 cell : W.cell? ⟨w.heap.size + 1, 0, none⟩ = some v
 bel : Below w.heap.size w W
theorem En.of {w w6 : World} {a : Option Addr} {n cap : Nat} {l : List Pr} {v : Value} {ls : List Pr} (hi : Bi w w6 a n cap l) (hp : Pw w6 w.heap.size v ls) : En w (w6.setCell ⟨w.heap.size + 1, 0, none⟩ v) v ls :=
 ⟨hp.put2 hi.out (by decide) 0 v, by have := (hi.out.set 0 v).cell 0; exact this, bel_set hi.bo.bel _ _ _ (by omega)⟩
set_option maxHeartbeats 2000000 in
theorem poi (a : Option Addr) (n cap : Nat) (l : List Pr) (m r b d : Int) (w : World) (hr : RowP w a n l) :
  Calls Tryz.prog 163 #[.agg #[.slice a n cap], .int .i64 m, .int .i64 r, .int .i64 b, .int .i64 d] w fun e w' => IssueQ w l m r b d e w' := by
 have HB0 : Hid (Bi w ((w.alloc (.cells #[.slice a n cap] 39)).alloc (.cells #[.slice none 0 0] 39)) a n cap l) := ⟨(Bo.new hr).alloc _, Blk.new1 w _ _ _⟩
 have HL : Hid (l.length = n) := hr.1
 have HG : Hid (∀ W, RowP W a n l → Calls Tryz.prog 187 #[.agg #[.slice a n cap]] W fun e w' => Given W l e w') := fun W h => given_any a n cap l W h
 have HCL : Hid (∀ W, n ≤ 500 → RowP W a n l → Calls Tryz.prog 190 #[.slice a n cap] W fun e w' => GaveV W l e w') := fun W h0 h => pclone_any a n cap l W h (by omega)
 have HPM : Hid (∀ W, Calls Tryz.prog 188 #[.agg #[.int .i64 m, .int .i64 r, .int .i64 b, .int .i64 d]] W fun e w' => Told W (Pr.mk m r b d).may e w') := fun W => within_any m r b d W
 have HOF : Hid (∀ W, Calls Tryz.prog 189 #[.agg #[.int .i64 m, .int .i64 r, .int .i64 b, .int .i64 d]] W fun e w' => e = .returned (.agg #[.int .i64 m, .int .i64 r, .int .i64 b]) ∧ Below W.heap.size W w') := fun W => of_any m r b d W
 clear hr
 have c0 := HB0.out.bo.box.cell 0
 go_enter Tryz.func163, Tryz.ntmps163
 go_wp2_with fail
 refine (HG.out _ HB0.out.bo.row).mono ?_
 rintro e w1 ⟨hb1, ⟨hm, B, rfl, hmp⟩ | ⟨hm, rfl⟩⟩
 ·have HI1 : Hid (Bi w w1 a n cap l) := HB0.out.next hb1
  have hn : n ≤ 500 := by rw [← HL.out]; exact hm.few
  have HMY : Hid (May l) := hm
  have HJ2 : Hid (Bj w (w1.alloc (.cells #[.int .i64 m, .int .i64 r, .int .i64 b, .int .i64 d] 279)) a n cap l w1.heap.size m r b d) := ⟨HI1.out.alloc _, Blk.new w1 _ _⟩
  have HM2 : Hid (Mp (w1.alloc (.cells #[.int .i64 m, .int .i64 r, .int .i64 b, .int .i64 d] 279)) B l) := hmp.below ((Below.refl _ _).alloc (Nat.le_refl _) _)
  have p0 := HJ2.out.pr.cell 0
  have p1 := HJ2.out.pr.cell 1
  have p2 := HJ2.out.pr.cell 2
  have p3 := HJ2.out.pr.cell 3
  clear hb1 hm hmp HB0 c0 HI1
  go_wp2_with fail
  refine (HPM.out _).mono ?_
  rintro e w2 ⟨rr, rfl, hrr, hb2⟩
  have HJ3 : Hid (Bj w w2 a n cap l w1.heap.size m r b d) := HJ2.out.next hb2
  have HM3 : Hid (Mp w2 B l) := HM2.out.below hb2
  clear hb2 HJ2 HM2 p0 p1 p2 p3
  generalize w1.heap.size = gp at *
  have z0 := HJ3.out.bi.out.cell 0
  have y0 := HJ3.out.bi.out.free 0
  cases rr with
  | false =>
   have HN : Hid (¬ (Pr.mk m r b d).may) := fun h => by have := hrr.2 h; cases this
   have HE : Hid (En w (w2.setCell ⟨w.heap.size + 1, 0, none⟩ (.slice none 0 0)) (.slice none 0 0) []) := En.of HJ3.out.bi (Pw.zero _ _)
   have R0 : Hid (_ = _) := HE.out.cell
   clear hrr
   go_wp2_with fail
   exact bodyPost_ret (v := .tuple #[.agg #[.slice none 0 0], .int .i64 0, .int .i64 2]) (by simp [results, Tryz.results163, R0.out, go_sem]) rfl ⟨_, [], 0, 2, rfl, HE.out.pw, .inr (.inl ⟨HMY.out, HN.out, rfl, rfl, rfl⟩), HE.out.bel⟩
  | true =>
   have HPY : Hid ((Pr.mk m r b d).may) := hrr.1 rfl
   clear hrr z0 y0
   have p0 := HJ3.out.pr.cell 0
   have p1 := HJ3.out.pr.cell 1
   have p2 := HJ3.out.pr.cell 2
   have p3 := HJ3.out.pr.cell 3
   go_wp2_with fail
   refine (HOF.out _).mono ?_
   rintro e w3 ⟨rfl, hb3⟩
   have HJ4 : Hid (Bj w w3 a n cap l gp m r b d) := HJ3.out.next hb3
   have hlk := look_run (HM3.out.below hb3) m r b
   clear hb3 HJ3 HM3 p0 p1 p2 p3
   have c0 := HJ4.out.bi.bo.box.cell 0
   rcases find_or l m r b with ⟨i, hi⟩ | hno
   ·rw [look_at hi] at hlk
    simp only [Option.getD_some, Option.isSome_some] at hlk
    have HAT : Hid (∃ i, At l m r b i ∧ (l.getD i pr0).t = (l.getD i pr0).t) := ⟨i, hi, rfl⟩
    have HIS : Hid (IssueIs l m r b d l (l.getD i pr0).t 0) := .inr (.inr (.inl ⟨HMY.out, HPY.out, ⟨i, hi, rfl⟩, rfl, rfl⟩))
    clear hi HAT
    generalize (l.getD i pr0).t = pt at *
    go_wp2_with fail
    refine (HCL.out _ hn HJ4.out.bi.bo.row).mono ?_
    rintro e w4 ⟨v4, rfl, hp4, hb4⟩
    have HI5 : Hid (Bi w w4 a n cap l) := HJ4.out.bi.next hb4
    have hp5 : Pw w4 w.heap.size v4 l := hp4.low HJ4.out.bi.bo.bel.size
    obtain ⟨a4, k4, rfl, _⟩ := hp5.lies
    have HE : Hid (En w (w4.setCell ⟨w.heap.size + 1, 0, none⟩ (.slice a4 l.length k4)) (.slice a4 l.length k4) l) := En.of HI5.out hp5
    have R0 : Hid (_ = _) := HE.out.cell
    have z0 := HI5.out.out.cell 0
    have y0 := HI5.out.out.free 0
    clear hb4 hp4 hp5 HJ4 c0 hlk
    generalize l.length = ln at *
    go_wp2_with fail
    exact bodyPost_ret (v := .tuple #[.agg #[.slice a4 ln k4], .int .i64 pt, .int .i64 0]) (by simp [results, Tryz.results163, R0.out, go_sem]) rfl ⟨_, l, pt, 0, rfl, HE.out.pw, HIS.out, HE.out.bel⟩
   ·rw [look_no hno] at hlk
    simp only [Option.getD_none, Option.isSome_none] at hlk
    have HNO : Hid (No l m r b) := hno
    clear hno
    by_cases h5 : n = 500
    ·have hq : ((n : Int) == 500) = true := by simp; omega
     have HL5 : Hid (l.length = 500) := by rw [← h5]; exact HL.out
     have HE : Hid (En w (w3.setCell ⟨w.heap.size + 1, 0, none⟩ (.slice none 0 0)) (.slice none 0 0) []) := En.of HJ4.out.bi (Pw.zero _ _)
     have R0 : Hid (_ = _) := HE.out.cell
     have z0 := HJ4.out.bi.out.cell 0
     have y0 := HJ4.out.bi.out.free 0
     clear h5
     go_wp2_with fail
     exact bodyPost_ret (v := .tuple #[.agg #[.slice none 0 0], .int .i64 0, .int .i64 16]) (by simp [results, Tryz.results163, R0.out, go_sem]) rfl ⟨_, [], 0, 16, rfl, HE.out.pw, .inr (.inr (.inr (.inl ⟨HMY.out, HPY.out, HNO.out, HL5.out, rfl, rfl, rfl⟩))), HE.out.bel⟩
    ·have hq : ((n : Int) == 500) = false := by simp; omega
     have HL5 : Hid (l.length < 500) := by have := HL.out; show _ < _; omega
     have HLN : Hid (l.length ≤ 1000000) := by have := HL5.out; show _ ≤ _; omega
     have HIS : Hid (IssueIs l m r b d (l ++ [⟨m, r, b, d⟩]) d 0) := .inr (.inr (.inr (.inr ⟨HMY.out, HPY.out, HNO.out, HL5.out, rfl, rfl, rfl⟩)))
     obtain ⟨l2, hl2⟩ : ∃ l2, l2 = l ++ [Pr.mk m r b d] := ⟨_, rfl⟩
     have HL2 : Hid (l2 = l ++ [Pr.mk m r b d]) := hl2
     rw [← hl2] at HIS
     clear hl2
     have HJD : Hid (Bj w w3.drew a n cap l gp m r b d) := HJ4.out.drew 1
     have HRD : Hid (RowP w3.drew a n l) := HJD.out.bi.bo.row
     have HBD : Hid (Below w3.heap.size w3 w3.drew) := bel_drew (Below.refl _ _) 1
     have HJX : Hid (Bj w (w3.alloc (.cells #[.int .i64 m, .int .i64 r, .int .i64 b, .int .i64 d] 279)).drew a n cap l gp m r b d) := (HJ4.out.alloc _).drew 1
     have HRX : Hid (RowP (w3.alloc (.cells #[.int .i64 m, .int .i64 r, .int .i64 b, .int .i64 d] 279)).drew a n l) := HJX.out.bi.bo.row
     have HBX : Hid (Below w3.heap.size w3 (w3.alloc (.cells #[.int .i64 m, .int .i64 r, .int .i64 b, .int .i64 d] 279)).drew) := bel_drew ((Below.refl _ _).alloc (Nat.le_refl _) _) 1
     have HPX : Hid (PrAt (w3.alloc (.cells #[.int .i64 m, .int .i64 r, .int .i64 b, .int .i64 d] 279)).drew w3.heap.size 0 ⟨m, r, b, d⟩) := pr_cell w3 m r b d
     have HWW : Hid (w.heap.size ≤ w3.heap.size) := HJ4.out.bi.bo.bel.size
     have KD : Hid (w3.drew.cell? ⟨w.heap.size, 0, none⟩ = some (.slice a n cap) ∧ w3.drew.cell? ⟨gp, 0, none⟩ = some (.int .i64 m) ∧ w3.drew.cell? ⟨gp, 0 + 1, none⟩ = some (.int .i64 r) ∧ w3.drew.cell? ⟨gp, 0 + 2, none⟩ = some (.int .i64 b) ∧ w3.drew.cell? ⟨gp, 0 + 3, none⟩ = some (.int .i64 d)) := HJD.out.cells
     have KX : Hid ((w3.alloc (.cells #[.int .i64 m, .int .i64 r, .int .i64 b, .int .i64 d] 279)).drew.cell? ⟨w.heap.size, 0, none⟩ = some (.slice a n cap) ∧ (w3.alloc (.cells #[.int .i64 m, .int .i64 r, .int .i64 b, .int .i64 d] 279)).drew.cell? ⟨gp, 0, none⟩ = some (.int .i64 m) ∧ (w3.alloc (.cells #[.int .i64 m, .int .i64 r, .int .i64 b, .int .i64 d] 279)).drew.cell? ⟨gp, 0 + 1, none⟩ = some (.int .i64 r) ∧ (w3.alloc (.cells #[.int .i64 m, .int .i64 r, .int .i64 b, .int .i64 d] 279)).drew.cell? ⟨gp, 0 + 2, none⟩ = some (.int .i64 b) ∧ (w3.alloc (.cells #[.int .i64 m, .int .i64 r, .int .i64 b, .int .i64 d] 279)).drew.cell? ⟨gp, 0 + 3, none⟩ = some (.int .i64 d)) := HJX.out.cells
     clear h5
     go_wp2_with fail
     clear hlk hq c0
     go_region_held_law (fun v => v.cell? ⟨w.heap.size, 0, none⟩ = some (.slice a n cap) ∧ v.cell? ⟨gp, 0, none⟩ = some (.int .i64 m) ∧ v.cell? ⟨gp, 0 + 1, none⟩ = some (.int .i64 r) ∧ v.cell? ⟨gp, 0 + 2, none⟩ = some (.int .i64 b) ∧ v.cell? ⟨gp, 0 + 3, none⟩ = some (.int .i64 d))
      (first | with_reducible exact KD.out | with_reducible exact KX.out | with_reducible exact K5.out | with_reducible exact K6.out | with_reducible exact K7.out | with_reducible exact K8.out)
      (first
       | (go_at_call 190; refine (HCL.out _ hn (by with_reducible exact HRD.out)).mono ?_; rintro e w5 ⟨v5, rfl, hp5, hb5⟩
          have HB5 := shB HBD hb5
          have HB6 : Hid (Below w3.heap.size w3 (w5.alloc (.cells #[.int .i64 m, .int .i64 r, .int .i64 b, .int .i64 d] 279))) := HB5.out.alloc HB5.out.size _
          have K5 : Hid (w5.cell? ⟨w.heap.size, 0, none⟩ = some (.slice a n cap) ∧ w5.cell? ⟨gp, 0, none⟩ = some (.int .i64 m) ∧ w5.cell? ⟨gp, 0 + 1, none⟩ = some (.int .i64 r) ∧ w5.cell? ⟨gp, 0 + 2, none⟩ = some (.int .i64 b) ∧ w5.cell? ⟨gp, 0 + 3, none⟩ = some (.int .i64 d)) := (HJ4.out.next HB5.out).cells
          have K6 : Hid ((w5.alloc (.cells #[.int .i64 m, .int .i64 r, .int .i64 b, .int .i64 d] 279)).cell? ⟨w.heap.size, 0, none⟩ = some (.slice a n cap) ∧ (w5.alloc (.cells #[.int .i64 m, .int .i64 r, .int .i64 b, .int .i64 d] 279)).cell? ⟨gp, 0, none⟩ = some (.int .i64 m) ∧ (w5.alloc (.cells #[.int .i64 m, .int .i64 r, .int .i64 b, .int .i64 d] 279)).cell? ⟨gp, 0 + 1, none⟩ = some (.int .i64 r) ∧ (w5.alloc (.cells #[.int .i64 m, .int .i64 r, .int .i64 b, .int .i64 d] 279)).cell? ⟨gp, 0 + 2, none⟩ = some (.int .i64 b) ∧ (w5.alloc (.cells #[.int .i64 m, .int .i64 r, .int .i64 b, .int .i64 d] 279)).cell? ⟨gp, 0 + 3, none⟩ = some (.int .i64 d)) := (HJ4.out.next HB6.out).cells
          have HP6 : Hid (Pw (w5.alloc (.cells #[.int .i64 m, .int .i64 r, .int .i64 b, .int .i64 d] 279)) w3.heap.size v5 l) := Pw.alloc hp5 _
          have HPA : Hid (PrAt (w5.alloc (.cells #[.int .i64 m, .int .i64 r, .int .i64 b, .int .i64 d] 279)) w5.heap.size 0 ⟨m, r, b, d⟩) := pr_cell w5 m r b d
          have HSZ : Hid (w3.heap.size ≤ (w5.alloc (.cells #[.int .i64 m, .int .i64 r, .int .i64 b, .int .i64 d] 279)).heap.size) := HB6.out.size
          clear hp5 hb5)
       | (go_at_call 190; refine (HCL.out _ hn (by with_reducible exact HRX.out)).mono ?_; rintro e w5 ⟨v5, rfl, hp5, hb5⟩
          have HB6 := shB HBX hb5
          have K6 : Hid (w5.cell? ⟨w.heap.size, 0, none⟩ = some (.slice a n cap) ∧ w5.cell? ⟨gp, 0, none⟩ = some (.int .i64 m) ∧ w5.cell? ⟨gp, 0 + 1, none⟩ = some (.int .i64 r) ∧ w5.cell? ⟨gp, 0 + 2, none⟩ = some (.int .i64 b) ∧ w5.cell? ⟨gp, 0 + 3, none⟩ = some (.int .i64 d)) := (HJ4.out.next HB6.out).cells
          have HP6 : Hid (Pw w5 w3.heap.size v5 l) := hp5.low HBX.out.size
          have HPB : Hid (PrAt w5 w3.heap.size 0 ⟨m, r, b, d⟩) := HPX.out.below hb5
          have HSZ : Hid (w3.heap.size ≤ w5.heap.size) := HB6.out.size
          clear hp5 hb5)
       | (first
         | refine step_pr rfl _ _ rfl w3.heap.size w5.heap.size _ l ⟨m, r, b, d⟩ rfl rfl HP6.out HPA.out HLN.out HSZ.out ?_
         | refine step_pr rfl _ _ rfl w3.heap.size w3.heap.size _ l ⟨m, r, b, d⟩ rfl rfl HP6.out HPB.out HLN.out HSZ.out ?_
          intro v7 w7 hp7 hg7
          have hB7 : Below w3.heap.size w3 w7 := pown_bel HP6.out hg7 HB6.out (Nat.le_refl _) HSZ.out
          have HJ7 : Hid (Bj w w7 a n cap l gp m r b d) := HJ4.out.next hB7
          have hp8 : Pw w7 w.heap.size v7 l2 := by rw [HL2.out]; exact hp7.low HWW.out
          obtain ⟨a7, k7, rfl, _⟩ := hp8.lies
          have HE : Hid (En w (w7.setCell ⟨w.heap.size + 1, 0, none⟩ (.slice a7 l2.length k7)) (.slice a7 l2.length k7) l2) := En.of HJ7.out.bi hp8
          have K7 : Hid (w7.cell? ⟨w.heap.size, 0, none⟩ = some (.slice a n cap) ∧ w7.cell? ⟨gp, 0, none⟩ = some (.int .i64 m) ∧ w7.cell? ⟨gp, 0 + 1, none⟩ = some (.int .i64 r) ∧ w7.cell? ⟨gp, 0 + 2, none⟩ = some (.int .i64 b) ∧ w7.cell? ⟨gp, 0 + 3, none⟩ = some (.int .i64 d)) := HJ7.out.cells
          have K8 : Hid ((w7.setCell ⟨w.heap.size + 1, 0, none⟩ (.slice a7 l2.length k7)).cell? ⟨w.heap.size, 0, none⟩ = some (.slice a n cap) ∧ (w7.setCell ⟨w.heap.size + 1, 0, none⟩ (.slice a7 l2.length k7)).cell? ⟨gp, 0, none⟩ = some (.int .i64 m) ∧ (w7.setCell ⟨w.heap.size + 1, 0, none⟩ (.slice a7 l2.length k7)).cell? ⟨gp, 0 + 1, none⟩ = some (.int .i64 r) ∧ (w7.setCell ⟨w.heap.size + 1, 0, none⟩ (.slice a7 l2.length k7)).cell? ⟨gp, 0 + 2, none⟩ = some (.int .i64 b) ∧ (w7.setCell ⟨w.heap.size + 1, 0, none⟩ (.slice a7 l2.length k7)).cell? ⟨gp, 0 + 3, none⟩ = some (.int .i64 d)) := HJ7.out.put _
          have z0 := HJ7.out.bi.out.cell 0
          have y0 := HJ7.out.bi.out.free 0
          have R0 : Hid (_ = _) := HE.out.cell
          clear hp7 hg7 hB7 hp8
          generalize l2.length = ln at *))
     all_goals go_wp2_with fail
     all_goals exact bodyPost_ret (v := .tuple #[.agg #[.slice a7 ln k7], .int .i64 d, .int .i64 0]) (by simp [results, Tryz.results163, R0.out, go_sem]) rfl ⟨_, l2, d, 0, rfl, HE.out.pw, HIS.out, HE.out.bel⟩
 ·have HI1 : Hid (Bi w w1 a n cap l) := HB0.out.next hb1
  have HN : Hid (¬ May l) := hm
  have HE : Hid (En w (w1.setCell ⟨w.heap.size + 1, 0, none⟩ (.slice none 0 0)) (.slice none 0 0) []) := En.of HI1.out (Pw.zero _ _)
  have R0 : Hid (_ = _) := HE.out.cell
  have z0 := HI1.out.out.cell 0
  have y0 := HI1.out.out.free 0
  clear hb1 hm HB0 c0
  go_wp2_with fail
  exact bodyPost_ret (v := .tuple #[.agg #[.slice none 0 0], .int .i64 0, .int .i64 5]) (by simp [results, Tryz.results163, R0.out, go_sem]) rfl ⟨_, [], 0, 5, rfl, HE.out.pw, .inl ⟨HN.out, rfl, rfl, rfl⟩, HE.out.bel⟩
end ora
end Go.Proofs.YtnpblpbohcegoaaGreatDoor
