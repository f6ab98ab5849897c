import Derived.Test.YtoepgdhiepedeaaGreatDoorVVGts35
set_option linter.unusedVariables false
set_option linter.unusedSimpArgs false
set_option maxHeartbeats 4000000
set_option maxRecDepth 100000
namespace Go.Proofs.YtoepgdhiepedeaaGreatDoor
namespace book
open Go.RowKit
open acc (Ac Tm Bi APost BPost TFault TRight OpenIs OweIs SellIs GrantIs RekeyIs wf6 ACame TCame fresh_updN fresh_drew came_lt)
set_option maxRecDepth 100000
set_option maxHeartbeats 8000000 in
theorem bwork(gW : Nat)(V : Value)(B : Nat)(t : Tm)(pt : Option Addr)(lt ct : Nat)(x : Ac)(so : List So)(p : Option Addr)(len cap : Nat)(v : Ev)(w : World)(hw : Blk w gW #[V, .slice pt lt ct, .int .i64 t.ff, .int .i64 t.fb, .int .i64 t.db, .int .i64 t.al, .map (some B)] 170)(ht : TCame w t pt lt ct)(ha : ACame w x p len cap)(hv : (Lit.int .i64 v.te).wf = true ∧ (Lit.int .i64 v.mo).wf = true)(hk : v.kd = 2 ∨ v.kd = 3 ∨ v.kd = 4):
  Calls Tryz.prog 183 #[.pointer (some ⟨gW, 0, none⟩), .agg #[.int .i64 x.me, .int .i64 x.rv, .int .i64 x.nx, .int .i64 x.mo, .int .i64 x.bo, .int .i64 x.fr, .slice p len cap], .agg #[.int .i64 v.kd, .int .i64 v.me, .int .i64 v.mo, .int .i64 v.id, .int .i64 v.te, .int .i64 v.de, .int .i64 v.fe, .int .i64 v.pr, .int .i64 v.ch, .int .i64 v.un, .int .i64 v.tg, .int .i64 v.ow, .int .i64 v.bp]] w λe w' => BPost w (Tells t ⟨x, so⟩ v) e w' := by
 have hgl := hw.lt
 have HWF := zh hv
 obtain⟨W0, HWW, H0a, H0v, H0r, H0l, H0B, hs0⟩ := sh4 w #[.int .i64 x.me, .int .i64 x.rv, .int .i64 x.nx, .int .i64 x.mo, .int .i64 x.bo, .int .i64 x.fr, .slice p len cap] 55 #[.int .i64 v.kd, .int .i64 v.me, .int .i64 v.mo, .int .i64 v.id, .int .i64 v.te, .int .i64 v.de, .int .i64 v.fe, .int .i64 v.pr, .int .i64 v.ch, .int .i64 v.un, .int .i64 v.tg, .int .i64 v.ow, .int .i64 v.bp] 44 #[.int .i64 0, .int .i64 0, .int .i64 0, .int .i64 0, .int .i64 0, .int .i64 0, .slice none 0 0] 55 #[.int .i64 0, .int .i64 0, .int .i64 0, .int .i64 0, .int .i64 0, .int .i64 0, .int .i64 0] 33
 have H0A := zh (ha.below H0B.out)
 have H0T := zh (ht.below H0B.out)
 have H0W := zh (hw.next H0B.out)
 clear hw ha ht hv
 go_enter Tryz.func183, Tryz.ntmps183
 go_upto_region 1 with fail
 rw[HWW.out]
 have HS0 := zh H0B.out.size
 have qv0 := H0v.out.cell 0
 by_cases k2 : v.kd = 2
 case pos =>
  have q2 : (v.kd==2) = true := by simpa using k2
  have HK := zh k2
  clear k2 hk
  go_wp2_with fail
  clear q2 qv0
  have HSL : Hid (zC 17 #[.agg #[.int .i64 x.me, .int .i64 x.rv, .int .i64 x.nx, .int .i64 x.mo, .int .i64 x.bo, .int .i64 x.fr, .slice p len cap], .agg #[.slice pt lt ct, .int .i64 t.ff, .int .i64 t.fb, .int .i64 t.db, .int .i64 t.al], .int .i64 v.te, .int .i64 v.mo] W0.drew λe w' => BPost W0.drew (SellIs x t v.te v.mo) e w') := acc.ksell _ x p len cap t pt lt ct v.te v.mo (H0A.out.below zb.drew) (H0T.out.below zb.drew) HWF.out.1 HWF.out.2
  refine wp_region_held_drew (S := λu => Blk u (gW) #[V, .slice pt lt ct, .int .i64 t.ff, .int .i64 t.fb, .int .i64 t.db, .int .i64 t.al, .map (some B)] 170 ∧ Blk u (w.heap.size) #[.int .i64 x.me, .int .i64 x.rv, .int .i64 x.nx, .int .i64 x.mo, .int .i64 x.bo, .int .i64 x.fr, .slice p len cap] 55 ∧ Blk u (w.heap.size + 1) #[.int .i64 v.kd, .int .i64 v.me, .int .i64 v.mo, .int .i64 v.id, .int .i64 v.te, .int .i64 v.de, .int .i64 v.fe, .int .i64 v.pr, .int .i64 v.ch, .int .i64 v.un, .int .i64 v.tg, .int .i64 v.ow, .int .i64 v.bp] 44) (by kernel_rfl) (show _ from ⟨Blk.drew H0W.out 1, Blk.drew H0a.out 1, Blk.drew H0v.out 1⟩) (λhHeld => ?_)
  refine zu' 0 (.agg #[.int .i64 x.me, .int .i64 x.rv, .int .i64 x.nx, .int .i64 x.mo, .int .i64 x.bo, .int .i64 x.fr, .slice p len cap]) rfl rfl (Or.inl ⟨by rfl, λv hv => by have g0 := hv.2.1.cell 0; have g1 := hv.2.1.cell 1; have g2 := hv.2.1.cell 2; have g3 := hv.2.1.cell 3; have g4 := hv.2.1.cell 4; have g5 := hv.2.1.cell 5; have g6 := hv.2.1.cell 6; clear hv; go_simp⟩) ?_
  refine zt' 1 (.pointer (some ⟨gW, 0, none⟩)) ?_
  refine zt' 2 (.pointer (some ⟨gW, 0, none⟩)) ?_
  refine zt' 3 (.pointer (some ⟨gW, 1, none⟩)) ?_
  refine zu' 4 (.agg #[.slice pt lt ct, .int .i64 t.ff, .int .i64 t.fb, .int .i64 t.db, .int .i64 t.al]) rfl rfl (Or.inl ⟨by rfl, λv hv => by have g0 := hv.1.cell 1; have g1 := hv.1.cell 2; have g2 := hv.1.cell 3; have g3 := hv.1.cell 4; have g4 := hv.1.cell 5; clear hv; go_simp⟩) ?_
  refine zt' 5 (.pointer (some ⟨w.heap.size + 1, 3, none⟩)) ?_
  refine zt' 6 (.pointer (some ⟨w.heap.size + 1, 4, none⟩)) ?_
  refine zu' 7 (.int .i64 v.te) rfl rfl (Or.inl ⟨by rfl, λv hv => by have g0 := hv.2.2.cell 4; clear hv; go_simp⟩) ?_
  refine zt' 8 (.pointer (some ⟨w.heap.size + 1, 2, none⟩)) ?_
  refine zu' 9 (.int .i64 v.mo) rfl rfl (Or.inl ⟨by rfl, λv hv => by have g0 := hv.2.2.cell 2; clear hv; go_simp⟩) ?_
  refine zo 10 λK hK => ?_
  rw[if_pos (by rfl)]
  refine wp_callOp 23 rfl (by clear hK; go_simp) HSL.out ?_
  rintro e w1 ⟨b, l, pb, lb, cb, f, rfl, hi, hf, hb1⟩
  have hW1 := hb1.size
  have HI := zh hi
  have HF1 : Hid (deb.Fresh w1 W0.heap.size pb lb cb b.ds) := hf
  have H1a := zh ((Blk.drew H0a.out 1).next hb1)
  have H1v := zh ((Blk.drew H0v.out 1).next hb1)
  have H1r := zh ((Blk.drew H0r.out 1).next hb1)
  have H1l := zh ((Blk.drew H0l.out 1).next hb1)
  have H1W := zh ((Blk.drew H0W.out 1).next hb1)
  have H1B := zh (H0B.out.drew.trans (hb1.mono H0B.out.size))
  refine⟨_, rfl, hK.out _ _ ⟨H1W.out, H1a.out, H1v.out⟩ (λhHeld => ?_)⟩
  clear hK K hi hf hb1
  unfold acc.Ac.v acc.Ac.cs acc.Bi.v
  simp only[Act.put, zqa, zqb, zqc]
  refine zt' 11 (.agg #[.int .i64 b.me, .int .i64 b.rv, .int .i64 b.nx, .int .i64 b.mo, .int .i64 b.bo, .int .i64 b.fr, .slice pb lb cb]) ?_
  refine zt' 12 (.agg #[.int .i64 l.id, .int .i64 l.te, .int .i64 l.de, .int .i64 l.fe, .int .i64 l.pr, .int .i64 l.ch, .int .i64 l.un]) ?_
  refine zt' 13 (.int .i64 f) ?_
  refine zo 14 λK hK => ?_
  rw[if_pos (by rfl)]
  refine wp_letOp 55 _ _ rfl (w.heap.size + 1 + 1) rfl #[.int .i64 b.me, .int .i64 b.rv, .int .i64 b.nx, .int .i64 b.mo, .int .i64 b.bo, .int .i64 b.fr, .slice pb lb cb] rfl (by kernel_rfl) (by simp[Value.oneCell']) #[.int .i64 0, .int .i64 0, .int .i64 0, .int .i64 0, .int .i64 0, .int .i64 0, .slice none 0 0] 55 H1r.out rfl rfl ?_
  intro V1 hU
  obtain⟨H2a, H2v⟩ := zk2 hU H1a H1v
  have H2r := zh hU.blk
  obtain⟨H2l, H2W⟩ := zk2 hU H1l H1W
  have H2B := zk hU H1B
  clear H1a H1v H1r H1l H1W H1B
  have HF2 : Hid (deb.Fresh V1 W0.heap.size pb lb cb b.ds) := fresh_updN HF1.out hU (λhn y hy => by have f1 := HF1.out.new hn y hy; omega)
  clear hU
  refine hK.out _ _ ⟨H2W.out, H2a.out, H2v.out⟩ (λhHeld => ?_)
  clear hK K
  refine zo 15 λK hK => ?_
  rw[if_pos (by rfl)]
  refine wp_letOp 33 _ _ rfl (w.heap.size + 1 + 1 + 1) rfl #[.int .i64 l.id, .int .i64 l.te, .int .i64 l.de, .int .i64 l.fe, .int .i64 l.pr, .int .i64 l.ch, .int .i64 l.un] rfl (by kernel_rfl) (by simp[Value.oneCell']) #[.int .i64 0, .int .i64 0, .int .i64 0, .int .i64 0, .int .i64 0, .int .i64 0, .int .i64 0] 33 H2l.out rfl rfl ?_
  intro V2 hU
  obtain⟨H3a, H3v, H3r⟩ := zk3 hU H2a H2v H2r
  have H3l := zh hU.blk
  have H3W := zk1 hU H2W
  have H3B := zk hU H2B
  have HF3 : Hid (deb.Fresh V2 W0.heap.size pb lb cb b.ds) := fresh_updN HF2.out hU (λhn y hy => by have f1 := HF2.out.new hn y hy; omega)
  clear hU
  refine hK.out _ _ ⟨H3W.out, H3a.out, H3v.out⟩ (λhHeld => ?_)
  clear hK K
  refine zt' 16 (.int .i64 f) ?_
  refine wpAnyH_done (by kernel_rfl) ?_ _
  clear hHeld
  obtain⟨Rr0, Rr1, Rr2, Rr3, Rr4, Rr5, Rr6⟩ := shc7 H3r
  obtain⟨Rl0, Rl1, Rl2, Rl3, Rl4, Rl5, Rl6⟩ := shc7 H3l
  go_wp2_with fail
  exact zr (.tuple #[.agg #[.int .i64 b.me, .int .i64 b.rv, .int .i64 b.nx, .int .i64 b.mo, .int .i64 b.bo, .int .i64 b.fr, .slice pb lb cb], .agg #[.int .i64 l.id, .int .i64 l.te, .int .i64 l.de, .int .i64 l.fe, .int .i64 l.pr, .int .i64 l.ch, .int .i64 l.un], .int .i64 f]) (by simp[results, Tryz.results183, Rr0.out, Rr1.out, Rr2.out, Rr3.out, Rr4.out, Rr5.out, Rr6.out, Rl0.out, Rl1.out, Rl2.out, Rl3.out, Rl4.out, Rl5.out, Rl6.out, go_sem]) ⟨b, l, pb, lb, cb, f, rfl, .inl ⟨HK.out, HI.out⟩, HF3.out.low HS0.out, H3B.out⟩
 have q2 : (v.kd==2) = false := by simpa using k2
 by_cases k3 : v.kd = 3
 case pos =>
  have q3 : (v.kd==3) = true := by simpa using k3
  have HK := zh k3
  clear k2 k3 hk
  go_wp2_with fail
  clear q2 q3 qv0
  have HSL : Hid (zC 30 #[.agg #[.int .i64 x.me, .int .i64 x.rv, .int .i64 x.nx, .int .i64 x.mo, .int .i64 x.bo, .int .i64 x.fr, .slice p len cap], .agg #[.slice pt lt ct, .int .i64 t.ff, .int .i64 t.fb, .int .i64 t.db, .int .i64 t.al], .int .i64 v.mo] W0.drew λe w' => BPost W0.drew (GrantIs x t v.mo) e w') := acc.kgrant _ x p len cap t pt lt ct v.mo (H0A.out.below zb.drew) (H0T.out.below zb.drew) HWF.out.2
  refine wp_region_held_drew (S := λu => Blk u (gW) #[V, .slice pt lt ct, .int .i64 t.ff, .int .i64 t.fb, .int .i64 t.db, .int .i64 t.al, .map (some B)] 170 ∧ Blk u (w.heap.size) #[.int .i64 x.me, .int .i64 x.rv, .int .i64 x.nx, .int .i64 x.mo, .int .i64 x.bo, .int .i64 x.fr, .slice p len cap] 55 ∧ Blk u (w.heap.size + 1) #[.int .i64 v.kd, .int .i64 v.me, .int .i64 v.mo, .int .i64 v.id, .int .i64 v.te, .int .i64 v.de, .int .i64 v.fe, .int .i64 v.pr, .int .i64 v.ch, .int .i64 v.un, .int .i64 v.tg, .int .i64 v.ow, .int .i64 v.bp] 44) (by kernel_rfl) (show _ from ⟨Blk.drew H0W.out 1, Blk.drew H0a.out 1, Blk.drew H0v.out 1⟩) (λhHeld => ?_)
  refine zu' 0 (.agg #[.int .i64 x.me, .int .i64 x.rv, .int .i64 x.nx, .int .i64 x.mo, .int .i64 x.bo, .int .i64 x.fr, .slice p len cap]) rfl rfl (Or.inl ⟨by rfl, λv hv => by have g0 := hv.2.1.cell 0; have g1 := hv.2.1.cell 1; have g2 := hv.2.1.cell 2; have g3 := hv.2.1.cell 3; have g4 := hv.2.1.cell 4; have g5 := hv.2.1.cell 5; have g6 := hv.2.1.cell 6; clear hv; go_simp⟩) ?_
  refine zt' 1 (.pointer (some ⟨gW, 0, none⟩)) ?_
  refine zt' 2 (.pointer (some ⟨gW, 0, none⟩)) ?_
  refine zt' 3 (.pointer (some ⟨gW, 1, none⟩)) ?_
  refine zu' 4 (.agg #[.slice pt lt ct, .int .i64 t.ff, .int .i64 t.fb, .int .i64 t.db, .int .i64 t.al]) rfl rfl (Or.inl ⟨by rfl, λv hv => by have g0 := hv.1.cell 1; have g1 := hv.1.cell 2; have g2 := hv.1.cell 3; have g3 := hv.1.cell 4; have g4 := hv.1.cell 5; clear hv; go_simp⟩) ?_
  refine zt' 5 (.pointer (some ⟨w.heap.size + 1, 2, none⟩)) ?_
  refine zu' 6 (.int .i64 v.mo) rfl rfl (Or.inl ⟨by rfl, λv hv => by have g0 := hv.2.2.cell 2; clear hv; go_simp⟩) ?_
  refine zo 7 λK hK => ?_
  rw[if_pos (by rfl)]
  refine wp_callOp 36 rfl (by clear hK; go_simp) HSL.out ?_
  rintro e w1 ⟨b, l, pb, lb, cb, f, rfl, hi, hf, hb1⟩
  have hW1 := hb1.size
  have HI := zh hi
  have HF1 : Hid (deb.Fresh w1 W0.heap.size pb lb cb b.ds) := hf
  have H1a := zh ((Blk.drew H0a.out 1).next hb1)
  have H1v := zh ((Blk.drew H0v.out 1).next hb1)
  have H1r := zh ((Blk.drew H0r.out 1).next hb1)
  have H1l := zh ((Blk.drew H0l.out 1).next hb1)
  have H1W := zh ((Blk.drew H0W.out 1).next hb1)
  have H1B := zh (H0B.out.drew.trans (hb1.mono H0B.out.size))
  refine⟨_, rfl, hK.out _ _ ⟨H1W.out, H1a.out, H1v.out⟩ (λhHeld => ?_)⟩
  clear hK K hi hf hb1
  unfold acc.Ac.v acc.Ac.cs acc.Bi.v
  simp only[Act.put, zqa, zqb, zqc]
  refine zt' 8 (.agg #[.int .i64 b.me, .int .i64 b.rv, .int .i64 b.nx, .int .i64 b.mo, .int .i64 b.bo, .int .i64 b.fr, .slice pb lb cb]) ?_
  refine zt' 9 (.agg #[.int .i64 l.id, .int .i64 l.te, .int .i64 l.de, .int .i64 l.fe, .int .i64 l.pr, .int .i64 l.ch, .int .i64 l.un]) ?_
  refine zt' 10 (.int .i64 f) ?_
  refine zo 11 λK hK => ?_
  rw[if_pos (by rfl)]
  refine wp_letOp 55 _ _ rfl (w.heap.size + 1 + 1) rfl #[.int .i64 b.me, .int .i64 b.rv, .int .i64 b.nx, .int .i64 b.mo, .int .i64 b.bo, .int .i64 b.fr, .slice pb lb cb] rfl (by kernel_rfl) (by simp[Value.oneCell']) #[.int .i64 0, .int .i64 0, .int .i64 0, .int .i64 0, .int .i64 0, .int .i64 0, .slice none 0 0] 55 H1r.out rfl rfl ?_
  intro V1 hU
  obtain⟨H2a, H2v⟩ := zk2 hU H1a H1v
  have H2r := zh hU.blk
  obtain⟨H2l, H2W⟩ := zk2 hU H1l H1W
  have H2B := zk hU H1B
  clear H1a H1v H1r H1l H1W H1B
  have HF2 : Hid (deb.Fresh V1 W0.heap.size pb lb cb b.ds) := fresh_updN HF1.out hU (λhn y hy => by have f1 := HF1.out.new hn y hy; omega)
  clear hU
  refine hK.out _ _ ⟨H2W.out, H2a.out, H2v.out⟩ (λhHeld => ?_)
  clear hK K
  refine zo 12 λK hK => ?_
  rw[if_pos (by rfl)]
  refine wp_letOp 33 _ _ rfl (w.heap.size + 1 + 1 + 1) rfl #[.int .i64 l.id, .int .i64 l.te, .int .i64 l.de, .int .i64 l.fe, .int .i64 l.pr, .int .i64 l.ch, .int .i64 l.un] rfl (by kernel_rfl) (by simp[Value.oneCell']) #[.int .i64 0, .int .i64 0, .int .i64 0, .int .i64 0, .int .i64 0, .int .i64 0, .int .i64 0] 33 H2l.out rfl rfl ?_
  intro V2 hU
  obtain⟨H3a, H3v, H3r⟩ := zk3 hU H2a H2v H2r
  have H3l := zh hU.blk
  have H3W := zk1 hU H2W
  have H3B := zk hU H2B
  have HF3 : Hid (deb.Fresh V2 W0.heap.size pb lb cb b.ds) := fresh_updN HF2.out hU (λhn y hy => by have f1 := HF2.out.new hn y hy; omega)
  clear hU
  refine hK.out _ _ ⟨H3W.out, H3a.out, H3v.out⟩ (λhHeld => ?_)
  clear hK K
  refine zt' 13 (.int .i64 f) ?_
  refine wpAnyH_done (by kernel_rfl) ?_ _
  clear hHeld
  obtain⟨Rr0, Rr1, Rr2, Rr3, Rr4, Rr5, Rr6⟩ := shc7 H3r
  obtain⟨Rl0, Rl1, Rl2, Rl3, Rl4, Rl5, Rl6⟩ := shc7 H3l
  go_wp2_with fail
  exact zr (.tuple #[.agg #[.int .i64 b.me, .int .i64 b.rv, .int .i64 b.nx, .int .i64 b.mo, .int .i64 b.bo, .int .i64 b.fr, .slice pb lb cb], .agg #[.int .i64 l.id, .int .i64 l.te, .int .i64 l.de, .int .i64 l.fe, .int .i64 l.pr, .int .i64 l.ch, .int .i64 l.un], .int .i64 f]) (by simp[results, Tryz.results183, Rr0.out, Rr1.out, Rr2.out, Rr3.out, Rr4.out, Rr5.out, Rr6.out, Rl0.out, Rl1.out, Rl2.out, Rl3.out, Rl4.out, Rl5.out, Rl6.out, go_sem]) ⟨b, l, pb, lb, cb, f, rfl, .inr (.inl ⟨HK.out, HI.out⟩), HF3.out.low HS0.out, H3B.out⟩
 have q3 : (v.kd==3) = false := by simpa using k3
 have HK : Hid (v.kd = 4) := by show _ = _; omega
 clear k2 k3 hk
 have HSL : Hid (zC 31 #[.agg #[.int .i64 x.me, .int .i64 x.rv, .int .i64 x.nx, .int .i64 x.mo, .int .i64 x.bo, .int .i64 x.fr, .slice p len cap]] W0 λe w' => BPost W0 (RekeyIs x) e w') := acc.krekey _ x p len cap H0A.out
 go_wp2_with refine zw ?_
 clear qv0
 refine HSL.out.mono ?_
 rintro e w1 ⟨b, l, pb, lb, cb, f, rfl, hi, hf, hb1⟩
 have hW1 := hb1.size
 have HI := zh hi
 have HF1 : Hid (deb.Fresh w1 W0.heap.size pb lb cb b.ds) := hf
 obtain⟨H1a, H1v, H1r, H1l, H1W⟩ := zn5 hb1 H0a H0v H0r H0l H0W
 have H1B := shB H0B hb1
 clear hi hf hb1 q2 q3
 unfold acc.Ac.v acc.Ac.cs acc.Bi.v
 go_wp2_with (first|refine zs ?_|refine zw ?_)
 intro V1 hU
 obtain⟨H2a, H2v⟩ := zk2 hU H1a H1v
 have H2r := zh hU.blk
 obtain⟨H2l, H2W⟩ := zk2 hU H1l H1W
 have H2B := zk hU H1B
 clear H1a H1v H1r H1l H1W H1B
 have HF2 : Hid (deb.Fresh V1 W0.heap.size pb lb cb b.ds) := fresh_updN HF1.out hU (λhn y hy => by have f1 := HF1.out.new hn y hy; omega)
 clear hU
 go_wp2_with (first|refine zs ?_|refine zw ?_)
 intro V2 hU
 obtain⟨H3a, H3v, H3r⟩ := zk3 hU H2a H2v H2r
 have H3l := zh hU.blk
 have H3W := zk1 hU H2W
 have H3B := zk hU H2B
 have HF3 : Hid (deb.Fresh V2 W0.heap.size pb lb cb b.ds) := fresh_updN HF2.out hU (λhn y hy => by have f1 := HF2.out.new hn y hy; omega)
 clear hU
 obtain⟨Rr0, Rr1, Rr2, Rr3, Rr4, Rr5, Rr6⟩ := shc7 H3r
 obtain⟨Rl0, Rl1, Rl2, Rl3, Rl4, Rl5, Rl6⟩ := shc7 H3l
 go_wp2_with fail
 exact zr (.tuple #[.agg #[.int .i64 b.me, .int .i64 b.rv, .int .i64 b.nx, .int .i64 b.mo, .int .i64 b.bo, .int .i64 b.fr, .slice pb lb cb], .agg #[.int .i64 l.id, .int .i64 l.te, .int .i64 l.de, .int .i64 l.fe, .int .i64 l.pr, .int .i64 l.ch, .int .i64 l.un], .int .i64 f]) (by simp[results, Tryz.results183, Rr0.out, Rr1.out, Rr2.out, Rr3.out, Rr4.out, Rr5.out, Rr6.out, Rl0.out, Rl1.out, Rl2.out, Rl3.out, Rl4.out, Rl5.out, Rl6.out, go_sem]) ⟨b, l, pb, lb, cb, f, rfl, .inr (.inr ⟨HK.out, HI.out⟩), HF3.out.low HS0.out, H3B.out⟩
def HapR(t:Tm)(bk:List Cm)(k:Nat)(v:Ev)(bk':List Cm)(f:Int):Prop:=∃c',HapIs t (bk.getD k cm0) v c' f∧(f=0→bk'=bk.set k c')
theorem ev_wf{v:Ev}(h:EMay v):(Lit.int .i64 v.te).wf=true∧(Lit.int .i64 v.mo).wf=true:=by
 have:(0≤v.te∧v.te≤100000000)∧0≤v.mo∧v.mo≤2399:=by unfold EMay at h;omega
 exact⟨wf_i (by omega) (by omega),wf_i (by omega) (by omega)⟩
theorem bill_eq{l:Bi}{v:Ev}(h:l.id=v.id∧l.te=v.te∧l.de=v.de∧l.fe=v.fe∧l.pr=v.pr∧l.ch=v.ch∧l.un=v.un):l=billOf v:=by
 obtain⟨a,b,c,d,e,f,g⟩:=h;cases l;unfold billOf;simp only at a b c d e f g;rw[a,b,c,d,e,f,g]
theorem rekey_rv{a b:Ac}{l:Bi}(h:RekeyIs a b l 0):b.rv=a.rv+1:=by
 rcases h with⟨_,_,_,e⟩|⟨_,_,_,_,e⟩|⟨_,_,_,_,_,e⟩|⟨_,_,_,rfl,_,_⟩
 ·cases e
 ·cases e
 ·cases e
 ·rfl
theorem put_wr{w0:World}{base gW B:Nat}{t:Tm}{pt:Option Addr}{lt ct g n cap:Nat}{xs:List Cu}{bk:List Cm}{k:Nat}{x x':Cu}{c':Cm}{cur:Array Value}{w WF:World}(h:Wr w0 base gW B t pt lt ct (.slice (some ⟨g,0,none⟩) n cap) xs bk w)(hk:k<xs.length)(hx:xs.getD k cu0=x)(hcb:Blk w g cur 71)
  (hO:∀i,i<w.heap.size→i≠g→x.sold.ownBlock≠some i→WF.heap[i]?=w.heap[i]?) (hs:w.heap.size≤WF.heap.size) (hos:WF.os=w.os∧WF.tape=w.tape∧WF.output=w.output) (has:Has WF base x' c') (hwf:wf6 c'.a) (hme:c'.a.me=(bk.getD k cm0).a.me)
  (own:∀i,x'.sold.ownBlock=some i→x.sold.ownBlock=some i∨w.heap.size≤i) (new:0<x'.dn→∀p,x'.dp=some p→w.heap.size≤p.block) (self:∀i,x'.sold.ownBlock=some i→0<x'.dn→∀p,x'.dp=some p→p.block≠i)
  (hW:Blk WF g (putAll cur (k*8) x'.cs) 71) (hsm:Small (bk.set k c') 120):Wr w0 base gW B t pt lt ct (.slice (some ⟨g,0,none⟩) n cap) (xs.set k x') (bk.set k c') WF:=by
 have l:base≤g:=(World.ownsRow.lt h.hold.row g rfl).1;have d:∀i,x.sold.ownBlock=some i→base≤i:=λi c=>(World.ownsRow.lt (h.hold.has k hk).so i (by rw[hx];exact c)).1;have b:∀i,i<base→WF.heap[i]?=w.heap[i]?:=λi c=>hO i (by have:=h.sz;omega) (by omega) (λe=>by have:=d i e;omega);refine⟨?_,?_,?_,h.gw,h.gb,h.ne,h.n0,h.n1,Nat.le_trans h.sz hs,?_,hsm,h.wf.set hwf⟩
 ·show WF.heap[gW]?=_;rw[b gW h.gw];exact h.blk
 ·rw[mes_set hme];show WF.heap[B]?=_;rw[b B h.gb];exact h.mp
 ·exact h.hold.put2 hk (λi c f j=>hO i c (λe=>f (by rw[e];rfl)) (by rw[← hx];exact j)) has (by rw[hx];exact own) new self (lc_put2 h.hold.row hcb hk hW)
 ·exact⟨hos.1.trans h.bel.os,hos.2.1.trans h.bel.tape,hos.2.2.trans h.bel.output,Nat.le_trans h.bel.size hs,λi c=>(b i (by have:=h.n0;have:=h.gw;omega)).trans (h.bel.block i c)⟩
theorem bsell(w0:World)(base gW B:Nat)(t:Tm)(pt:Option Addr)(lt ct g n cap:Nat)(xs:List Cu)(bk:List Cm)(k:Nat)(v:Ev)(w:World)(h:Wr w0 base gW B t pt lt ct (.slice (some ⟨g,0,none⟩) n cap) xs bk w)(hk:k<xs.length)(ht:TCame w0 t pt lt ct)(hm:EMay v)(hkd:v.kd=2∨v.kd=3∨v.kd=4):
  Calls Tryz.prog 155 #[.pointer (some ⟨gW,0,none⟩),.pointer (some ⟨g,k*8,none⟩),.agg #[zI v.kd,zI v.me,zI v.mo,zI v.id,zI v.te,zI v.de,zI v.fe,zI v.pr,zI v.ch,zI v.un,zI v.tg,zI v.ow,zI v.bp]] w λe w'=>WPost w0 base gW B t pt lt ct (HapR t bk k v) w e w':=by
 have aM:Hid (∀(f:Int) (hf:f≠0) W,zC 164 #[zI f] W λe w'=>e=.panicked (thrown f)∧w'=W):=λf hf W=>insist_no f hf W;have bB:Hid (∀W,zC 164 #[zI 0] W λe w'=>e=.returned (.tuple #[])∧w'=W):=λW=>insist_ok W;have ab:=h.hold.has k hk;have al:=h.hold.off k hk;have ag:=h.hold.self k hk;have aC:wf6 (bk.getD k cm0).a:=h.wf _ (getD_in (by rw[← h.hold.len];exact hk));have aB:=(h.few.2 _ (getD_in (by rw[← h.hold.len];exact hk))).1;obtain⟨c,hc⟩:∃c,bk.getD k cm0=c:=⟨_,rfl⟩
 obtain⟨x,hx⟩:∃x,xs.getD k cu0=x:=⟨_,rfl⟩
 obtain⟨g',r,I,bW,aP,b9,a4⟩:=at_cust h.hold.row hk;obtain rfl:g=g':=by injection I with I;injection I
 clear I;rw[hc] at ab aC aB;rw[hx] at ab a4 al ag;obtain⟨y,d⟩:=c;obtain⟨dp,dn,dc,X,V,T,rfl⟩:=cuA_of ab.num;have HR:Hid (Wr w0 base gW B t pt lt ct (.slice (some ⟨g,0,none⟩) n cap) xs bk w):=h;have aK:Hid (k<xs.length):=hk;have HX:Hid (xs.getD k cu0=(⟨y.me,y.rv,y.nx,y.mo,y.bo,y.fr,dp,dn,dc,X,V,T⟩:Cu)):=hx;have HC:Hid (bk.getD k cm0=⟨y,d⟩):=hc;have HH:Hid (Has w base (⟨y.me,y.rv,y.nx,y.mo,y.bo,y.fr,dp,dn,dc,X,V,T⟩:Cu) ⟨y,d⟩):=ab;have cw:Hid (Off (⟨y.me,y.rv,y.nx,y.mo,y.bo,y.fr,dp,dn,dc,X,V,T⟩:Cu) (some g)):=al;have cx:Hid (∀i,(Value.slice X V T).ownBlock=some i→0<dn→∀p,dp=some p→p.block≠i):=ag;have aL:Hid (EMay v):=hm;have cv:Hid (v.kd=2∨v.kd=3∨v.kd=4):=hkd;have a9:Hid (k*8+8≤r.size):=b9;have bE:Hid (∀W,zB w W→zC 183 #[.pointer (some ⟨gW,0,none⟩),.agg #[zI y.me,zI y.rv,zI y.nx,zI y.mo,zI y.bo,zI y.fr,.slice dp dn dc],.agg #[zI v.kd,zI v.me,zI v.mo,zI v.id,zI v.te,zI v.de,zI v.fe,zI v.pr,zI v.ch,zI v.un,zI v.tg,zI v.ow,zI v.bp]] W λe w'=>BPost W (Tells t ⟨y,d⟩ v) e w'):=λW hB=>bwork gW _ B t pt lt ct y d dp dn dc v W (HR.o.next hB).blk (ht.below (HR.o.next hB).bel) ⟨ab.ds.came.below hB,aC⟩ (ev_wf hm) hkd;have a2:Hid (base≤w.heap.size):=h.sz;have cz:=aP.lt;have aN:Hid (d.length≤120):=aB;have aG:Hid (base≤g):=bW;have aH:Hid (Blk w g r 71):=aP;have bY:v.kd≠5:=by omega
 have an:Hid (v.kd≠5):=bY;have G:Hid (∀i,(Value.slice X V T).ownBlock=some i→i<w.heap.size∧base≤i∧i≠g):=λi D=>⟨(World.ownsRow.lt ab.so i D).2,(World.ownsRow.lt ab.so i D).1,λe=>al.1 i D (by rw[e];rfl)⟩;clear h hk hx hc ab al ag hm hkd ht aC aB bW bY;obtain⟨O,hO⟩:∃O,k*8=O:=⟨_,rfl⟩
 have HO:Hid (k*8=O):=hO;rw[hO] at a9 b9 a4;rw[hO];clear hO;have c6:Hid (r[O+0]?=some (zI y.me)):=a4 0 (by decide);have c7:Hid (r[O+1]?=some (zI y.rv)):=a4 1 (by decide);have c8:Hid (r[O+2]?=some (zI y.nx)):=a4 2 (by decide);have c9:Hid (r[O+3]?=some (zI y.mo)):=a4 3 (by decide);have ca:Hid (r[O+4]?=some (zI y.bo)):=a4 4 (by decide);have cc:Hid (r[O+5]?=some (zI y.fr)):=a4 5 (by decide);have cd:Hid (r[O+6]?=some (.slice dp dn dc)):=a4 6 (by decide);have bu:Hid (r[O+7]?=some (.slice X V T)):=a4 7 (by decide);clear a4;have b0:=zye w #[zI v.kd,zI v.me,zI v.mo,zI v.id,zI v.te,zI v.de,zI v.fe,zI v.pr,zI v.ch,zI v.un,zI v.tg,zI v.ow,zI v.bp] 44;have a8:Hid (Blk (w.alloc (.cells #[zI v.kd,zI v.me,zI v.mo,zI v.id,zI v.te,zI v.de,zI v.fe,zI v.pr,zI v.ch,zI v.un,zI v.tg,zI v.ow,zI v.bp] 44)) g r 71):=aP.alloc _;have ba:Hid (zB w (w.alloc (.cells #[zI v.kd,zI v.me,zI v.mo,zI v.id,zI v.te,zI v.de,zI v.fe,zI v.pr,zI v.ch,zI v.un,zI v.tg,zI v.ow,zI v.bp] 44))):=zb.alloc zc _;have cA:=b0.o.lt;clear aP b9;go_enter Tryz.func155,Tryz.ntmps155;go_upto_region 1 with fail
 generalize (w.alloc (.cells #[zI v.kd,zI v.me,zI v.mo,zI v.id,zI v.te,zI v.de,zI v.fe,zI v.pr,zI v.ch,zI v.un,zI v.tg,zI v.ow,zI v.bp] 44))=W0 at *;have z0:W0.cell? ⟨g,O,none⟩=some (zI y.me):=(a8.o.cell (O+0)).trans c6.o;have z1:W0.cell? ⟨g,O+1,none⟩=some (zI y.rv):=(a8.o.cell (O+1)).trans c7.o;have z2:W0.cell? ⟨g,O+2,none⟩=some (zI y.nx):=(a8.o.cell (O+2)).trans c8.o;have z3:W0.cell? ⟨g,O+3,none⟩=some (zI y.mo):=(a8.o.cell (O+3)).trans c9.o;have z4:W0.cell? ⟨g,O+4,none⟩=some (zI y.bo):=(a8.o.cell (O+4)).trans ca.o;have z5:W0.cell? ⟨g,O+5,none⟩=some (zI y.fr):=(a8.o.cell (O+5)).trans cc.o;have z6:W0.cell? ⟨g,O+6,none⟩=some (.slice dp dn dc):=(a8.o.cell (O+6)).trans cd.o;obtain⟨W1,aa,b2,a0,cr⟩:=sh1 W0 #[zI y.me,zI y.rv,zI y.nx,zI y.mo,zI y.bo,zI y.fr,.slice dp dn dc] 55;obtain⟨b4,b3⟩:=zn2 a0.o b0 a8;have b1:=shB ba a0.o;go_upto_region 2 with fail
 clear b0 a8 ba;rw[aa.o];clear aa a0;clear z0 z1 z2 z3 z4 z5 z6;generalize W0.heap.size=ga at *;have bD:Hid (zC 183 #[.pointer (some ⟨gW,0,none⟩),.agg #[zI y.me,zI y.rv,zI y.nx,zI y.mo,zI y.bo,zI y.fr,.slice dp dn dc],.agg #[zI v.kd,zI v.me,zI v.mo,zI v.id,zI v.te,zI v.de,zI v.fe,zI v.pr,zI v.ch,zI v.un,zI v.tg,zI v.ow,zI v.bp]] W1 λe w'=>BPost W1 (Tells t ⟨y,d⟩ v) e w'):=bE.o W1 b1.o;clear bE
 go_wp2_with (first
  |(refine zqw rfl rfl rfl b4 zqu44 ?_)
  |(refine wp_whole rfl 71 _ rfl (g) rfl 71 r _ b3.o Tryz.underlying71 rfl (by kernel_rfl) ?_)
  |(refine zqw rfl rfl rfl b2 zqu55 ?_)
  | fail)
 refine bD.o.mono ?_;rintro e w2 ⟨b,l,C,A,H,f,rfl,D,hf,aO⟩;have cy:=aO.size;have HI:Hid (Tells t ⟨y,d⟩ v b l f):=D;have b7:Hid (deb.Fresh w2 W1.heap.size C A H b.ds):=hf;obtain⟨bg,bf,be⟩:=zn3 aO b4 b3 b2;have bb:=shB b1 aO;clear b4 b3 b2 b1;clear D hf aO bD;unfold acc.Ac.v acc.Ac.cs acc.Bi.v;obtain⟨W3,aa,aj,a7,a0,cu⟩:=sh2 w2 #[zI b.me,zI b.rv,zI b.nx,zI b.mo,zI b.bo,zI b.fr,.slice C A H] 55 #[zI l.id,zI l.te,zI l.de,zI l.fe,zI l.pr,zI l.ch,zI l.un] 33;have bv:Hid (deb.Fresh W3 W1.heap.size C A H b.ds):=b7.o.below a0.o;have aJ:Hid (0<A→∀p,C=some p→p.block<w2.heap.size):=came_lt b7.o.came;obtain⟨am,aE,ap⟩:=zn3 a0.o bg bf be;have aD:=shB bb a0.o;go_upto_region 3 with fail
 clear bg bf be bb;rw[aa.o];clear aa a0;clear b7;generalize w2.heap.size=gb at *;by_cases h0:f=0
 case neg=>
  have bA:=aM.o f h0;have b8:Hid (∀W,zC 164 #[zI f] W λe w'=>e=.panicked (thrown f)∧w'=W):=bA;have ay:Hid (f≠0):=h0;clear bA aM h0
  go_wp2_with (first
   |(refine zqw rfl rfl rfl am zqu44 ?_)
   |(refine wp_whole rfl 71 _ rfl (g) rfl 71 r _ aE.o Tryz.underlying71 rfl (by kernel_rfl) ?_)
   |(refine zqw rfl rfl rfl ap zqu55 ?_)
   |(refine zqw rfl rfl rfl aj zqu55 ?_)
   |(refine zqw rfl rfl rfl a7 zqu33 ?_)
   | fail)
  refine(b8.o _).mono ?_;rintro e W9 ⟨rfl,rfl⟩;exact⟨rfl,.of aD.o a2.o,.inr ⟨f,[],ay.o,rfl,⟨⟨y,d⟩,by rw[HC.o];exact .inr ⟨an.o,b,l,f,HI.o,.inl ⟨ay.o,rfl⟩⟩,λq=>absurd q ay.o⟩⟩⟩
 subst h0
 go_wp2_with (first
  |(refine zqw rfl rfl rfl am zqu44 ?_)
  |(refine wp_whole rfl 71 _ rfl (g) rfl 71 r _ aE.o Tryz.underlying71 rfl (by kernel_rfl) ?_)
  |(refine zqw rfl rfl rfl ap zqu55 ?_)
  |(refine zqw rfl rfl rfl aj zqu55 ?_)
  |(refine zqw rfl rfl rfl a7 zqu33 ?_)
  | fail)
 refine(bB.o _).mono ?_;rintro e W9 ⟨rfl,cq⟩;obtain rfl:W3=W9:=cq.symm;have aw:Hid ((Op.equalIn 10000 33 (.agg #[zI l.id,zI l.te,zI l.de,zI l.fe,zI l.pr,zI l.ch,zI l.un]) (.agg #[zI v.id,zI v.te,zI v.de,zI v.fe,zI v.pr,zI v.ch,zI v.un])).run Tryz.prog W3=.ok (decide (l.id=v.id∧l.te=v.te∧l.de=v.de∧l.fe=v.fe∧l.pr=v.pr∧l.ch=v.ch∧l.un=v.un)) W3):=eqBi 9998 l.id l.te l.de l.fe l.pr l.ch l.un v.id v.te v.de v.fe v.pr v.ch v.un W3;by_cases hq:l=billOf v
 case neg=>
  rw[decide_eq_false (λq=>hq (bill_eq q))] at aw;have ay:Hid (l≠billOf v):=hq;have b8:Hid (∀W,zC 164 #[zI 8] W λe w'=>e=.panicked (thrown 8)∧w'=W):=λW=>insist_no 8 (by decide) W;clear aM hq;obtain⟨bM,bN,bO,bP,bQ,bR,bS,bT,bU,bV,aX,aY,aZ⟩:=scl13 am;obtain⟨bF,bG,bH,bI,bJ,bK,bL⟩:=scl7 a7;go_wp2_with (first|(refine wp_neE (by rfl) 33 _ _ _ rfl #[zI l.id,zI l.te,zI l.de,zI l.fe,zI l.pr,zI l.ch,zI l.un] #[zI v.id,zI v.te,zI v.de,zI v.fe,zI v.pr,zI v.ch,zI v.un] rfl rfl (by kernel_rfl) false aw.o _ rfl ?_)|fail)
  refine(b8.o _).mono ?_;rintro e W9 ⟨rfl,rfl⟩;exact⟨rfl,.of aD.o a2.o,.inr ⟨8,[],by decide,rfl,⟨⟨y,d⟩,by rw[HC.o];exact .inr ⟨an.o,b,l,0,HI.o,.inr (.inl ⟨rfl,ay.o,rfl⟩)⟩,λq=>absurd q (by decide)⟩⟩⟩
 rw[decide_eq_true (show l.id=v.id∧l.te=v.te∧l.de=v.de∧l.fe=v.fe∧l.pr=v.pr∧l.ch=v.ch∧l.un=v.un by subst hq;exact⟨rfl,rfl,rfl,rfl,rfl,rfl,rfl⟩)] at aw;have ax:Hid (l=billOf v):=hq;clear hq aM bB;obtain⟨bM,bN,bO,bP,bQ,bR,bS,bT,bU,bV,aX,aY,aZ⟩:=scl13 am;obtain⟨bF,bG,bH,bI,bJ,bK,bL⟩:=scl7 a7;obtain⟨ce,cf,cg,ci,cj,ck,cm⟩:=scl7 ap;have ao:Hid (l.id=v.id∧l.un=v.un):=by show _∧_;rw[ax.o];exact⟨rfl,rfl⟩
 go_upto_region 6 with(first|(refine wp_neE (by rfl) 33 _ _ _ rfl #[zI l.id,zI l.te,zI l.de,zI l.fe,zI l.pr,zI l.ch,zI l.un] #[zI v.id,zI v.te,zI v.de,zI v.fe,zI v.pr,zI v.ch,zI v.un] rfl rfl (by kernel_rfl) true aw.o _ rfl ?_)|fail)
 clear aw;obtain⟨W4,aa,Q,a0,bX⟩:=sh1 W3 #[zI l.id,zI 0,zI l.un,zI v.tg,zI y.rv] 212;have aI:Hid (deb.Fresh W4 W1.heap.size C A H b.ds):=bv.o.below a0.o;obtain⟨aF,a1,b6,ak,aq⟩:=zn5 a0.o am aE ap aj a7;have b5:=shB aD a0.o;go_upto_region 7 with fail
 clear am aE ap aj a7 aD;rw[aa.o];clear aa a0;clear bv bM bN bO bP bQ bR bS bT bU bV aX aY aZ bF bG bH bI bJ bK bL ce cf cg ci cj ck cm;generalize W3.heap.size=gs at *;have c0:=zy0 aF;by_cases k4:v.kd=4
 case neg=>
  have q4:(v.kd==4)=false:=by simpa using k4
  have ac:Hid (¬ v.kd=4):=k4;clear k4;have a3:Hid (deb.Fresh W4 W1.heap.size C A H b.ds):=aI.o;clear aI
  go_wp2_with (first
   |(refine wp_let rfl 55 _ _ rfl g O rfl (.agg #[zI b.me,zI b.rv,zI b.nx,zI b.mo,zI b.bo,zI b.fr,.slice C A H]) rfl #[zI b.me,zI b.rv,zI b.nx,zI b.mo,zI b.bo,zI b.fr,.slice C A H] rfl (by kernel_rfl) (by simp[Value.oneCell']) r 71 a1.o (by have:=a9.o;simp;omega) (putAll r O [zI b.me,zI b.rv,zI b.nx,zI b.mo,zI b.bo,zI b.fr,.slice C A H]) rfl ?_)
   |(refine zqw rfl rfl rfl aF zqu44 ?_)
   |(refine wp_whole rfl 71 _ rfl (g) rfl 71 r _ a1.o Tryz.underlying71 rfl (by kernel_rfl) ?_)
   |(refine zqw rfl rfl rfl b6 zqu55 ?_)
   |(refine zqw rfl rfl rfl ak zqu55 ?_)
   |(refine zqw rfl rfl rfl aq zqu33 ?_)
   |(refine zqw rfl rfl rfl Q zqu212 ?_)
   | fail)
  intro N s;have ad:Hid (Upd W4 N g (putAll r O [zI b.me,zI b.rv,zI b.nx,zI b.mo,zI b.bo,zI b.fr,.slice C A H]) 71):=s;have a1:=zyb s;have Q:=shK s Q (by omega);have af:=s.size;have J:Hid (zB w W4):=b5.o;have au:Hid (Lo N base (.slice X V T) d):=lo_upd (HH.o.so.next J.o) s (λi D=>(G.o i D).2.2);have ar:Hid (tar.Came N C A H b.ds):=acc_upd a3.o.came s (λE p F=>by have:=a3.o.new E p F;omega);have L:Hid (0<A→∀p,C=some p→W1.heap.size≤p.block∧p.block<gb):=λE p F=>⟨a3.o.new E p F,aJ.o E p F⟩;have az:Hid (base≤N.heap.size):=by show _≤_;rw[af];exact Nat.le_trans a2.o J.o.size
  have aA:Hid (W4.heap.size=N.heap.size):=af.symm;clear s;go_wp2_with fail;refine wp_region_held_drew (S:=λu=>Blk u gs #[zI l.id,zI 0,zI l.un,zI v.tg,zI y.rv] 212) (by kernel_rfl) (show _ from Blk.drew Q.o 1) (λj=>?_)
  have q7:N.drew.cell? ⟨g,O+7,none⟩=some (.slice X V T):=by
   rw[show N.drew.cell? ⟨g,O+7,none⟩=N.cell? ⟨g,O+7,none⟩ from rfl,a1.o.cell (O+7),putAll_get _ _ _ _ (by have:=a9.o;simp;omega),if_neg (by simp only[List.length_cons,List.length_nil];omega)];exact bu.o
  have G0:Hid (Blk N.drew g (putAll r O [zI b.me,zI b.rv,zI b.nx,zI b.mo,zI b.bo,zI b.fr,.slice C A H]) 71):=a1.o;have G1:Hid (Blk N.drew gs #[zI l.id,zI 0,zI l.un,zI v.tg,zI y.rv] 212):=Q.o;have G2:Hid (Lo N.drew base (.slice X V T) d):=au.o.next zb.drew;have G3:Hid (tar.Came N.drew C A H b.ds):=ar.o.below zb.drew;have G4:Hid (∀i,i≠g→N.drew.heap[i]?=W4.heap[i]?):=λi D=>ad.o.oth i D;have G5:Hid (N.drew.os=w.os∧N.drew.tape=w.tape∧N.drew.output=w.output):=by have hb:=(ad.o.bel 0 w (Nat.zero_le _) (J.o.mono (Nat.zero_le _)));exact⟨hb.os,hb.tape,hb.output⟩
  have G6:Hid (base≤N.drew.heap.size):=az.o;have G7:Hid (W4.heap.size=N.drew.heap.size):=aA.o;clear a1 Q au ar ad az aA af;generalize N.drew=U at *;refine zt' 0 (.pointer (some ⟨g,O,none⟩)) ?_;refine zt' 1 (.pointer (some ⟨g,O,none⟩)) ?_;refine zt' 2 (.pointer (some ⟨g,O,none⟩)) ?_;refine zt' 3 (.pointer (some ⟨g,O+7,none⟩)) ?_;refine zu' 5 (.agg #[zI l.id,zI 0,zI l.un,zI v.tg,zI y.rv]) rfl rfl (Or.inl ⟨by rfl,λv hv=>by have g0:=hv.cell 0;have g1:=hv.cell 1;have g2:=hv.cell 2;have g3:=hv.cell 3;have g4:=hv.cell 4;clear hv;go_simp⟩) ?_;refine wpAnyH_ready (rs:=[4,6]) (by kernel_rfl) (by simp) (AllReadyH.cons rfl (λK z=>?_) (AllReadyH.cons rfl (λK z=>?_) AllReadyH.nil))
  ·rw[if_pos (by rfl)];refine wp_runOp (v:=.slice X V T) (w':=U) 54 rfl (by clear z;go_simp) ?_;refine z.o _ _ G1.o (λj=>?_);clear z K;simp only[Act.put,zq];refine zo 6 λK z=>?_;rw[if_pos (by rfl)];refine wp_runOp (v:=.slice (some ⟨U.heap.size,0,none⟩) 1 1) (w':=(U.alloc (.cells #[zI l.id,zI 0,zI l.un,zI v.tg,zI y.rv] 212))) 56 rfl (by clear z;go_simp) ?_;refine z.o _ _ (G1.o.alloc _) (λj=>?_);clear z K q7;simp only[Act.put,zq];have J0:=zya G0 (.cells #[zI l.id,zI 0,zI l.un,zI v.tg,zI y.rv] 212);have J1:=zya G1 (.cells #[zI l.id,zI 0,zI l.un,zI v.tg,zI y.rv] 212);have J2:Hid (Lo (U.alloc (.cells #[zI l.id,zI 0,zI l.un,zI v.tg,zI y.rv] 212)) base (.slice X V T) d):=G2.o.alloc _;have J3:Hid (tar.Came (U.alloc (.cells #[zI l.id,zI 0,zI l.un,zI v.tg,zI y.rv] 212)) C A H b.ds):=G3.o.below (zb.alloc zc _);have J4:Hid (∀i,i≠g→i<W4.heap.size→(U.alloc (.cells #[zI l.id,zI 0,zI l.un,zI v.tg,zI y.rv] 212)).heap[i]?=W4.heap[i]?):=λi D hl=>by rw[← G4.o i D];exact((Below.refl U.heap.size U).alloc zc _).block i (by rw[← G7.o];exact hl)
   have J5:Hid ((U.alloc (.cells #[zI l.id,zI 0,zI l.un,zI v.tg,zI y.rv] 212)).os=w.os∧(U.alloc (.cells #[zI l.id,zI 0,zI l.un,zI v.tg,zI y.rv] 212)).tape=w.tape∧(U.alloc (.cells #[zI l.id,zI 0,zI l.un,zI v.tg,zI y.rv] 212)).output=w.output):=G5.o;have J6:Hid (base≤(U.alloc (.cells #[zI l.id,zI 0,zI l.un,zI v.tg,zI y.rv] 212)).heap.size∧W4.heap.size≤(U.alloc (.cells #[zI l.id,zI 0,zI l.un,zI v.tg,zI y.rv] 212)).heap.size):=by show _∧_;have Z:=G6.o;have h2:=G7.o;simp;omega
   have J8:=zye U #[zI l.id,zI 0,zI l.un,zI v.tg,zI y.rv] 212;clear G0 G1 G2 G3 G4 G5 G6 G7;generalize U.heap.size=gn at *;generalize (U.alloc (.cells #[zI l.id,zI 0,zI l.un,zI v.tg,zI y.rv] 212))=Y at *;refine zo 7 λK z=>?_;rw[if_pos (by rfl)];refine step_sold 57 rfl _ _ rfl base gn _ d (⟨l.id,0,l.un,v.tg,y.rv⟩:So) rfl rfl J2.o J8.o (by have:=aN.o;omega) J6.o.1 ?_;intro v3 M h3 m a5;obtain⟨p3,c3,rfl,_,_,_⟩:=h3.row;have L0:Hid (Blk M g (putAll r O [zI b.me,zI b.rv,zI b.nx,zI b.mo,zI b.bo,zI b.fr,.slice C A H]) 71):=blk_kept J0.o m (λq=>(G.o g q.symm).2.2 rfl);have L1:Hid (Blk M gs #[zI l.id,zI 0,zI l.un,zI v.tg,zI y.rv] 212):=blk_kept J1.o m (λq=>by have:=(G.o gs q.symm).1;omega);have L2:Hid (Lo M base (.slice p3 (d++[(⟨l.id,0,l.un,v.tg,y.rv⟩:So)]).length c3) (d++[(⟨l.id,0,l.un,v.tg,y.rv⟩:So)])):=h3;have L3:Hid (tar.Came M C A H b.ds):=came_grown J3.o m (λE p F q=>by have Z:=(L.o E p F).1;have h2:=(G.o _ q.symm).1;omega);have L4:Hid (∀i,i≠g→(Value.slice X V T).ownBlock≠some i→i<w.heap.size→M.heap[i]?=w.heap[i]?):=λi Z h2 h3=>by rw[m.block i (by have:=J6.o;have:=J.o.size;omega) (λq=>h2 q.symm),J4.o i Z (by have:=J.o.size;omega),J.o.block i h3]
   have L5:Hid (M.os=w.os∧M.tape=w.tape∧M.output=w.output):=⟨m.os.trans J5.o.1,m.tape.trans J5.o.2.1,m.output.trans J5.o.2.2⟩
   have L6:Hid (w.heap.size≤Y.heap.size∧Y.heap.size≤M.heap.size):=⟨by have:=J6.o;have:=J.o.size;omega,m.size⟩
   have L7:Hid ((Value.slice p3 (d++[(⟨l.id,0,l.un,v.tg,y.rv⟩:So)]).length c3).ownBlock=(Value.slice X V T).ownBlock∨(Value.slice p3 (d++[(⟨l.id,0,l.un,v.tg,y.rv⟩:So)]).length c3).ownBlock=some Y.heap.size):=a5;have ae:Hid (0<A→∀p,C=some p→p.block<Y.heap.size):=came_lt J3.o;refine z.o _ _ L1.o (λj=>?_);clear z K h3 m a5 J0 J1 J2 J3 J4 J5 J6 J8;simp only[Act.put,zq];generalize (d++[(⟨l.id,0,l.un,v.tg,y.rv⟩:So)]).length=n3 at *;refine zt' 8 (.pointer (some ⟨g,O,none⟩)) ?_;refine zt' 9 (.pointer (some ⟨g,O+7,none⟩)) ?_;refine zo 10 λK z=>?_;rw[if_pos (by rfl)];refine acc.wp_letOp1 69 _ _ rfl g (O+7) rfl (.slice p3 n3 c3) rfl rfl (by kernel_rfl) rfl (putAll r O [zI b.me,zI b.rv,zI b.nx,zI b.mo,zI b.bo,zI b.fr,.slice C A H]) 71 L0.o (by rw[putAll_size];have:=a9.o;omega) rfl ?_;intro WF s;have M1:=zk1 s L1
   have MF:Hid (WPost w0 base gW B t pt lt ct (HapR t bk k v) w (.returned (.tuple #[])) WF):=by
    have hb:=s.bel 0 M (Nat.zero_le _) zb;have hO:∀i,i<w.heap.size→i≠g→(Value.slice X V T).ownBlock≠some i→WF.heap[i]?=w.heap[i]?:=λi Z h2 h3=>by rw[s.oth i h2];exact L4.o i h2 h3 Z
    have P:WF.os=w.os∧WF.tape=w.tape∧WF.output=w.output:=⟨hb.os.trans L5.o.1,hb.tape.trans L5.o.2.1,hb.output.trans L5.o.2.2⟩
    have a6:w.heap.size≤WF.heap.size:=by rw[s.size];exact Nat.le_trans L6.o.1 L6.o.2
    have ai:(⟨l.id,0,l.un,v.tg,y.rv⟩:So)=soldOf ⟨y,d⟩ v:=by unfold soldOf;rw[if_neg ac.o];simp only;rw[ao.o.1,ao.o.2]
    have hh:HapIs t ⟨y,d⟩ v ⟨b,d++[soldOf ⟨y,d⟩ v]⟩ 0:=.inr ⟨an.o,b,l,0,HI.o,.inr (.inr ⟨rfl,ax.o,rfl,rfl⟩)⟩;have hw:=hap_wf hh aL.o;refine⟨⟨P.1,P.2.1,P.2.2,a6,λi Z _ _=>hO i (by have:=a2.o;omega) (by have:=aG.o;omega) (λq=>by have:=(G.o i q).2.1;omega)⟩,.inl ⟨.slice (some ⟨g,0,none⟩) n cap,xs.set k ⟨b.me,b.rv,b.nx,b.mo,b.bo,b.fr,C,A,H,p3,n3,c3⟩,bk.set k ⟨b,d++[soldOf ⟨y,d⟩ v]⟩,rfl,⟨⟨b,d++[soldOf ⟨y,d⟩ v]⟩,by rw[HC.o];exact hh,λ_=>rfl⟩,λah=>?_⟩⟩;refine put_wr HR.o aK.o HX.o aH.o hO a6 P (x':=⟨b.me,b.rv,b.nx,b.mo,b.bo,b.fr,C,A,H,p3,n3,c3⟩) ⟨⟨rfl,rfl,rfl,rfl,rfl,rfl⟩,⟨acc_upd L3.o s (λE p F q=>by have:=(L.o E p F).1;omega),λE p F=>by have:=(L.o E p F).1;have:=a2.o;omega⟩,?_⟩ hw.1 (by rw[HC.o];exact hw.2) ?_ ?_ ?_ ?_ ah
    ·refine lo_upd (by rw[← ai];exact L2.o) s (λi D q=>?_);rcases L7.o with I|I
     ·exact(G.o i (I▸D)).2.2 q
     ·have R:some i=some Y.heap.size:=D.symm.trans I;injection R with R;have:=L6.o;omega
    ·intro i D;rcases L7.o with I|I
     ·exact .inl (I▸D)
     ·right;have R:some i=some Y.heap.size:=D.symm.trans I;injection R with R;have:=L6.o;omega
    ·intro E p F;have:=(L.o E p F).1;omega
    ·intro i D E p F q;rcases L7.o with I|I
     ·have Z:=(G.o i (I▸D)).1;have h2:=(L.o E p F).1;omega
     ·have R:some i=some Y.heap.size:=D.symm.trans I;injection R with R;have:=ae.o E p F;omega
    ·have:=s.blk;rw[show O+7=O+([zI b.me,zI b.rv,zI b.nx,zI b.mo,zI b.bo,zI b.fr,.slice C A H]:List Value).length from rfl,putAll_more,← HO.o] at this;exact this
   refine z.o _ _ M1.o (λj=>?_);clear z K s;refine wpAnyH_done (by kernel_rfl) ?_ _;clear j;go_wp2_with fail;go_end0;exact MF.o
  ·rw[if_pos (by rfl)];refine wp_runOp (v:=.slice (some ⟨U.heap.size,0,none⟩) 1 1) (w':=(U.alloc (.cells #[zI l.id,zI 0,zI l.un,zI v.tg,zI y.rv] 212))) 56 rfl (by clear z;go_simp) ?_;refine z.o _ _ (G1.o.alloc _) (λj=>?_);clear z K;simp only[Act.put,zq];have q8:(U.alloc (.cells #[zI l.id,zI 0,zI l.un,zI v.tg,zI y.rv] 212)).cell? ⟨g,O+7,none⟩=some (.slice X V T):=(((Below.refl U.heap.size U).alloc zc _).cell (p:=⟨g,O+7,none⟩) G0.o.lt).trans q7;clear q7;refine zo 4 λK z=>?_;rw[if_pos (by rfl)];refine wp_runOp (v:=.slice X V T) (w':=(U.alloc (.cells #[zI l.id,zI 0,zI l.un,zI v.tg,zI y.rv] 212))) 54 rfl (by clear z;go_simp) ?_;refine z.o _ _ (G1.o.alloc _) (λj=>?_);clear z K q8;simp only[Act.put,zq];have J0:=zya G0 (.cells #[zI l.id,zI 0,zI l.un,zI v.tg,zI y.rv] 212);have J1:=zya G1 (.cells #[zI l.id,zI 0,zI l.un,zI v.tg,zI y.rv] 212);have J2:Hid (Lo (U.alloc (.cells #[zI l.id,zI 0,zI l.un,zI v.tg,zI y.rv] 212)) base (.slice X V T) d):=G2.o.alloc _;have J3:Hid (tar.Came (U.alloc (.cells #[zI l.id,zI 0,zI l.un,zI v.tg,zI y.rv] 212)) C A H b.ds):=G3.o.below (zb.alloc zc _);have J4:Hid (∀i,i≠g→i<W4.heap.size→(U.alloc (.cells #[zI l.id,zI 0,zI l.un,zI v.tg,zI y.rv] 212)).heap[i]?=W4.heap[i]?):=λi D hl=>by rw[← G4.o i D];exact((Below.refl U.heap.size U).alloc zc _).block i (by rw[← G7.o];exact hl)
   have J5:Hid ((U.alloc (.cells #[zI l.id,zI 0,zI l.un,zI v.tg,zI y.rv] 212)).os=w.os∧(U.alloc (.cells #[zI l.id,zI 0,zI l.un,zI v.tg,zI y.rv] 212)).tape=w.tape∧(U.alloc (.cells #[zI l.id,zI 0,zI l.un,zI v.tg,zI y.rv] 212)).output=w.output):=G5.o;have J6:Hid (base≤(U.alloc (.cells #[zI l.id,zI 0,zI l.un,zI v.tg,zI y.rv] 212)).heap.size∧W4.heap.size≤(U.alloc (.cells #[zI l.id,zI 0,zI l.un,zI v.tg,zI y.rv] 212)).heap.size):=by show _∧_;have Z:=G6.o;have h2:=G7.o;simp;omega
   have J8:=zye U #[zI l.id,zI 0,zI l.un,zI v.tg,zI y.rv] 212;clear G0 G1 G2 G3 G4 G5 G6 G7;generalize U.heap.size=gn at *;generalize (U.alloc (.cells #[zI l.id,zI 0,zI l.un,zI v.tg,zI y.rv] 212))=Y at *;refine zo 7 λK z=>?_;rw[if_pos (by rfl)];refine step_sold 57 rfl _ _ rfl base gn _ d (⟨l.id,0,l.un,v.tg,y.rv⟩:So) rfl rfl J2.o J8.o (by have:=aN.o;omega) J6.o.1 ?_;intro v3 M h3 m a5;obtain⟨p3,c3,rfl,_,_,_⟩:=h3.row;have L0:Hid (Blk M g (putAll r O [zI b.me,zI b.rv,zI b.nx,zI b.mo,zI b.bo,zI b.fr,.slice C A H]) 71):=blk_kept J0.o m (λq=>(G.o g q.symm).2.2 rfl);have L1:Hid (Blk M gs #[zI l.id,zI 0,zI l.un,zI v.tg,zI y.rv] 212):=blk_kept J1.o m (λq=>by have:=(G.o gs q.symm).1;omega);have L2:Hid (Lo M base (.slice p3 (d++[(⟨l.id,0,l.un,v.tg,y.rv⟩:So)]).length c3) (d++[(⟨l.id,0,l.un,v.tg,y.rv⟩:So)])):=h3;have L3:Hid (tar.Came M C A H b.ds):=came_grown J3.o m (λE p F q=>by have Z:=(L.o E p F).1;have h2:=(G.o _ q.symm).1;omega);have L4:Hid (∀i,i≠g→(Value.slice X V T).ownBlock≠some i→i<w.heap.size→M.heap[i]?=w.heap[i]?):=λi Z h2 h3=>by rw[m.block i (by have:=J6.o;have:=J.o.size;omega) (λq=>h2 q.symm),J4.o i Z (by have:=J.o.size;omega),J.o.block i h3]
   have L5:Hid (M.os=w.os∧M.tape=w.tape∧M.output=w.output):=⟨m.os.trans J5.o.1,m.tape.trans J5.o.2.1,m.output.trans J5.o.2.2⟩
   have L6:Hid (w.heap.size≤Y.heap.size∧Y.heap.size≤M.heap.size):=⟨by have:=J6.o;have:=J.o.size;omega,m.size⟩
   have L7:Hid ((Value.slice p3 (d++[(⟨l.id,0,l.un,v.tg,y.rv⟩:So)]).length c3).ownBlock=(Value.slice X V T).ownBlock∨(Value.slice p3 (d++[(⟨l.id,0,l.un,v.tg,y.rv⟩:So)]).length c3).ownBlock=some Y.heap.size):=a5;have ae:Hid (0<A→∀p,C=some p→p.block<Y.heap.size):=came_lt J3.o;refine z.o _ _ L1.o (λj=>?_);clear z K h3 m a5 J0 J1 J2 J3 J4 J5 J6 J8;simp only[Act.put,zq];generalize (d++[(⟨l.id,0,l.un,v.tg,y.rv⟩:So)]).length=n3 at *;refine zt' 8 (.pointer (some ⟨g,O,none⟩)) ?_;refine zt' 9 (.pointer (some ⟨g,O+7,none⟩)) ?_;refine zo 10 λK z=>?_;rw[if_pos (by rfl)];refine acc.wp_letOp1 69 _ _ rfl g (O+7) rfl (.slice p3 n3 c3) rfl rfl (by kernel_rfl) rfl (putAll r O [zI b.me,zI b.rv,zI b.nx,zI b.mo,zI b.bo,zI b.fr,.slice C A H]) 71 L0.o (by rw[putAll_size];have:=a9.o;omega) rfl ?_;intro WF s;have M1:=zk1 s L1
   have MF:Hid (WPost w0 base gW B t pt lt ct (HapR t bk k v) w (.returned (.tuple #[])) WF):=by
    have hb:=s.bel 0 M (Nat.zero_le _) zb;have hO:∀i,i<w.heap.size→i≠g→(Value.slice X V T).ownBlock≠some i→WF.heap[i]?=w.heap[i]?:=λi Z h2 h3=>by rw[s.oth i h2];exact L4.o i h2 h3 Z
    have P:WF.os=w.os∧WF.tape=w.tape∧WF.output=w.output:=⟨hb.os.trans L5.o.1,hb.tape.trans L5.o.2.1,hb.output.trans L5.o.2.2⟩
    have a6:w.heap.size≤WF.heap.size:=by rw[s.size];exact Nat.le_trans L6.o.1 L6.o.2
    have ai:(⟨l.id,0,l.un,v.tg,y.rv⟩:So)=soldOf ⟨y,d⟩ v:=by unfold soldOf;rw[if_neg ac.o];simp only;rw[ao.o.1,ao.o.2]
    have hh:HapIs t ⟨y,d⟩ v ⟨b,d++[soldOf ⟨y,d⟩ v]⟩ 0:=.inr ⟨an.o,b,l,0,HI.o,.inr (.inr ⟨rfl,ax.o,rfl,rfl⟩)⟩;have hw:=hap_wf hh aL.o;refine⟨⟨P.1,P.2.1,P.2.2,a6,λi Z _ _=>hO i (by have:=a2.o;omega) (by have:=aG.o;omega) (λq=>by have:=(G.o i q).2.1;omega)⟩,.inl ⟨.slice (some ⟨g,0,none⟩) n cap,xs.set k ⟨b.me,b.rv,b.nx,b.mo,b.bo,b.fr,C,A,H,p3,n3,c3⟩,bk.set k ⟨b,d++[soldOf ⟨y,d⟩ v]⟩,rfl,⟨⟨b,d++[soldOf ⟨y,d⟩ v]⟩,by rw[HC.o];exact hh,λ_=>rfl⟩,λah=>?_⟩⟩;refine put_wr HR.o aK.o HX.o aH.o hO a6 P (x':=⟨b.me,b.rv,b.nx,b.mo,b.bo,b.fr,C,A,H,p3,n3,c3⟩) ⟨⟨rfl,rfl,rfl,rfl,rfl,rfl⟩,⟨acc_upd L3.o s (λE p F q=>by have:=(L.o E p F).1;omega),λE p F=>by have:=(L.o E p F).1;have:=a2.o;omega⟩,?_⟩ hw.1 (by rw[HC.o];exact hw.2) ?_ ?_ ?_ ?_ ah
    ·refine lo_upd (by rw[← ai];exact L2.o) s (λi D q=>?_);rcases L7.o with I|I
     ·exact(G.o i (I▸D)).2.2 q
     ·have R:some i=some Y.heap.size:=D.symm.trans I;injection R with R;have:=L6.o;omega
    ·intro i D;rcases L7.o with I|I
     ·exact .inl (I▸D)
     ·right;have R:some i=some Y.heap.size:=D.symm.trans I;injection R with R;have:=L6.o;omega
    ·intro E p F;have:=(L.o E p F).1;omega
    ·intro i D E p F q;rcases L7.o with I|I
     ·have Z:=(G.o i (I▸D)).1;have h2:=(L.o E p F).1;omega
     ·have R:some i=some Y.heap.size:=D.symm.trans I;injection R with R;have:=ae.o E p F;omega
    ·have:=s.blk;rw[show O+7=O+([zI b.me,zI b.rv,zI b.nx,zI b.mo,zI b.bo,zI b.fr,.slice C A H]:List Value).length from rfl,putAll_more,← HO.o] at this;exact this
   refine z.o _ _ M1.o (λj=>?_);clear z K s;refine wpAnyH_done (by kernel_rfl) ?_ _;clear j;go_wp2_with fail;go_end0;exact MF.o
 have q4:(v.kd==4)=true:=by simpa using k4
 have ac:Hid (v.kd=4):=k4;clear k4;go_wp2_with fail;clear c0 q4;refine wp_region_held_drew (S:=λu=>Blk u gb #[zI b.me,zI b.rv,zI b.nx,zI b.mo,zI b.bo,zI b.fr,.slice C A H] 55) (by kernel_rfl) (show _ from Blk.drew ak.o 1) (λj=>?_);have bl:Hid (Blk W4.drew (w.heap.size) #[zI v.kd,zI v.me,zI v.mo,zI v.id,zI v.te,zI v.de,zI v.fe,zI v.pr,zI v.ch,zI v.un,zI v.tg,zI v.ow,zI v.bp] 44):=aF.o;have bj:Hid (Blk W4.drew (g) r 71):=a1.o;have bi:Hid (Blk W4.drew (ga) #[zI y.me,zI y.rv,zI y.nx,zI y.mo,zI y.bo,zI y.fr,.slice dp dn dc] 55):=b6.o;have aQ:Hid (Blk W4.drew (gb) #[zI b.me,zI b.rv,zI b.nx,zI b.mo,zI b.bo,zI b.fr,.slice C A H] 55):=ak.o;have aR:Hid (Blk W4.drew (gb+1) #[zI l.id,zI l.te,zI l.de,zI l.fe,zI l.pr,zI l.ch,zI l.un] 33):=aq.o;have aS:Hid (Blk W4.drew (gs) #[zI l.id,zI 0,zI l.un,zI v.tg,zI y.rv] 212):=Q.o;have bh:Hid (zB w W4.drew):=b5.o.drew;have bw:Hid (deb.Fresh W4.drew W1.heap.size C A H b.ds):=fresh_drew aI.o;have cn:gs<W4.drew.heap.size:=bX;clear aI aF a1 b6 ak aq Q b5;generalize W4.drew=U8 at *;refine zt' 0 (.pointer (some ⟨gb,1,none⟩)) ?_;refine zu' 1 (zI b.rv) rfl rfl (Or.inl ⟨by rfl,λv hv=>by have g0:=hv.cell 1;clear hv;go_simp⟩) ?_;refine zt' 2 (.pointer (some ⟨gs,1,none⟩)) ?_;refine zo 3 λK z=>?_;rw[if_pos (by rfl)];refine acc.wp_letOp1 3 _ _ rfl gs 1 rfl (zI 2) rfl rfl (by kernel_rfl) rfl #[zI l.id,zI 0,zI l.un,zI v.tg,zI y.rv] 212 aS.o (by simp) rfl ?_;intro V3 s;obtain⟨br,bq,bn,av,aT⟩:=zk5 s bl bj bi aQ aR;have bm:=zk s bh;have aU:=zyb s;clear bl bj bi aQ aR aS bh;have bx:Hid (deb.Fresh V3 W1.heap.size C A H b.ds):=fresh_updN bw.o s (λE p F=>by have:=aJ.o E p F;omega);have cp:gs<V3.heap.size:=by rw[s.size];exact cn
 clear s;refine z.o _ _ av.o (λj=>?_);clear z K;refine zt' 4 (.pointer (some ⟨gs,2,none⟩)) ?_;refine zo 5 λK z=>?_;rw[if_pos (by rfl)];refine acc.wp_letOp1 3 _ _ rfl gs 2 rfl (zI b.rv) rfl rfl (by kernel_rfl) rfl #[zI l.id,zI 2,zI l.un,zI v.tg,zI y.rv] 212 aU.o (by simp) rfl ?_;intro V5 s;obtain⟨c5,bt,c4,aV,bs⟩:=zk5 s br bq bn av aT;have bZ:=zk s bm;have aW:=zyb s;clear br bq bn av aT aU bm;have bz:Hid (deb.Fresh V5 W1.heap.size C A H b.ds):=fresh_updN bx.o s (λE p F=>by have:=aJ.o E p F;omega);have cB:gs<V5.heap.size:=by rw[s.size];exact cp
 clear s;refine z.o _ _ aV.o (λj=>?_);clear z K;refine wpAnyH_done (by kernel_rfl) ?_ _;clear j;have a3:Hid (deb.Fresh V5 W1.heap.size C A H b.ds):=bz.o;clear bw bx bz;have bC:Hid (b.rv=y.rv+1):=rekey_rv (by rcases HI.o with⟨q,_⟩|⟨q,_⟩|⟨_,q⟩;exact absurd (q.symm.trans ac.o) (by decide);exact absurd (q.symm.trans ac.o) (by decide);exact q)
 go_wp2_with (first
  |(refine wp_let rfl 55 _ _ rfl g O rfl (.agg #[zI b.me,zI b.rv,zI b.nx,zI b.mo,zI b.bo,zI b.fr,.slice C A H]) rfl #[zI b.me,zI b.rv,zI b.nx,zI b.mo,zI b.bo,zI b.fr,.slice C A H] rfl (by kernel_rfl) (by simp[Value.oneCell']) r 71 bt.o (by have:=a9.o;simp;omega) (putAll r O [zI b.me,zI b.rv,zI b.nx,zI b.mo,zI b.bo,zI b.fr,.slice C A H]) rfl ?_)
  |(refine zqw rfl rfl rfl c5 zqu44 ?_)
  |(refine wp_whole rfl 71 _ rfl (g) rfl 71 r _ bt.o Tryz.underlying71 rfl (by kernel_rfl) ?_)
  |(refine zqw rfl rfl rfl c4 zqu55 ?_)
  |(refine zqw rfl rfl rfl aV zqu55 ?_)
  |(refine zqw rfl rfl rfl bs zqu33 ?_)
  |(refine zqw rfl rfl rfl aW zqu212 ?_)
  | fail)
 intro N s;have ad:Hid (Upd V5 N g (putAll r O [zI b.me,zI b.rv,zI b.nx,zI b.mo,zI b.bo,zI b.fr,.slice C A H]) 71):=s;have a1:=zyb s;have Q:=zk1 s aW;have af:=s.size;have J:Hid (zB w V5):=bZ.o;have au:Hid (Lo N base (.slice X V T) d):=lo_upd (HH.o.so.next J.o) s (λi D=>(G.o i D).2.2);have ar:Hid (tar.Came N C A H b.ds):=acc_upd a3.o.came s (λE p F=>by have:=a3.o.new E p F;omega);have L:Hid (0<A→∀p,C=some p→W1.heap.size≤p.block∧p.block<gb):=λE p F=>⟨a3.o.new E p F,aJ.o E p F⟩;have az:Hid (base≤N.heap.size):=by show _≤_;rw[af];exact Nat.le_trans a2.o J.o.size
 have aA:Hid (V5.heap.size=N.heap.size):=af.symm;clear s;go_wp2_with fail;refine wp_region_held_drew (S:=λu=>Blk u gs #[zI l.id,zI 2,zI b.rv,zI v.tg,zI y.rv] 212) (by kernel_rfl) (show _ from Blk.drew Q.o 1) (λj=>?_)
 have q7:N.drew.cell? ⟨g,O+7,none⟩=some (.slice X V T):=by
  rw[show N.drew.cell? ⟨g,O+7,none⟩=N.cell? ⟨g,O+7,none⟩ from rfl,a1.o.cell (O+7),putAll_get _ _ _ _ (by have:=a9.o;simp;omega),if_neg (by simp only[List.length_cons,List.length_nil];omega)];exact bu.o
 have G0:Hid (Blk N.drew g (putAll r O [zI b.me,zI b.rv,zI b.nx,zI b.mo,zI b.bo,zI b.fr,.slice C A H]) 71):=a1.o;have G1:Hid (Blk N.drew gs #[zI l.id,zI 2,zI b.rv,zI v.tg,zI y.rv] 212):=Q.o;have G2:Hid (Lo N.drew base (.slice X V T) d):=au.o.next zb.drew;have G3:Hid (tar.Came N.drew C A H b.ds):=ar.o.below zb.drew;have G4:Hid (∀i,i≠g→N.drew.heap[i]?=V5.heap[i]?):=λi D=>ad.o.oth i D;have G5:Hid (N.drew.os=w.os∧N.drew.tape=w.tape∧N.drew.output=w.output):=by have hb:=(ad.o.bel 0 w (Nat.zero_le _) (J.o.mono (Nat.zero_le _)));exact⟨hb.os,hb.tape,hb.output⟩
 have G6:Hid (base≤N.drew.heap.size):=az.o;have G7:Hid (V5.heap.size=N.drew.heap.size):=aA.o;clear a1 Q au ar ad az aA af;generalize N.drew=U at *;refine zt' 0 (.pointer (some ⟨g,O,none⟩)) ?_;refine zt' 1 (.pointer (some ⟨g,O,none⟩)) ?_;refine zt' 2 (.pointer (some ⟨g,O,none⟩)) ?_;refine zt' 3 (.pointer (some ⟨g,O+7,none⟩)) ?_;refine zu' 5 (.agg #[zI l.id,zI 2,zI b.rv,zI v.tg,zI y.rv]) rfl rfl (Or.inl ⟨by rfl,λv hv=>by have g0:=hv.cell 0;have g1:=hv.cell 1;have g2:=hv.cell 2;have g3:=hv.cell 3;have g4:=hv.cell 4;clear hv;go_simp⟩) ?_;refine wpAnyH_ready (rs:=[4,6]) (by kernel_rfl) (by simp) (AllReadyH.cons rfl (λK z=>?_) (AllReadyH.cons rfl (λK z=>?_) AllReadyH.nil))
 ·rw[if_pos (by rfl)];refine wp_runOp (v:=.slice X V T) (w':=U) 54 rfl (by clear z;go_simp) ?_;refine z.o _ _ G1.o (λj=>?_);clear z K;simp only[Act.put,zq];refine zo 6 λK z=>?_;rw[if_pos (by rfl)];refine wp_runOp (v:=.slice (some ⟨U.heap.size,0,none⟩) 1 1) (w':=(U.alloc (.cells #[zI l.id,zI 2,zI b.rv,zI v.tg,zI y.rv] 212))) 56 rfl (by clear z;go_simp) ?_;refine z.o _ _ (G1.o.alloc _) (λj=>?_);clear z K q7;simp only[Act.put,zq];have J0:=zya G0 (.cells #[zI l.id,zI 2,zI b.rv,zI v.tg,zI y.rv] 212);have J1:=zya G1 (.cells #[zI l.id,zI 2,zI b.rv,zI v.tg,zI y.rv] 212);have J2:Hid (Lo (U.alloc (.cells #[zI l.id,zI 2,zI b.rv,zI v.tg,zI y.rv] 212)) base (.slice X V T) d):=G2.o.alloc _;have J3:Hid (tar.Came (U.alloc (.cells #[zI l.id,zI 2,zI b.rv,zI v.tg,zI y.rv] 212)) C A H b.ds):=G3.o.below (zb.alloc zc _);have J4:Hid (∀i,i≠g→i<V5.heap.size→(U.alloc (.cells #[zI l.id,zI 2,zI b.rv,zI v.tg,zI y.rv] 212)).heap[i]?=V5.heap[i]?):=λi D hl=>by rw[← G4.o i D];exact((Below.refl U.heap.size U).alloc zc _).block i (by rw[← G7.o];exact hl)
  have J5:Hid ((U.alloc (.cells #[zI l.id,zI 2,zI b.rv,zI v.tg,zI y.rv] 212)).os=w.os∧(U.alloc (.cells #[zI l.id,zI 2,zI b.rv,zI v.tg,zI y.rv] 212)).tape=w.tape∧(U.alloc (.cells #[zI l.id,zI 2,zI b.rv,zI v.tg,zI y.rv] 212)).output=w.output):=G5.o;have J6:Hid (base≤(U.alloc (.cells #[zI l.id,zI 2,zI b.rv,zI v.tg,zI y.rv] 212)).heap.size∧V5.heap.size≤(U.alloc (.cells #[zI l.id,zI 2,zI b.rv,zI v.tg,zI y.rv] 212)).heap.size):=by show _∧_;have Z:=G6.o;have h2:=G7.o;simp;omega
  have J8:=zye U #[zI l.id,zI 2,zI b.rv,zI v.tg,zI y.rv] 212;clear G0 G1 G2 G3 G4 G5 G6 G7;generalize U.heap.size=gn at *;generalize (U.alloc (.cells #[zI l.id,zI 2,zI b.rv,zI v.tg,zI y.rv] 212))=Y at *;refine zo 7 λK z=>?_;rw[if_pos (by rfl)];refine step_sold 57 rfl _ _ rfl base gn _ d (⟨l.id,2,b.rv,v.tg,y.rv⟩:So) rfl rfl J2.o J8.o (by have:=aN.o;omega) J6.o.1 ?_;intro v3 M h3 m a5;obtain⟨p3,c3,rfl,_,_,_⟩:=h3.row;have L0:Hid (Blk M g (putAll r O [zI b.me,zI b.rv,zI b.nx,zI b.mo,zI b.bo,zI b.fr,.slice C A H]) 71):=blk_kept J0.o m (λq=>(G.o g q.symm).2.2 rfl);have L1:Hid (Blk M gs #[zI l.id,zI 2,zI b.rv,zI v.tg,zI y.rv] 212):=blk_kept J1.o m (λq=>by have:=(G.o gs q.symm).1;omega);have L2:Hid (Lo M base (.slice p3 (d++[(⟨l.id,2,b.rv,v.tg,y.rv⟩:So)]).length c3) (d++[(⟨l.id,2,b.rv,v.tg,y.rv⟩:So)])):=h3;have L3:Hid (tar.Came M C A H b.ds):=came_grown J3.o m (λE p F q=>by have Z:=(L.o E p F).1;have h2:=(G.o _ q.symm).1;omega);have L4:Hid (∀i,i≠g→(Value.slice X V T).ownBlock≠some i→i<w.heap.size→M.heap[i]?=w.heap[i]?):=λi Z h2 h3=>by rw[m.block i (by have:=J6.o;have:=J.o.size;omega) (λq=>h2 q.symm),J4.o i Z (by have:=J.o.size;omega),J.o.block i h3]
  have L5:Hid (M.os=w.os∧M.tape=w.tape∧M.output=w.output):=⟨m.os.trans J5.o.1,m.tape.trans J5.o.2.1,m.output.trans J5.o.2.2⟩
  have L6:Hid (w.heap.size≤Y.heap.size∧Y.heap.size≤M.heap.size):=⟨by have:=J6.o;have:=J.o.size;omega,m.size⟩
  have L7:Hid ((Value.slice p3 (d++[(⟨l.id,2,b.rv,v.tg,y.rv⟩:So)]).length c3).ownBlock=(Value.slice X V T).ownBlock∨(Value.slice p3 (d++[(⟨l.id,2,b.rv,v.tg,y.rv⟩:So)]).length c3).ownBlock=some Y.heap.size):=a5;have ae:Hid (0<A→∀p,C=some p→p.block<Y.heap.size):=came_lt J3.o;refine z.o _ _ L1.o (λj=>?_);clear z K h3 m a5 J0 J1 J2 J3 J4 J5 J6 J8;simp only[Act.put,zq];generalize (d++[(⟨l.id,2,b.rv,v.tg,y.rv⟩:So)]).length=n3 at *;refine zt' 8 (.pointer (some ⟨g,O,none⟩)) ?_;refine zt' 9 (.pointer (some ⟨g,O+7,none⟩)) ?_;refine zo 10 λK z=>?_;rw[if_pos (by rfl)];refine acc.wp_letOp1 69 _ _ rfl g (O+7) rfl (.slice p3 n3 c3) rfl rfl (by kernel_rfl) rfl (putAll r O [zI b.me,zI b.rv,zI b.nx,zI b.mo,zI b.bo,zI b.fr,.slice C A H]) 71 L0.o (by rw[putAll_size];have:=a9.o;omega) rfl ?_;intro WF s;have M1:=zk1 s L1
  have MF:Hid (WPost w0 base gW B t pt lt ct (HapR t bk k v) w (.returned (.tuple #[])) WF):=by
   have hb:=s.bel 0 M (Nat.zero_le _) zb;have hO:∀i,i<w.heap.size→i≠g→(Value.slice X V T).ownBlock≠some i→WF.heap[i]?=w.heap[i]?:=λi Z h2 h3=>by rw[s.oth i h2];exact L4.o i h2 h3 Z
   have P:WF.os=w.os∧WF.tape=w.tape∧WF.output=w.output:=⟨hb.os.trans L5.o.1,hb.tape.trans L5.o.2.1,hb.output.trans L5.o.2.2⟩
   have a6:w.heap.size≤WF.heap.size:=by rw[s.size];exact Nat.le_trans L6.o.1 L6.o.2
   have ai:(⟨l.id,2,b.rv,v.tg,y.rv⟩:So)=soldOf ⟨y,d⟩ v:=by unfold soldOf;rw[if_pos ac.o,ao.o.1,bC.o]
   have hh:HapIs t ⟨y,d⟩ v ⟨b,d++[soldOf ⟨y,d⟩ v]⟩ 0:=.inr ⟨an.o,b,l,0,HI.o,.inr (.inr ⟨rfl,ax.o,rfl,rfl⟩)⟩;have hw:=hap_wf hh aL.o;refine⟨⟨P.1,P.2.1,P.2.2,a6,λi Z _ _=>hO i (by have:=a2.o;omega) (by have:=aG.o;omega) (λq=>by have:=(G.o i q).2.1;omega)⟩,.inl ⟨.slice (some ⟨g,0,none⟩) n cap,xs.set k ⟨b.me,b.rv,b.nx,b.mo,b.bo,b.fr,C,A,H,p3,n3,c3⟩,bk.set k ⟨b,d++[soldOf ⟨y,d⟩ v]⟩,rfl,⟨⟨b,d++[soldOf ⟨y,d⟩ v]⟩,by rw[HC.o];exact hh,λ_=>rfl⟩,λah=>?_⟩⟩;refine put_wr HR.o aK.o HX.o aH.o hO a6 P (x':=⟨b.me,b.rv,b.nx,b.mo,b.bo,b.fr,C,A,H,p3,n3,c3⟩) ⟨⟨rfl,rfl,rfl,rfl,rfl,rfl⟩,⟨acc_upd L3.o s (λE p F q=>by have:=(L.o E p F).1;omega),λE p F=>by have:=(L.o E p F).1;have:=a2.o;omega⟩,?_⟩ hw.1 (by rw[HC.o];exact hw.2) ?_ ?_ ?_ ?_ ah
   ·refine lo_upd (by rw[← ai];exact L2.o) s (λi D q=>?_);rcases L7.o with I|I
    ·exact(G.o i (I▸D)).2.2 q
    ·have R:some i=some Y.heap.size:=D.symm.trans I;injection R with R;have:=L6.o;omega
   ·intro i D;rcases L7.o with I|I
    ·exact .inl (I▸D)
    ·right;have R:some i=some Y.heap.size:=D.symm.trans I;injection R with R;have:=L6.o;omega
   ·intro E p F;have:=(L.o E p F).1;omega
   ·intro i D E p F q;rcases L7.o with I|I
    ·have Z:=(G.o i (I▸D)).1;have h2:=(L.o E p F).1;omega
    ·have R:some i=some Y.heap.size:=D.symm.trans I;injection R with R;have:=ae.o E p F;omega
   ·have:=s.blk;rw[show O+7=O+([zI b.me,zI b.rv,zI b.nx,zI b.mo,zI b.bo,zI b.fr,.slice C A H]:List Value).length from rfl,putAll_more,← HO.o] at this;exact this
  refine z.o _ _ M1.o (λj=>?_);clear z K s;refine wpAnyH_done (by kernel_rfl) ?_ _;clear j;go_wp2_with fail;go_end0;exact MF.o
 ·rw[if_pos (by rfl)];refine wp_runOp (v:=.slice (some ⟨U.heap.size,0,none⟩) 1 1) (w':=(U.alloc (.cells #[zI l.id,zI 2,zI b.rv,zI v.tg,zI y.rv] 212))) 56 rfl (by clear z;go_simp) ?_;refine z.o _ _ (G1.o.alloc _) (λj=>?_);clear z K;simp only[Act.put,zq];have q8:(U.alloc (.cells #[zI l.id,zI 2,zI b.rv,zI v.tg,zI y.rv] 212)).cell? ⟨g,O+7,none⟩=some (.slice X V T):=(((Below.refl U.heap.size U).alloc zc _).cell (p:=⟨g,O+7,none⟩) G0.o.lt).trans q7;clear q7;refine zo 4 λK z=>?_;rw[if_pos (by rfl)];refine wp_runOp (v:=.slice X V T) (w':=(U.alloc (.cells #[zI l.id,zI 2,zI b.rv,zI v.tg,zI y.rv] 212))) 54 rfl (by clear z;go_simp) ?_;refine z.o _ _ (G1.o.alloc _) (λj=>?_);clear z K q8;simp only[Act.put,zq];have J0:=zya G0 (.cells #[zI l.id,zI 2,zI b.rv,zI v.tg,zI y.rv] 212);have J1:=zya G1 (.cells #[zI l.id,zI 2,zI b.rv,zI v.tg,zI y.rv] 212);have J2:Hid (Lo (U.alloc (.cells #[zI l.id,zI 2,zI b.rv,zI v.tg,zI y.rv] 212)) base (.slice X V T) d):=G2.o.alloc _;have J3:Hid (tar.Came (U.alloc (.cells #[zI l.id,zI 2,zI b.rv,zI v.tg,zI y.rv] 212)) C A H b.ds):=G3.o.below (zb.alloc zc _);have J4:Hid (∀i,i≠g→i<V5.heap.size→(U.alloc (.cells #[zI l.id,zI 2,zI b.rv,zI v.tg,zI y.rv] 212)).heap[i]?=V5.heap[i]?):=λi D hl=>by rw[← G4.o i D];exact((Below.refl U.heap.size U).alloc zc _).block i (by rw[← G7.o];exact hl)
  have J5:Hid ((U.alloc (.cells #[zI l.id,zI 2,zI b.rv,zI v.tg,zI y.rv] 212)).os=w.os∧(U.alloc (.cells #[zI l.id,zI 2,zI b.rv,zI v.tg,zI y.rv] 212)).tape=w.tape∧(U.alloc (.cells #[zI l.id,zI 2,zI b.rv,zI v.tg,zI y.rv] 212)).output=w.output):=G5.o;have J6:Hid (base≤(U.alloc (.cells #[zI l.id,zI 2,zI b.rv,zI v.tg,zI y.rv] 212)).heap.size∧V5.heap.size≤(U.alloc (.cells #[zI l.id,zI 2,zI b.rv,zI v.tg,zI y.rv] 212)).heap.size):=by show _∧_;have Z:=G6.o;have h2:=G7.o;simp;omega
  have J8:=zye U #[zI l.id,zI 2,zI b.rv,zI v.tg,zI y.rv] 212;clear G0 G1 G2 G3 G4 G5 G6 G7;generalize U.heap.size=gn at *;generalize (U.alloc (.cells #[zI l.id,zI 2,zI b.rv,zI v.tg,zI y.rv] 212))=Y at *;refine zo 7 λK z=>?_;rw[if_pos (by rfl)];refine step_sold 57 rfl _ _ rfl base gn _ d (⟨l.id,2,b.rv,v.tg,y.rv⟩:So) rfl rfl J2.o J8.o (by have:=aN.o;omega) J6.o.1 ?_;intro v3 M h3 m a5;obtain⟨p3,c3,rfl,_,_,_⟩:=h3.row;have L0:Hid (Blk M g (putAll r O [zI b.me,zI b.rv,zI b.nx,zI b.mo,zI b.bo,zI b.fr,.slice C A H]) 71):=blk_kept J0.o m (λq=>(G.o g q.symm).2.2 rfl);have L1:Hid (Blk M gs #[zI l.id,zI 2,zI b.rv,zI v.tg,zI y.rv] 212):=blk_kept J1.o m (λq=>by have:=(G.o gs q.symm).1;omega);have L2:Hid (Lo M base (.slice p3 (d++[(⟨l.id,2,b.rv,v.tg,y.rv⟩:So)]).length c3) (d++[(⟨l.id,2,b.rv,v.tg,y.rv⟩:So)])):=h3;have L3:Hid (tar.Came M C A H b.ds):=came_grown J3.o m (λE p F q=>by have Z:=(L.o E p F).1;have h2:=(G.o _ q.symm).1;omega);have L4:Hid (∀i,i≠g→(Value.slice X V T).ownBlock≠some i→i<w.heap.size→M.heap[i]?=w.heap[i]?):=λi Z h2 h3=>by rw[m.block i (by have:=J6.o;have:=J.o.size;omega) (λq=>h2 q.symm),J4.o i Z (by have:=J.o.size;omega),J.o.block i h3]
  have L5:Hid (M.os=w.os∧M.tape=w.tape∧M.output=w.output):=⟨m.os.trans J5.o.1,m.tape.trans J5.o.2.1,m.output.trans J5.o.2.2⟩
  have L6:Hid (w.heap.size≤Y.heap.size∧Y.heap.size≤M.heap.size):=⟨by have:=J6.o;have:=J.o.size;omega,m.size⟩
  have L7:Hid ((Value.slice p3 (d++[(⟨l.id,2,b.rv,v.tg,y.rv⟩:So)]).length c3).ownBlock=(Value.slice X V T).ownBlock∨(Value.slice p3 (d++[(⟨l.id,2,b.rv,v.tg,y.rv⟩:So)]).length c3).ownBlock=some Y.heap.size):=a5;have ae:Hid (0<A→∀p,C=some p→p.block<Y.heap.size):=came_lt J3.o;refine z.o _ _ L1.o (λj=>?_);clear z K h3 m a5 J0 J1 J2 J3 J4 J5 J6 J8;simp only[Act.put,zq];generalize (d++[(⟨l.id,2,b.rv,v.tg,y.rv⟩:So)]).length=n3 at *;refine zt' 8 (.pointer (some ⟨g,O,none⟩)) ?_;refine zt' 9 (.pointer (some ⟨g,O+7,none⟩)) ?_;refine zo 10 λK z=>?_;rw[if_pos (by rfl)];refine acc.wp_letOp1 69 _ _ rfl g (O+7) rfl (.slice p3 n3 c3) rfl rfl (by kernel_rfl) rfl (putAll r O [zI b.me,zI b.rv,zI b.nx,zI b.mo,zI b.bo,zI b.fr,.slice C A H]) 71 L0.o (by rw[putAll_size];have:=a9.o;omega) rfl ?_;intro WF s;have M1:=zk1 s L1
  have MF:Hid (WPost w0 base gW B t pt lt ct (HapR t bk k v) w (.returned (.tuple #[])) WF):=by
   have hb:=s.bel 0 M (Nat.zero_le _) zb;have hO:∀i,i<w.heap.size→i≠g→(Value.slice X V T).ownBlock≠some i→WF.heap[i]?=w.heap[i]?:=λi Z h2 h3=>by rw[s.oth i h2];exact L4.o i h2 h3 Z
   have P:WF.os=w.os∧WF.tape=w.tape∧WF.output=w.output:=⟨hb.os.trans L5.o.1,hb.tape.trans L5.o.2.1,hb.output.trans L5.o.2.2⟩
   have a6:w.heap.size≤WF.heap.size:=by rw[s.size];exact Nat.le_trans L6.o.1 L6.o.2
   have ai:(⟨l.id,2,b.rv,v.tg,y.rv⟩:So)=soldOf ⟨y,d⟩ v:=by unfold soldOf;rw[if_pos ac.o,ao.o.1,bC.o]
   have hh:HapIs t ⟨y,d⟩ v ⟨b,d++[soldOf ⟨y,d⟩ v]⟩ 0:=.inr ⟨an.o,b,l,0,HI.o,.inr (.inr ⟨rfl,ax.o,rfl,rfl⟩)⟩;have hw:=hap_wf hh aL.o;refine⟨⟨P.1,P.2.1,P.2.2,a6,λi Z _ _=>hO i (by have:=a2.o;omega) (by have:=aG.o;omega) (λq=>by have:=(G.o i q).2.1;omega)⟩,.inl ⟨.slice (some ⟨g,0,none⟩) n cap,xs.set k ⟨b.me,b.rv,b.nx,b.mo,b.bo,b.fr,C,A,H,p3,n3,c3⟩,bk.set k ⟨b,d++[soldOf ⟨y,d⟩ v]⟩,rfl,⟨⟨b,d++[soldOf ⟨y,d⟩ v]⟩,by rw[HC.o];exact hh,λ_=>rfl⟩,λah=>?_⟩⟩;refine put_wr HR.o aK.o HX.o aH.o hO a6 P (x':=⟨b.me,b.rv,b.nx,b.mo,b.bo,b.fr,C,A,H,p3,n3,c3⟩) ⟨⟨rfl,rfl,rfl,rfl,rfl,rfl⟩,⟨acc_upd L3.o s (λE p F q=>by have:=(L.o E p F).1;omega),λE p F=>by have:=(L.o E p F).1;have:=a2.o;omega⟩,?_⟩ hw.1 (by rw[HC.o];exact hw.2) ?_ ?_ ?_ ?_ ah
   ·refine lo_upd (by rw[← ai];exact L2.o) s (λi D q=>?_);rcases L7.o with I|I
    ·exact(G.o i (I▸D)).2.2 q
    ·have R:some i=some Y.heap.size:=D.symm.trans I;injection R with R;have:=L6.o;omega
   ·intro i D;rcases L7.o with I|I
    ·exact .inl (I▸D)
    ·right;have R:some i=some Y.heap.size:=D.symm.trans I;injection R with R;have:=L6.o;omega
   ·intro E p F;have:=(L.o E p F).1;omega
   ·intro i D E p F q;rcases L7.o with I|I
    ·have Z:=(G.o i (I▸D)).1;have h2:=(L.o E p F).1;omega
    ·have R:some i=some Y.heap.size:=D.symm.trans I;injection R with R;have:=ae.o E p F;omega
   ·have:=s.blk;rw[show O+7=O+([zI b.me,zI b.rv,zI b.nx,zI b.mo,zI b.bo,zI b.fr,.slice C A H]:List Value).length from rfl,putAll_more,← HO.o] at this;exact this
  refine z.o _ _ M1.o (λj=>?_);clear z K s;refine wpAnyH_done (by kernel_rfl) ?_ _;clear j;go_wp2_with fail;go_end0;exact MF.o
end book
end Go.Proofs.YtoepgdhiepedeaaGreatDoor
