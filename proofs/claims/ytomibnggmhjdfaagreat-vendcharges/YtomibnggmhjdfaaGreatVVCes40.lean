import Derived.Test.YtomibnggmhjdfaaGreatVVCes16
import Derived.Test.YtomibnggmhjdfaaGreatVVCes20
import Derived.Test.YtomibnggmhjdfaaGreatVVCes28
import Derived.Test.YtomibnggmhjdfaaGreatVVCes33
set_option linter.unusedVariables false
set_option linter.unusedSimpArgs false
namespace Go.Proofs.YtomibnggmhjdfaaGreat
namespace book
open Go.RowKit
open acc (Ac Tm Bi APost BPost TFault TRight OpenIs OweIs SellIs GrantIs RekeyIs wf6 ACame TCame fresh_updN fresh_drew came_lt)
set_option maxRecDepth 100000
set_option maxHeartbeats 8000000 in
theorem bwork (gW : Nat) (V : Value) (B : Nat) (t : Tm) (pt : Option Addr) (lt ct : Nat) (x : Ac) (so : List So) (p : Option Addr) (len cap : Nat) (v : Ev) (w : World) (hw : Blk w gW #[V, .slice pt lt ct, .int .i64 t.ff, .int .i64 t.fb, .int .i64 t.db, .int .i64 t.al, .map (some B)] 106) (ht : TCame w t pt lt ct) (ha : ACame w x p len cap) (hv : (Lit.int .i64 v.te).wf = true ∧ (Lit.int .i64 v.mo).wf = true) (hk : v.kd = 2 ∨ v.kd = 3 ∨ v.kd = 4) :
  Calls Tryz.prog 92 #[.pointer (some ⟨gW, 0, none⟩), .agg #[.int .i64 x.me, .int .i64 x.rv, .int .i64 x.nx, .int .i64 x.mo, .int .i64 x.bo, .int .i64 x.fr, .slice p len cap], .agg #[.int .i64 v.kd, .int .i64 v.me, .int .i64 v.mo, .int .i64 v.id, .int .i64 v.te, .int .i64 v.de, .int .i64 v.fe, .int .i64 v.pr, .int .i64 v.ch, .int .i64 v.un, .int .i64 v.tg, .int .i64 v.ow, .int .i64 v.bp]] w fun e w' => BPost w (Tells t ⟨x, so⟩ v) e w' := by
 have hgl := hw.lt
 have HWF : Hid ((Lit.int .i64 v.te).wf = true ∧ (Lit.int .i64 v.mo).wf = true) := hv
 obtain ⟨W0, HWW, H0a, H0v, H0r, H0l, H0B, hs0⟩ := sh4 w #[.int .i64 x.me, .int .i64 x.rv, .int .i64 x.nx, .int .i64 x.mo, .int .i64 x.bo, .int .i64 x.fr, .slice p len cap] 59 #[.int .i64 v.kd, .int .i64 v.me, .int .i64 v.mo, .int .i64 v.id, .int .i64 v.te, .int .i64 v.de, .int .i64 v.fe, .int .i64 v.pr, .int .i64 v.ch, .int .i64 v.un, .int .i64 v.tg, .int .i64 v.ow, .int .i64 v.bp] 71 #[.int .i64 0, .int .i64 0, .int .i64 0, .int .i64 0, .int .i64 0, .int .i64 0, .slice none 0 0] 59 #[.int .i64 0, .int .i64 0, .int .i64 0, .int .i64 0, .int .i64 0, .int .i64 0, .int .i64 0] 69
 have H0A : Hid (ACame W0 x p len cap) := ha.below H0B.out
 have H0T : Hid (TCame W0 t pt lt ct) := ht.below H0B.out
 have H0W : Hid (Blk W0 gW #[V, .slice pt lt ct, .int .i64 t.ff, .int .i64 t.fb, .int .i64 t.db, .int .i64 t.al, .map (some B)] 106) := hw.next H0B.out
 clear hw ha ht hv
 go_enter Tryz.func92, Tryz.ntmps92
 go_upto_region 1 with fail
 rw [HWW.out]
 clear HWW
 have HS0 : Hid (w.heap.size ≤ W0.heap.size) := H0B.out.size
 have qv0 : W0.cell? ⟨w.heap.size + 1, 0, none⟩ = some (.int .i64 v.kd) := H0v.out.cell 0
 by_cases k2 : v.kd = 2
 case pos =>
  have q2 : (v.kd == 2) = true := by simpa using k2
  have HK : Hid (v.kd = 2) := k2
  clear k2 hk
  go_wp2_with fail
  clear q2 qv0
  have HSL : Hid (Calls Tryz.prog 102 #[.agg #[.int .i64 x.me, .int .i64 x.rv, .int .i64 x.nx, .int .i64 x.mo, .int .i64 x.bo, .int .i64 x.fr, .slice p len cap], .agg #[.slice pt lt ct, .int .i64 t.ff, .int .i64 t.fb, .int .i64 t.db, .int .i64 t.al], .int .i64 v.te, .int .i64 v.mo] W0.drew fun e w' => BPost W0.drew (SellIs x t v.te v.mo) e w') := acc.ksell _ x p len cap t pt lt ct v.te v.mo (H0A.out.below (Below.refl _ _).drew) (H0T.out.below (Below.refl _ _).drew) HWF.out.1 HWF.out.2
  refine wp_region_held_drew (S := fun u => Blk u (gW) #[V, .slice pt lt ct, .int .i64 t.ff, .int .i64 t.fb, .int .i64 t.db, .int .i64 t.al, .map (some B)] 106 ∧ Blk u (w.heap.size) #[.int .i64 x.me, .int .i64 x.rv, .int .i64 x.nx, .int .i64 x.mo, .int .i64 x.bo, .int .i64 x.fr, .slice p len cap] 59 ∧ Blk u (w.heap.size + 1) #[.int .i64 v.kd, .int .i64 v.me, .int .i64 v.mo, .int .i64 v.id, .int .i64 v.te, .int .i64 v.de, .int .i64 v.fe, .int .i64 v.pr, .int .i64 v.ch, .int .i64 v.un, .int .i64 v.tg, .int .i64 v.ow, .int .i64 v.bp] 71) (by kernel_rfl) (show _ from ⟨Blk.drew H0W.out 1, Blk.drew H0a.out 1, Blk.drew H0v.out 1⟩) (fun hHeld => ?_)
  refine zqt 0 13 (.agg #[.int .i64 x.me, .int .i64 x.rv, .int .i64 x.nx, .int .i64 x.mo, .int .i64 x.bo, .int .i64 x.fr, .slice p len cap]) rfl rfl (by kernel_rfl) (fun _ _ _ h => h) (Or.inl ⟨by rfl, fun v hv => by have g0 := hv.2.1.cell 0; have g1 := hv.2.1.cell 1; have g2 := hv.2.1.cell 2; have g3 := hv.2.1.cell 3; have g4 := hv.2.1.cell 4; have g5 := hv.2.1.cell 5; have g6 := hv.2.1.cell 6; clear hv; go_simp⟩) hHeld ?_
  simp only [Act.put, zqa, zqb, zqc]
  refine zqs 1 14 (.pointer (some ⟨gW, 0, none⟩)) rfl rfl (by kernel_rfl) (fun _ _ _ h => h) rfl (fun v hv => by clear hv; go_simp) hHeld ?_
  simp only [Act.put, zqa, zqb, zqc]
  refine zqs 2 15 (.pointer (some ⟨gW, 0, none⟩)) rfl rfl (by kernel_rfl) (fun _ _ _ h => h) rfl (fun v hv => by clear hv; go_simp) hHeld ?_
  simp only [Act.put, zqa, zqb, zqc]
  refine zqs 3 16 (.pointer (some ⟨gW, 1, none⟩)) rfl rfl (by kernel_rfl) (fun _ _ _ h => h) rfl (fun v hv => by clear hv; go_simp) hHeld ?_
  simp only [Act.put, zqa, zqb, zqc]
  refine zqt 4 17 (.agg #[.slice pt lt ct, .int .i64 t.ff, .int .i64 t.fb, .int .i64 t.db, .int .i64 t.al]) rfl rfl (by kernel_rfl) (fun _ _ _ h => h) (Or.inl ⟨by rfl, fun v hv => by have g0 := hv.1.cell 1; have g1 := hv.1.cell 2; have g2 := hv.1.cell 3; have g3 := hv.1.cell 4; have g4 := hv.1.cell 5; clear hv; go_simp⟩) hHeld ?_
  simp only [Act.put, zqa, zqb, zqc]
  refine zqs 5 18 (.pointer (some ⟨w.heap.size + 1, 3, none⟩)) rfl rfl (by kernel_rfl) (fun _ _ _ h => h) rfl (fun v hv => by clear hv; go_simp) hHeld ?_
  simp only [Act.put, zqa, zqb, zqc]
  refine zqs 6 19 (.pointer (some ⟨w.heap.size + 1, 4, none⟩)) rfl rfl (by kernel_rfl) (fun _ _ _ h => h) rfl (fun v hv => by clear hv; go_simp) hHeld ?_
  simp only [Act.put, zqa, zqb, zqc]
  refine zqt 7 20 (.int .i64 v.te) rfl rfl (by kernel_rfl) (fun _ _ _ h => h) (Or.inl ⟨by rfl, fun v hv => by have g0 := hv.2.2.cell 4; clear hv; go_simp⟩) hHeld ?_
  simp only [Act.put, zqa, zqb, zqc]
  refine zqs 8 21 (.pointer (some ⟨w.heap.size + 1, 2, none⟩)) rfl rfl (by kernel_rfl) (fun _ _ _ h => h) rfl (fun v hv => by clear hv; go_simp) hHeld ?_
  simp only [Act.put, zqa, zqb, zqc]
  refine zqt 9 22 (.int .i64 v.mo) rfl rfl (by kernel_rfl) (fun _ _ _ h => h) (Or.inl ⟨by rfl, fun v hv => by have g0 := hv.2.2.cell 2; clear hv; go_simp⟩) hHeld ?_
  simp only [Act.put, zqa, zqb, zqc]
  refine zqo 10 (by kernel_rfl) rfl (fun K hK => ?_)
  rw [if_pos (by rfl)]
  refine wp_callOp 23 rfl (by clear hK; go_simp) HSL.out ?_
  rintro e w1 ⟨b, l, pb, lb, cb, f, rfl, hi, hf, hb1⟩
  have hW1 : W0.heap.size ≤ w1.heap.size := hb1.size
  have HI : Hid (SellIs x t v.te v.mo b l f) := hi
  have HF1 : Hid (deb.Fresh w1 W0.heap.size pb lb cb b.ds) := hf
  have H1a : Hid (Blk w1 (w.heap.size) #[.int .i64 x.me, .int .i64 x.rv, .int .i64 x.nx, .int .i64 x.mo, .int .i64 x.bo, .int .i64 x.fr, .slice p len cap] 59) := (Blk.drew H0a.out 1).next hb1
  have H1v : Hid (Blk w1 (w.heap.size + 1) #[.int .i64 v.kd, .int .i64 v.me, .int .i64 v.mo, .int .i64 v.id, .int .i64 v.te, .int .i64 v.de, .int .i64 v.fe, .int .i64 v.pr, .int .i64 v.ch, .int .i64 v.un, .int .i64 v.tg, .int .i64 v.ow, .int .i64 v.bp] 71) := (Blk.drew H0v.out 1).next hb1
  have H1r : Hid (Blk w1 (w.heap.size + 1 + 1) #[.int .i64 0, .int .i64 0, .int .i64 0, .int .i64 0, .int .i64 0, .int .i64 0, .slice none 0 0] 59) := (Blk.drew H0r.out 1).next hb1
  have H1l : Hid (Blk w1 (w.heap.size + 1 + 1 + 1) #[.int .i64 0, .int .i64 0, .int .i64 0, .int .i64 0, .int .i64 0, .int .i64 0, .int .i64 0] 69) := (Blk.drew H0l.out 1).next hb1
  have H1W : Hid (Blk w1 (gW) #[V, .slice pt lt ct, .int .i64 t.ff, .int .i64 t.fb, .int .i64 t.db, .int .i64 t.al, .map (some B)] 106) := (Blk.drew H0W.out 1).next hb1
  have H1B : Hid (Below w.heap.size w w1) := H0B.out.drew.trans (hb1.mono H0B.out.size)
  clear H0a H0v H0r H0l H0W H0B
  refine ⟨_, rfl, hK.out _ _ ⟨H1W.out, H1a.out, H1v.out⟩ (fun hHeld => ?_)⟩
  clear hK K hi hf hb1 HSL
  unfold acc.Ac.v acc.Ac.cs acc.Bi.v
  simp only [Act.put, zqa, zqb, zqc]
  refine zqs 11 24 (.agg #[.int .i64 b.me, .int .i64 b.rv, .int .i64 b.nx, .int .i64 b.mo, .int .i64 b.bo, .int .i64 b.fr, .slice pb lb cb]) rfl rfl (by kernel_rfl) (fun _ _ _ h => h) rfl (fun v hv => by clear hv; go_simp) hHeld ?_
  simp only [Act.put, zqa, zqb, zqc]
  refine zqs 12 25 (.agg #[.int .i64 l.id, .int .i64 l.te, .int .i64 l.de, .int .i64 l.fe, .int .i64 l.pr, .int .i64 l.ch, .int .i64 l.un]) rfl rfl (by kernel_rfl) (fun _ _ _ h => h) rfl (fun v hv => by clear hv; go_simp) hHeld ?_
  simp only [Act.put, zqa, zqb, zqc]
  refine zqs 13 26 (.int .i64 f) rfl rfl (by kernel_rfl) (fun _ _ _ h => h) rfl (fun v hv => by clear hv; go_simp) hHeld ?_
  simp only [Act.put, zqa, zqb, zqc]
  refine zqo 14 (by kernel_rfl) rfl (fun K hK => ?_)
  rw [if_pos (by rfl)]
  refine wp_letOp 59 _ _ rfl (w.heap.size + 1 + 1) rfl #[.int .i64 b.me, .int .i64 b.rv, .int .i64 b.nx, .int .i64 b.mo, .int .i64 b.bo, .int .i64 b.fr, .slice pb lb cb] rfl (by kernel_rfl) (by simp [Value.oneCell']) #[.int .i64 0, .int .i64 0, .int .i64 0, .int .i64 0, .int .i64 0, .int .i64 0, .slice none 0 0] 59 H1r.out rfl rfl ?_
  intro V1 hU
  have H2a := shK hU H1a (by omega)
  have H2v := shK hU H1v (by omega)
  have H2r : Hid (Blk V1 (w.heap.size + 1 + 1) #[.int .i64 b.me, .int .i64 b.rv, .int .i64 b.nx, .int .i64 b.mo, .int .i64 b.bo, .int .i64 b.fr, .slice pb lb cb] 59) := hU.blk
  have H2l := shK hU H1l (by omega)
  have H2W := shK hU H1W (by omega)
  have H2B := shV hU H1B (by omega)
  clear H1a H1v H1r H1l H1W H1B
  have HF2 : Hid (deb.Fresh V1 W0.heap.size pb lb cb b.ds) := fresh_updN HF1.out hU (fun hn y hy => by have f1 := HF1.out.new hn y hy; omega)
  clear hU HF1
  refine hK.out _ _ ⟨H2W.out, H2a.out, H2v.out⟩ (fun hHeld => ?_)
  clear hK K
  refine zqo 15 (by kernel_rfl) rfl (fun K hK => ?_)
  rw [if_pos (by rfl)]
  refine wp_letOp 69 _ _ rfl (w.heap.size + 1 + 1 + 1) rfl #[.int .i64 l.id, .int .i64 l.te, .int .i64 l.de, .int .i64 l.fe, .int .i64 l.pr, .int .i64 l.ch, .int .i64 l.un] rfl (by kernel_rfl) (by simp [Value.oneCell']) #[.int .i64 0, .int .i64 0, .int .i64 0, .int .i64 0, .int .i64 0, .int .i64 0, .int .i64 0] 69 H2l.out rfl rfl ?_
  intro V2 hU
  have H3a := shK hU H2a (by omega)
  have H3v := shK hU H2v (by omega)
  have H3r := shK hU H2r (by omega)
  have H3l : Hid (Blk V2 (w.heap.size + 1 + 1 + 1) #[.int .i64 l.id, .int .i64 l.te, .int .i64 l.de, .int .i64 l.fe, .int .i64 l.pr, .int .i64 l.ch, .int .i64 l.un] 69) := hU.blk
  have H3W := shK hU H2W (by omega)
  have H3B := shV hU H2B (by omega)
  clear H2a H2v H2r H2l H2W H2B
  have HF3 : Hid (deb.Fresh V2 W0.heap.size pb lb cb b.ds) := fresh_updN HF2.out hU (fun hn y hy => by have f1 := HF2.out.new hn y hy; omega)
  clear hU HF2
  refine hK.out _ _ ⟨H3W.out, H3a.out, H3v.out⟩ (fun hHeld => ?_)
  clear hK K
  refine zqs 16 8 (.int .i64 f) rfl rfl (by kernel_rfl) (fun _ _ _ h => h) rfl (fun v hv => by clear hv; go_simp) hHeld ?_
  simp only [Act.put, zqa, zqb, zqc]
  refine wpAnyH_done (by kernel_rfl) ?_ _
  clear hHeld
  obtain ⟨Rr0, Rr1, Rr2, Rr3, Rr4, Rr5, Rr6⟩ := shc7 H3r
  obtain ⟨Rl0, Rl1, Rl2, Rl3, Rl4, Rl5, Rl6⟩ := shc7 H3l
  go_wp2_with fail
  exact bodyPost_ret (v := .tuple #[.agg #[.int .i64 b.me, .int .i64 b.rv, .int .i64 b.nx, .int .i64 b.mo, .int .i64 b.bo, .int .i64 b.fr, .slice pb lb cb], .agg #[.int .i64 l.id, .int .i64 l.te, .int .i64 l.de, .int .i64 l.fe, .int .i64 l.pr, .int .i64 l.ch, .int .i64 l.un], .int .i64 f]) (by simp [results, Tryz.results92, Rr0.out, Rr1.out, Rr2.out, Rr3.out, Rr4.out, Rr5.out, Rr6.out, Rl0.out, Rl1.out, Rl2.out, Rl3.out, Rl4.out, Rl5.out, Rl6.out, go_sem]) rfl ⟨b, l, pb, lb, cb, f, rfl, .inl ⟨HK.out, HI.out⟩, HF3.out.low HS0.out, H3B.out⟩
 have q2 : (v.kd == 2) = false := by simpa using k2
 by_cases k3 : v.kd = 3
 case pos =>
  have q3 : (v.kd == 3) = true := by simpa using k3
  have HK : Hid (v.kd = 3) := k3
  clear k2 k3 hk
  go_wp2_with fail
  clear q2 q3 qv0
  have HSL : Hid (Calls Tryz.prog 103 #[.agg #[.int .i64 x.me, .int .i64 x.rv, .int .i64 x.nx, .int .i64 x.mo, .int .i64 x.bo, .int .i64 x.fr, .slice p len cap], .agg #[.slice pt lt ct, .int .i64 t.ff, .int .i64 t.fb, .int .i64 t.db, .int .i64 t.al], .int .i64 v.mo] W0.drew fun e w' => BPost W0.drew (GrantIs x t v.mo) e w') := acc.kgrant _ x p len cap t pt lt ct v.mo (H0A.out.below (Below.refl _ _).drew) (H0T.out.below (Below.refl _ _).drew) HWF.out.2
  refine wp_region_held_drew (S := fun u => Blk u (gW) #[V, .slice pt lt ct, .int .i64 t.ff, .int .i64 t.fb, .int .i64 t.db, .int .i64 t.al, .map (some B)] 106 ∧ Blk u (w.heap.size) #[.int .i64 x.me, .int .i64 x.rv, .int .i64 x.nx, .int .i64 x.mo, .int .i64 x.bo, .int .i64 x.fr, .slice p len cap] 59 ∧ Blk u (w.heap.size + 1) #[.int .i64 v.kd, .int .i64 v.me, .int .i64 v.mo, .int .i64 v.id, .int .i64 v.te, .int .i64 v.de, .int .i64 v.fe, .int .i64 v.pr, .int .i64 v.ch, .int .i64 v.un, .int .i64 v.tg, .int .i64 v.ow, .int .i64 v.bp] 71) (by kernel_rfl) (show _ from ⟨Blk.drew H0W.out 1, Blk.drew H0a.out 1, Blk.drew H0v.out 1⟩) (fun hHeld => ?_)
  refine zqt 0 29 (.agg #[.int .i64 x.me, .int .i64 x.rv, .int .i64 x.nx, .int .i64 x.mo, .int .i64 x.bo, .int .i64 x.fr, .slice p len cap]) rfl rfl (by kernel_rfl) (fun _ _ _ h => h) (Or.inl ⟨by rfl, fun v hv => by have g0 := hv.2.1.cell 0; have g1 := hv.2.1.cell 1; have g2 := hv.2.1.cell 2; have g3 := hv.2.1.cell 3; have g4 := hv.2.1.cell 4; have g5 := hv.2.1.cell 5; have g6 := hv.2.1.cell 6; clear hv; go_simp⟩) hHeld ?_
  simp only [Act.put, zqa, zqb, zqc]
  refine zqs 1 30 (.pointer (some ⟨gW, 0, none⟩)) rfl rfl (by kernel_rfl) (fun _ _ _ h => h) rfl (fun v hv => by clear hv; go_simp) hHeld ?_
  simp only [Act.put, zqa, zqb, zqc]
  refine zqs 2 31 (.pointer (some ⟨gW, 0, none⟩)) rfl rfl (by kernel_rfl) (fun _ _ _ h => h) rfl (fun v hv => by clear hv; go_simp) hHeld ?_
  simp only [Act.put, zqa, zqb, zqc]
  refine zqs 3 32 (.pointer (some ⟨gW, 1, none⟩)) rfl rfl (by kernel_rfl) (fun _ _ _ h => h) rfl (fun v hv => by clear hv; go_simp) hHeld ?_
  simp only [Act.put, zqa, zqb, zqc]
  refine zqt 4 33 (.agg #[.slice pt lt ct, .int .i64 t.ff, .int .i64 t.fb, .int .i64 t.db, .int .i64 t.al]) rfl rfl (by kernel_rfl) (fun _ _ _ h => h) (Or.inl ⟨by rfl, fun v hv => by have g0 := hv.1.cell 1; have g1 := hv.1.cell 2; have g2 := hv.1.cell 3; have g3 := hv.1.cell 4; have g4 := hv.1.cell 5; clear hv; go_simp⟩) hHeld ?_
  simp only [Act.put, zqa, zqb, zqc]
  refine zqs 5 34 (.pointer (some ⟨w.heap.size + 1, 2, none⟩)) rfl rfl (by kernel_rfl) (fun _ _ _ h => h) rfl (fun v hv => by clear hv; go_simp) hHeld ?_
  simp only [Act.put, zqa, zqb, zqc]
  refine zqt 6 35 (.int .i64 v.mo) rfl rfl (by kernel_rfl) (fun _ _ _ h => h) (Or.inl ⟨by rfl, fun v hv => by have g0 := hv.2.2.cell 2; clear hv; go_simp⟩) hHeld ?_
  simp only [Act.put, zqa, zqb, zqc]
  refine zqo 7 (by kernel_rfl) rfl (fun K hK => ?_)
  rw [if_pos (by rfl)]
  refine wp_callOp 36 rfl (by clear hK; go_simp) HSL.out ?_
  rintro e w1 ⟨b, l, pb, lb, cb, f, rfl, hi, hf, hb1⟩
  have hW1 : W0.heap.size ≤ w1.heap.size := hb1.size
  have HI : Hid (GrantIs x t v.mo b l f) := hi
  have HF1 : Hid (deb.Fresh w1 W0.heap.size pb lb cb b.ds) := hf
  have H1a : Hid (Blk w1 (w.heap.size) #[.int .i64 x.me, .int .i64 x.rv, .int .i64 x.nx, .int .i64 x.mo, .int .i64 x.bo, .int .i64 x.fr, .slice p len cap] 59) := (Blk.drew H0a.out 1).next hb1
  have H1v : Hid (Blk w1 (w.heap.size + 1) #[.int .i64 v.kd, .int .i64 v.me, .int .i64 v.mo, .int .i64 v.id, .int .i64 v.te, .int .i64 v.de, .int .i64 v.fe, .int .i64 v.pr, .int .i64 v.ch, .int .i64 v.un, .int .i64 v.tg, .int .i64 v.ow, .int .i64 v.bp] 71) := (Blk.drew H0v.out 1).next hb1
  have H1r : Hid (Blk w1 (w.heap.size + 1 + 1) #[.int .i64 0, .int .i64 0, .int .i64 0, .int .i64 0, .int .i64 0, .int .i64 0, .slice none 0 0] 59) := (Blk.drew H0r.out 1).next hb1
  have H1l : Hid (Blk w1 (w.heap.size + 1 + 1 + 1) #[.int .i64 0, .int .i64 0, .int .i64 0, .int .i64 0, .int .i64 0, .int .i64 0, .int .i64 0] 69) := (Blk.drew H0l.out 1).next hb1
  have H1W : Hid (Blk w1 (gW) #[V, .slice pt lt ct, .int .i64 t.ff, .int .i64 t.fb, .int .i64 t.db, .int .i64 t.al, .map (some B)] 106) := (Blk.drew H0W.out 1).next hb1
  have H1B : Hid (Below w.heap.size w w1) := H0B.out.drew.trans (hb1.mono H0B.out.size)
  clear H0a H0v H0r H0l H0W H0B
  refine ⟨_, rfl, hK.out _ _ ⟨H1W.out, H1a.out, H1v.out⟩ (fun hHeld => ?_)⟩
  clear hK K hi hf hb1 HSL
  unfold acc.Ac.v acc.Ac.cs acc.Bi.v
  simp only [Act.put, zqa, zqb, zqc]
  refine zqs 8 37 (.agg #[.int .i64 b.me, .int .i64 b.rv, .int .i64 b.nx, .int .i64 b.mo, .int .i64 b.bo, .int .i64 b.fr, .slice pb lb cb]) rfl rfl (by kernel_rfl) (fun _ _ _ h => h) rfl (fun v hv => by clear hv; go_simp) hHeld ?_
  simp only [Act.put, zqa, zqb, zqc]
  refine zqs 9 38 (.agg #[.int .i64 l.id, .int .i64 l.te, .int .i64 l.de, .int .i64 l.fe, .int .i64 l.pr, .int .i64 l.ch, .int .i64 l.un]) rfl rfl (by kernel_rfl) (fun _ _ _ h => h) rfl (fun v hv => by clear hv; go_simp) hHeld ?_
  simp only [Act.put, zqa, zqb, zqc]
  refine zqs 10 39 (.int .i64 f) rfl rfl (by kernel_rfl) (fun _ _ _ h => h) rfl (fun v hv => by clear hv; go_simp) hHeld ?_
  simp only [Act.put, zqa, zqb, zqc]
  refine zqo 11 (by kernel_rfl) rfl (fun K hK => ?_)
  rw [if_pos (by rfl)]
  refine wp_letOp 59 _ _ rfl (w.heap.size + 1 + 1) rfl #[.int .i64 b.me, .int .i64 b.rv, .int .i64 b.nx, .int .i64 b.mo, .int .i64 b.bo, .int .i64 b.fr, .slice pb lb cb] rfl (by kernel_rfl) (by simp [Value.oneCell']) #[.int .i64 0, .int .i64 0, .int .i64 0, .int .i64 0, .int .i64 0, .int .i64 0, .slice none 0 0] 59 H1r.out rfl rfl ?_
  intro V1 hU
  have H2a := shK hU H1a (by omega)
  have H2v := shK hU H1v (by omega)
  have H2r : Hid (Blk V1 (w.heap.size + 1 + 1) #[.int .i64 b.me, .int .i64 b.rv, .int .i64 b.nx, .int .i64 b.mo, .int .i64 b.bo, .int .i64 b.fr, .slice pb lb cb] 59) := hU.blk
  have H2l := shK hU H1l (by omega)
  have H2W := shK hU H1W (by omega)
  have H2B := shV hU H1B (by omega)
  clear H1a H1v H1r H1l H1W H1B
  have HF2 : Hid (deb.Fresh V1 W0.heap.size pb lb cb b.ds) := fresh_updN HF1.out hU (fun hn y hy => by have f1 := HF1.out.new hn y hy; omega)
  clear hU HF1
  refine hK.out _ _ ⟨H2W.out, H2a.out, H2v.out⟩ (fun hHeld => ?_)
  clear hK K
  refine zqo 12 (by kernel_rfl) rfl (fun K hK => ?_)
  rw [if_pos (by rfl)]
  refine wp_letOp 69 _ _ rfl (w.heap.size + 1 + 1 + 1) rfl #[.int .i64 l.id, .int .i64 l.te, .int .i64 l.de, .int .i64 l.fe, .int .i64 l.pr, .int .i64 l.ch, .int .i64 l.un] rfl (by kernel_rfl) (by simp [Value.oneCell']) #[.int .i64 0, .int .i64 0, .int .i64 0, .int .i64 0, .int .i64 0, .int .i64 0, .int .i64 0] 69 H2l.out rfl rfl ?_
  intro V2 hU
  have H3a := shK hU H2a (by omega)
  have H3v := shK hU H2v (by omega)
  have H3r := shK hU H2r (by omega)
  have H3l : Hid (Blk V2 (w.heap.size + 1 + 1 + 1) #[.int .i64 l.id, .int .i64 l.te, .int .i64 l.de, .int .i64 l.fe, .int .i64 l.pr, .int .i64 l.ch, .int .i64 l.un] 69) := hU.blk
  have H3W := shK hU H2W (by omega)
  have H3B := shV hU H2B (by omega)
  clear H2a H2v H2r H2l H2W H2B
  have HF3 : Hid (deb.Fresh V2 W0.heap.size pb lb cb b.ds) := fresh_updN HF2.out hU (fun hn y hy => by have f1 := HF2.out.new hn y hy; omega)
  clear hU HF2
  refine hK.out _ _ ⟨H3W.out, H3a.out, H3v.out⟩ (fun hHeld => ?_)
  clear hK K
  refine zqs 13 8 (.int .i64 f) rfl rfl (by kernel_rfl) (fun _ _ _ h => h) rfl (fun v hv => by clear hv; go_simp) hHeld ?_
  simp only [Act.put, zqa, zqb, zqc]
  refine wpAnyH_done (by kernel_rfl) ?_ _
  clear hHeld
  obtain ⟨Rr0, Rr1, Rr2, Rr3, Rr4, Rr5, Rr6⟩ := shc7 H3r
  obtain ⟨Rl0, Rl1, Rl2, Rl3, Rl4, Rl5, Rl6⟩ := shc7 H3l
  go_wp2_with fail
  exact bodyPost_ret (v := .tuple #[.agg #[.int .i64 b.me, .int .i64 b.rv, .int .i64 b.nx, .int .i64 b.mo, .int .i64 b.bo, .int .i64 b.fr, .slice pb lb cb], .agg #[.int .i64 l.id, .int .i64 l.te, .int .i64 l.de, .int .i64 l.fe, .int .i64 l.pr, .int .i64 l.ch, .int .i64 l.un], .int .i64 f]) (by simp [results, Tryz.results92, Rr0.out, Rr1.out, Rr2.out, Rr3.out, Rr4.out, Rr5.out, Rr6.out, Rl0.out, Rl1.out, Rl2.out, Rl3.out, Rl4.out, Rl5.out, Rl6.out, go_sem]) rfl ⟨b, l, pb, lb, cb, f, rfl, .inr (.inl ⟨HK.out, HI.out⟩), HF3.out.low HS0.out, H3B.out⟩
 have q3 : (v.kd == 3) = false := by simpa using k3
 have HK : Hid (v.kd = 4) := by show _ = _; omega
 clear k2 k3 hk
 have HSL : Hid (Calls Tryz.prog 104 #[.agg #[.int .i64 x.me, .int .i64 x.rv, .int .i64 x.nx, .int .i64 x.mo, .int .i64 x.bo, .int .i64 x.fr, .slice p len cap]] W0 fun e w' => BPost W0 (RekeyIs x) e w') := acc.krekey _ x p len cap H0A.out
 go_wp2_with (first
  | (refine zqw rfl rfl rfl H0a zqu59 ?_)
  | (refine zqw rfl rfl rfl H0v zqu71 ?_)
  | (refine zqw rfl rfl rfl H0r zqu59 ?_)
  | (refine zqw rfl rfl rfl H0l zqu69 ?_)
  | (refine zqw rfl rfl rfl H0W zqu106 ?_)
  | fail)
 clear qv0
 refine HSL.out.mono ?_
 rintro e w1 ⟨b, l, pb, lb, cb, f, rfl, hi, hf, hb1⟩
 have hW1 : W0.heap.size ≤ w1.heap.size := hb1.size
 have HI : Hid (RekeyIs x b l f) := hi
 have HF1 : Hid (deb.Fresh w1 W0.heap.size pb lb cb b.ds) := hf
 have H1a := shN H0a hb1
 have H1v := shN H0v hb1
 have H1r := shN H0r hb1
 have H1l := shN H0l hb1
 have H1W := shN H0W hb1
 have H1B := shB H0B hb1
 clear H0a H0v H0r H0l H0W H0B
 clear hi hf hb1 HSL q2 q3
 unfold acc.Ac.v acc.Ac.cs acc.Bi.v
 go_wp2_with (first
  | (refine zql rfl rfl rfl rfl zqu59 (by simp [Value.oneCell']) H1r rfl ?_)
  | (refine zqw rfl rfl rfl H1a zqu59 ?_)
  | (refine zqw rfl rfl rfl H1v zqu71 ?_)
  | (refine zqw rfl rfl rfl H1r zqu59 ?_)
  | (refine zqw rfl rfl rfl H1l zqu69 ?_)
  | (refine zqw rfl rfl rfl H1W zqu106 ?_)
  | fail)
 intro V1 hU
 have H2a := shK hU H1a (by omega)
 have H2v := shK hU H1v (by omega)
 have H2r : Hid (Blk V1 (w.heap.size + 1 + 1) #[.int .i64 b.me, .int .i64 b.rv, .int .i64 b.nx, .int .i64 b.mo, .int .i64 b.bo, .int .i64 b.fr, .slice pb lb cb] 59) := hU.blk
 have H2l := shK hU H1l (by omega)
 have H2W := shK hU H1W (by omega)
 have H2B := shV hU H1B (by omega)
 clear H1a H1v H1r H1l H1W H1B
 have HF2 : Hid (deb.Fresh V1 W0.heap.size pb lb cb b.ds) := fresh_updN HF1.out hU (fun hn y hy => by have f1 := HF1.out.new hn y hy; omega)
 clear hU HF1
 go_wp2_with (first
  | (refine zql rfl rfl rfl rfl zqu69 (by simp [Value.oneCell']) H2l rfl ?_)
  | (refine zqw rfl rfl rfl H2a zqu59 ?_)
  | (refine zqw rfl rfl rfl H2v zqu71 ?_)
  | (refine zqw rfl rfl rfl H2r zqu59 ?_)
  | (refine zqw rfl rfl rfl H2l zqu69 ?_)
  | (refine zqw rfl rfl rfl H2W zqu106 ?_)
  | fail)
 intro V2 hU
 have H3a := shK hU H2a (by omega)
 have H3v := shK hU H2v (by omega)
 have H3r := shK hU H2r (by omega)
 have H3l : Hid (Blk V2 (w.heap.size + 1 + 1 + 1) #[.int .i64 l.id, .int .i64 l.te, .int .i64 l.de, .int .i64 l.fe, .int .i64 l.pr, .int .i64 l.ch, .int .i64 l.un] 69) := hU.blk
 have H3W := shK hU H2W (by omega)
 have H3B := shV hU H2B (by omega)
 clear H2a H2v H2r H2l H2W H2B
 have HF3 : Hid (deb.Fresh V2 W0.heap.size pb lb cb b.ds) := fresh_updN HF2.out hU (fun hn y hy => by have f1 := HF2.out.new hn y hy; omega)
 clear hU HF2
 obtain ⟨Rr0, Rr1, Rr2, Rr3, Rr4, Rr5, Rr6⟩ := shc7 H3r
 obtain ⟨Rl0, Rl1, Rl2, Rl3, Rl4, Rl5, Rl6⟩ := shc7 H3l
 go_wp2_with fail
 exact bodyPost_ret (v := .tuple #[.agg #[.int .i64 b.me, .int .i64 b.rv, .int .i64 b.nx, .int .i64 b.mo, .int .i64 b.bo, .int .i64 b.fr, .slice pb lb cb], .agg #[.int .i64 l.id, .int .i64 l.te, .int .i64 l.de, .int .i64 l.fe, .int .i64 l.pr, .int .i64 l.ch, .int .i64 l.un], .int .i64 f]) (by simp [results, Tryz.results92, Rr0.out, Rr1.out, Rr2.out, Rr3.out, Rr4.out, Rr5.out, Rr6.out, Rl0.out, Rl1.out, Rl2.out, Rl3.out, Rl4.out, Rl5.out, Rl6.out, go_sem]) rfl ⟨b, l, pb, lb, cb, f, rfl, .inr (.inr ⟨HK.out, HI.out⟩), HF3.out.low HS0.out, H3B.out⟩
end book
end Go.Proofs.YtomibnggmhjdfaaGreat
