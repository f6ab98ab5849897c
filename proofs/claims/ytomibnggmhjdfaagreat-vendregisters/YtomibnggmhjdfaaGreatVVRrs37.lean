import Derived.Test.YtomibnggmhjdfaaGreatVVRrs36
set_option linter.unusedVariables false
set_option linter.unusedSimpArgs false
namespace Go.Proofs.YtomibnggmhjdfaaGreat
namespace acc
open tar (Du du0 Came RowD Ld PairT)
open Go.RowKit
set_option maxRecDepth 100000
set_option maxHeartbeats 2000000 in
theorem prekey (g : Nat) (x : Ac) (p : Option Addr) (len cap : Nat) (w : World) (hw : Blk w g (wcs x bi0 p len cap) 121) (hd : deb.Fresh w (g + 1) p len cap x.ds) (ha : AMay x) : Calls Tryz.prog 112 #[.pointer (some ⟨g, 0, none⟩)] w fun e w' => DPost w g (Or0 (RekeyIs x)) e w' := by
 have hrv := ha.2.2.1
 have hnx := ha.2.2.2.1
 have HM : Hid (AMay x) := ha
 have HI : Hid (Blk w g #[.int .i64 x.me, .int .i64 x.rv, .int .i64 x.nx, .int .i64 x.mo, .int .i64 x.bo, .int .i64 x.fr, .slice p len cap, .int .i64 0, .int .i64 0, .int .i64 0, .int .i64 0, .int .i64 0, .int .i64 0, .int .i64 0] 121) := hw
 have HD : Hid (deb.Fresh w (g + 1) p len cap x.ds) := hd
 have q1 : w.cell? ⟨g, 1, none⟩ = some (.int .i64 x.rv) := HI.out.cell 1
 clear hw hd ha
 by_cases h1 : x.rv < 15
 ·have d1 : (x.rv == 15) = false := by simp; omega
  have hwr : IntKind.i64.wrap (x.rv + 1) = x.rv + 1 := by rw [IntKind.wrap_i64]; omega
  have H1 : Hid (x.rv < 15) := h1
  go_enter Tryz.func112, Tryz.ntmps112
  go_wp2_with (first | (refine wp_let1 rfl 3 _ _ rfl g 1 rfl .i64 (x.rv + 1) rfl (by kernel_rfl) #[.int .i64 x.me, .int .i64 x.rv, .int .i64 x.nx, .int .i64 x.mo, .int .i64 x.bo, .int .i64 x.fr, .slice p len cap, .int .i64 0, .int .i64 0, .int .i64 0, .int .i64 0, .int .i64 0, .int .i64 0, .int .i64 0] 121 HI.out (by simp) ?_) | fail)
  intro W1 hU
  have HI1 : Hid (Blk W1 g #[.int .i64 x.me, .int .i64 (x.rv + 1), .int .i64 x.nx, .int .i64 x.mo, .int .i64 x.bo, .int .i64 x.fr, .slice p len cap, .int .i64 0, .int .i64 0, .int .i64 0, .int .i64 0, .int .i64 0, .int .i64 0, .int .i64 0] 121) := hU.blk
  have HC1 : Hid (Chg w W1 g) := .upd hU
  have HD1 : Hid (deb.Fresh W1 (g + 1) p len cap x.ds) := fresh_chg HD.out (.upd hU)
  have HNU : Hid (Calls Tryz.prog 117 #[.pointer (some ⟨g, 0, none⟩)] W1 fun e w' => NumPost W1 g ⟨x.me, x.rv + 1, x.nx, x.mo, x.bo, x.fr, x.ds⟩ bi0 p len cap e w') := pnum g ⟨x.me, x.rv + 1, x.nx, x.mo, x.bo, x.fr, x.ds⟩ bi0 p len cap W1 HI1.out hnx
  clear hU q1 HI HD d1 h1
  go_wp2_with fail
  refine HNU.out.mono ?_
  rintro e wN ⟨hcN, ⟨hx, rfl, hiN⟩ | ⟨hx, rfl, hiN⟩⟩
  ·have HV : Hid (Or0 (RekeyIs x) ⟨x.me, x.rv + 1, x.nx, x.mo, x.bo, x.fr, x.ds⟩ bi0 20) := .inl ⟨by decide, .inr (.inr (.inl ⟨HM.out, H1.out, hx, rfl, rfl, rfl⟩))⟩
   have HDN := fresh_chg HD1.out hcN
   have HCN := HC1.out.trans hcN
   clear HNU hx
   go_wp2_with fail
   go_ret
   exact ⟨⟨x.me, x.rv + 1, x.nx, x.mo, x.bo, x.fr, x.ds⟩, bi0, p, len, cap, 20, rfl, HV.out, hiN, HDN, HCN⟩
  ·have HV : Hid (Or0 (RekeyIs x) ⟨x.me, x.rv + 1, x.nx + 1, x.mo, x.bo, x.fr, x.ds⟩ ⟨x.nx, 0, 0, 0, 0, 0, 0⟩ 0) := .inr ⟨rfl, .inr (.inr (.inr ⟨HM.out, H1.out, hx, rfl, rfl, rfl⟩))⟩
   have HDN := fresh_chg HD1.out hcN
   have HCN := HC1.out.trans hcN
   clear HNU hx
   go_wp2_with fail
   go_ret
   exact ⟨⟨x.me, x.rv + 1, x.nx + 1, x.mo, x.bo, x.fr, x.ds⟩, ⟨x.nx, 0, 0, 0, 0, 0, 0⟩, p, len, cap, 0, rfl, HV.out, hiN, HDN, HCN⟩
 ·have d1 : (x.rv == 15) = true := by simp; omega
  have HV : Hid (Or0 (RekeyIs x) x bi0 24) := .inl ⟨by decide, .inr (.inl ⟨HM.out, h1, rfl, rfl, rfl⟩)⟩
  clear h1 hrv hnx
  go_enter Tryz.func112, Tryz.ntmps112
  go_wp2_with fail
  go_ret
  exact ⟨x, bi0, p, len, cap, 24, rfl, HV.out, HI.out, HD.out, Chg.refl _ _⟩
set_option maxHeartbeats 4000000 in
theorem krekey : KcRekey := by
 intro w x p len cap ha
 unfold Ac.v Ac.cs
 obtain ⟨W0, HWW, H0d, H0r, H0l, H0B, hs0⟩ := sh3 w #[.int .i64 x.me, .int .i64 x.rv, .int .i64 x.nx, .int .i64 x.mo, .int .i64 x.bo, .int .i64 x.fr, .slice p len cap] 59 #[.int .i64 0, .int .i64 0, .int .i64 0, .int .i64 0, .int .i64 0, .int .i64 0, .slice none 0 0] 59 #[.int .i64 0, .int .i64 0, .int .i64 0, .int .i64 0, .int .i64 0, .int .i64 0, .int .i64 0] 69
 have H0R : Hid (Came W0 p len cap x.ds) := ha.ds.below H0B.out
 go_enter Tryz.func104, Tryz.ntmps104
 go_upto_region 1 with fail
 rw [HWW.out]
 clear HWW
 have HWK : Hid (Calls Tryz.prog 44 #[.agg #[.int .i64 x.me, .int .i64 x.rv, .int .i64 x.nx, .int .i64 x.mo, .int .i64 x.bo, .int .i64 x.fr, .slice p len cap], .func (.func 112) #[] #[]] W0 fun e w' => BPost W0 (RekeyIs x) e w') := by
  refine pwork 112 #[] (RekeyIs x) x p len cap W0 H0R.out (fun h => .inl ⟨h, rfl, rfl, rfl⟩) (fun _ _ => by kernel_rfl) ?_
  intro hm W g p' cap' hB hg hblk hld
  have HFR : deb.Fresh W (g + 1) p' len cap' x.ds := by
   obtain ⟨a0, c0, hv, hfr⟩ := deb.ld_fresh hld hm.1
   injection hv with h1 h2 h3
   rw [h1, h2, h3]; exact hfr
  exact (prekey g x p' len cap' W hblk HFR hm).mono fun e w' h => h.w (Nat.le_of_lt hblk.lt)
 clear ha
 go_wp2_with (first
  | (refine zqw rfl rfl rfl H0d zqu59 ?_)
  | (refine zqw rfl rfl rfl H0r zqu59 ?_)
  | (refine zqw rfl rfl rfl H0l zqu69 ?_)
  | fail)
 refine HWK.out.mono ?_
 rintro e w1 ⟨b, l, pr, lr, cr, fz, rfl, hi, hf, hb1⟩
 have H1d := shN H0d hb1
 have H1r := shN H0r hb1
 have H1l := shN H0l hb1
 have H1R : Hid (Came w1 p len cap x.ds) := H0R.out.below hb1
 have H1B := shB H0B hb1
 have hsw1 : W0.heap.size ≤ w1.heap.size := hb1.size
 clear hb1 H0d H0r H0l H0R H0B
 unfold Ac.v Ac.cs Bi.v
 clear HWK
 have H2F : Hid (deb.Fresh w1 W0.heap.size pr lr cr b.ds) := hf
 have HUPF : Hid (0 < lr → ∀ y, pr = some y → y.block < w1.heap.size) := came_lt H2F.out.came
 have HV : Hid (RekeyIs x b l fz) := hi
 clear hf hi
 go_wp2_with (first
  | (refine zql rfl rfl rfl rfl zqu59 (by simp [Value.oneCell']) H1r rfl ?_)
  | (refine zqw rfl rfl rfl H1d zqu59 ?_)
  | (refine zqw rfl rfl rfl H1r zqu59 ?_)
  | (refine zqw rfl rfl rfl H1l zqu69 ?_)
  | fail)
 intro W4 hU
 have H3d := shK hU H1d (by omega)
 have H3r : Hid (Blk W4 (w.heap.size + 1) #[.int .i64 b.me, .int .i64 b.rv, .int .i64 b.nx, .int .i64 b.mo, .int .i64 b.bo, .int .i64 b.fr, .slice pr lr cr] 59) := hU.blk
 have H3l := shK hU H1l (by omega)
 have H3F : Hid (deb.Fresh W4 W0.heap.size pr lr cr b.ds) := fresh_updN H2F.out hU (fun hn y hy => by have f1 := H2F.out.new hn y hy; have f2 := HUPF.out hn y hy; omega)
 have H3B := shV hU H1B (by omega)
 have hsW4 : W4.heap.size = w1.heap.size := hU.size
 clear hU H1d H1r H1l H2F H1B
 go_wp2_with (first
  | (refine zql rfl rfl rfl rfl zqu69 (by simp [Value.oneCell']) H3l rfl ?_)
  | (refine zqw rfl rfl rfl H3d zqu59 ?_)
  | (refine zqw rfl rfl rfl H3r zqu59 ?_)
  | (refine zqw rfl rfl rfl H3l zqu69 ?_)
  | fail)
 intro W5 hU
 have H4d := shK hU H3d (by omega)
 have H4r := shK hU H3r (by omega)
 have H4l : Hid (Blk W5 (w.heap.size + 1 + 1) #[.int .i64 l.id, .int .i64 l.te, .int .i64 l.de, .int .i64 l.fe, .int .i64 l.pr, .int .i64 l.ch, .int .i64 l.un] 69) := hU.blk
 have H4F : Hid (deb.Fresh W5 W0.heap.size pr lr cr b.ds) := fresh_updN H3F.out hU (fun hn y hy => by have f1 := H3F.out.new hn y hy; have f2 := HUPF.out hn y hy; omega)
 have H4B := shV hU H3B (by omega)
 have hsW5 : W5.heap.size = W4.heap.size := hU.size
 clear hU H3d H3r H3l H3F H3B
 obtain ⟨Rr0, Rr1, Rr2, Rr3, Rr4, Rr5, Rr6⟩ := shc7 H4r
 obtain ⟨Rl0, Rl1, Rl2, Rl3, Rl4, Rl5, Rl6⟩ := shc7 H4l
 go_wp2_with fail
 exact bodyPost_ret (v := .tuple #[.agg #[.int .i64 b.me, .int .i64 b.rv, .int .i64 b.nx, .int .i64 b.mo, .int .i64 b.bo, .int .i64 b.fr, .slice pr lr cr], .agg #[.int .i64 l.id, .int .i64 l.te, .int .i64 l.de, .int .i64 l.fe, .int .i64 l.pr, .int .i64 l.ch, .int .i64 l.un], .int .i64 fz]) (by simp [results, Tryz.results104, Rr0.out, Rr1.out, Rr2.out, Rr3.out, Rr4.out, Rr5.out, Rr6.out, Rl0.out, Rl1.out, Rl2.out, Rl3.out, Rl4.out, Rl5.out, Rl6.out, go_sem]) rfl ⟨b, l, pr, lr, cr, fz, rfl, HV.out, H4F.out.low (by omega), H4B.out⟩
end acc
namespace book
open Go.RowKit
open acc (Ac Tm Bi APost BPost TFault TRight OpenIs OweIs SellIs GrantIs RekeyIs wf6 ACame TCame fresh_updN fresh_drew came_lt)
set_option maxRecDepth 100000
set_option maxHeartbeats 8000000 in
theorem bwork (gW : Nat) (V : Value) (B : Nat) (t : Tm) (pt : Option Addr) (lt ct : Nat) (x : Ac) (so : List So) (p : Option Addr) (len cap : Nat) (v : Ev) (w : World) (hw : Blk w gW #[V, .slice pt lt ct, .int .i64 t.ff, .int .i64 t.fb, .int .i64 t.db, .int .i64 t.al, .map (some B)] 106) (ht : TCame w t pt lt ct) (ha : ACame w x p len cap) (hv : (Lit.int .i64 v.te).wf = true ∧ (Lit.int .i64 v.mo).wf = true) (hk : v.kd = 2 ∨ v.kd = 3 ∨ v.kd = 4) :
  Calls Tryz.prog 92 #[.pointer (some ⟨gW, 0, none⟩), .agg #[.int .i64 x.me, .int .i64 x.rv, .int .i64 x.nx, .int .i64 x.mo, .int .i64 x.bo, .int .i64 x.fr, .slice p len cap], .agg #[.int .i64 v.kd, .int .i64 v.me, .int .i64 v.mo, .int .i64 v.id, .int .i64 v.te, .int .i64 v.de, .int .i64 v.fe, .int .i64 v.pr, .int .i64 v.ch, .int .i64 v.un, .int .i64 v.tg, .int .i64 v.ow, .int .i64 v.bp]] w fun e w' => BPost w (Tells t ⟨x, so⟩ v) e w' := by
 have hgl := hw.lt
 have HWF : Hid ((Lit.int .i64 v.te).wf = true ∧ (Lit.int .i64 v.mo).wf = true) := hv
 obtain ⟨W0, HWW, H0a, H0v, H0r, H0l, H0B, hs0⟩ := sh4 w #[.int .i64 x.me, .int .i64 x.rv, .int .i64 x.nx, .int .i64 x.mo, .int .i64 x.bo, .int .i64 x.fr, .slice p len cap] 59 #[.int .i64 v.kd, .int .i64 v.me, .int .i64 v.mo, .int .i64 v.id, .int .i64 v.te, .int .i64 v.de, .int .i64 v.fe, .int .i64 v.pr, .int .i64 v.ch, .int .i64 v.un, .int .i64 v.tg, .int .i64 v.ow, .int .i64 v.bp] 71 #[.int .i64 0, .int .i64 0, .int .i64 0, .int .i64 0, .int .i64 0, .int .i64 0, .slice none 0 0] 59 #[.int .i64 0, .int .i64 0, .int .i64 0, .int .i64 0, .int .i64 0, .int .i64 0, .int .i64 0] 69
 have H0A : Hid (ACame W0 x p len cap) := ha.below H0B.out
 have H0T : Hid (TCame W0 t pt lt ct) := ht.below H0B.out
 have H0W : Hid (Blk W0 gW #[V, .slice pt lt ct, .int .i64 t.ff, .int .i64 t.fb, .int .i64 t.db, .int .i64 t.al, .map (some B)] 106) := hw.next H0B.out
 clear hw ha ht hv
 go_enter Tryz.func92, Tryz.ntmps92
 go_upto_region 1 with fail
 rw [HWW.out]
 clear HWW
 have HS0 : Hid (w.heap.size ≤ W0.heap.size) := H0B.out.size
 have qv0 : W0.cell? ⟨w.heap.size + 1, 0, none⟩ = some (.int .i64 v.kd) := H0v.out.cell 0
 by_cases k2 : v.kd = 2
 case pos =>
  have q2 : (v.kd == 2) = true := by simpa using k2
  have HK : Hid (v.kd = 2) := k2
  clear k2 hk
  go_wp2_with fail
  clear q2 qv0
  have HSL : Hid (Calls Tryz.prog 102 #[.agg #[.int .i64 x.me, .int .i64 x.rv, .int .i64 x.nx, .int .i64 x.mo, .int .i64 x.bo, .int .i64 x.fr, .slice p len cap], .agg #[.slice pt lt ct, .int .i64 t.ff, .int .i64 t.fb, .int .i64 t.db, .int .i64 t.al], .int .i64 v.te, .int .i64 v.mo] W0.drew fun e w' => BPost W0.drew (SellIs x t v.te v.mo) e w') := acc.ksell _ x p len cap t pt lt ct v.te v.mo (H0A.out.below (Below.refl _ _).drew) (H0T.out.below (Below.refl _ _).drew) HWF.out.1 HWF.out.2
  refine wp_region_held_drew (S := fun u => Blk u (gW) #[V, .slice pt lt ct, .int .i64 t.ff, .int .i64 t.fb, .int .i64 t.db, .int .i64 t.al, .map (some B)] 106 ∧ Blk u (w.heap.size) #[.int .i64 x.me, .int .i64 x.rv, .int .i64 x.nx, .int .i64 x.mo, .int .i64 x.bo, .int .i64 x.fr, .slice p len cap] 59 ∧ Blk u (w.heap.size + 1) #[.int .i64 v.kd, .int .i64 v.me, .int .i64 v.mo, .int .i64 v.id, .int .i64 v.te, .int .i64 v.de, .int .i64 v.fe, .int .i64 v.pr, .int .i64 v.ch, .int .i64 v.un, .int .i64 v.tg, .int .i64 v.ow, .int .i64 v.bp] 71) (by kernel_rfl) (show _ from ⟨Blk.drew H0W.out 1, Blk.drew H0a.out 1, Blk.drew H0v.out 1⟩) (fun hHeld => ?_)
  refine zqt 0 13 (.agg #[.int .i64 x.me, .int .i64 x.rv, .int .i64 x.nx, .int .i64 x.mo, .int .i64 x.bo, .int .i64 x.fr, .slice p len cap]) rfl rfl (by kernel_rfl) (fun _ _ _ h => h) (Or.inl ⟨by rfl, fun v hv => by have g0 := hv.2.1.cell 0; have g1 := hv.2.1.cell 1; have g2 := hv.2.1.cell 2; have g3 := hv.2.1.cell 3; have g4 := hv.2.1.cell 4; have g5 := hv.2.1.cell 5; have g6 := hv.2.1.cell 6; clear hv; go_simp⟩) hHeld ?_
  simp only [Act.put, zqa, zqb, zqc]
  refine zqt 1 14 (.pointer (some ⟨gW, 0, none⟩)) rfl rfl (by kernel_rfl) (fun _ _ _ h => h) (Or.inl ⟨by rfl, fun v hv => by clear hv; go_simp⟩) hHeld ?_
  simp only [Act.put, zqa, zqb, zqc]
  refine zqt 2 15 (.pointer (some ⟨gW, 0, none⟩)) rfl rfl (by kernel_rfl) (fun _ _ _ h => h) (Or.inl ⟨by rfl, fun v hv => by clear hv; go_simp⟩) hHeld ?_
  simp only [Act.put, zqa, zqb, zqc]
  refine zqt 3 16 (.pointer (some ⟨gW, 1, none⟩)) rfl rfl (by kernel_rfl) (fun _ _ _ h => h) (Or.inl ⟨by rfl, fun v hv => by clear hv; go_simp⟩) hHeld ?_
  simp only [Act.put, zqa, zqb, zqc]
  refine zqt 4 17 (.agg #[.slice pt lt ct, .int .i64 t.ff, .int .i64 t.fb, .int .i64 t.db, .int .i64 t.al]) rfl rfl (by kernel_rfl) (fun _ _ _ h => h) (Or.inl ⟨by rfl, fun v hv => by have g0 := hv.1.cell 1; have g1 := hv.1.cell 2; have g2 := hv.1.cell 3; have g3 := hv.1.cell 4; have g4 := hv.1.cell 5; clear hv; go_simp⟩) hHeld ?_
  simp only [Act.put, zqa, zqb, zqc]
  refine zqt 5 18 (.pointer (some ⟨w.heap.size + 1, 3, none⟩)) rfl rfl (by kernel_rfl) (fun _ _ _ h => h) (Or.inl ⟨by rfl, fun v hv => by clear hv; go_simp⟩) hHeld ?_
  simp only [Act.put, zqa, zqb, zqc]
  refine zqt 6 19 (.pointer (some ⟨w.heap.size + 1, 4, none⟩)) rfl rfl (by kernel_rfl) (fun _ _ _ h => h) (Or.inl ⟨by rfl, fun v hv => by clear hv; go_simp⟩) hHeld ?_
  simp only [Act.put, zqa, zqb, zqc]
  refine zqt 7 20 (.int .i64 v.te) rfl rfl (by kernel_rfl) (fun _ _ _ h => h) (Or.inl ⟨by rfl, fun v hv => by have g0 := hv.2.2.cell 4; clear hv; go_simp⟩) hHeld ?_
  simp only [Act.put, zqa, zqb, zqc]
  refine zqt 8 21 (.pointer (some ⟨w.heap.size + 1, 2, none⟩)) rfl rfl (by kernel_rfl) (fun _ _ _ h => h) (Or.inl ⟨by rfl, fun v hv => by clear hv; go_simp⟩) hHeld ?_
  simp only [Act.put, zqa, zqb, zqc]
  refine zqt 9 22 (.int .i64 v.mo) rfl rfl (by kernel_rfl) (fun _ _ _ h => h) (Or.inl ⟨by rfl, fun v hv => by have g0 := hv.2.2.cell 2; clear hv; go_simp⟩) hHeld ?_
  simp only [Act.put, zqa, zqb, zqc]
  refine wpAnyH_ready (rs := [10]) (by kernel_rfl) (by simp) (AllReadyH.cons rfl (fun K hK => ?_) AllReadyH.nil)
  rw [if_pos (by rfl)]
  refine wp_callOp 23 rfl (by clear hK; go_simp) HSL.out ?_
  rintro e w1 ⟨b, l, pb, lb, cb, f, rfl, hi, hf, hb1⟩
  have hW1 : W0.heap.size ≤ w1.heap.size := hb1.size
  have HI : Hid (SellIs x t v.te v.mo b l f) := hi
  have HF1 : Hid (deb.Fresh w1 W0.heap.size pb lb cb b.ds) := hf
  have H1a : Hid (Blk w1 (w.heap.size) #[.int .i64 x.me, .int .i64 x.rv, .int .i64 x.nx, .int .i64 x.mo, .int .i64 x.bo, .int .i64 x.fr, .slice p len cap] 59) := (Blk.drew H0a.out 1).next hb1
  have H1v : Hid (Blk w1 (w.heap.size + 1) #[.int .i64 v.kd, .int .i64 v.me, .int .i64 v.mo, .int .i64 v.id, .int .i64 v.te, .int .i64 v.de, .int .i64 v.fe, .int .i64 v.pr, .int .i64 v.ch, .int .i64 v.un, .int .i64 v.tg, .int .i64 v.ow, .int .i64 v.bp] 71) := (Blk.drew H0v.out 1).next hb1
  have H1r : Hid (Blk w1 (w.heap.size + 1 + 1) #[.int .i64 0, .int .i64 0, .int .i64 0, .int .i64 0, .int .i64 0, .int .i64 0, .slice none 0 0] 59) := (Blk.drew H0r.out 1).next hb1
  have H1l : Hid (Blk w1 (w.heap.size + 1 + 1 + 1) #[.int .i64 0, .int .i64 0, .int .i64 0, .int .i64 0, .int .i64 0, .int .i64 0, .int .i64 0] 69) := (Blk.drew H0l.out 1).next hb1
  have H1W : Hid (Blk w1 (gW) #[V, .slice pt lt ct, .int .i64 t.ff, .int .i64 t.fb, .int .i64 t.db, .int .i64 t.al, .map (some B)] 106) := (Blk.drew H0W.out 1).next hb1
  have H1B : Hid (Below w.heap.size w w1) := H0B.out.drew.trans (hb1.mono H0B.out.size)
  clear H0a H0v H0r H0l H0W H0B
  refine ⟨_, rfl, hK.out _ _ ⟨H1W.out, H1a.out, H1v.out⟩ (fun hHeld => ?_)⟩
  clear hK K hi hf hb1 HSL
  unfold acc.Ac.v acc.Ac.cs acc.Bi.v
  simp only [Act.put, zqa, zqb, zqc]
  refine zqt 11 24 (.agg #[.int .i64 b.me, .int .i64 b.rv, .int .i64 b.nx, .int .i64 b.mo, .int .i64 b.bo, .int .i64 b.fr, .slice pb lb cb]) rfl rfl (by kernel_rfl) (fun _ _ _ h => h) (Or.inl ⟨by rfl, fun v hv => by clear hv; go_simp⟩) hHeld ?_
  simp only [Act.put, zqa, zqb, zqc]
  refine zqt 12 25 (.agg #[.int .i64 l.id, .int .i64 l.te, .int .i64 l.de, .int .i64 l.fe, .int .i64 l.pr, .int .i64 l.ch, .int .i64 l.un]) rfl rfl (by kernel_rfl) (fun _ _ _ h => h) (Or.inl ⟨by rfl, fun v hv => by clear hv; go_simp⟩) hHeld ?_
  simp only [Act.put, zqa, zqb, zqc]
  refine zqt 13 26 (.int .i64 f) rfl rfl (by kernel_rfl) (fun _ _ _ h => h) (Or.inl ⟨by rfl, fun v hv => by clear hv; go_simp⟩) hHeld ?_
  simp only [Act.put, zqa, zqb, zqc]
  refine wpAnyH_ready (rs := [14]) (by kernel_rfl) (by simp) (AllReadyH.cons rfl (fun K hK => ?_) AllReadyH.nil)
  rw [if_pos (by rfl)]
  refine wp_letOp 59 _ _ rfl (w.heap.size + 1 + 1) rfl #[.int .i64 b.me, .int .i64 b.rv, .int .i64 b.nx, .int .i64 b.mo, .int .i64 b.bo, .int .i64 b.fr, .slice pb lb cb] rfl (by kernel_rfl) (by simp [Value.oneCell']) #[.int .i64 0, .int .i64 0, .int .i64 0, .int .i64 0, .int .i64 0, .int .i64 0, .slice none 0 0] 59 H1r.out rfl rfl ?_
  intro V1 hU
  have H2a := shK hU H1a (by omega)
  have H2v := shK hU H1v (by omega)
  have H2r : Hid (Blk V1 (w.heap.size + 1 + 1) #[.int .i64 b.me, .int .i64 b.rv, .int .i64 b.nx, .int .i64 b.mo, .int .i64 b.bo, .int .i64 b.fr, .slice pb lb cb] 59) := hU.blk
  have H2l := shK hU H1l (by omega)
  have H2W := shK hU H1W (by omega)
  have H2B := shV hU H1B (by omega)
  clear H1a H1v H1r H1l H1W H1B
  have HF2 : Hid (deb.Fresh V1 W0.heap.size pb lb cb b.ds) := fresh_updN HF1.out hU (fun hn y hy => by have f1 := HF1.out.new hn y hy; omega)
  clear hU HF1
  refine hK.out _ _ ⟨H2W.out, H2a.out, H2v.out⟩ (fun hHeld => ?_)
  clear hK K
  refine wpAnyH_ready (rs := [15]) (by kernel_rfl) (by simp) (AllReadyH.cons rfl (fun K hK => ?_) AllReadyH.nil)
  rw [if_pos (by rfl)]
  refine wp_letOp 69 _ _ rfl (w.heap.size + 1 + 1 + 1) rfl #[.int .i64 l.id, .int .i64 l.te, .int .i64 l.de, .int .i64 l.fe, .int .i64 l.pr, .int .i64 l.ch, .int .i64 l.un] rfl (by kernel_rfl) (by simp [Value.oneCell']) #[.int .i64 0, .int .i64 0, .int .i64 0, .int .i64 0, .int .i64 0, .int .i64 0, .int .i64 0] 69 H2l.out rfl rfl ?_
  intro V2 hU
  have H3a := shK hU H2a (by omega)
  have H3v := shK hU H2v (by omega)
  have H3r := shK hU H2r (by omega)
  have H3l : Hid (Blk V2 (w.heap.size + 1 + 1 + 1) #[.int .i64 l.id, .int .i64 l.te, .int .i64 l.de, .int .i64 l.fe, .int .i64 l.pr, .int .i64 l.ch, .int .i64 l.un] 69) := hU.blk
  have H3W := shK hU H2W (by omega)
  have H3B := shV hU H2B (by omega)
  clear H2a H2v H2r H2l H2W H2B
  have HF3 : Hid (deb.Fresh V2 W0.heap.size pb lb cb b.ds) := fresh_updN HF2.out hU (fun hn y hy => by have f1 := HF2.out.new hn y hy; omega)
  clear hU HF2
  refine hK.out _ _ ⟨H3W.out, H3a.out, H3v.out⟩ (fun hHeld => ?_)
  clear hK K
  refine zqt 16 8 (.int .i64 f) rfl rfl (by kernel_rfl) (fun _ _ _ h => h) (Or.inl ⟨by rfl, fun v hv => by clear hv; go_simp⟩) hHeld ?_
  simp only [Act.put, zqa, zqb, zqc]
  refine wpAnyH_done (by kernel_rfl) ?_ _
  clear hHeld
  obtain ⟨Rr0, Rr1, Rr2, Rr3, Rr4, Rr5, Rr6⟩ := shc7 H3r
  obtain ⟨Rl0, Rl1, Rl2, Rl3, Rl4, Rl5, Rl6⟩ := shc7 H3l
  go_wp2_with fail
  exact bodyPost_ret (v := .tuple #[.agg #[.int .i64 b.me, .int .i64 b.rv, .int .i64 b.nx, .int .i64 b.mo, .int .i64 b.bo, .int .i64 b.fr, .slice pb lb cb], .agg #[.int .i64 l.id, .int .i64 l.te, .int .i64 l.de, .int .i64 l.fe, .int .i64 l.pr, .int .i64 l.ch, .int .i64 l.un], .int .i64 f]) (by simp [results, Tryz.results92, Rr0.out, Rr1.out, Rr2.out, Rr3.out, Rr4.out, Rr5.out, Rr6.out, Rl0.out, Rl1.out, Rl2.out, Rl3.out, Rl4.out, Rl5.out, Rl6.out, go_sem]) rfl ⟨b, l, pb, lb, cb, f, rfl, .inl ⟨HK.out, HI.out⟩, HF3.out.low HS0.out, H3B.out⟩
 have q2 : (v.kd == 2) = false := by simpa using k2
 by_cases k3 : v.kd = 3
 case pos =>
  have q3 : (v.kd == 3) = true := by simpa using k3
  have HK : Hid (v.kd = 3) := k3
  clear k2 k3 hk
  go_wp2_with fail
  clear q2 q3 qv0
  have HSL : Hid (Calls Tryz.prog 103 #[.agg #[.int .i64 x.me, .int .i64 x.rv, .int .i64 x.nx, .int .i64 x.mo, .int .i64 x.bo, .int .i64 x.fr, .slice p len cap], .agg #[.slice pt lt ct, .int .i64 t.ff, .int .i64 t.fb, .int .i64 t.db, .int .i64 t.al], .int .i64 v.mo] W0.drew fun e w' => BPost W0.drew (GrantIs x t v.mo) e w') := acc.kgrant _ x p len cap t pt lt ct v.mo (H0A.out.below (Below.refl _ _).drew) (H0T.out.below (Below.refl _ _).drew) HWF.out.2
  refine wp_region_held_drew (S := fun u => Blk u (gW) #[V, .slice pt lt ct, .int .i64 t.ff, .int .i64 t.fb, .int .i64 t.db, .int .i64 t.al, .map (some B)] 106 ∧ Blk u (w.heap.size) #[.int .i64 x.me, .int .i64 x.rv, .int .i64 x.nx, .int .i64 x.mo, .int .i64 x.bo, .int .i64 x.fr, .slice p len cap] 59 ∧ Blk u (w.heap.size + 1) #[.int .i64 v.kd, .int .i64 v.me, .int .i64 v.mo, .int .i64 v.id, .int .i64 v.te, .int .i64 v.de, .int .i64 v.fe, .int .i64 v.pr, .int .i64 v.ch, .int .i64 v.un, .int .i64 v.tg, .int .i64 v.ow, .int .i64 v.bp] 71) (by kernel_rfl) (show _ from ⟨Blk.drew H0W.out 1, Blk.drew H0a.out 1, Blk.drew H0v.out 1⟩) (fun hHeld => ?_)
  refine zqt 0 29 (.agg #[.int .i64 x.me, .int .i64 x.rv, .int .i64 x.nx, .int .i64 x.mo, .int .i64 x.bo, .int .i64 x.fr, .slice p len cap]) rfl rfl (by kernel_rfl) (fun _ _ _ h => h) (Or.inl ⟨by rfl, fun v hv => by have g0 := hv.2.1.cell 0; have g1 := hv.2.1.cell 1; have g2 := hv.2.1.cell 2; have g3 := hv.2.1.cell 3; have g4 := hv.2.1.cell 4; have g5 := hv.2.1.cell 5; have g6 := hv.2.1.cell 6; clear hv; go_simp⟩) hHeld ?_
  simp only [Act.put, zqa, zqb, zqc]
  refine zqt 1 30 (.pointer (some ⟨gW, 0, none⟩)) rfl rfl (by kernel_rfl) (fun _ _ _ h => h) (Or.inl ⟨by rfl, fun v hv => by clear hv; go_simp⟩) hHeld ?_
  simp only [Act.put, zqa, zqb, zqc]
  refine zqt 2 31 (.pointer (some ⟨gW, 0, none⟩)) rfl rfl (by kernel_rfl) (fun _ _ _ h => h) (Or.inl ⟨by rfl, fun v hv => by clear hv; go_simp⟩) hHeld ?_
  simp only [Act.put, zqa, zqb, zqc]
  refine zqt 3 32 (.pointer (some ⟨gW, 1, none⟩)) rfl rfl (by kernel_rfl) (fun _ _ _ h => h) (Or.inl ⟨by rfl, fun v hv => by clear hv; go_simp⟩) hHeld ?_
  simp only [Act.put, zqa, zqb, zqc]
  refine zqt 4 33 (.agg #[.slice pt lt ct, .int .i64 t.ff, .int .i64 t.fb, .int .i64 t.db, .int .i64 t.al]) rfl rfl (by kernel_rfl) (fun _ _ _ h => h) (Or.inl ⟨by rfl, fun v hv => by have g0 := hv.1.cell 1; have g1 := hv.1.cell 2; have g2 := hv.1.cell 3; have g3 := hv.1.cell 4; have g4 := hv.1.cell 5; clear hv; go_simp⟩) hHeld ?_
  simp only [Act.put, zqa, zqb, zqc]
  refine zqt 5 34 (.pointer (some ⟨w.heap.size + 1, 2, none⟩)) rfl rfl (by kernel_rfl) (fun _ _ _ h => h) (Or.inl ⟨by rfl, fun v hv => by clear hv; go_simp⟩) hHeld ?_
  simp only [Act.put, zqa, zqb, zqc]
  refine zqt 6 35 (.int .i64 v.mo) rfl rfl (by kernel_rfl) (fun _ _ _ h => h) (Or.inl ⟨by rfl, fun v hv => by have g0 := hv.2.2.cell 2; clear hv; go_simp⟩) hHeld ?_
  simp only [Act.put, zqa, zqb, zqc]
  refine wpAnyH_ready (rs := [7]) (by kernel_rfl) (by simp) (AllReadyH.cons rfl (fun K hK => ?_) AllReadyH.nil)
  rw [if_pos (by rfl)]
  refine wp_callOp 36 rfl (by clear hK; go_simp) HSL.out ?_
  rintro e w1 ⟨b, l, pb, lb, cb, f, rfl, hi, hf, hb1⟩
  have hW1 : W0.heap.size ≤ w1.heap.size := hb1.size
  have HI : Hid (GrantIs x t v.mo b l f) := hi
  have HF1 : Hid (deb.Fresh w1 W0.heap.size pb lb cb b.ds) := hf
  have H1a : Hid (Blk w1 (w.heap.size) #[.int .i64 x.me, .int .i64 x.rv, .int .i64 x.nx, .int .i64 x.mo, .int .i64 x.bo, .int .i64 x.fr, .slice p len cap] 59) := (Blk.drew H0a.out 1).next hb1
  have H1v : Hid (Blk w1 (w.heap.size + 1) #[.int .i64 v.kd, .int .i64 v.me, .int .i64 v.mo, .int .i64 v.id, .int .i64 v.te, .int .i64 v.de, .int .i64 v.fe, .int .i64 v.pr, .int .i64 v.ch, .int .i64 v.un, .int .i64 v.tg, .int .i64 v.ow, .int .i64 v.bp] 71) := (Blk.drew H0v.out 1).next hb1
  have H1r : Hid (Blk w1 (w.heap.size + 1 + 1) #[.int .i64 0, .int .i64 0, .int .i64 0, .int .i64 0, .int .i64 0, .int .i64 0, .slice none 0 0] 59) := (Blk.drew H0r.out 1).next hb1
  have H1l : Hid (Blk w1 (w.heap.size + 1 + 1 + 1) #[.int .i64 0, .int .i64 0, .int .i64 0, .int .i64 0, .int .i64 0, .int .i64 0, .int .i64 0] 69) := (Blk.drew H0l.out 1).next hb1
  have H1W : Hid (Blk w1 (gW) #[V, .slice pt lt ct, .int .i64 t.ff, .int .i64 t.fb, .int .i64 t.db, .int .i64 t.al, .map (some B)] 106) := (Blk.drew H0W.out 1).next hb1
  have H1B : Hid (Below w.heap.size w w1) := H0B.out.drew.trans (hb1.mono H0B.out.size)
  clear H0a H0v H0r H0l H0W H0B
  refine ⟨_, rfl, hK.out _ _ ⟨H1W.out, H1a.out, H1v.out⟩ (fun hHeld => ?_)⟩
  clear hK K hi hf hb1 HSL
  unfold acc.Ac.v acc.Ac.cs acc.Bi.v
  simp only [Act.put, zqa, zqb, zqc]
  refine zqt 8 37 (.agg #[.int .i64 b.me, .int .i64 b.rv, .int .i64 b.nx, .int .i64 b.mo, .int .i64 b.bo, .int .i64 b.fr, .slice pb lb cb]) rfl rfl (by kernel_rfl) (fun _ _ _ h => h) (Or.inl ⟨by rfl, fun v hv => by clear hv; go_simp⟩) hHeld ?_
  simp only [Act.put, zqa, zqb, zqc]
  refine zqt 9 38 (.agg #[.int .i64 l.id, .int .i64 l.te, .int .i64 l.de, .int .i64 l.fe, .int .i64 l.pr, .int .i64 l.ch, .int .i64 l.un]) rfl rfl (by kernel_rfl) (fun _ _ _ h => h) (Or.inl ⟨by rfl, fun v hv => by clear hv; go_simp⟩) hHeld ?_
  simp only [Act.put, zqa, zqb, zqc]
  refine zqt 10 39 (.int .i64 f) rfl rfl (by kernel_rfl) (fun _ _ _ h => h) (Or.inl ⟨by rfl, fun v hv => by clear hv; go_simp⟩) hHeld ?_
  simp only [Act.put, zqa, zqb, zqc]
  refine wpAnyH_ready (rs := [11]) (by kernel_rfl) (by simp) (AllReadyH.cons rfl (fun K hK => ?_) AllReadyH.nil)
  rw [if_pos (by rfl)]
  refine wp_letOp 59 _ _ rfl (w.heap.size + 1 + 1) rfl #[.int .i64 b.me, .int .i64 b.rv, .int .i64 b.nx, .int .i64 b.mo, .int .i64 b.bo, .int .i64 b.fr, .slice pb lb cb] rfl (by kernel_rfl) (by simp [Value.oneCell']) #[.int .i64 0, .int .i64 0, .int .i64 0, .int .i64 0, .int .i64 0, .int .i64 0, .slice none 0 0] 59 H1r.out rfl rfl ?_
  intro V1 hU
  have H2a := shK hU H1a (by omega)
  have H2v := shK hU H1v (by omega)
  have H2r : Hid (Blk V1 (w.heap.size + 1 + 1) #[.int .i64 b.me, .int .i64 b.rv, .int .i64 b.nx, .int .i64 b.mo, .int .i64 b.bo, .int .i64 b.fr, .slice pb lb cb] 59) := hU.blk
  have H2l := shK hU H1l (by omega)
  have H2W := shK hU H1W (by omega)
  have H2B := shV hU H1B (by omega)
  clear H1a H1v H1r H1l H1W H1B
  have HF2 : Hid (deb.Fresh V1 W0.heap.size pb lb cb b.ds) := fresh_updN HF1.out hU (fun hn y hy => by have f1 := HF1.out.new hn y hy; omega)
  clear hU HF1
  refine hK.out _ _ ⟨H2W.out, H2a.out, H2v.out⟩ (fun hHeld => ?_)
  clear hK K
  refine wpAnyH_ready (rs := [12]) (by kernel_rfl) (by simp) (AllReadyH.cons rfl (fun K hK => ?_) AllReadyH.nil)
  rw [if_pos (by rfl)]
  refine wp_letOp 69 _ _ rfl (w.heap.size + 1 + 1 + 1) rfl #[.int .i64 l.id, .int .i64 l.te, .int .i64 l.de, .int .i64 l.fe, .int .i64 l.pr, .int .i64 l.ch, .int .i64 l.un] rfl (by kernel_rfl) (by simp [Value.oneCell']) #[.int .i64 0, .int .i64 0, .int .i64 0, .int .i64 0, .int .i64 0, .int .i64 0, .int .i64 0] 69 H2l.out rfl rfl ?_
  intro V2 hU
  have H3a := shK hU H2a (by omega)
  have H3v := shK hU H2v (by omega)
  have H3r := shK hU H2r (by omega)
  have H3l : Hid (Blk V2 (w.heap.size + 1 + 1 + 1) #[.int .i64 l.id, .int .i64 l.te, .int .i64 l.de, .int .i64 l.fe, .int .i64 l.pr, .int .i64 l.ch, .int .i64 l.un] 69) := hU.blk
  have H3W := shK hU H2W (by omega)
  have H3B := shV hU H2B (by omega)
  clear H2a H2v H2r H2l H2W H2B
  have HF3 : Hid (deb.Fresh V2 W0.heap.size pb lb cb b.ds) := fresh_updN HF2.out hU (fun hn y hy => by have f1 := HF2.out.new hn y hy; omega)
  clear hU HF2
  refine hK.out _ _ ⟨H3W.out, H3a.out, H3v.out⟩ (fun hHeld => ?_)
  clear hK K
  refine zqt 13 8 (.int .i64 f) rfl rfl (by kernel_rfl) (fun _ _ _ h => h) (Or.inl ⟨by rfl, fun v hv => by clear hv; go_simp⟩) hHeld ?_
  simp only [Act.put, zqa, zqb, zqc]
  refine wpAnyH_done (by kernel_rfl) ?_ _
  clear hHeld
  obtain ⟨Rr0, Rr1, Rr2, Rr3, Rr4, Rr5, Rr6⟩ := shc7 H3r
  obtain ⟨Rl0, Rl1, Rl2, Rl3, Rl4, Rl5, Rl6⟩ := shc7 H3l
  go_wp2_with fail
  exact bodyPost_ret (v := .tuple #[.agg #[.int .i64 b.me, .int .i64 b.rv, .int .i64 b.nx, .int .i64 b.mo, .int .i64 b.bo, .int .i64 b.fr, .slice pb lb cb], .agg #[.int .i64 l.id, .int .i64 l.te, .int .i64 l.de, .int .i64 l.fe, .int .i64 l.pr, .int .i64 l.ch, .int .i64 l.un], .int .i64 f]) (by simp [results, Tryz.results92, Rr0.out, Rr1.out, Rr2.out, Rr3.out, Rr4.out, Rr5.out, Rr6.out, Rl0.out, Rl1.out, Rl2.out, Rl3.out, Rl4.out, Rl5.out, Rl6.out, go_sem]) rfl ⟨b, l, pb, lb, cb, f, rfl, .inr (.inl ⟨HK.out, HI.out⟩), HF3.out.low HS0.out, H3B.out⟩
 have q3 : (v.kd == 3) = false := by simpa using k3
 have HK : Hid (v.kd = 4) := by show _ = _; omega
 clear k2 k3 hk
 have HSL : Hid (Calls Tryz.prog 104 #[.agg #[.int .i64 x.me, .int .i64 x.rv, .int .i64 x.nx, .int .i64 x.mo, .int .i64 x.bo, .int .i64 x.fr, .slice p len cap]] W0 fun e w' => BPost W0 (RekeyIs x) e w') := acc.krekey _ x p len cap H0A.out
 go_wp2_with (first
  | (refine zqw rfl rfl rfl H0a zqu59 ?_)
  | (refine zqw rfl rfl rfl H0v zqu71 ?_)
  | (refine zqw rfl rfl rfl H0r zqu59 ?_)
  | (refine zqw rfl rfl rfl H0l zqu69 ?_)
  | (refine zqw rfl rfl rfl H0W zqu106 ?_)
  | fail)
 clear qv0
 refine HSL.out.mono ?_
 rintro e w1 ⟨b, l, pb, lb, cb, f, rfl, hi, hf, hb1⟩
 have hW1 : W0.heap.size ≤ w1.heap.size := hb1.size
 have HI : Hid (RekeyIs x b l f) := hi
 have HF1 : Hid (deb.Fresh w1 W0.heap.size pb lb cb b.ds) := hf
 have H1a := shN H0a hb1
 have H1v := shN H0v hb1
 have H1r := shN H0r hb1
 have H1l := shN H0l hb1
 have H1W := shN H0W hb1
 have H1B := shB H0B hb1
 clear H0a H0v H0r H0l H0W H0B
 clear hi hf hb1 HSL q2 q3
 unfold acc.Ac.v acc.Ac.cs acc.Bi.v
 go_wp2_with (first
  | (refine zql rfl rfl rfl rfl zqu59 (by simp [Value.oneCell']) H1r rfl ?_)
  | (refine zqw rfl rfl rfl H1a zqu59 ?_)
  | (refine zqw rfl rfl rfl H1v zqu71 ?_)
  | (refine zqw rfl rfl rfl H1r zqu59 ?_)
  | (refine zqw rfl rfl rfl H1l zqu69 ?_)
  | (refine zqw rfl rfl rfl H1W zqu106 ?_)
  | fail)
 intro V1 hU
 have H2a := shK hU H1a (by omega)
 have H2v := shK hU H1v (by omega)
 have H2r : Hid (Blk V1 (w.heap.size + 1 + 1) #[.int .i64 b.me, .int .i64 b.rv, .int .i64 b.nx, .int .i64 b.mo, .int .i64 b.bo, .int .i64 b.fr, .slice pb lb cb] 59) := hU.blk
 have H2l := shK hU H1l (by omega)
 have H2W := shK hU H1W (by omega)
 have H2B := shV hU H1B (by omega)
 clear H1a H1v H1r H1l H1W H1B
 have HF2 : Hid (deb.Fresh V1 W0.heap.size pb lb cb b.ds) := fresh_updN HF1.out hU (fun hn y hy => by have f1 := HF1.out.new hn y hy; omega)
 clear hU HF1
 go_wp2_with (first
  | (refine zql rfl rfl rfl rfl zqu69 (by simp [Value.oneCell']) H2l rfl ?_)
  | (refine zqw rfl rfl rfl H2a zqu59 ?_)
  | (refine zqw rfl rfl rfl H2v zqu71 ?_)
  | (refine zqw rfl rfl rfl H2r zqu59 ?_)
  | (refine zqw rfl rfl rfl H2l zqu69 ?_)
  | (refine zqw rfl rfl rfl H2W zqu106 ?_)
  | fail)
 intro V2 hU
 have H3a := shK hU H2a (by omega)
 have H3v := shK hU H2v (by omega)
 have H3r := shK hU H2r (by omega)
 have H3l : Hid (Blk V2 (w.heap.size + 1 + 1 + 1) #[.int .i64 l.id, .int .i64 l.te, .int .i64 l.de, .int .i64 l.fe, .int .i64 l.pr, .int .i64 l.ch, .int .i64 l.un] 69) := hU.blk
 have H3W := shK hU H2W (by omega)
 have H3B := shV hU H2B (by omega)
 clear H2a H2v H2r H2l H2W H2B
 have HF3 : Hid (deb.Fresh V2 W0.heap.size pb lb cb b.ds) := fresh_updN HF2.out hU (fun hn y hy => by have f1 := HF2.out.new hn y hy; omega)
 clear hU HF2
 obtain ⟨Rr0, Rr1, Rr2, Rr3, Rr4, Rr5, Rr6⟩ := shc7 H3r
 obtain ⟨Rl0, Rl1, Rl2, Rl3, Rl4, Rl5, Rl6⟩ := shc7 H3l
 go_wp2_with fail
 exact bodyPost_ret (v := .tuple #[.agg #[.int .i64 b.me, .int .i64 b.rv, .int .i64 b.nx, .int .i64 b.mo, .int .i64 b.bo, .int .i64 b.fr, .slice pb lb cb], .agg #[.int .i64 l.id, .int .i64 l.te, .int .i64 l.de, .int .i64 l.fe, .int .i64 l.pr, .int .i64 l.ch, .int .i64 l.un], .int .i64 f]) (by simp [results, Tryz.results92, Rr0.out, Rr1.out, Rr2.out, Rr3.out, Rr4.out, Rr5.out, Rr6.out, Rl0.out, Rl1.out, Rl2.out, Rl3.out, Rl4.out, Rl5.out, Rl6.out, go_sem]) rfl ⟨b, l, pb, lb, cb, f, rfl, .inr (.inr ⟨HK.out, HI.out⟩), HF3.out.low HS0.out, H3B.out⟩
end book
section
open Go.RowKit
theorem wp_letOpN {P : Program} {o : Oper} {a : Act} {w : World} {K : Act → World → Prop} {Q : Exit → Act → World → Prop} (ty : TypeId) (x y : Operand) (ho : o.op = .store ty x y)
  (g off : Nat) (hx : a.eval x = .pointer (some ⟨g, off, none⟩)) (v : Value) (hy : a.eval y = v) (cells : Array Value) (hv : v.cells = cells) (hi : (P.info? ty).map (·.size) = some cells.size) (h1 : cells.all (·.oneCell') = true)
  (cs : Array Value) (t : TypeId) (hB : Blk w g cs t) (hin : off + cells.size ≤ cs.size) (new : Array Value) (hnew : putAll cs off cells.toList = new) (hd : o.dst = none)
  (h : ∀ W, Upd w W g new t → K a W) : o.wp P a w K Q := by
 have hs := run_storeVar_let (P := P) (w := w) (g := g) (off := off) (ty := ty) (t := t) (v := v) (cells := cells) (cs := cs) hv hi h1 hB hin
 have hu := upd_cells g t cells.toList off w cs hB
 rw [hnew] at hu
 unfold Oper.wp execOp
 simp only [ho, hx, hy, Instr.storeAt, Instr.sureAddr, Sem.run_bind, Sem.run_pure, Result.andThen_ok, hs]
 have := h _ hu
 have e : a.put o.dst undef = a := by rw [hd]; rfl
 rw [← e] at this
 exact this
theorem wp_callOpP {P : Program} {o : Oper} {a : Act} {w : World} {f : FuncId} {args : Array Value} {R : Ending → World → Prop} {K : Act → World → Prop} {Q : Exit → Act → World → Prop} (d : Nat) (hd : o.dst = some d) (hrun : (execOp a.eval o).run P w = .ok (.enter f args) w) (hc : Calls P f args w R)
  (h : ∀ e w', R e w' → (∃ v, e = .returned v ∧ K (a.put (some d) v) w') ∨ ∃ c, e = .panicked c ∧ Q (.panic c) a w') : o.wp P a w K Q := by
 rw [← hd] at h
 unfold Oper.wp
 rw [hrun, Oper.upon_enter]
 refine hc.mono fun e w' hr => ?_
 rcases h e w' hr with ⟨v, rfl, hk⟩ | ⟨c, rfl, hk⟩
 ·exact hk
 ·exact hk
theorem wp_mapOp {P : Program} {o : Oper} {a : Act} {w W : World} {K : Act → World → Prop} {Q : Exit → Act → World → Prop} (ty : TypeId) (x y z : Operand) (ho : o.op = .mapUpdate ty x y z) (vx vy vz : Value) (hx : a.eval x = vx) (hy : a.eval y = vy) (hz : a.eval z = vz)
  (hr : (Instr.mapUpdate ty vx vy vz).run P w = .ok () W) (hd : o.dst = none) (h : K a W) : o.wp P a w K Q := by
 unfold Oper.wp execOp
 simp only [ho, hx, hy, hz, Sem.run_bind, Sem.run_pure, Result.andThen_ok, hr]
 have e : a.put o.dst undef = a := by rw [hd]; rfl
 rw [← e] at h
 exact h
end
end Go.Proofs.YtomibnggmhjdfaaGreat
