import Derived.Test.YtomibnggmhjdfaaGreatVVRrs10
set_option linter.unusedVariables false
set_option linter.unusedSimpArgs false
namespace Go.Proofs.YtomibnggmhjdfaaGreat
namespace acc
open tar (Du du0 Came RowD Ld PairT)
open Go.RowKit
set_option maxRecDepth 100000
set_option maxHeartbeats 8000000 in
theorem rrekeyed (x : Ac) (p : Option Addr) (len cap : Nat) (w : World) (h : RowD w p len x.ds) (hl : len ≤ maxLen) : Calls Tryz.prog 59 #[.agg #[.int .i64 x.me, .int .i64 x.rv, .int .i64 x.nx, .int .i64 x.mo, .int .i64 x.bo, .int .i64 x.fr, .slice p len cap]] w fun e w' => BPost w (RekeyIs x) e w' := by
 by_cases hm : AMay x
 ·have HM : Hid (AMay x) := hm
  have hdm := hm.1
  have hnx := hm.2.2.2.1
  have hrv := hm.2.2.1
  obtain ⟨W0, HWW, H0d, H0r, H0l, H0B, hs0⟩ := sh3 w #[.int .i64 x.me, .int .i64 x.rv, .int .i64 x.nx, .int .i64 x.mo, .int .i64 x.bo, .int .i64 x.fr, .slice p len cap] 59 #[.int .i64 0, .int .i64 0, .int .i64 0, .int .i64 0, .int .i64 0, .int .i64 0, .slice none 0 0] 59 #[.int .i64 0, .int .i64 0, .int .i64 0, .int .i64 0, .int .i64 0, .int .i64 0, .int .i64 0] 69
  have H0R : Hid (RowD W0 p len x.ds) := h.below H0B.out
  go_enter Tryz.func59, Tryz.ntmps59
  go_upto_region 1 with fail
  rw [HWW.out]
  clear HWW
  have HAM : Hid (Calls Tryz.prog 47 #[.agg #[.int .i64 x.me, .int .i64 x.rv, .int .i64 x.nx, .int .i64 x.mo, .int .i64 x.bo, .int .i64 x.fr, .slice p len cap]] W0 fun e w' => e = .returned (.bool true) ∧ Below W0.heap.size W0 w') := ramay x p len cap _ H0R.out hl hm
  go_wp2_with (first
   | (refine zqw rfl rfl rfl H0d zqu59 ?_)
   | (refine zqw rfl rfl rfl H0r zqu59 ?_)
   | (refine zqw rfl rfl rfl H0l zqu69 ?_)
   | fail)
  refine HAM.out.mono ?_
  rintro e w1 ⟨rfl, hb1⟩
  have H1d := shN H0d hb1
  have H1r := shN H0r hb1
  have H1l := shN H0l hb1
  have H1R : Hid (RowD w1 p len x.ds) := H0R.out.below hb1
  have H1B := shB H0B hb1
  have hsw1 : W0.heap.size ≤ w1.heap.size := hb1.size
  clear hb1 H0d H0r H0l H0R H0B
  clear HAM hm
  by_cases h1 : x.rv < 15
  ·have d1 : decide (15 ≤ x.rv) = false := decide_eq_false (by omega)
   by_cases h2 : x.nx ≤ 1048575
   ·have d2 : (x.nx == 1048576) = false := by simp; omega
    have HCP : Hid (Calls Tryz.prog 48 #[.agg #[.int .i64 x.me, .int .i64 x.rv, .int .i64 x.nx, .int .i64 x.mo, .int .i64 x.bo, .int .i64 x.fr, .slice p len cap]] w1 fun e w' => ∃ p' cap', e = .returned (Ac.v x p' len cap') ∧ deb.Fresh w' w1.heap.size p' len cap' x.ds ∧ Below w1.heap.size w1 w') := rcopy x p len cap w1 H1R.out hdm
    have qd1 : w1.cell? ⟨w.heap.size, 1, none⟩ = some (.int .i64 x.rv) := H1d.out.cell 1
    have qd2 : w1.cell? ⟨w.heap.size, 2, none⟩ = some (.int .i64 x.nx) := H1d.out.cell 2
    go_wp2_with (first
     | (refine zqw rfl rfl rfl H1d zqu59 ?_)
     | (refine zqw rfl rfl rfl H1r zqu59 ?_)
     | (refine zqw rfl rfl rfl H1l zqu69 ?_)
     | fail)
    refine HCP.out.mono ?_
    rintro e w3 ⟨p3, cap3, rfl, hf3, hb3⟩
    have H2d := shN H1d hb3
    have H2r := shN H1r hb3
    have H2l := shN H1l hb3
    have H2R : Hid (RowD w3 p len x.ds) := H1R.out.below hb3
    have H2B := shB H1B hb3
    have hsw3 : w1.heap.size ≤ w3.heap.size := hb3.size
    clear hb3 H1d H1r H1l H1R H1B
    clear qd1 qd2
    unfold Ac.v Ac.cs
    have H3F : Hid (deb.Fresh w3 w1.heap.size p3 len cap3 x.ds) := hf3
    have HUPF : Hid (0 < len → ∀ y, p3 = some y → y.block < w3.heap.size) := came_lt H3F.out.came
    clear hf3 HCP
    obtain ⟨W4, HWW, H4n, HBB, hsW4⟩ := sh1 w3 #[.int .i64 x.me, .int .i64 x.rv, .int .i64 x.nx, .int .i64 x.mo, .int .i64 x.bo, .int .i64 x.fr, .slice p3 len cap3] 59
    have H4d := shN H2d HBB.out
    have H4r := shN H2r HBB.out
    have H4l := shN H2l HBB.out
    have H4F : Hid (deb.Fresh W4 w1.heap.size p3 len cap3 x.ds) := H3F.out.below HBB.out
    have H4B := shB H2B HBB.out
    clear H2d H2r H2l H3F H2B
    go_upto_region 8 with fail
    rw [HWW.out]
    clear HWW HBB
    have qd1 : W4.cell? ⟨w.heap.size, 1, none⟩ = some (.int .i64 x.rv) := H4d.out.cell 1
    go_wp2_with (first
     | (refine wp_let1 rfl 3 _ _ rfl (w3.heap.size) 1 rfl .i64 (x.rv + 1) rfl (by kernel_rfl) #[.int .i64 x.me, .int .i64 x.rv, .int .i64 x.nx, .int .i64 x.mo, .int .i64 x.bo, .int .i64 x.fr, .slice p3 len cap3] 59 H4n.out (by simp) ?_)
     | (refine zqw rfl rfl rfl H4d zqu59 ?_)
     | (refine zqw rfl rfl rfl H4r zqu59 ?_)
     | (refine zqw rfl rfl rfl H4l zqu69 ?_)
     | (refine zqw rfl rfl rfl H4n zqu59 ?_)
     | fail)
    intro W5 hU
    have H5d := shK hU H4d (by omega)
    have H5r := shK hU H4r (by omega)
    have H5l := shK hU H4l (by omega)
    have H5n : Hid (Blk W5 (w3.heap.size) #[.int .i64 x.me, .int .i64 (x.rv + 1), .int .i64 x.nx, .int .i64 x.mo, .int .i64 x.bo, .int .i64 x.fr, .slice p3 len cap3] 59) := hU.blk
    have H5F : Hid (deb.Fresh W5 w1.heap.size p3 len cap3 x.ds) := fresh_updN H4F.out hU (fun hn y hy => by have f1 := H4F.out.new hn y hy; have f2 := HUPF.out hn y hy; omega)
    have H5B := shV hU H4B (by omega)
    have hsW5 : W5.heap.size = W4.heap.size := hU.size
    clear hU H4d H4r H4l H4n H4F H4B
    clear qd1
    have qd2 : W5.cell? ⟨w.heap.size, 2, none⟩ = some (.int .i64 x.nx) := H5d.out.cell 2
    go_wp2_with (first
     | (refine wp_let1 rfl 3 _ _ rfl (w3.heap.size) 2 rfl .i64 (x.nx + 1) rfl (by kernel_rfl) #[.int .i64 x.me, .int .i64 (x.rv + 1), .int .i64 x.nx, .int .i64 x.mo, .int .i64 x.bo, .int .i64 x.fr, .slice p3 len cap3] 59 H5n.out (by simp) ?_)
     | (refine zqw rfl rfl rfl H5d zqu59 ?_)
     | (refine zqw rfl rfl rfl H5r zqu59 ?_)
     | (refine zqw rfl rfl rfl H5l zqu69 ?_)
     | (refine zqw rfl rfl rfl H5n zqu59 ?_)
     | fail)
    intro W6 hU
    have H6d := shK hU H5d (by omega)
    have H6r := shK hU H5r (by omega)
    have H6l := shK hU H5l (by omega)
    have H6n : Hid (Blk W6 (w3.heap.size) #[.int .i64 x.me, .int .i64 (x.rv + 1), .int .i64 (x.nx + 1), .int .i64 x.mo, .int .i64 x.bo, .int .i64 x.fr, .slice p3 len cap3] 59) := hU.blk
    have H6F : Hid (deb.Fresh W6 w1.heap.size p3 len cap3 x.ds) := fresh_updN H5F.out hU (fun hn y hy => by have f1 := H5F.out.new hn y hy; have f2 := HUPF.out hn y hy; omega)
    have H6B := shV hU H5B (by omega)
    have hsW6 : W6.heap.size = W5.heap.size := hU.size
    clear hU H5d H5r H5l H5n H5F H5B
    clear qd2
    go_upto_region 10 with fail
    refine wp_region_held_drew (S := fun v => Blk v (w3.heap.size) #[.int .i64 x.me, .int .i64 (x.rv + 1), .int .i64 (x.nx + 1), .int .i64 x.mo, .int .i64 x.bo, .int .i64 x.fr, .slice p3 len cap3] 59 ∧ Blk v (w.heap.size) #[.int .i64 x.me, .int .i64 x.rv, .int .i64 x.nx, .int .i64 x.mo, .int .i64 x.bo, .int .i64 x.fr, .slice p len cap] 59) (by kernel_rfl) ⟨Blk.drew H6n.out 1, Blk.drew H6d.out 1⟩ (fun hHeld => ?_)
    refine zqt 0 31 (.agg #[.int .i64 x.me, .int .i64 (x.rv + 1), .int .i64 (x.nx + 1), .int .i64 x.mo, .int .i64 x.bo, .int .i64 x.fr, .slice p3 len cap3]) rfl rfl (by kernel_rfl) (fun _ _ _ h => h) (Or.inl ⟨by rfl, fun v hv => by have g0 := hv.1.cell 0; have g1 := hv.1.cell 1; have g2 := hv.1.cell 2; have g3 := hv.1.cell 3; have g4 := hv.1.cell 4; have g5 := hv.1.cell 5; have g6 := hv.1.cell 6; clear hv; go_simp⟩) hHeld ?_
    simp only [Act.put, zqa, zqb, zqc]
    refine zqt 1 32 (.pointer (some ⟨w.heap.size, 2, none⟩)) rfl rfl (by kernel_rfl) (fun _ _ _ h => h) (Or.inl ⟨by rfl, fun v hv => by clear hv; go_simp⟩) hHeld ?_
    simp only [Act.put, zqa, zqb, zqc]
    refine zqt 2 33 (.int .i64 x.nx) rfl rfl (by kernel_rfl) (fun _ _ _ h => h) (Or.inl ⟨by rfl, fun v hv => by have g := hv.2.cell 2; clear hv; go_simp⟩) hHeld ?_
    simp only [Act.put, zqa, zqb, zqc]
    refine zqt 3 34 (.agg #[.int .i64 x.nx, .int .i64 0, .int .i64 0, .int .i64 0, .int .i64 0, .int .i64 0, .int .i64 0]) rfl rfl (by kernel_rfl) (fun _ _ _ h => h) (Or.inl ⟨by rfl, fun v hv => by clear hv; go_simp⟩) hHeld ?_
    simp only [Act.put, zqa, zqb, zqc]
    refine wpAnyH_ready (rs := [4]) (by kernel_rfl) (by simp) (AllReadyH.cons rfl (fun K hK => ?_) AllReadyH.nil)
    rw [if_pos (by rfl)]
    refine wp_letOp 59 _ _ rfl (w.heap.size + 1) rfl #[.int .i64 x.me, .int .i64 (x.rv + 1), .int .i64 (x.nx + 1), .int .i64 x.mo, .int .i64 x.bo, .int .i64 x.fr, .slice p3 len cap3] rfl (by kernel_rfl) (by simp [Value.oneCell']) #[.int .i64 0, .int .i64 0, .int .i64 0, .int .i64 0, .int .i64 0, .int .i64 0, .slice none 0 0] 59 (Blk.drew H6r.out 1) rfl rfl ?_
    intro V1 hU
    have H7d : Hid (Blk V1 (w.heap.size) #[.int .i64 x.me, .int .i64 x.rv, .int .i64 x.nx, .int .i64 x.mo, .int .i64 x.bo, .int .i64 x.fr, .slice p len cap] 59) := hU.keep (Blk.drew H6d.out 1) (by omega)
    have H7r : Hid (Blk V1 (w.heap.size + 1) #[.int .i64 x.me, .int .i64 (x.rv + 1), .int .i64 (x.nx + 1), .int .i64 x.mo, .int .i64 x.bo, .int .i64 x.fr, .slice p3 len cap3] 59) := hU.blk
    have H7l : Hid (Blk V1 (w.heap.size + 1 + 1) #[.int .i64 0, .int .i64 0, .int .i64 0, .int .i64 0, .int .i64 0, .int .i64 0, .int .i64 0] 69) := hU.keep (Blk.drew H6l.out 1) (by omega)
    have H7n : Hid (Blk V1 (w3.heap.size) #[.int .i64 x.me, .int .i64 (x.rv + 1), .int .i64 (x.nx + 1), .int .i64 x.mo, .int .i64 x.bo, .int .i64 x.fr, .slice p3 len cap3] 59) := hU.keep (Blk.drew H6n.out 1) (by omega)
    have H7F : Hid (deb.Fresh V1 w1.heap.size p3 len cap3 x.ds) := fresh_updN (fresh_drew H6F.out) hU (fun hn y hy => by have f1 := H6F.out.new hn y hy; have f2 := HUPF.out hn y hy; omega)
    have H7B : Hid (Below w.heap.size w V1) := hU.bel _ _ (by omega) H6B.out.drew
    clear hU H6d H6r H6l H6n H6F H6B
    refine hK.out _ _ ⟨H7n.out, H7d.out⟩ (fun hHeld => ?_)
    clear hK K
    refine wpAnyH_ready (rs := [5]) (by kernel_rfl) (by simp) (AllReadyH.cons rfl (fun K hK => ?_) AllReadyH.nil)
    rw [if_pos (by rfl)]
    refine wp_letOp 69 _ _ rfl (w.heap.size + 1 + 1) rfl #[.int .i64 x.nx, .int .i64 0, .int .i64 0, .int .i64 0, .int .i64 0, .int .i64 0, .int .i64 0] rfl (by kernel_rfl) (by simp [Value.oneCell']) #[.int .i64 0, .int .i64 0, .int .i64 0, .int .i64 0, .int .i64 0, .int .i64 0, .int .i64 0] 69 H7l.out rfl rfl ?_
    intro V2 hU
    have H8d := shK hU H7d (by omega)
    have H8r := shK hU H7r (by omega)
    have H8l : Hid (Blk V2 (w.heap.size + 1 + 1) #[.int .i64 x.nx, .int .i64 0, .int .i64 0, .int .i64 0, .int .i64 0, .int .i64 0, .int .i64 0] 69) := hU.blk
    have H8n := shK hU H7n (by omega)
    have H8F : Hid (deb.Fresh V2 w1.heap.size p3 len cap3 x.ds) := fresh_updN H7F.out hU (fun hn y hy => by have f1 := H7F.out.new hn y hy; have f2 := HUPF.out hn y hy; omega)
    have H8B := shV hU H7B (by omega)
    clear hU H7d H7r H7l H7n H7F H7B
    refine hK.out _ _ ⟨H8n.out, H8d.out⟩ (fun hHeld => ?_)
    clear hK K
    refine zqt 6 4 (.int .i64 0) rfl rfl (by kernel_rfl) (fun _ _ _ h => h) (Or.inl ⟨by rfl, fun v hv => by clear hv; go_simp⟩) hHeld ?_
    simp only [Act.put, zqa, zqb, zqc]
    refine wpAnyH_done (by kernel_rfl) ?_ _
    clear hHeld
    obtain ⟨Rr0, Rr1, Rr2, Rr3, Rr4, Rr5, Rr6⟩ := shc7 H8r
    obtain ⟨Rl0, Rl1, Rl2, Rl3, Rl4, Rl5, Rl6⟩ := shc7 H8l
    go_wp2_with fail
    exact bodyPost_ret (v := .tuple #[.agg #[.int .i64 x.me, .int .i64 (x.rv + 1), .int .i64 (x.nx + 1), .int .i64 x.mo, .int .i64 x.bo, .int .i64 x.fr, .slice p3 len cap3], .agg #[.int .i64 x.nx, .int .i64 0, .int .i64 0, .int .i64 0, .int .i64 0, .int .i64 0, .int .i64 0], .int .i64 0]) (by simp [results, Tryz.results59, Rr0.out, Rr1.out, Rr2.out, Rr3.out, Rr4.out, Rr5.out, Rr6.out, Rl0.out, Rl1.out, Rl2.out, Rl3.out, Rl4.out, Rl5.out, Rl6.out, go_sem]) rfl ⟨⟨x.me, x.rv + 1, x.nx + 1, x.mo, x.bo, x.fr, x.ds⟩, ⟨x.nx, 0, 0, 0, 0, 0, 0⟩, p3, len, cap3, _, rfl, .inr (.inr (.inr ⟨HM.out, h1, h2, rfl, rfl, rfl⟩)), H8F.out.low (by omega), H8B.out⟩
   ·have d2 : (x.nx == 1048576) = true := by simp; omega
    have HV : Hid (RekeyIs x ac0 bi0 20) := .inr (.inr (.inl ⟨HM.out, h1, h2, rfl, rfl, rfl⟩))
    clear h2
    have q1 : w1.cell? ⟨w.heap.size, 1, none⟩ = some (.int .i64 x.rv) := H1d.out.cell 1
    have q2 : w1.cell? ⟨w.heap.size, 2, none⟩ = some (.int .i64 x.nx) := H1d.out.cell 2
    go_wp2_with (first
     | (refine zql rfl rfl rfl rfl zqu59 (by simp [Value.oneCell']) H1r rfl ?_)
     | (refine zqw rfl rfl rfl H1d zqu59 ?_)
     | (refine zqw rfl rfl rfl H1r zqu59 ?_)
     | (refine zqw rfl rfl rfl H1l zqu69 ?_)
     | fail)
    intro w1a hU
    have H2d := shK hU H1d (by omega)
    have H2r : Hid (Blk w1a (w.heap.size + 1) #[.int .i64 0, .int .i64 0, .int .i64 0, .int .i64 0, .int .i64 0, .int .i64 0, .slice none 0 0] 59) := hU.blk
    have H2l := shK hU H1l (by omega)
    have H2B := shV hU H1B (by omega)
    have hsw1a : w1a.heap.size = w1.heap.size := hU.size
    clear hU H1d H1r H1l H1R H1B
    go_wp2_with (first
     | (refine zql rfl rfl rfl rfl zqu69 (by simp [Value.oneCell']) H2l rfl ?_)
     | (refine zqw rfl rfl rfl H2d zqu59 ?_)
     | (refine zqw rfl rfl rfl H2r zqu59 ?_)
     | (refine zqw rfl rfl rfl H2l zqu69 ?_)
     | fail)
    intro w1ab hU
    have H3d := shK hU H2d (by omega)
    have H3r := shK hU H2r (by omega)
    have H3l : Hid (Blk w1ab (w.heap.size + 1 + 1) #[.int .i64 0, .int .i64 0, .int .i64 0, .int .i64 0, .int .i64 0, .int .i64 0, .int .i64 0] 69) := hU.blk
    have H3B := shV hU H2B (by omega)
    have hsw1ab : w1ab.heap.size = w1a.heap.size := hU.size
    clear hU H2d H2r H2l H2B
    obtain ⟨Rr0, Rr1, Rr2, Rr3, Rr4, Rr5, Rr6⟩ := shc7 H3r
    obtain ⟨Rl0, Rl1, Rl2, Rl3, Rl4, Rl5, Rl6⟩ := shc7 H3l
    go_wp2_with fail
    exact bodyPost_ret (v := .tuple #[.agg #[.int .i64 0, .int .i64 0, .int .i64 0, .int .i64 0, .int .i64 0, .int .i64 0, .slice none 0 0], .agg #[.int .i64 0, .int .i64 0, .int .i64 0, .int .i64 0, .int .i64 0, .int .i64 0, .int .i64 0], .int .i64 20]) (by simp [results, Tryz.results59, Rr0.out, Rr1.out, Rr2.out, Rr3.out, Rr4.out, Rr5.out, Rr6.out, Rl0.out, Rl1.out, Rl2.out, Rl3.out, Rl4.out, Rl5.out, Rl6.out, go_sem]) rfl ⟨ac0, bi0, none, 0, 0, _, rfl, HV.out, deb.fresh_nil _ _, H3B.out⟩
  ·have d1 : decide (15 ≤ x.rv) = true := decide_eq_true (by omega)
   have HV : Hid (RekeyIs x ac0 bi0 24) := .inr (.inl ⟨HM.out, h1, rfl, rfl, rfl⟩)
   clear h1
   have q1 : w1.cell? ⟨w.heap.size, 1, none⟩ = some (.int .i64 x.rv) := H1d.out.cell 1
   go_wp2_with (first
    | (refine zql rfl rfl rfl rfl zqu59 (by simp [Value.oneCell']) H1r rfl ?_)
    | (refine zqw rfl rfl rfl H1d zqu59 ?_)
    | (refine zqw rfl rfl rfl H1r zqu59 ?_)
    | (refine zqw rfl rfl rfl H1l zqu69 ?_)
    | fail)
   intro w1a hU
   have H2d := shK hU H1d (by omega)
   have H2r : Hid (Blk w1a (w.heap.size + 1) #[.int .i64 0, .int .i64 0, .int .i64 0, .int .i64 0, .int .i64 0, .int .i64 0, .slice none 0 0] 59) := hU.blk
   have H2l := shK hU H1l (by omega)
   have H2B := shV hU H1B (by omega)
   have hsw1a : w1a.heap.size = w1.heap.size := hU.size
   clear hU H1d H1r H1l H1R H1B
   go_wp2_with (first
    | (refine zql rfl rfl rfl rfl zqu69 (by simp [Value.oneCell']) H2l rfl ?_)
    | (refine zqw rfl rfl rfl H2d zqu59 ?_)
    | (refine zqw rfl rfl rfl H2r zqu59 ?_)
    | (refine zqw rfl rfl rfl H2l zqu69 ?_)
    | fail)
   intro w1ab hU
   have H3d := shK hU H2d (by omega)
   have H3r := shK hU H2r (by omega)
   have H3l : Hid (Blk w1ab (w.heap.size + 1 + 1) #[.int .i64 0, .int .i64 0, .int .i64 0, .int .i64 0, .int .i64 0, .int .i64 0, .int .i64 0] 69) := hU.blk
   have H3B := shV hU H2B (by omega)
   have hsw1ab : w1ab.heap.size = w1a.heap.size := hU.size
   clear hU H2d H2r H2l H2B
   obtain ⟨Rr0, Rr1, Rr2, Rr3, Rr4, Rr5, Rr6⟩ := shc7 H3r
   obtain ⟨Rl0, Rl1, Rl2, Rl3, Rl4, Rl5, Rl6⟩ := shc7 H3l
   go_wp2_with fail
   exact bodyPost_ret (v := .tuple #[.agg #[.int .i64 0, .int .i64 0, .int .i64 0, .int .i64 0, .int .i64 0, .int .i64 0, .slice none 0 0], .agg #[.int .i64 0, .int .i64 0, .int .i64 0, .int .i64 0, .int .i64 0, .int .i64 0, .int .i64 0], .int .i64 24]) (by simp [results, Tryz.results59, Rr0.out, Rr1.out, Rr2.out, Rr3.out, Rr4.out, Rr5.out, Rr6.out, Rl0.out, Rl1.out, Rl2.out, Rl3.out, Rl4.out, Rl5.out, Rl6.out, go_sem]) rfl ⟨ac0, bi0, none, 0, 0, _, rfl, HV.out, deb.fresh_nil _ _, H3B.out⟩
 ·have HM : Hid (¬ AMay x) := hm
  obtain ⟨W0, HWW, H0d, H0r, H0l, H0B, hs0⟩ := sh3 w #[.int .i64 x.me, .int .i64 x.rv, .int .i64 x.nx, .int .i64 x.mo, .int .i64 x.bo, .int .i64 x.fr, .slice p len cap] 59 #[.int .i64 0, .int .i64 0, .int .i64 0, .int .i64 0, .int .i64 0, .int .i64 0, .slice none 0 0] 59 #[.int .i64 0, .int .i64 0, .int .i64 0, .int .i64 0, .int .i64 0, .int .i64 0, .int .i64 0] 69
  have H0R : Hid (RowD W0 p len x.ds) := h.below H0B.out
  go_enter Tryz.func59, Tryz.ntmps59
  go_upto_region 1 with fail
  rw [HWW.out]
  clear HWW
  have HAM : Hid (Calls Tryz.prog 47 #[.agg #[.int .i64 x.me, .int .i64 x.rv, .int .i64 x.nx, .int .i64 x.mo, .int .i64 x.bo, .int .i64 x.fr, .slice p len cap]] W0 fun e w' => e = .returned (.bool false) ∧ Below W0.heap.size W0 w') := ranot x p len cap _ H0R.out hl hm
  go_wp2_with (first
   | (refine zqw rfl rfl rfl H0d zqu59 ?_)
   | (refine zqw rfl rfl rfl H0r zqu59 ?_)
   | (refine zqw rfl rfl rfl H0l zqu69 ?_)
   | fail)
  refine HAM.out.mono ?_
  rintro e w1 ⟨rfl, hb1⟩
  have H1d := shN H0d hb1
  have H1r := shN H0r hb1
  have H1l := shN H0l hb1
  have H1R : Hid (RowD w1 p len x.ds) := H0R.out.below hb1
  have H1B := shB H0B hb1
  have hsw1 : W0.heap.size ≤ w1.heap.size := hb1.size
  clear hb1 H0d H0r H0l H0R H0B
  clear HAM
  go_wp2_with (first
   | (refine zql rfl rfl rfl rfl zqu59 (by simp [Value.oneCell']) H1r rfl ?_)
   | (refine zqw rfl rfl rfl H1d zqu59 ?_)
   | (refine zqw rfl rfl rfl H1r zqu59 ?_)
   | (refine zqw rfl rfl rfl H1l zqu69 ?_)
   | fail)
  intro w1a hU
  have H2d := shK hU H1d (by omega)
  have H2r : Hid (Blk w1a (w.heap.size + 1) #[.int .i64 0, .int .i64 0, .int .i64 0, .int .i64 0, .int .i64 0, .int .i64 0, .slice none 0 0] 59) := hU.blk
  have H2l := shK hU H1l (by omega)
  have H2B := shV hU H1B (by omega)
  have hsw1a : w1a.heap.size = w1.heap.size := hU.size
  clear hU H1d H1r H1l H1R H1B
  go_wp2_with (first
   | (refine zql rfl rfl rfl rfl zqu69 (by simp [Value.oneCell']) H2l rfl ?_)
   | (refine zqw rfl rfl rfl H2d zqu59 ?_)
   | (refine zqw rfl rfl rfl H2r zqu59 ?_)
   | (refine zqw rfl rfl rfl H2l zqu69 ?_)
   | fail)
  intro w1ab hU
  have H3d := shK hU H2d (by omega)
  have H3r := shK hU H2r (by omega)
  have H3l : Hid (Blk w1ab (w.heap.size + 1 + 1) #[.int .i64 0, .int .i64 0, .int .i64 0, .int .i64 0, .int .i64 0, .int .i64 0, .int .i64 0] 69) := hU.blk
  have H3B := shV hU H2B (by omega)
  have hsw1ab : w1ab.heap.size = w1a.heap.size := hU.size
  clear hU H2d H2r H2l H2B
  obtain ⟨Rr0, Rr1, Rr2, Rr3, Rr4, Rr5, Rr6⟩ := shc7 H3r
  obtain ⟨Rl0, Rl1, Rl2, Rl3, Rl4, Rl5, Rl6⟩ := shc7 H3l
  go_wp2_with fail
  exact bodyPost_ret (v := .tuple #[.agg #[.int .i64 0, .int .i64 0, .int .i64 0, .int .i64 0, .int .i64 0, .int .i64 0, .slice none 0 0], .agg #[.int .i64 0, .int .i64 0, .int .i64 0, .int .i64 0, .int .i64 0, .int .i64 0, .int .i64 0], .int .i64 5]) (by simp [results, Tryz.results59, Rr0.out, Rr1.out, Rr2.out, Rr3.out, Rr4.out, Rr5.out, Rr6.out, Rl0.out, Rl1.out, Rl2.out, Rl3.out, Rl4.out, Rl5.out, Rl6.out, go_sem]) rfl ⟨ac0, bi0, none, 0, 0, _, rfl, .inl ⟨HM.out, rfl, rfl, rfl⟩, deb.fresh_nil _ _, H3B.out⟩
end acc
end Go.Proofs.YtomibnggmhjdfaaGreat
