import Derived.Test.YtomibnggmhjdfaaGreatVVCes12
import Derived.Test.YtomibnggmhjdfaaGreatVVCes19
set_option linter.unusedVariables false
set_option linter.unusedSimpArgs false
namespace Go.Proofs.YtomibnggmhjdfaaGreat
namespace acc
open tar (Du du0 Came RowD Ld PairT)
open Go.RowKit
set_option maxRecDepth 100000
set_option maxHeartbeats 8000000 in
theorem rowes (x : Ac) (p : Option Addr) (len cap : Nat) (q : Du) (w : World) (h : RowD w p len x.ds) (hl : len ≤ maxLen) : Calls Tryz.prog 29 #[.agg #[.int .i64 x.me, .int .i64 x.rv, .int .i64 x.nx, .int .i64 x.mo, .int .i64 x.bo, .int .i64 x.fr, .slice p len cap], .agg #[.int .i64 q.a, .int .i64 q.b]] w fun e w' => APost w (OweIs x q) e w' := by
 have hlen := h.1
 have HI1 : Hid (∀ W, Calls Tryz.prog 25 #[.int .i64 q.a, .int .i64 1, .int .i64 1000000000] W fun e w' => e = .returned (.bool (decide (1 ≤ q.a ∧ q.a ≤ 1000000000))) ∧ w' = W) := fun W => cal.cin q.a 1 1000000000 W
 have HI2 : Hid (∀ W, Calls Tryz.prog 25 #[.int .i64 q.b, .int .i64 0, .int .i64 10000] W fun e w' => e = .returned (.bool (decide (0 ≤ q.b ∧ q.b ≤ 10000))) ∧ w' = W) := fun W => cal.cin q.b 0 10000 W
 by_cases hm : AMay x
 ·have HM : Hid (AMay x) := hm
  have hdm := hm.1
  have hl8 : len ≤ 8 := by have := hm.1.1; omega
  obtain ⟨W0, HWW, H0d, H0e, H0r, H0B, hs0⟩ := sh3 w #[.int .i64 x.me, .int .i64 x.rv, .int .i64 x.nx, .int .i64 x.mo, .int .i64 x.bo, .int .i64 x.fr, .slice p len cap] 59 #[.int .i64 q.a, .int .i64 q.b] 43 #[.int .i64 0, .int .i64 0, .int .i64 0, .int .i64 0, .int .i64 0, .int .i64 0, .slice none 0 0] 59
  have H0R : Hid (RowD W0 p len x.ds) := h.below H0B.out
  go_enter Tryz.func29, Tryz.ntmps29
  go_upto_region 1 with fail
  rw [HWW.out]
  clear HWW
  have HAM : Hid (Calls Tryz.prog 47 #[.agg #[.int .i64 x.me, .int .i64 x.rv, .int .i64 x.nx, .int .i64 x.mo, .int .i64 x.bo, .int .i64 x.fr, .slice p len cap]] W0 fun e w' => e = .returned (.bool true) ∧ Below W0.heap.size W0 w') := ramay x p len cap _ H0R.out hl hm
  go_wp2_with (first
   | (refine zqw rfl rfl rfl H0d zqu59 ?_)
   | (refine zqw rfl rfl rfl H0e zqu43 ?_)
   | (refine zqw rfl rfl rfl H0r zqu59 ?_)
   | fail)
  refine HAM.out.mono ?_
  rintro e w1 ⟨rfl, hb1⟩
  have H1d := shN H0d hb1
  have H1e := shN H0e hb1
  have H1r := shN H0r hb1
  have H1R : Hid (RowD w1 p len x.ds) := H0R.out.below hb1
  have H1B := shB H0B hb1
  have hsw1 : W0.heap.size ≤ w1.heap.size := hb1.size
  clear hb1 H0d H0e H0r H0R H0B
  clear HAM
  clear hm
  by_cases h1 : 1 ≤ q.a ∧ q.a ≤ 1000000000
  ·rw [decide_eq_true h1] at HI1
   by_cases h2 : 0 ≤ q.b ∧ q.b ≤ 10000
   ·rw [decide_eq_true h2] at HI2
    have qe0 : w1.cell? ⟨w.heap.size + 1, 0, none⟩ = some (.int .i64 q.a) := H1e.out.cell 0
    have qe1 : w1.cell? ⟨w.heap.size + 1, 1, none⟩ = some (.int .i64 q.b) := H1e.out.cell 1
    go_wp2_with fail
    refine (HI1.out _).mono ?_
    rintro e wz ⟨rfl, hwz⟩
    obtain rfl : w1 = wz := hwz.symm
    go_wp2_with fail
    refine (HI2.out _).mono ?_
    rintro e wz ⟨rfl, hwz⟩
    obtain rfl : w1 = wz := hwz.symm
    clear qe0 qe1 HI1 HI2
    by_cases h3 : len < 8
    ·have d3 : decide (8 ≤ (len : Int)) = false := decide_eq_false (by omega)
     have d4 : decide (8 ≤ len) = false := decide_eq_false (by omega)
     have HCP : Hid (Calls Tryz.prog 48 #[.agg #[.int .i64 x.me, .int .i64 x.rv, .int .i64 x.nx, .int .i64 x.mo, .int .i64 x.bo, .int .i64 x.fr, .slice p len cap]] w1 fun e w' => ∃ p' cap', e = .returned (Ac.v x p' len cap') ∧ deb.Fresh w' w1.heap.size p' len cap' x.ds ∧ Ld 43 w' w1.heap.size (.slice p' len cap') x.ds ∧ Below w1.heap.size w1 w') := rcopyL x p len cap w1 H1R.out hdm
     have HMN : Hid (deb.Mays (x.ds ++ [q])) := ⟨by rw [List.length_append, hlen]; show len + 1 ≤ 8; omega, deb.fits_mem fun d hd => by
      rcases List.mem_append.1 hd with hd | hd
      ·exact deb.mem_fits hdm.2 d hd
      ·have e2 := List.mem_singleton.1 hd
       subst e2
       exact ⟨⟨by omega, h1.2⟩, h2⟩⟩
     have hzl : x.ds.length ≤ 1000000 := by omega
     have HOV : Hid (OweIs x q ⟨x.me, x.rv, x.nx, x.mo, x.bo, x.fr, x.ds ++ [q]⟩ 0) := .inr (.inr (.inr ⟨HM.out, ⟨h1, h2⟩, by rw [hlen]; exact h3, rfl, rfl⟩))
     have qd6 : w1.cell? ⟨w.heap.size, 6, none⟩ = some (.slice p len cap) := H1d.out.cell 6
     go_wp2_with (first
      | (refine zqw rfl rfl rfl H1d zqu59 ?_)
      | (refine zqw rfl rfl rfl H1e zqu43 ?_)
      | (refine zqw rfl rfl rfl H1r zqu59 ?_)
      | fail)
     refine HCP.out.mono ?_
     rintro e w3 ⟨p3, cap3, rfl, hf3, hl3, hb3⟩
     have H2d := shN H1d hb3
     have H2e := shN H1e hb3
     have H2r := shN H1r hb3
     have H2R : Hid (RowD w3 p len x.ds) := H1R.out.below hb3
     have H2B := shB H1B hb3
     have hsw3 : w1.heap.size ≤ w3.heap.size := hb3.size
     clear hb3 H1d H1e H1r H1R H1B
     clear qd6
     unfold Ac.v Ac.cs
     have HL3 : Hid (Ld 43 w3 w1.heap.size (.slice p3 len cap3) x.ds) := hl3
     clear hf3 hl3 HCP
     have HL4 : Hid (Ld 43 (w3.alloc (.cells #[.int .i64 x.me, .int .i64 x.rv, .int .i64 x.nx, .int .i64 x.mo, .int .i64 x.bo, .int .i64 x.fr, .slice p3 len cap3] 59)) w1.heap.size (.slice p3 len cap3) x.ds) := HL3.out.alloc _
     have H3d : Hid (Blk (w3.alloc (.cells #[.int .i64 x.me, .int .i64 x.rv, .int .i64 x.nx, .int .i64 x.mo, .int .i64 x.bo, .int .i64 x.fr, .slice p3 len cap3] 59)) (w.heap.size) #[.int .i64 x.me, .int .i64 x.rv, .int .i64 x.nx, .int .i64 x.mo, .int .i64 x.bo, .int .i64 x.fr, .slice p len cap] 59) := H2d.out.alloc _
     have H3e : Hid (Blk (w3.alloc (.cells #[.int .i64 x.me, .int .i64 x.rv, .int .i64 x.nx, .int .i64 x.mo, .int .i64 x.bo, .int .i64 x.fr, .slice p3 len cap3] 59)) (w.heap.size + 1) #[.int .i64 q.a, .int .i64 q.b] 43) := H2e.out.alloc _
     have H3r : Hid (Blk (w3.alloc (.cells #[.int .i64 x.me, .int .i64 x.rv, .int .i64 x.nx, .int .i64 x.mo, .int .i64 x.bo, .int .i64 x.fr, .slice p3 len cap3] 59)) (w.heap.size + 1 + 1) #[.int .i64 0, .int .i64 0, .int .i64 0, .int .i64 0, .int .i64 0, .int .i64 0, .slice none 0 0] 59) := H2r.out.alloc _
     have H3n : Hid (Blk (w3.alloc (.cells #[.int .i64 x.me, .int .i64 x.rv, .int .i64 x.nx, .int .i64 x.mo, .int .i64 x.bo, .int .i64 x.fr, .slice p3 len cap3] 59)) w3.heap.size #[.int .i64 x.me, .int .i64 x.rv, .int .i64 x.nx, .int .i64 x.mo, .int .i64 x.bo, .int .i64 x.fr, .slice p3 len cap3] 59) := Blk.new w3 _ _
     have H3B : Hid (Below w.heap.size w (w3.alloc (.cells #[.int .i64 x.me, .int .i64 x.rv, .int .i64 x.nx, .int .i64 x.mo, .int .i64 x.bo, .int .i64 x.fr, .slice p3 len cap3] 59))) := H2B.out.alloc H2B.out.size _
     have hsW4 : w3.heap.size < (w3.alloc (.cells #[.int .i64 x.me, .int .i64 x.rv, .int .i64 x.nx, .int .i64 x.mo, .int .i64 x.bo, .int .i64 x.fr, .slice p3 len cap3] 59)).heap.size := (Blk.new w3 #[.int .i64 x.me, .int .i64 x.rv, .int .i64 x.nx, .int .i64 x.mo, .int .i64 x.bo, .int .i64 x.fr, .slice p3 len cap3] 59).lt
     clear H2d H2e H2r H2B
     go_upto_region 8 with fail
     generalize (w3.alloc (.cells #[.int .i64 x.me, .int .i64 x.rv, .int .i64 x.nx, .int .i64 x.mo, .int .i64 x.bo, .int .i64 x.fr, .slice p3 len cap3] 59)) = W4 at *
     have HZA : Hid (Ld 43 (W4.alloc (.cells #[.int .i64 q.a, .int .i64 q.b] 43)) w1.heap.size (.slice p3 len cap3) x.ds) := HL4.out.alloc _
     have HBA : Hid (Below w.heap.size w (W4.alloc (.cells #[.int .i64 q.a, .int .i64 q.b] 43))) := H3B.out.alloc H3B.out.size _
     have hsA : W4.heap.size < (W4.alloc (.cells #[.int .i64 q.a, .int .i64 q.b] 43)).heap.size := (Blk.new W4 #[.int .i64 q.a, .int .i64 q.b] 43).lt
     have HCA : Hid ((W4.alloc (.cells #[.int .i64 q.a, .int .i64 q.b] 43)).cell? ⟨W4.heap.size, 0, none⟩ = some (.int .i64 q.a) ∧ (W4.alloc (.cells #[.int .i64 q.a, .int .i64 q.b] 43)).cell? ⟨W4.heap.size, 1, none⟩ = some (.int .i64 q.b)) := ⟨(Blk.new W4 _ _).cell 0, (Blk.new W4 _ _).cell 1⟩
     have HAd : Hid (Blk (W4.alloc (.cells #[.int .i64 q.a, .int .i64 q.b] 43)) (w.heap.size) #[.int .i64 x.me, .int .i64 x.rv, .int .i64 x.nx, .int .i64 x.mo, .int .i64 x.bo, .int .i64 x.fr, .slice p len cap] 59) := H3d.out.alloc _
     have HAe : Hid (Blk (W4.alloc (.cells #[.int .i64 q.a, .int .i64 q.b] 43)) (w.heap.size + 1) #[.int .i64 q.a, .int .i64 q.b] 43) := H3e.out.alloc _
     have HAr : Hid (Blk (W4.alloc (.cells #[.int .i64 q.a, .int .i64 q.b] 43)) (w.heap.size + 1 + 1) #[.int .i64 0, .int .i64 0, .int .i64 0, .int .i64 0, .int .i64 0, .int .i64 0, .slice none 0 0] 59) := H3r.out.alloc _
     have HAn : Hid (Blk (W4.alloc (.cells #[.int .i64 q.a, .int .i64 q.b] 43)) (w3.heap.size) #[.int .i64 x.me, .int .i64 x.rv, .int .i64 x.nx, .int .i64 x.mo, .int .i64 x.bo, .int .i64 x.fr, .slice p3 len cap3] 59) := H3n.out.alloc _
     have qn6 : W4.cell? ⟨w3.heap.size, 6, none⟩ = some (.slice p3 len cap3) := H3n.out.cell 6
     go_wp2_with (first
      | (at_builtin; refine tar.wp_pair deb.debtT rfl _ _ rfl w1.heap.size W4.heap.size (.slice p3 len cap3) x.ds q rfl rfl HZA.out HCA.out hzl (by omega) ?_)
      | (refine zqw rfl rfl rfl H3d zqu59 ?_)
      | (refine zqw rfl rfl rfl H3e zqu43 ?_)
      | (refine zqw rfl rfl rfl H3r zqu59 ?_)
      | (refine zqw rfl rfl rfl H3n zqu59 ?_)
      | fail)
     intro v5 w5 h5 hg5
     have H5d : Hid (Blk w5 (w.heap.size) #[.int .i64 x.me, .int .i64 x.rv, .int .i64 x.nx, .int .i64 x.mo, .int .i64 x.bo, .int .i64 x.fr, .slice p len cap] 59) := grown_blk HAd.out hg5 (tar.own_far HZA.out (by omega))
     have H5e : Hid (Blk w5 (w.heap.size + 1) #[.int .i64 q.a, .int .i64 q.b] 43) := grown_blk HAe.out hg5 (tar.own_far HZA.out (by omega))
     have H5r : Hid (Blk w5 (w.heap.size + 1 + 1) #[.int .i64 0, .int .i64 0, .int .i64 0, .int .i64 0, .int .i64 0, .int .i64 0, .slice none 0 0] 59) := grown_blk HAr.out hg5 (tar.own_far HZA.out (by omega))
     have H5n : Hid (Blk w5 (w3.heap.size) #[.int .i64 x.me, .int .i64 x.rv, .int .i64 x.nx, .int .i64 x.mo, .int .i64 x.bo, .int .i64 x.fr, .slice p3 len cap3] 59) := grown_blk HAn.out hg5 (fun e => by have := (World.ownsRow.lt HL3.out _ e.symm).2; omega)
     have H5B : Hid (Below w.heap.size w w5) := tar.own_bel HZA.out hg5 HBA.out (by omega) (by omega)
     have hsw5 : (W4.alloc (.cells #[.int .i64 q.a, .int .i64 q.b] 43)).heap.size ≤ w5.heap.size := hg5.size
     obtain ⟨p5, c5, hv5, hf5⟩ := deb.ld_fresh h5 HMN.out
     subst hv5
     have HUNE : Hid (0 < (x.ds ++ [q]).length → ∀ y, p5 = some y → y.block ≠ w3.heap.size) := ld_ne h5 H5n.out (by decide)
     have HUNR : Hid (0 < (x.ds ++ [q]).length → ∀ y, p5 = some y → y.block ≠ w.heap.size + 1 + 1) := ld_ne h5 H5r.out (by decide)
     have H5F : Hid (deb.Fresh w5 w1.heap.size p5 (x.ds ++ [q]).length c5 (x.ds ++ [q])) := hf5
     clear h5 hg5 hf5 HL3 HL4 HZA HBA HCA HAd HAe HAr HAn H3d H3e H3r H3n H3B
     clear qn6
     generalize (x.ds ++ [q]).length = n5 at *
     go_wp2_with (first
      | (refine wp_letS rfl 57 _ _ rfl (w3.heap.size) 6 rfl p5 n5 c5 rfl (by kernel_rfl) #[.int .i64 x.me, .int .i64 x.rv, .int .i64 x.nx, .int .i64 x.mo, .int .i64 x.bo, .int .i64 x.fr, .slice p3 len cap3] 59 H5n.out (by simp) ?_)
      | (refine zqw rfl rfl rfl H5d zqu59 ?_)
      | (refine zqw rfl rfl rfl H5e zqu43 ?_)
      | (refine zqw rfl rfl rfl H5r zqu59 ?_)
      | (refine zqw rfl rfl rfl H5n zqu59 ?_)
      | fail)
     intro W6 hU
     have H6d := shK hU H5d (by omega)
     have H6e := shK hU H5e (by omega)
     have H6r := shK hU H5r (by omega)
     have H6n : Hid (Blk W6 (w3.heap.size) #[.int .i64 x.me, .int .i64 x.rv, .int .i64 x.nx, .int .i64 x.mo, .int .i64 x.bo, .int .i64 x.fr, .slice p5 n5 c5] 59) := hU.blk
     have H6B := shV hU H5B (by omega)
     have H6F : Hid (deb.Fresh W6 w1.heap.size p5 n5 c5 (x.ds ++ [q])) := fresh_updN H5F.out hU HUNE.out
     clear hU H5d H5e H5r H5n H5B H5F
     go_wp2_with (first
      | (refine zql rfl rfl rfl rfl zqu59 (by simp [Value.oneCell']) H6r rfl ?_)
      | (refine zqw rfl rfl rfl H6d zqu59 ?_)
      | (refine zqw rfl rfl rfl H6e zqu43 ?_)
      | (refine zqw rfl rfl rfl H6r zqu59 ?_)
      | (refine zqw rfl rfl rfl H6n zqu59 ?_)
      | fail)
     intro W7 hU
     have H7r : Hid (Blk W7 (w.heap.size + 1 + 1) #[.int .i64 x.me, .int .i64 x.rv, .int .i64 x.nx, .int .i64 x.mo, .int .i64 x.bo, .int .i64 x.fr, .slice p5 n5 c5] 59) := hU.blk
     have H7B := shV hU H6B (by omega)
     have H7F : Hid (deb.Fresh W7 w1.heap.size p5 n5 c5 (x.ds ++ [q])) := fresh_updN H6F.out hU HUNR.out
     clear hU H6d H6e H6r H6n H6B H6F
     obtain ⟨Rr0, Rr1, Rr2, Rr3, Rr4, Rr5, Rr6⟩ := shc7 H7r
     go_wp2_with fail
     exact bodyPost_ret (v := .tuple #[.agg #[.int .i64 x.me, .int .i64 x.rv, .int .i64 x.nx, .int .i64 x.mo, .int .i64 x.bo, .int .i64 x.fr, .slice p5 n5 c5], .int .i64 0]) (by simp [results, Tryz.results29, Rr0.out, Rr1.out, Rr2.out, Rr3.out, Rr4.out, Rr5.out, Rr6.out, go_sem]) rfl ⟨⟨x.me, x.rv, x.nx, x.mo, x.bo, x.fr, x.ds ++ [q]⟩, p5, n5, c5, _, rfl, HOV.out, H7F.out.low (by omega), H7B.out⟩
    ·have d3 : decide (8 ≤ (len : Int)) = true := decide_eq_true (by omega)
     have d4 : decide (8 ≤ len) = true := decide_eq_true (by omega)
     have HV : Hid (OweIs x q ac0 16) := .inr (.inr (.inl ⟨HM.out, ⟨h1, h2⟩, by rw [hlen]; exact h3, rfl, rfl⟩))
     clear h3
     have qd6 : w1.cell? ⟨w.heap.size, 6, none⟩ = some (.slice p len cap) := H1d.out.cell 6
     go_wp2_with (first
      | (refine zql rfl rfl rfl rfl zqu59 (by simp [Value.oneCell']) H1r rfl ?_)
      | (refine zqw rfl rfl rfl H1d zqu59 ?_)
      | (refine zqw rfl rfl rfl H1e zqu43 ?_)
      | (refine zqw rfl rfl rfl H1r zqu59 ?_)
      | fail)
     intro w1a hU
     have H2d := shK hU H1d (by omega)
     have H2e := shK hU H1e (by omega)
     have H2r : Hid (Blk w1a (w.heap.size + 1 + 1) #[.int .i64 0, .int .i64 0, .int .i64 0, .int .i64 0, .int .i64 0, .int .i64 0, .slice none 0 0] 59) := hU.blk
     have H2B := shV hU H1B (by omega)
     have hsw1a : w1a.heap.size = w1.heap.size := hU.size
     clear hU H1d H1e H1r H1R H1B
     obtain ⟨Rr0, Rr1, Rr2, Rr3, Rr4, Rr5, Rr6⟩ := shc7 H2r
     go_wp2_with fail
     exact bodyPost_ret (v := .tuple #[.agg #[.int .i64 0, .int .i64 0, .int .i64 0, .int .i64 0, .int .i64 0, .int .i64 0, .slice none 0 0], .int .i64 16]) (by simp [results, Tryz.results29, Rr0.out, Rr1.out, Rr2.out, Rr3.out, Rr4.out, Rr5.out, Rr6.out, go_sem]) rfl ⟨ac0, none, 0, 0, _, rfl, HV.out, deb.fresh_nil _ _, H2B.out⟩
   ·rw [decide_eq_false h2] at HI2
    have HV : Hid (OweIs x q ac0 2) := .inr (.inl ⟨HM.out, fun hh => h2 hh.2, rfl, rfl⟩)
    clear h2
    have qe0 : w1.cell? ⟨w.heap.size + 1, 0, none⟩ = some (.int .i64 q.a) := H1e.out.cell 0
    have qe1 : w1.cell? ⟨w.heap.size + 1, 1, none⟩ = some (.int .i64 q.b) := H1e.out.cell 1
    go_wp2_with fail
    refine (HI1.out _).mono ?_
    rintro e wz ⟨rfl, hwz⟩
    obtain rfl : w1 = wz := hwz.symm
    go_wp2_with fail
    refine (HI2.out _).mono ?_
    rintro e wz ⟨rfl, hwz⟩
    obtain rfl : w1 = wz := hwz.symm
    go_wp2_with (first
     | (refine zql rfl rfl rfl rfl zqu59 (by simp [Value.oneCell']) H1r rfl ?_)
     | (refine zqw rfl rfl rfl H1d zqu59 ?_)
     | (refine zqw rfl rfl rfl H1e zqu43 ?_)
     | (refine zqw rfl rfl rfl H1r zqu59 ?_)
     | fail)
    intro w1a hU
    have H2d := shK hU H1d (by omega)
    have H2e := shK hU H1e (by omega)
    have H2r : Hid (Blk w1a (w.heap.size + 1 + 1) #[.int .i64 0, .int .i64 0, .int .i64 0, .int .i64 0, .int .i64 0, .int .i64 0, .slice none 0 0] 59) := hU.blk
    have H2B := shV hU H1B (by omega)
    have hsw1a : w1a.heap.size = w1.heap.size := hU.size
    clear hU H1d H1e H1r H1R H1B
    obtain ⟨Rr0, Rr1, Rr2, Rr3, Rr4, Rr5, Rr6⟩ := shc7 H2r
    go_wp2_with fail
    exact bodyPost_ret (v := .tuple #[.agg #[.int .i64 0, .int .i64 0, .int .i64 0, .int .i64 0, .int .i64 0, .int .i64 0, .slice none 0 0], .int .i64 2]) (by simp [results, Tryz.results29, Rr0.out, Rr1.out, Rr2.out, Rr3.out, Rr4.out, Rr5.out, Rr6.out, go_sem]) rfl ⟨ac0, none, 0, 0, _, rfl, HV.out, deb.fresh_nil _ _, H2B.out⟩
  ·rw [decide_eq_false h1] at HI1
   have HV : Hid (OweIs x q ac0 2) := .inr (.inl ⟨HM.out, fun hh => h1 hh.1, rfl, rfl⟩)
   clear h1
   have qe0 : w1.cell? ⟨w.heap.size + 1, 0, none⟩ = some (.int .i64 q.a) := H1e.out.cell 0
   go_wp2_with fail
   refine (HI1.out _).mono ?_
   rintro e wz ⟨rfl, hwz⟩
   obtain rfl : w1 = wz := hwz.symm
   go_wp2_with (first
    | (refine zql rfl rfl rfl rfl zqu59 (by simp [Value.oneCell']) H1r rfl ?_)
    | fail)
   intro w1a hU
   have H2d := shK hU H1d (by omega)
   have H2e := shK hU H1e (by omega)
   have H2r : Hid (Blk w1a (w.heap.size + 1 + 1) #[.int .i64 0, .int .i64 0, .int .i64 0, .int .i64 0, .int .i64 0, .int .i64 0, .slice none 0 0] 59) := hU.blk
   have H2B := shV hU H1B (by omega)
   have hsw1a : w1a.heap.size = w1.heap.size := hU.size
   clear hU H1d H1e H1r H1R H1B
   obtain ⟨Rr0, Rr1, Rr2, Rr3, Rr4, Rr5, Rr6⟩ := shc7 H2r
   go_wp2_with fail
   exact bodyPost_ret (v := .tuple #[.agg #[.int .i64 0, .int .i64 0, .int .i64 0, .int .i64 0, .int .i64 0, .int .i64 0, .slice none 0 0], .int .i64 2]) (by simp [results, Tryz.results29, Rr0.out, Rr1.out, Rr2.out, Rr3.out, Rr4.out, Rr5.out, Rr6.out, go_sem]) rfl ⟨ac0, none, 0, 0, _, rfl, HV.out, deb.fresh_nil _ _, H2B.out⟩
 ·have HM : Hid (¬ AMay x) := hm
  obtain ⟨W0, HWW, H0d, H0e, H0r, H0B, hs0⟩ := sh3 w #[.int .i64 x.me, .int .i64 x.rv, .int .i64 x.nx, .int .i64 x.mo, .int .i64 x.bo, .int .i64 x.fr, .slice p len cap] 59 #[.int .i64 q.a, .int .i64 q.b] 43 #[.int .i64 0, .int .i64 0, .int .i64 0, .int .i64 0, .int .i64 0, .int .i64 0, .slice none 0 0] 59
  have H0R : Hid (RowD W0 p len x.ds) := h.below H0B.out
  go_enter Tryz.func29, Tryz.ntmps29
  go_upto_region 1 with fail
  rw [HWW.out]
  clear HWW
  have HAM : Hid (Calls Tryz.prog 47 #[.agg #[.int .i64 x.me, .int .i64 x.rv, .int .i64 x.nx, .int .i64 x.mo, .int .i64 x.bo, .int .i64 x.fr, .slice p len cap]] W0 fun e w' => e = .returned (.bool false) ∧ Below W0.heap.size W0 w') := ranot x p len cap _ H0R.out hl hm
  go_wp2_with (first
   | (refine zqw rfl rfl rfl H0d zqu59 ?_)
   | (refine zqw rfl rfl rfl H0e zqu43 ?_)
   | (refine zqw rfl rfl rfl H0r zqu59 ?_)
   | fail)
  refine HAM.out.mono ?_
  rintro e w1 ⟨rfl, hb1⟩
  have H1d := shN H0d hb1
  have H1e := shN H0e hb1
  have H1r := shN H0r hb1
  have H1R : Hid (RowD w1 p len x.ds) := H0R.out.below hb1
  have H1B := shB H0B hb1
  have hsw1 : W0.heap.size ≤ w1.heap.size := hb1.size
  clear hb1 H0d H0e H0r H0R H0B
  clear HAM
  go_wp2_with (first
   | (refine zql rfl rfl rfl rfl zqu59 (by simp [Value.oneCell']) H1r rfl ?_)
   | (refine zqw rfl rfl rfl H1d zqu59 ?_)
   | (refine zqw rfl rfl rfl H1e zqu43 ?_)
   | (refine zqw rfl rfl rfl H1r zqu59 ?_)
   | fail)
  intro w1a hU
  have H2d := shK hU H1d (by omega)
  have H2e := shK hU H1e (by omega)
  have H2r : Hid (Blk w1a (w.heap.size + 1 + 1) #[.int .i64 0, .int .i64 0, .int .i64 0, .int .i64 0, .int .i64 0, .int .i64 0, .slice none 0 0] 59) := hU.blk
  have H2B := shV hU H1B (by omega)
  have hsw1a : w1a.heap.size = w1.heap.size := hU.size
  clear hU H1d H1e H1r H1R H1B
  obtain ⟨Rr0, Rr1, Rr2, Rr3, Rr4, Rr5, Rr6⟩ := shc7 H2r
  go_wp2_with fail
  exact bodyPost_ret (v := .tuple #[.agg #[.int .i64 0, .int .i64 0, .int .i64 0, .int .i64 0, .int .i64 0, .int .i64 0, .slice none 0 0], .int .i64 5]) (by simp [results, Tryz.results29, Rr0.out, Rr1.out, Rr2.out, Rr3.out, Rr4.out, Rr5.out, Rr6.out, go_sem]) rfl ⟨ac0, none, 0, 0, _, rfl, .inl ⟨HM.out, rfl, rfl⟩, deb.fresh_nil _ _, H2B.out⟩
end acc
namespace book
open Go.RowKit
open acc (Ac Tm Bi APost BPost OweIs SellIs GrantIs RekeyIs)
set_option maxRecDepth 100000
set_option maxHeartbeats 4000000 in
theorem rhap5 (a : Ac) (sol : List So) (dp : Option Addr) (dn dc : Nat) (sp : Option Addr) (sn sc : Nat) (t : Tm) (pt : Option Addr) (lt ct : Nat) (v : Ev) (base : Nat) (w : World) (hx : Has w base (cuA a dp dn dc sp sn sc) ⟨a, sol⟩) (ht : tar.RowD w pt lt t.ts) (htl : lt ≤ maxLen) (hbase : base ≤ w.heap.size) (hkd : v.kd = 5) :
  Calls Tryz.prog 37 #[.agg #[.slice pt lt ct, .int .i64 t.ff, .int .i64 t.fb, .int .i64 t.db, .int .i64 t.al], .agg #[.int .i64 a.me, .int .i64 a.rv, .int .i64 a.nx, .int .i64 a.mo, .int .i64 a.bo, .int .i64 a.fr, .slice dp dn dc, .slice sp sn sc], .agg #[.int .i64 v.kd, .int .i64 v.me, .int .i64 v.mo, .int .i64 v.id, .int .i64 v.te, .int .i64 v.de, .int .i64 v.fe, .int .i64 v.pr, .int .i64 v.ch, .int .i64 v.un, .int .i64 v.tg, .int .i64 v.ow, .int .i64 v.bp]] w fun e w' => HapPost w base t (cuA a dp dn dc sp sn sc) ⟨a, sol⟩ v e w' := by
 have n5 : (v.kd == 5) = true := by simpa using hkd
 have HKD : Hid (v.kd = 5) := hkd
 clear hkd
 have HB0 : Hid (Below w.heap.size w w) := Below.refl _ _
 have HH : Hid (Has w base (cuA a dp dn dc sp sn sc) ⟨a, sol⟩) := hx
 have HBS : Hid (base ≤ w.heap.size) := hbase
 have HOW : Hid (∀ W, Below w.heap.size w W → Calls Tryz.prog 29 #[.agg #[.int .i64 a.me, .int .i64 a.rv, .int .i64 a.nx, .int .i64 a.mo, .int .i64 a.bo, .int .i64 a.fr, .slice dp dn dc], .agg #[.int .i64 v.ow, .int .i64 v.bp]] W fun e w' => APost W (OweIs a ⟨v.ow, v.bp⟩) e w') := fun W hB => acc.rowes a dp dn dc ⟨v.ow, v.bp⟩ W (hx.ds.came.below hB).row hx.ds.came.most
 clear hx ht htl hbase
 obtain ⟨W0, HWW, Ht4, Qx, Qv, Qr, HB4, hz0⟩ := sh4 w #[.slice pt lt ct, .int .i64 t.ff, .int .i64 t.fb, .int .i64 t.db, .int .i64 t.al] 24 #[.int .i64 a.me, .int .i64 a.rv, .int .i64 a.nx, .int .i64 a.mo, .int .i64 a.bo, .int .i64 a.fr, .slice dp dn dc, .slice sp sn sc] 62 #[.int .i64 v.kd, .int .i64 v.me, .int .i64 v.mo, .int .i64 v.id, .int .i64 v.te, .int .i64 v.de, .int .i64 v.fe, .int .i64 v.pr, .int .i64 v.ch, .int .i64 v.un, .int .i64 v.tg, .int .i64 v.ow, .int .i64 v.bp] 71 #[.int .i64 0, .int .i64 0, .int .i64 0, .int .i64 0, .int .i64 0, .int .i64 0, .slice none 0 0, .slice none 0 0] 62
 go_enter Tryz.func37, Tryz.ntmps37
 go_upto_region 1 with fail
 rw [HWW.out]
 clear HWW
 have HS0 : Hid (w.heap.size + 1 + 1 + 1 < W0.heap.size) := hz0
 clear hz0
 have kx0 : W0.cell? ⟨w.heap.size + 1, 0, none⟩ = some (.int .i64 a.me) := Qx.out.cell 0
 have kx1 : W0.cell? ⟨w.heap.size + 1, 1, none⟩ = some (.int .i64 a.rv) := Qx.out.cell 1
 have kx2 : W0.cell? ⟨w.heap.size + 1, 2, none⟩ = some (.int .i64 a.nx) := Qx.out.cell 2
 have kx3 : W0.cell? ⟨w.heap.size + 1, 3, none⟩ = some (.int .i64 a.mo) := Qx.out.cell 3
 have kx4 : W0.cell? ⟨w.heap.size + 1, 4, none⟩ = some (.int .i64 a.bo) := Qx.out.cell 4
 have kx5 : W0.cell? ⟨w.heap.size + 1, 5, none⟩ = some (.int .i64 a.fr) := Qx.out.cell 5
 have kx6 : W0.cell? ⟨w.heap.size + 1, 6, none⟩ = some (.slice dp dn dc) := Qx.out.cell 6
 have kx7 : W0.cell? ⟨w.heap.size + 1, 7, none⟩ = some (.slice sp sn sc) := Qx.out.cell 7
 have kv0 : W0.cell? ⟨w.heap.size + 1 + 1, 0, none⟩ = some (.int .i64 v.kd) := Qv.out.cell 0
 have kv1 : W0.cell? ⟨w.heap.size + 1 + 1, 1, none⟩ = some (.int .i64 v.me) := Qv.out.cell 1
 have kv2 : W0.cell? ⟨w.heap.size + 1 + 1, 2, none⟩ = some (.int .i64 v.mo) := Qv.out.cell 2
 have kv3 : W0.cell? ⟨w.heap.size + 1 + 1, 3, none⟩ = some (.int .i64 v.id) := Qv.out.cell 3
 have kv4 : W0.cell? ⟨w.heap.size + 1 + 1, 4, none⟩ = some (.int .i64 v.te) := Qv.out.cell 4
 have kv5 : W0.cell? ⟨w.heap.size + 1 + 1, 5, none⟩ = some (.int .i64 v.de) := Qv.out.cell 5
 have kv6 : W0.cell? ⟨w.heap.size + 1 + 1, 6, none⟩ = some (.int .i64 v.fe) := Qv.out.cell 6
 have kv7 : W0.cell? ⟨w.heap.size + 1 + 1, 7, none⟩ = some (.int .i64 v.pr) := Qv.out.cell 7
 have kv8 : W0.cell? ⟨w.heap.size + 1 + 1, 8, none⟩ = some (.int .i64 v.ch) := Qv.out.cell 8
 have kv9 : W0.cell? ⟨w.heap.size + 1 + 1, 9, none⟩ = some (.int .i64 v.un) := Qv.out.cell 9
 have kv10 : W0.cell? ⟨w.heap.size + 1 + 1, 10, none⟩ = some (.int .i64 v.tg) := Qv.out.cell 10
 have kv11 : W0.cell? ⟨w.heap.size + 1 + 1, 11, none⟩ = some (.int .i64 v.ow) := Qv.out.cell 11
 have kv12 : W0.cell? ⟨w.heap.size + 1 + 1, 12, none⟩ = some (.int .i64 v.bp) := Qv.out.cell 12
 have HO1 : Hid (Calls Tryz.prog 29 #[.agg #[.int .i64 a.me, .int .i64 a.rv, .int .i64 a.nx, .int .i64 a.mo, .int .i64 a.bo, .int .i64 a.fr, .slice dp dn dc], .agg #[.int .i64 v.ow, .int .i64 v.bp]] W0 fun e w' => APost W0 (OweIs a ⟨v.ow, v.bp⟩) e w') := HOW.out W0 HB4.out
 clear HOW
 go_wp2_with fail
 refine HO1.out.mono ?_
 rintro e w1 ⟨b, pb, lb, cb, f, rfl, hi, hf, hb1⟩
 have HI : Hid (OweIs a ⟨v.ow, v.bp⟩ b f) := hi
 have Ht5 := shN Ht4 hb1
 have Hx5 := shN Qx hb1
 have Hv5 := shN Qv hb1
 have Hr5 := shN Qr hb1
 have HB5 := shB HB4 hb1
 have HF1 : Hid (deb.Fresh w1 W0.heap.size pb lb cb b.ds) := hf
 have HW0 : Hid (w.heap.size ≤ W0.heap.size) := HB4.out.size
 clear hb1 hf hi HO1 kx0 kx1 kx2 kx3 kx4 kx5 kx6 kx7 kv0 kv1 kv2 kv3 kv4 kv5 kv6 kv7 kv8 kv9 kv10 kv11 kv12
 unfold acc.Ac.v acc.Ac.cs
 obtain ⟨W1, HWW, Ha6, HBB, -⟩ := sh1 w1 #[.int .i64 b.me, .int .i64 b.rv, .int .i64 b.nx, .int .i64 b.mo, .int .i64 b.bo, .int .i64 b.fr, .slice pb lb cb] 59
 have Ht6 := shN Ht5 HBB.out
 have Hx6 := shN Hx5 HBB.out
 have Hv6 := shN Hv5 HBB.out
 have Hr6 := shN Hr5 HBB.out
 have HB6 := shB HB5 HBB.out
 have HF2 : Hid (deb.Fresh W1 W0.heap.size pb lb cb b.ds) := HF1.out.below HBB.out
 go_upto_region 3 with fail
 rw [HWW.out]
 clear HWW HBB
 generalize hga : w1.heap.size = ga at *
 obtain ⟨ka0, ka1, ka2, ka3, ka4, ka5, ka6⟩ := scl7 Ha6
 obtain ⟨kx0, kx1, kx2, kx3, kx4, kx5, kx6, kx7⟩ := scl8 Hx6
 go_wp2_with (first | (refine zql rfl rfl rfl rfl zqu62 (by simp [Value.oneCell']) Hr6 rfl ?_) | fail)
 intro W2 hU
 have HR2 : Hid (Blk W2 (w.heap.size + 1 + 1 + 1) #[.int .i64 b.me, .int .i64 b.rv, .int .i64 b.nx, .int .i64 b.mo, .int .i64 b.bo, .int .i64 b.fr, .slice pb lb cb, .slice sp sn sc] 62) := hU.blk
 have HB9 := shV hU HB6 (by omega)
 have HUU : Hid (Upd W1 W2 (w.heap.size + 1 + 1 + 1) #[.int .i64 b.me, .int .i64 b.rv, .int .i64 b.nx, .int .i64 b.mo, .int .i64 b.bo, .int .i64 b.fr, .slice pb lb cb, .slice sp sn sc] 62) := hU
 clear hU ka0 ka1 ka2 ka3 ka4 ka5 ka6 kx0 kx1 kx2 kx3 kx4 kx5 kx6 kx7
 obtain ⟨R0, R1, R2, R3, R4, R5, R6, R7⟩ := shc8 HR2
 have HFIN : Hid (HapPost w base t (cuA a dp dn dc sp sn sc) ⟨a, sol⟩ v (.returned (.tuple #[.agg #[.int .i64 b.me, .int .i64 b.rv, .int .i64 b.nx, .int .i64 b.mo, .int .i64 b.bo, .int .i64 b.fr, .slice pb lb cb, .slice sp sn sc], .int .i64 f])) W2) := by
  refine ⟨cuA b pb lb cb sp sn sc, ⟨b, sol⟩, f, rfl, .inl ⟨HKD.out, b, HI.out, fun _ => rfl⟩, fun _ => ?_, grown_of HB9.out _⟩
  have hbl : 0 < lb → ∀ y, pb = some y → W0.heap.size ≤ y.block := HF2.out.new
  refine ⟨grown_of HB9.out _, ⟨cuA_num _ _ _ _ _ _ _, ⟨?_, fun hn y hy => ?_⟩, HH.out.so.next HB9.out⟩, fun g hg => .inl hg, fun hn y hy => Nat.le_trans HW0.out (hbl hn y hy), fun g hg hn y hy q => ?_⟩
  ·refine acc_upd HF2.out.came HUU.out (fun hn y hy q => ?_)
   have h1 := hbl hn y hy
   have h2 := HS0.out
   omega
  ·have h1 := hbl hn y hy
   have h2 := HW0.out
   have h3 := HBS.out
   omega
  ·have h1 := hbl hn y hy
   have h2 := HW0.out
   have h3 := (World.ownsRow.lt HH.out.so g hg).2
   omega
 go_wp2_with fail
 exact bodyPost_ret (v := .tuple #[.agg #[.int .i64 b.me, .int .i64 b.rv, .int .i64 b.nx, .int .i64 b.mo, .int .i64 b.bo, .int .i64 b.fr, .slice pb lb cb, .slice sp sn sc], .int .i64 f]) (by simp [results, Tryz.results37, R0.out, R1.out, R2.out, R3.out, R4.out, R5.out, R6.out, R7.out, go_sem]) rfl HFIN.out
end book
namespace acc
open tar (Du du0 Came RowD Ld PairT)
open Go.RowKit
set_option maxRecDepth 100000
set_option maxHeartbeats 2000000 in
theorem prekey (g : Nat) (x : Ac) (p : Option Addr) (len cap : Nat) (w : World) (hw : Blk w g (wcs x bi0 p len cap) 121) (hd : deb.Fresh w (g + 1) p len cap x.ds) (ha : AMay x) : Calls Tryz.prog 112 #[.pointer (some ⟨g, 0, none⟩)] w fun e w' => DPost w g (Or0 (RekeyIs x)) e w' := by
 have hrv := ha.2.2.1
 have hnx := ha.2.2.2.1
 have HM : Hid (AMay x) := ha
 have HI : Hid (Blk w g #[.int .i64 x.me, .int .i64 x.rv, .int .i64 x.nx, .int .i64 x.mo, .int .i64 x.bo, .int .i64 x.fr, .slice p len cap, .int .i64 0, .int .i64 0, .int .i64 0, .int .i64 0, .int .i64 0, .int .i64 0, .int .i64 0] 121) := hw
 have HD : Hid (deb.Fresh w (g + 1) p len cap x.ds) := hd
 have q1 : w.cell? ⟨g, 1, none⟩ = some (.int .i64 x.rv) := HI.out.cell 1
 clear hw hd ha
 by_cases h1 : x.rv < 15
 ·have d1 : (x.rv == 15) = false := by simp; omega
  have hwr : IntKind.i64.wrap (x.rv + 1) = x.rv + 1 := by rw [IntKind.wrap_i64]; omega
  have H1 : Hid (x.rv < 15) := h1
  go_enter Tryz.func112, Tryz.ntmps112
  go_wp2_with (first | (refine wp_let1 rfl 3 _ _ rfl g 1 rfl .i64 (x.rv + 1) rfl (by kernel_rfl) #[.int .i64 x.me, .int .i64 x.rv, .int .i64 x.nx, .int .i64 x.mo, .int .i64 x.bo, .int .i64 x.fr, .slice p len cap, .int .i64 0, .int .i64 0, .int .i64 0, .int .i64 0, .int .i64 0, .int .i64 0, .int .i64 0] 121 HI.out (by simp) ?_) | fail)
  intro W1 hU
  have HI1 : Hid (Blk W1 g #[.int .i64 x.me, .int .i64 (x.rv + 1), .int .i64 x.nx, .int .i64 x.mo, .int .i64 x.bo, .int .i64 x.fr, .slice p len cap, .int .i64 0, .int .i64 0, .int .i64 0, .int .i64 0, .int .i64 0, .int .i64 0, .int .i64 0] 121) := hU.blk
  have HC1 : Hid (Chg w W1 g) := .upd hU
  have HD1 : Hid (deb.Fresh W1 (g + 1) p len cap x.ds) := fresh_chg HD.out (.upd hU)
  have HNU : Hid (Calls Tryz.prog 117 #[.pointer (some ⟨g, 0, none⟩)] W1 fun e w' => NumPost W1 g ⟨x.me, x.rv + 1, x.nx, x.mo, x.bo, x.fr, x.ds⟩ bi0 p len cap e w') := pnum g ⟨x.me, x.rv + 1, x.nx, x.mo, x.bo, x.fr, x.ds⟩ bi0 p len cap W1 HI1.out hnx
  clear hU q1 HI HD d1 h1
  go_wp2_with fail
  refine HNU.out.mono ?_
  rintro e wN ⟨hcN, ⟨hx, rfl, hiN⟩ | ⟨hx, rfl, hiN⟩⟩
  ·have HV : Hid (Or0 (RekeyIs x) ⟨x.me, x.rv + 1, x.nx, x.mo, x.bo, x.fr, x.ds⟩ bi0 20) := .inl ⟨by decide, .inr (.inr (.inl ⟨HM.out, H1.out, hx, rfl, rfl, rfl⟩))⟩
   have HDN := fresh_chg HD1.out hcN
   have HCN := HC1.out.trans hcN
   clear HNU hx
   go_wp2_with fail
   go_ret
   exact ⟨⟨x.me, x.rv + 1, x.nx, x.mo, x.bo, x.fr, x.ds⟩, bi0, p, len, cap, 20, rfl, HV.out, hiN, HDN, HCN⟩
  ·have HV : Hid (Or0 (RekeyIs x) ⟨x.me, x.rv + 1, x.nx + 1, x.mo, x.bo, x.fr, x.ds⟩ ⟨x.nx, 0, 0, 0, 0, 0, 0⟩ 0) := .inr ⟨rfl, .inr (.inr (.inr ⟨HM.out, H1.out, hx, rfl, rfl, rfl⟩))⟩
   have HDN := fresh_chg HD1.out hcN
   have HCN := HC1.out.trans hcN
   clear HNU hx
   go_wp2_with fail
   go_ret
   exact ⟨⟨x.me, x.rv + 1, x.nx + 1, x.mo, x.bo, x.fr, x.ds⟩, ⟨x.nx, 0, 0, 0, 0, 0, 0⟩, p, len, cap, 0, rfl, HV.out, hiN, HDN, HCN⟩
 ·have d1 : (x.rv == 15) = true := by simp; omega
  have HV : Hid (Or0 (RekeyIs x) x bi0 24) := .inl ⟨by decide, .inr (.inl ⟨HM.out, h1, rfl, rfl, rfl⟩)⟩
  clear h1 hrv hnx
  go_enter Tryz.func112, Tryz.ntmps112
  go_wp2_with fail
  go_ret
  exact ⟨x, bi0, p, len, cap, 24, rfl, HV.out, HI.out, HD.out, Chg.refl _ _⟩
set_option maxHeartbeats 4000000 in
theorem krekey : KcRekey := by
 intro w x p len cap ha
 unfold Ac.v Ac.cs
 obtain ⟨W0, HWW, H0d, H0r, H0l, H0B, hs0⟩ := sh3 w #[.int .i64 x.me, .int .i64 x.rv, .int .i64 x.nx, .int .i64 x.mo, .int .i64 x.bo, .int .i64 x.fr, .slice p len cap] 59 #[.int .i64 0, .int .i64 0, .int .i64 0, .int .i64 0, .int .i64 0, .int .i64 0, .slice none 0 0] 59 #[.int .i64 0, .int .i64 0, .int .i64 0, .int .i64 0, .int .i64 0, .int .i64 0, .int .i64 0] 69
 have H0R : Hid (Came W0 p len cap x.ds) := ha.ds.below H0B.out
 go_enter Tryz.func104, Tryz.ntmps104
 go_upto_region 1 with fail
 rw [HWW.out]
 clear HWW
 have HWK : Hid (Calls Tryz.prog 44 #[.agg #[.int .i64 x.me, .int .i64 x.rv, .int .i64 x.nx, .int .i64 x.mo, .int .i64 x.bo, .int .i64 x.fr, .slice p len cap], .func (.func 112) #[] #[]] W0 fun e w' => BPost W0 (RekeyIs x) e w') := by
  refine pwork 112 #[] (RekeyIs x) x p len cap W0 H0R.out (fun h => .inl ⟨h, rfl, rfl, rfl⟩) (fun _ _ => by kernel_rfl) ?_
  intro hm W g p' cap' hB hg hblk hld
  have HFR : deb.Fresh W (g + 1) p' len cap' x.ds := by
   obtain ⟨a0, c0, hv, hfr⟩ := deb.ld_fresh hld hm.1
   injection hv with h1 h2 h3
   rw [h1, h2, h3]; exact hfr
  exact (prekey g x p' len cap' W hblk HFR hm).mono fun e w' h => h.w (Nat.le_of_lt hblk.lt)
 clear ha
 go_wp2_with (first
  | (refine zqw rfl rfl rfl H0d zqu59 ?_)
  | (refine zqw rfl rfl rfl H0r zqu59 ?_)
  | (refine zqw rfl rfl rfl H0l zqu69 ?_)
  | fail)
 refine HWK.out.mono ?_
 rintro e w1 ⟨b, l, pr, lr, cr, fz, rfl, hi, hf, hb1⟩
 have H1d := shN H0d hb1
 have H1r := shN H0r hb1
 have H1l := shN H0l hb1
 have H1R : Hid (Came w1 p len cap x.ds) := H0R.out.below hb1
 have H1B := shB H0B hb1
 have hsw1 : W0.heap.size ≤ w1.heap.size := hb1.size
 clear hb1 H0d H0r H0l H0R H0B
 unfold Ac.v Ac.cs Bi.v
 clear HWK
 have H2F : Hid (deb.Fresh w1 W0.heap.size pr lr cr b.ds) := hf
 have HUPF : Hid (0 < lr → ∀ y, pr = some y → y.block < w1.heap.size) := came_lt H2F.out.came
 have HV : Hid (RekeyIs x b l fz) := hi
 clear hf hi
 go_wp2_with (first
  | (refine zql rfl rfl rfl rfl zqu59 (by simp [Value.oneCell']) H1r rfl ?_)
  | (refine zqw rfl rfl rfl H1d zqu59 ?_)
  | (refine zqw rfl rfl rfl H1r zqu59 ?_)
  | (refine zqw rfl rfl rfl H1l zqu69 ?_)
  | fail)
 intro W4 hU
 have H3d := shK hU H1d (by omega)
 have H3r : Hid (Blk W4 (w.heap.size + 1) #[.int .i64 b.me, .int .i64 b.rv, .int .i64 b.nx, .int .i64 b.mo, .int .i64 b.bo, .int .i64 b.fr, .slice pr lr cr] 59) := hU.blk
 have H3l := shK hU H1l (by omega)
 have H3F : Hid (deb.Fresh W4 W0.heap.size pr lr cr b.ds) := fresh_updN H2F.out hU (fun hn y hy => by have f1 := H2F.out.new hn y hy; have f2 := HUPF.out hn y hy; omega)
 have H3B := shV hU H1B (by omega)
 have hsW4 : W4.heap.size = w1.heap.size := hU.size
 clear hU H1d H1r H1l H2F H1B
 go_wp2_with (first
  | (refine zql rfl rfl rfl rfl zqu69 (by simp [Value.oneCell']) H3l rfl ?_)
  | (refine zqw rfl rfl rfl H3d zqu59 ?_)
  | (refine zqw rfl rfl rfl H3r zqu59 ?_)
  | (refine zqw rfl rfl rfl H3l zqu69 ?_)
  | fail)
 intro W5 hU
 have H4d := shK hU H3d (by omega)
 have H4r := shK hU H3r (by omega)
 have H4l : Hid (Blk W5 (w.heap.size + 1 + 1) #[.int .i64 l.id, .int .i64 l.te, .int .i64 l.de, .int .i64 l.fe, .int .i64 l.pr, .int .i64 l.ch, .int .i64 l.un] 69) := hU.blk
 have H4F : Hid (deb.Fresh W5 W0.heap.size pr lr cr b.ds) := fresh_updN H3F.out hU (fun hn y hy => by have f1 := H3F.out.new hn y hy; have f2 := HUPF.out hn y hy; omega)
 have H4B := shV hU H3B (by omega)
 have hsW5 : W5.heap.size = W4.heap.size := hU.size
 clear hU H3d H3r H3l H3F H3B
 obtain ⟨Rr0, Rr1, Rr2, Rr3, Rr4, Rr5, Rr6⟩ := shc7 H4r
 obtain ⟨Rl0, Rl1, Rl2, Rl3, Rl4, Rl5, Rl6⟩ := shc7 H4l
 go_wp2_with fail
 exact bodyPost_ret (v := .tuple #[.agg #[.int .i64 b.me, .int .i64 b.rv, .int .i64 b.nx, .int .i64 b.mo, .int .i64 b.bo, .int .i64 b.fr, .slice pr lr cr], .agg #[.int .i64 l.id, .int .i64 l.te, .int .i64 l.de, .int .i64 l.fe, .int .i64 l.pr, .int .i64 l.ch, .int .i64 l.un], .int .i64 fz]) (by simp [results, Tryz.results104, Rr0.out, Rr1.out, Rr2.out, Rr3.out, Rr4.out, Rr5.out, Rr6.out, Rl0.out, Rl1.out, Rl2.out, Rl3.out, Rl4.out, Rl5.out, Rl6.out, go_sem]) rfl ⟨b, l, pr, lr, cr, fz, rfl, HV.out, H4F.out.low (by omega), H4B.out⟩
end acc
end Go.Proofs.YtomibnggmhjdfaaGreat
