import Derived.Test.YtomibnggmhjdfaaGreatVVCes8
import Derived.Test.YtomibnggmhjdfaaGreatVVCes14
set_option linter.unusedVariables false
set_option linter.unusedSimpArgs false
namespace Go.Proofs.YtomibnggmhjdfaaGreat
namespace acc
open tar (Du du0 Came RowD Ld PairT)
open Go.RowKit
set_option maxRecDepth 100000
set_option maxHeartbeats 8000000 in
theorem rrolled (x : Ac) (p : Option Addr) (len cap : Nat) (m : Int) (w : World) (h : RowD w p len x.ds) (hl : len ≤ maxLen) : Calls Tryz.prog 80 #[.agg #[.int .i64 x.me, .int .i64 x.rv, .int .i64 x.nx, .int .i64 x.mo, .int .i64 x.bo, .int .i64 x.fr, .slice p len cap], .int .i64 m] w fun e w' => APost w (RollIs x m) e w' := by
 have H0d : Hid (Blk ((w.alloc (.cells #[.int .i64 x.me, .int .i64 x.rv, .int .i64 x.nx, .int .i64 x.mo, .int .i64 x.bo, .int .i64 x.fr, .slice p len cap] 59)).alloc (.cells #[.int .i64 0, .int .i64 0, .int .i64 0, .int .i64 0, .int .i64 0, .int .i64 0, .slice none 0 0] 59)) w.heap.size #[.int .i64 x.me, .int .i64 x.rv, .int .i64 x.nx, .int .i64 x.mo, .int .i64 x.bo, .int .i64 x.fr, .slice p len cap] 59) := (Blk.new w _ _).alloc _
 have H0r : Hid (Blk ((w.alloc (.cells #[.int .i64 x.me, .int .i64 x.rv, .int .i64 x.nx, .int .i64 x.mo, .int .i64 x.bo, .int .i64 x.fr, .slice p len cap] 59)).alloc (.cells #[.int .i64 0, .int .i64 0, .int .i64 0, .int .i64 0, .int .i64 0, .int .i64 0, .slice none 0 0] 59)) (w.heap.size + 1) #[.int .i64 0, .int .i64 0, .int .i64 0, .int .i64 0, .int .i64 0, .int .i64 0, .slice none 0 0] 59) := Blk.new1 w _ _ _
 have H0B : Hid (Below w.heap.size w ((w.alloc (.cells #[.int .i64 x.me, .int .i64 x.rv, .int .i64 x.nx, .int .i64 x.mo, .int .i64 x.bo, .int .i64 x.fr, .slice p len cap] 59)).alloc (.cells #[.int .i64 0, .int .i64 0, .int .i64 0, .int .i64 0, .int .i64 0, .int .i64 0, .slice none 0 0] 59))) := ((Below.refl w.heap.size w).alloc (by simp) _).alloc (by simp) _
 have HROW : Hid (RowD ((w.alloc (.cells #[.int .i64 x.me, .int .i64 x.rv, .int .i64 x.nx, .int .i64 x.mo, .int .i64 x.bo, .int .i64 x.fr, .slice p len cap] 59)).alloc (.cells #[.int .i64 0, .int .i64 0, .int .i64 0, .int .i64 0, .int .i64 0, .int .i64 0, .slice none 0 0] 59)) p len x.ds) := h.below H0B.out
 have hs1 : w.heap.size + 1 < ((w.alloc (.cells #[.int .i64 x.me, .int .i64 x.rv, .int .i64 x.nx, .int .i64 x.mo, .int .i64 x.bo, .int .i64 x.fr, .slice p len cap] 59)).alloc (.cells #[.int .i64 0, .int .i64 0, .int .i64 0, .int .i64 0, .int .i64 0, .int .i64 0, .slice none 0 0] 59)).heap.size := H0r.out.lt
 have HIM : Hid (∀ W, Calls Tryz.prog 25 #[.int .i64 m, .int .i64 0, .int .i64 2399] W fun e w' => e = .returned (.bool (decide (0 ≤ m ∧ m ≤ 2399))) ∧ w' = W) := fun W => cal.cin m 0 2399 W
 by_cases hm : AMay x
 ·have hmo := hm.2.2.2.2.1
  have hdm := hm.1
  have HAM : Hid (Calls Tryz.prog 47 #[.agg #[.int .i64 x.me, .int .i64 x.rv, .int .i64 x.nx, .int .i64 x.mo, .int .i64 x.bo, .int .i64 x.fr, .slice p len cap]] ((w.alloc (.cells #[.int .i64 x.me, .int .i64 x.rv, .int .i64 x.nx, .int .i64 x.mo, .int .i64 x.bo, .int .i64 x.fr, .slice p len cap] 59)).alloc (.cells #[.int .i64 0, .int .i64 0, .int .i64 0, .int .i64 0, .int .i64 0, .int .i64 0, .slice none 0 0] 59)) fun e w' => e = .returned (.bool true) ∧ Below ((w.alloc (.cells #[.int .i64 x.me, .int .i64 x.rv, .int .i64 x.nx, .int .i64 x.mo, .int .i64 x.bo, .int .i64 x.fr, .slice p len cap] 59)).alloc (.cells #[.int .i64 0, .int .i64 0, .int .i64 0, .int .i64 0, .int .i64 0, .int .i64 0, .slice none 0 0] 59)).heap.size ((w.alloc (.cells #[.int .i64 x.me, .int .i64 x.rv, .int .i64 x.nx, .int .i64 x.mo, .int .i64 x.bo, .int .i64 x.fr, .slice p len cap] 59)).alloc (.cells #[.int .i64 0, .int .i64 0, .int .i64 0, .int .i64 0, .int .i64 0, .int .i64 0, .slice none 0 0] 59)) w') := ramay x p len cap _ HROW.out hl hm
  have HM : Hid (AMay x) := hm
  clear h hm
  generalize hWW : ((w.alloc (.cells #[.int .i64 x.me, .int .i64 x.rv, .int .i64 x.nx, .int .i64 x.mo, .int .i64 x.bo, .int .i64 x.fr, .slice p len cap] 59)).alloc (.cells #[.int .i64 0, .int .i64 0, .int .i64 0, .int .i64 0, .int .i64 0, .int .i64 0, .slice none 0 0] 59)) = W2 at *
  have HWW : Hid (((w.alloc (.cells #[.int .i64 x.me, .int .i64 x.rv, .int .i64 x.nx, .int .i64 x.mo, .int .i64 x.bo, .int .i64 x.fr, .slice p len cap] 59)).alloc (.cells #[.int .i64 0, .int .i64 0, .int .i64 0, .int .i64 0, .int .i64 0, .int .i64 0, .slice none 0 0] 59)) = W2) := hWW
  clear hWW
  go_enter Tryz.func80, Tryz.ntmps80
  go_upto_region 1 with fail
  rw [HWW.out]
  clear HWW
  go_wp2_with (first | (refine zqw rfl rfl rfl H0d zqu59 ?_) | fail)
  refine HAM.out.mono ?_
  rintro e w1 ⟨rfl, hb1⟩
  have H1d : Hid (Blk w1 w.heap.size #[.int .i64 x.me, .int .i64 x.rv, .int .i64 x.nx, .int .i64 x.mo, .int .i64 x.bo, .int .i64 x.fr, .slice p len cap] 59) := H0d.out.below hb1 (by omega)
  have H1r : Hid (Blk w1 (w.heap.size + 1) #[.int .i64 0, .int .i64 0, .int .i64 0, .int .i64 0, .int .i64 0, .int .i64 0, .slice none 0 0] 59) := H0r.out.below hb1 (by omega)
  have H1B := shB H0B hb1
  have H1R : Hid (RowD w1 p len x.ds) := HROW.out.below hb1
  have hs2 : w.heap.size + 1 < w1.heap.size := Nat.lt_of_lt_of_le hs1 hb1.size
  clear hb1 HAM HROW H0d H0r H0B hs1
  by_cases h1 : 0 ≤ m ∧ m ≤ 2399
  ·rw [decide_eq_true h1] at HIM
   go_wp2_with fail
   refine (HIM.out _).mono ?_
   rintro e w2 ⟨rfl, hw2⟩
   subst hw2
   clear HIM
   have c3 : w2.cell? ⟨w.heap.size, 3, none⟩ = some (.int .i64 x.mo) := H1d.out.cell 3
   have c6 : w2.cell? ⟨w.heap.size, 6, none⟩ = some (.slice p len cap) := H1d.out.cell 6
   by_cases h2 : m < x.mo
   ·have hd2 : decide (m < x.mo) = true := decide_eq_true h2
    have HER : Hid (RollIs x m ac0 23) := .inr (.inl ⟨HM.out, fun hh => by have := hh.2; omega, .inr ⟨h1, h2, rfl⟩, rfl⟩)
    clear h1 h2 hmo hdm
    go_wp2_with (first | (refine zql rfl rfl rfl rfl zqu59 (by simp [Value.oneCell']) H1r rfl ?_) | fail)
    intro WF hU
    have H9r : Hid (Blk WF (w.heap.size + 1) #[.int .i64 0, .int .i64 0, .int .i64 0, .int .i64 0, .int .i64 0, .int .i64 0, .slice none 0 0] 59) := hU.blk
    have H9B := shV hU H1B (by omega)
    clear hU
    obtain ⟨Rr0, Rr1, Rr2, Rr3, Rr4, Rr5, Rr6⟩ := shc7 H9r
    go_wp2_with fail
    exact bodyPost_ret (v := .tuple #[.agg #[.int .i64 0, .int .i64 0, .int .i64 0, .int .i64 0, .int .i64 0, .int .i64 0, .slice none 0 0], .int .i64 23]) (by simp [results, Tryz.results80, Rr0.out, Rr1.out, Rr2.out, Rr3.out, Rr4.out, Rr5.out, Rr6.out, go_sem]) rfl ⟨ac0, none, 0, 0, _, rfl, HER.out, deb.fresh_nil _ _, H9B.out⟩
   ·have hd2 : decide (m < x.mo) = false := decide_eq_false h2
    have HCP : Hid (Calls Tryz.prog 48 #[.agg #[.int .i64 x.me, .int .i64 x.rv, .int .i64 x.nx, .int .i64 x.mo, .int .i64 x.bo, .int .i64 x.fr, .slice p len cap]] w2 fun e w' => ∃ p' cap', e = .returned (Ac.v x p' len cap') ∧ deb.Fresh w' w2.heap.size p' len cap' x.ds ∧ Below w2.heap.size w2 w') := rcopy x p len cap w2 H1R.out hdm
    have HRM : Hid (RMay x m) := ⟨h1, by omega⟩
    go_wp2_with (first | (refine zqw rfl rfl rfl H1d zqu59 ?_) | fail)
    refine HCP.out.mono ?_
    rintro e w3 ⟨p3, cap3, rfl, hf3, hb3⟩
    unfold Ac.v Ac.cs
    have H3d := shN H1d hb3
    have H3r := shN H1r hb3
    have H3B := shB H1B hb3
    have H3R : Hid (RowD w3 p len x.ds) := H1R.out.below hb3
    have H3F : Hid (deb.Fresh w3 w2.heap.size p3 len cap3 x.ds) := hf3
    have hs3 : w2.heap.size ≤ w3.heap.size := hb3.size
    have hs4 : w3.heap.size < (w3.alloc (.cells #[.int .i64 x.me, .int .i64 x.rv, .int .i64 x.nx, .int .i64 x.mo, .int .i64 x.bo, .int .i64 x.fr, .slice p3 len cap3] 59)).heap.size := (Blk.new w3 #[.int .i64 x.me, .int .i64 x.rv, .int .i64 x.nx, .int .i64 x.mo, .int .i64 x.bo, .int .i64 x.fr, .slice p3 len cap3] 59).lt
    have H4o : Hid (Blk (w3.alloc (.cells #[.int .i64 x.me, .int .i64 x.rv, .int .i64 x.nx, .int .i64 x.mo, .int .i64 x.bo, .int .i64 x.fr, .slice p3 len cap3] 59)) w3.heap.size #[.int .i64 x.me, .int .i64 x.rv, .int .i64 x.nx, .int .i64 x.mo, .int .i64 x.bo, .int .i64 x.fr, .slice p3 len cap3] 59) := Blk.new w3 _ _
    have H4d : Hid (Blk (w3.alloc (.cells #[.int .i64 x.me, .int .i64 x.rv, .int .i64 x.nx, .int .i64 x.mo, .int .i64 x.bo, .int .i64 x.fr, .slice p3 len cap3] 59)) w.heap.size #[.int .i64 x.me, .int .i64 x.rv, .int .i64 x.nx, .int .i64 x.mo, .int .i64 x.bo, .int .i64 x.fr, .slice p len cap] 59) := H3d.out.alloc _
    have H4r : Hid (Blk (w3.alloc (.cells #[.int .i64 x.me, .int .i64 x.rv, .int .i64 x.nx, .int .i64 x.mo, .int .i64 x.bo, .int .i64 x.fr, .slice p3 len cap3] 59)) (w.heap.size + 1) #[.int .i64 0, .int .i64 0, .int .i64 0, .int .i64 0, .int .i64 0, .int .i64 0, .slice none 0 0] 59) := H3r.out.alloc _
    have H4B : Hid (Below w.heap.size w (w3.alloc (.cells #[.int .i64 x.me, .int .i64 x.rv, .int .i64 x.nx, .int .i64 x.mo, .int .i64 x.bo, .int .i64 x.fr, .slice p3 len cap3] 59))) := H3B.out.alloc H3B.out.size _
    have H4R : Hid (RowD (w3.alloc (.cells #[.int .i64 x.me, .int .i64 x.rv, .int .i64 x.nx, .int .i64 x.mo, .int .i64 x.bo, .int .i64 x.fr, .slice p3 len cap3] 59)) p len x.ds) := H3R.out.below ((Below.refl w3.heap.size w3).alloc (Nat.le_refl _) _)
    have H4F : Hid (deb.Fresh (w3.alloc (.cells #[.int .i64 x.me, .int .i64 x.rv, .int .i64 x.nx, .int .i64 x.mo, .int .i64 x.bo, .int .i64 x.fr, .slice p3 len cap3] 59)) w2.heap.size p3 len cap3 x.ds) := H3F.out.below ((Below.refl w3.heap.size w3).alloc (Nat.le_refl _) _)
    clear hf3 hb3 HCP H3d H3r H3B H3R H3F H1d H1r H1B H1R c3 c6
    by_cases h3 : m = x.mo
    ·have hd3 : (m == x.mo) = true := by simpa using h3
     have HRL : Hid (RollIs x m x 0) := .inr (.inr ⟨HM.out, HRM.out, by unfold rolled; rw [if_pos h3], rfl⟩)
     have c3 : (w3.alloc (.cells #[.int .i64 x.me, .int .i64 x.rv, .int .i64 x.nx, .int .i64 x.mo, .int .i64 x.bo, .int .i64 x.fr, .slice p3 len cap3] 59)).cell? ⟨w.heap.size, 3, none⟩ = some (.int .i64 x.mo) := H4d.out.cell 3
     clear h3 h1 h2 hmo hdm
     go_upto_region 8 with fail
     generalize (w3.alloc (.cells #[.int .i64 x.me, .int .i64 x.rv, .int .i64 x.nx, .int .i64 x.mo, .int .i64 x.bo, .int .i64 x.fr, .slice p3 len cap3] 59)) = W4 at *
     go_wp2_with (first | (refine zqw rfl rfl rfl H4o zqu59 ?_) | (refine zql rfl rfl rfl rfl zqu59 (by simp [Value.oneCell']) H4r rfl ?_) | fail)
     intro WF hU
     have H9r : Hid (Blk WF (w.heap.size + 1) #[.int .i64 x.me, .int .i64 x.rv, .int .i64 x.nx, .int .i64 x.mo, .int .i64 x.bo, .int .i64 x.fr, .slice p3 len cap3] 59) := hU.blk
     have H9B := shV hU H4B (by omega)
     have H9F : Hid (deb.Fresh WF w.heap.size p3 len cap3 x.ds) := (fresh_upd H4F.out hU (by omega)).low (by omega)
     clear hU
     have Rr0 : Hid (WF.cell? ⟨w.heap.size + 1, 0, none⟩ = some (.int .i64 x.me)) := H9r.out.cell 0
     have Rr1 : Hid (WF.cell? ⟨w.heap.size + 1, 1, none⟩ = some (.int .i64 x.rv)) := H9r.out.cell 1
     have Rr2 : Hid (WF.cell? ⟨w.heap.size + 1, 2, none⟩ = some (.int .i64 x.nx)) := H9r.out.cell 2
     have Rr3 : Hid (WF.cell? ⟨w.heap.size + 1, 3, none⟩ = some (.int .i64 x.mo)) := H9r.out.cell 3
     have Rr4 : Hid (WF.cell? ⟨w.heap.size + 1, 4, none⟩ = some (.int .i64 x.bo)) := H9r.out.cell 4
     have Rr5 : Hid (WF.cell? ⟨w.heap.size + 1, 5, none⟩ = some (.int .i64 x.fr)) := H9r.out.cell 5
     have Rr6 : Hid (WF.cell? ⟨w.heap.size + 1, 6, none⟩ = some (.slice p3 len cap3)) := H9r.out.cell 6
     go_wp2_with fail
     exact bodyPost_ret (v := .tuple #[.agg #[.int .i64 x.me, .int .i64 x.rv, .int .i64 x.nx, .int .i64 x.mo, .int .i64 x.bo, .int .i64 x.fr, .slice p3 len cap3], .int .i64 0]) (by simp [results, Tryz.results80, Rr0.out, Rr1.out, Rr2.out, Rr3.out, Rr4.out, Rr5.out, Rr6.out, go_sem]) rfl ⟨x, p3, len, cap3, _, rfl, HRL.out, H9F.out, H9B.out⟩
    ·have hd3 : (m == x.mo) = false := by simpa using h3
     have hmt : ((m - x.mo).toNat : Int) = m - x.mo := by omega
     have HRL : Hid (rolled x m = ⟨x.me, x.rv, x.nx, m, 0, x.fr, deb.ageAll x.ds (m - x.mo).toNat⟩) := by show _ = _; unfold rolled; rw [if_neg h3]
     have HAG : Hid (Calls Tryz.prog 93 #[.slice p len cap, .int .i64 (m - x.mo)] (w3.alloc (.cells #[.int .i64 x.me, .int .i64 x.rv, .int .i64 x.nx, .int .i64 x.mo, .int .i64 x.bo, .int .i64 x.fr, .slice p3 len cap3] 59)) fun e w' => deb.AgePost (w3.alloc (.cells #[.int .i64 x.me, .int .i64 x.rv, .int .i64 x.nx, .int .i64 x.mo, .int .i64 x.bo, .int .i64 x.fr, .slice p3 len cap3] 59)) x.ds (m - x.mo) e w') := deb.rages p len cap x.ds (m - x.mo) _ H4R.out hl
     have hmr : 0 ≤ m - x.mo ∧ m - x.mo ≤ 2400 := by omega
     have HDM : Hid (deb.Mays x.ds) := hdm
     have HMR : Hid (0 ≤ m - x.mo ∧ m - x.mo ≤ 2400) := hmr
     have c3 : (w3.alloc (.cells #[.int .i64 x.me, .int .i64 x.rv, .int .i64 x.nx, .int .i64 x.mo, .int .i64 x.bo, .int .i64 x.fr, .slice p3 len cap3] 59)).cell? ⟨w.heap.size, 3, none⟩ = some (.int .i64 x.mo) := H4d.out.cell 3
     have c6 : (w3.alloc (.cells #[.int .i64 x.me, .int .i64 x.rv, .int .i64 x.nx, .int .i64 x.mo, .int .i64 x.bo, .int .i64 x.fr, .slice p3 len cap3] 59)).cell? ⟨w.heap.size, 6, none⟩ = some (.slice p len cap) := H4d.out.cell 6
     clear h3 hdm hmr hmt
     go_upto_region 8 with fail
     generalize (w3.alloc (.cells #[.int .i64 x.me, .int .i64 x.rv, .int .i64 x.nx, .int .i64 x.mo, .int .i64 x.bo, .int .i64 x.fr, .slice p3 len cap3] 59)) = W4 at *
     go_wp2_with fail
     refine HAG.out.mono ?_
     rintro e w5 ⟨p5, n5, c5, z5, f5, rfl, hi5, hf5, hb5⟩
     obtain ⟨rfl, rfl⟩ := hi5.got HDM.out HMR.out
     have H5o := shN H4o hb5
     have H5r := shN H4r hb5
     have H5B := shB H4B hb5
     have H5F : Hid (deb.Fresh w5 W4.heap.size p5 n5 c5 (deb.ageAll x.ds (m - x.mo).toNat)) := hf5
     clear hi5 hf5 hb5 HAG H4o H4d H4r H4B H4R H4F c3 c6
     go_wp2_with (first | (refine wp_letS rfl 57 _ _ rfl (w3.heap.size) 6 rfl p5 n5 c5 rfl (by kernel_rfl) #[.int .i64 x.me, .int .i64 x.rv, .int .i64 x.nx, .int .i64 x.mo, .int .i64 x.bo, .int .i64 x.fr, .slice p3 len cap3] 59 H5o.out (by simp) ?_) | fail)
     intro W6 hU
     have H6o : Hid (Blk W6 w3.heap.size #[.int .i64 x.me, .int .i64 x.rv, .int .i64 x.nx, .int .i64 x.mo, .int .i64 x.bo, .int .i64 x.fr, .slice p5 n5 c5] 59) := hU.blk
     have H6r := shK hU H5r (by omega)
     have H6B := shV hU H5B (by omega)
     have H6F : Hid (deb.Fresh W6 W4.heap.size p5 n5 c5 (deb.ageAll x.ds (m - x.mo).toNat)) := fresh_upd H5F.out hU (by omega)
     clear hU H5o H5r H5B H5F
     go_wp2_with (first | (refine wp_let1 rfl 3 _ _ rfl (w3.heap.size) 3 rfl .i64 m rfl (by kernel_rfl) #[.int .i64 x.me, .int .i64 x.rv, .int .i64 x.nx, .int .i64 x.mo, .int .i64 x.bo, .int .i64 x.fr, .slice p5 n5 c5] 59 H6o.out (by simp) ?_) | fail)
     intro W7 hU
     have H7o : Hid (Blk W7 w3.heap.size #[.int .i64 x.me, .int .i64 x.rv, .int .i64 x.nx, .int .i64 m, .int .i64 x.bo, .int .i64 x.fr, .slice p5 n5 c5] 59) := hU.blk
     have H7r := shK hU H6r (by omega)
     have H7B := shV hU H6B (by omega)
     have H7F : Hid (deb.Fresh W7 W4.heap.size p5 n5 c5 (deb.ageAll x.ds (m - x.mo).toNat)) := fresh_upd H6F.out hU (by omega)
     clear hU H6o H6r H6B H6F
     go_wp2_with (first | (refine wp_let1 rfl 3 _ _ rfl (w3.heap.size) 4 rfl .i64 0 rfl (by kernel_rfl) #[.int .i64 x.me, .int .i64 x.rv, .int .i64 x.nx, .int .i64 m, .int .i64 x.bo, .int .i64 x.fr, .slice p5 n5 c5] 59 H7o.out (by simp) ?_) | fail)
     intro W8 hU
     have H8o : Hid (Blk W8 w3.heap.size #[.int .i64 x.me, .int .i64 x.rv, .int .i64 x.nx, .int .i64 m, .int .i64 0, .int .i64 x.fr, .slice p5 n5 c5] 59) := hU.blk
     have H8r := shK hU H7r (by omega)
     have H8B := shV hU H7B (by omega)
     have H8F : Hid (deb.Fresh W8 W4.heap.size p5 n5 c5 (deb.ageAll x.ds (m - x.mo).toNat)) := fresh_upd H7F.out hU (by omega)
     clear hU H7o H7r H7B H7F
     go_wp2_with (first | (refine zqw rfl rfl rfl H8o zqu59 ?_) | (refine zql rfl rfl rfl rfl zqu59 (by simp [Value.oneCell']) H8r rfl ?_) | fail)
     intro WF hU
     have H9r : Hid (Blk WF (w.heap.size + 1) #[.int .i64 x.me, .int .i64 x.rv, .int .i64 x.nx, .int .i64 m, .int .i64 0, .int .i64 x.fr, .slice p5 n5 c5] 59) := hU.blk
     have H9B := shV hU H8B (by omega)
     have H9F : Hid (deb.Fresh WF w.heap.size p5 n5 c5 (deb.ageAll x.ds (m - x.mo).toNat)) := (fresh_upd H8F.out hU (by omega)).low (by omega)
     clear hU
     have Rr0 : Hid (WF.cell? ⟨w.heap.size + 1, 0, none⟩ = some (.int .i64 x.me)) := H9r.out.cell 0
     have Rr1 : Hid (WF.cell? ⟨w.heap.size + 1, 1, none⟩ = some (.int .i64 x.rv)) := H9r.out.cell 1
     have Rr2 : Hid (WF.cell? ⟨w.heap.size + 1, 2, none⟩ = some (.int .i64 x.nx)) := H9r.out.cell 2
     have Rr3 : Hid (WF.cell? ⟨w.heap.size + 1, 3, none⟩ = some (.int .i64 m)) := H9r.out.cell 3
     have Rr4 : Hid (WF.cell? ⟨w.heap.size + 1, 4, none⟩ = some (.int .i64 0)) := H9r.out.cell 4
     have Rr5 : Hid (WF.cell? ⟨w.heap.size + 1, 5, none⟩ = some (.int .i64 x.fr)) := H9r.out.cell 5
     have Rr6 : Hid (WF.cell? ⟨w.heap.size + 1, 6, none⟩ = some (.slice p5 n5 c5)) := H9r.out.cell 6
     go_wp2_with fail
     exact bodyPost_ret (v := .tuple #[.agg #[.int .i64 x.me, .int .i64 x.rv, .int .i64 x.nx, .int .i64 m, .int .i64 0, .int .i64 x.fr, .slice p5 n5 c5], .int .i64 0]) (by simp [results, Tryz.results80, Rr0.out, Rr1.out, Rr2.out, Rr3.out, Rr4.out, Rr5.out, Rr6.out, go_sem]) rfl ⟨⟨x.me, x.rv, x.nx, m, 0, x.fr, deb.ageAll x.ds (m - x.mo).toNat⟩, p5, n5, c5, _, rfl, .inr (.inr ⟨HM.out, HRM.out, HRL.out.symm, rfl⟩), H9F.out, H9B.out⟩
  ·rw [decide_eq_false h1] at HIM
   have HER : Hid (RollIs x m ac0 2) := .inr (.inl ⟨HM.out, fun hh => h1 hh.1, .inl ⟨h1, rfl⟩, rfl⟩)
   clear h1 hmo hdm
   go_wp2_with fail
   refine (HIM.out _).mono ?_
   rintro e w2 ⟨rfl, hw2⟩
   subst hw2
   go_wp2_with (first | (refine zql rfl rfl rfl rfl zqu59 (by simp [Value.oneCell']) H1r rfl ?_) | fail)
   intro WF hU
   have H9r : Hid (Blk WF (w.heap.size + 1) #[.int .i64 0, .int .i64 0, .int .i64 0, .int .i64 0, .int .i64 0, .int .i64 0, .slice none 0 0] 59) := hU.blk
   have H9B := shV hU H1B (by omega)
   clear hU
   obtain ⟨Rr0, Rr1, Rr2, Rr3, Rr4, Rr5, Rr6⟩ := shc7 H9r
   go_wp2_with fail
   exact bodyPost_ret (v := .tuple #[.agg #[.int .i64 0, .int .i64 0, .int .i64 0, .int .i64 0, .int .i64 0, .int .i64 0, .slice none 0 0], .int .i64 2]) (by simp [results, Tryz.results80, Rr0.out, Rr1.out, Rr2.out, Rr3.out, Rr4.out, Rr5.out, Rr6.out, go_sem]) rfl ⟨ac0, none, 0, 0, _, rfl, HER.out, deb.fresh_nil _ _, H9B.out⟩
 ·skip
  have HAM : Hid (Calls Tryz.prog 47 #[.agg #[.int .i64 x.me, .int .i64 x.rv, .int .i64 x.nx, .int .i64 x.mo, .int .i64 x.bo, .int .i64 x.fr, .slice p len cap]] ((w.alloc (.cells #[.int .i64 x.me, .int .i64 x.rv, .int .i64 x.nx, .int .i64 x.mo, .int .i64 x.bo, .int .i64 x.fr, .slice p len cap] 59)).alloc (.cells #[.int .i64 0, .int .i64 0, .int .i64 0, .int .i64 0, .int .i64 0, .int .i64 0, .slice none 0 0] 59)) fun e w' => e = .returned (.bool false) ∧ Below ((w.alloc (.cells #[.int .i64 x.me, .int .i64 x.rv, .int .i64 x.nx, .int .i64 x.mo, .int .i64 x.bo, .int .i64 x.fr, .slice p len cap] 59)).alloc (.cells #[.int .i64 0, .int .i64 0, .int .i64 0, .int .i64 0, .int .i64 0, .int .i64 0, .slice none 0 0] 59)).heap.size ((w.alloc (.cells #[.int .i64 x.me, .int .i64 x.rv, .int .i64 x.nx, .int .i64 x.mo, .int .i64 x.bo, .int .i64 x.fr, .slice p len cap] 59)).alloc (.cells #[.int .i64 0, .int .i64 0, .int .i64 0, .int .i64 0, .int .i64 0, .int .i64 0, .slice none 0 0] 59)) w') := ranot x p len cap _ HROW.out hl hm
  have HM : Hid (¬ AMay x) := hm
  clear h hm
  generalize hWW : ((w.alloc (.cells #[.int .i64 x.me, .int .i64 x.rv, .int .i64 x.nx, .int .i64 x.mo, .int .i64 x.bo, .int .i64 x.fr, .slice p len cap] 59)).alloc (.cells #[.int .i64 0, .int .i64 0, .int .i64 0, .int .i64 0, .int .i64 0, .int .i64 0, .slice none 0 0] 59)) = W2 at *
  have HWW : Hid (((w.alloc (.cells #[.int .i64 x.me, .int .i64 x.rv, .int .i64 x.nx, .int .i64 x.mo, .int .i64 x.bo, .int .i64 x.fr, .slice p len cap] 59)).alloc (.cells #[.int .i64 0, .int .i64 0, .int .i64 0, .int .i64 0, .int .i64 0, .int .i64 0, .slice none 0 0] 59)) = W2) := hWW
  clear hWW
  go_enter Tryz.func80, Tryz.ntmps80
  go_upto_region 1 with fail
  rw [HWW.out]
  clear HWW
  go_wp2_with (first | (refine zqw rfl rfl rfl H0d zqu59 ?_) | fail)
  refine HAM.out.mono ?_
  rintro e w1 ⟨rfl, hb1⟩
  have H1d : Hid (Blk w1 w.heap.size #[.int .i64 x.me, .int .i64 x.rv, .int .i64 x.nx, .int .i64 x.mo, .int .i64 x.bo, .int .i64 x.fr, .slice p len cap] 59) := H0d.out.below hb1 (by omega)
  have H1r : Hid (Blk w1 (w.heap.size + 1) #[.int .i64 0, .int .i64 0, .int .i64 0, .int .i64 0, .int .i64 0, .int .i64 0, .slice none 0 0] 59) := H0r.out.below hb1 (by omega)
  have H1B := shB H0B hb1
  have H1R : Hid (RowD w1 p len x.ds) := HROW.out.below hb1
  have hs2 : w.heap.size + 1 < w1.heap.size := Nat.lt_of_lt_of_le hs1 hb1.size
  clear hb1 HAM HROW H0d H0r H0B hs1
  go_wp2_with (first | (refine zql rfl rfl rfl rfl zqu59 (by simp [Value.oneCell']) H1r rfl ?_) | fail)
  intro WF hU
  have H9r : Hid (Blk WF (w.heap.size + 1) #[.int .i64 0, .int .i64 0, .int .i64 0, .int .i64 0, .int .i64 0, .int .i64 0, .slice none 0 0] 59) := hU.blk
  have H9B := shV hU H1B (by omega)
  clear hU
  obtain ⟨Rr0, Rr1, Rr2, Rr3, Rr4, Rr5, Rr6⟩ := shc7 H9r
  go_wp2_with fail
  exact bodyPost_ret (v := .tuple #[.agg #[.int .i64 0, .int .i64 0, .int .i64 0, .int .i64 0, .int .i64 0, .int .i64 0, .slice none 0 0], .int .i64 5]) (by simp [results, Tryz.results80, Rr0.out, Rr1.out, Rr2.out, Rr3.out, Rr4.out, Rr5.out, Rr6.out, go_sem]) rfl ⟨ac0, none, 0, 0, _, rfl, .inl ⟨HM.out, rfl, rfl⟩, deb.fresh_nil _ _, H9B.out⟩
theorem wp_copyD {P : Program} {T S : TypeId} (hP : PairT P T S) {w : World} {ops : Array Oper} {rest : List Oper} {o : Oper} {a : Act} {Q : Exit → Act → World → Prop} (hgd : o.guard = none) (s x : Operand)
  (ho : o.op = .call { callee := .builtin .append, args := #[s, x], argTypes := #[S, S] })
  (base : Nat) (p : Option Addr) (len cap : Nat) (zs : List Du) (hs : a.eval s = .slice none 0 0) (hx : a.eval x = .slice p len cap) (hc : Came w p len cap zs) (hbase : base ≤ w.heap.size)
  (h : ∀ v' w', Ld T w' base v' zs → w.grownBy w' none → wpList P ops Q rest (a.put o.dst v') w') : wpList P ops Q (o :: rest) a w := by
 cases p with
 | some A => exact tar.wp_pairs hP hgd s x ho base A len cap zs hs hx hc.row hc.bytes hbase h
 | none =>
  have h0 := hc.nil rfl
  have h1 : len = 0 := by have := hc.room; omega
  have h2 : zs = [] := List.eq_nil_of_length_eq_zero (by have := hc.row.1; omega)
  subst h0 h1 h2
  have hu := hP.under
  have hi0 := hP.info
  cases hq : P.info? T with
  | none => rw [hq] at hi0; cases hi0
  | some i =>
   refine wpList_append_own_none hgd s x S ho base T i 2 hu hq (.slice none 0 0) 0 [] hs (World.ownsRow_nil _ _ _ _) hx ?_
   exact h _ _ (tar.Ld.zero _ _ _) ⟨rfl, rfl, rfl, Nat.le_refl _, fun _ _ _ => rfl⟩
set_option maxHeartbeats 4000000 in
theorem pwork (F : Nat) (caps : Array Value) (Is : Ac → Bi → Int → Prop) (x : Ac) (p : Option Addr) (len cap : Nat) (w : World) (hc : Came w p len cap x.ds) (h5 : ¬ AMay x → Is ac0 bi0 5) (hK : ∀ args w, (callFunc F args).run Tryz.prog w = .ok (.enter F args) w)
  (hf : AMay x → ∀ (W : World) (g : Nat) (p' : Option Addr) (cap' : Nat), Below w.heap.size w W → w.heap.size ≤ g → Blk W g (wcs x bi0 p' len cap') 121 → Ld 43 W (g + 1) (.slice p' len cap') x.ds → Calls Tryz.prog F (#[.pointer (some ⟨g, 0, none⟩)] ++ caps) W fun e w' => WPost W g (Or0 Is) e w') :
  Calls Tryz.prog 44 #[.agg #[.int .i64 x.me, .int .i64 x.rv, .int .i64 x.nx, .int .i64 x.mo, .int .i64 x.bo, .int .i64 x.fr, .slice p len cap], .func (.func F) #[] caps] w fun e w' => BPost w Is e w' := by
 have HFU : Hid (AMay x → ∀ (W : World) (g : Nat) (p' : Option Addr) (cap' : Nat), Below w.heap.size w W → w.heap.size ≤ g → Blk W g (wcs x bi0 p' len cap') 121 → Ld 43 W (g + 1) (.slice p' len cap') x.ds → Calls Tryz.prog F (#[.pointer (some ⟨g, 0, none⟩)] ++ caps) W fun e w' => WPost W g (Or0 Is) e w') := hf
 have HLEN : Hid (x.ds.length = len) := hc.row.1
 have H5 : Hid (¬ AMay x → Is ac0 bi0 5) := h5
 clear hf h5
 obtain ⟨W0, HWW, H0d, H0r, H0l, H0B, hs0⟩ := sh3 w #[.int .i64 x.me, .int .i64 x.rv, .int .i64 x.nx, .int .i64 x.mo, .int .i64 x.bo, .int .i64 x.fr, .slice p len cap] 59 #[.int .i64 0, .int .i64 0, .int .i64 0, .int .i64 0, .int .i64 0, .int .i64 0, .slice none 0 0] 59 #[.int .i64 0, .int .i64 0, .int .i64 0, .int .i64 0, .int .i64 0, .int .i64 0, .int .i64 0] 69
 have H0R : Hid (Came W0 p len cap x.ds) := hc.below H0B.out
 go_enter Tryz.func44, Tryz.ntmps44
 go_upto_region 1 with fail
 rw [HWW.out]
 clear HWW
 clear hc
 have HPM : Hid (Calls Tryz.prog 68 #[.agg #[.int .i64 x.me, .int .i64 x.rv, .int .i64 x.nx, .int .i64 x.mo, .int .i64 x.bo, .int .i64 x.fr, .slice p len cap]] W0 fun e w' => MayPost W0 x e w') := pmay x p len cap W0 H0R.out
 go_wp2_with (first
  | (refine zqw rfl rfl rfl H0d zqu59 ?_)
  | (refine zqw rfl rfl rfl H0r zqu59 ?_)
  | (refine zqw rfl rfl rfl H0l zqu69 ?_)
  | fail)
 refine HPM.out.mono ?_
 rintro e w1 ⟨r, rfl, hr, hb1⟩
 have H1d := shN H0d hb1
 have H1r := shN H0r hb1
 have H1l := shN H0l hb1
 have H1R : Hid (Came w1 p len cap x.ds) := H0R.out.below hb1
 have H1B := shB H0B hb1
 have hsw1 : W0.heap.size ≤ w1.heap.size := hb1.size
 clear hb1 H0d H0r H0l H0R H0B
 clear HPM
 cases r with
 | false =>
  have HV : Hid (Is ac0 bi0 5) := H5.out fun h => Bool.noConfusion (hr.2 h)
  clear hr H5 HFU hK
  go_wp2_with (first
   | (refine zql rfl rfl rfl rfl zqu59 (by simp [Value.oneCell']) H1r rfl ?_)
   | (refine zqw rfl rfl rfl H1d zqu59 ?_)
   | (refine zqw rfl rfl rfl H1r zqu59 ?_)
   | (refine zqw rfl rfl rfl H1l zqu69 ?_)
   | fail)
  intro w1a hU
  have H2d := shK hU H1d (by omega)
  have H2r : Hid (Blk w1a (w.heap.size + 1) #[.int .i64 0, .int .i64 0, .int .i64 0, .int .i64 0, .int .i64 0, .int .i64 0, .slice none 0 0] 59) := hU.blk
  have H2l := shK hU H1l (by omega)
  have H2B := shV hU H1B (by omega)
  have hsw1a : w1a.heap.size = w1.heap.size := hU.size
  clear hU H1d H1r H1l H1R H1B
  go_wp2_with (first
   | (refine zql rfl rfl rfl rfl zqu69 (by simp [Value.oneCell']) H2l rfl ?_)
   | (refine zqw rfl rfl rfl H2d zqu59 ?_)
   | (refine zqw rfl rfl rfl H2r zqu59 ?_)
   | (refine zqw rfl rfl rfl H2l zqu69 ?_)
   | fail)
  intro w1ab hU
  have H3d := shK hU H2d (by omega)
  have H3r := shK hU H2r (by omega)
  have H3l : Hid (Blk w1ab (w.heap.size + 1 + 1) #[.int .i64 0, .int .i64 0, .int .i64 0, .int .i64 0, .int .i64 0, .int .i64 0, .int .i64 0] 69) := hU.blk
  have H3B := shV hU H2B (by omega)
  have hsw1ab : w1ab.heap.size = w1a.heap.size := hU.size
  clear hU H2d H2r H2l H2B
  obtain ⟨Rr0, Rr1, Rr2, Rr3, Rr4, Rr5, Rr6⟩ := shc7 H3r
  obtain ⟨Rl0, Rl1, Rl2, Rl3, Rl4, Rl5, Rl6⟩ := shc7 H3l
  go_wp2_with fail
  exact bodyPost_ret (v := .tuple #[.agg #[.int .i64 0, .int .i64 0, .int .i64 0, .int .i64 0, .int .i64 0, .int .i64 0, .slice none 0 0], .agg #[.int .i64 0, .int .i64 0, .int .i64 0, .int .i64 0, .int .i64 0, .int .i64 0, .int .i64 0], .int .i64 5]) (by simp [results, Tryz.results44, Rr0.out, Rr1.out, Rr2.out, Rr3.out, Rr4.out, Rr5.out, Rr6.out, Rl0.out, Rl1.out, Rl2.out, Rl3.out, Rl4.out, Rl5.out, Rl6.out, go_sem]) rfl ⟨ac0, bi0, none, 0, 0, _, rfl, HV.out, deb.fresh_nil _ _, H3B.out⟩
 | true =>
  have HM : Hid (AMay x) := hr.1 rfl
  clear hr H5
  have HSV : Hid (Blk w1 (w.heap.size) #[.int .i64 x.me, .int .i64 x.rv, .int .i64 x.nx, .int .i64 x.mo, .int .i64 x.bo, .int .i64 x.fr, .slice p len cap] 59) := H1d.out
  have H2d : Hid (Blk (w1.alloc (.cells #[.int .i64 x.me, .int .i64 x.rv, .int .i64 x.nx, .int .i64 x.mo, .int .i64 x.bo, .int .i64 x.fr, .slice p len cap, .int .i64 0, .int .i64 0, .int .i64 0, .int .i64 0, .int .i64 0, .int .i64 0, .int .i64 0] 121)) (w.heap.size) #[.int .i64 x.me, .int .i64 x.rv, .int .i64 x.nx, .int .i64 x.mo, .int .i64 x.bo, .int .i64 x.fr, .slice p len cap] 59) := H1d.out.alloc _
  have H2r : Hid (Blk (w1.alloc (.cells #[.int .i64 x.me, .int .i64 x.rv, .int .i64 x.nx, .int .i64 x.mo, .int .i64 x.bo, .int .i64 x.fr, .slice p len cap, .int .i64 0, .int .i64 0, .int .i64 0, .int .i64 0, .int .i64 0, .int .i64 0, .int .i64 0] 121)) (w.heap.size + 1) #[.int .i64 0, .int .i64 0, .int .i64 0, .int .i64 0, .int .i64 0, .int .i64 0, .slice none 0 0] 59) := H1r.out.alloc _
  have H2l : Hid (Blk (w1.alloc (.cells #[.int .i64 x.me, .int .i64 x.rv, .int .i64 x.nx, .int .i64 x.mo, .int .i64 x.bo, .int .i64 x.fr, .slice p len cap, .int .i64 0, .int .i64 0, .int .i64 0, .int .i64 0, .int .i64 0, .int .i64 0, .int .i64 0] 121)) (w.heap.size + 1 + 1) #[.int .i64 0, .int .i64 0, .int .i64 0, .int .i64 0, .int .i64 0, .int .i64 0, .int .i64 0] 69) := H1l.out.alloc _
  have H2R : Hid (Came (w1.alloc (.cells #[.int .i64 x.me, .int .i64 x.rv, .int .i64 x.nx, .int .i64 x.mo, .int .i64 x.bo, .int .i64 x.fr, .slice p len cap, .int .i64 0, .int .i64 0, .int .i64 0, .int .i64 0, .int .i64 0, .int .i64 0, .int .i64 0] 121)) p len cap x.ds) := H1R.out.below ((Below.refl _ _).alloc (Nat.le_refl _) _)
  have H2n : Hid (Blk (w1.alloc (.cells #[.int .i64 x.me, .int .i64 x.rv, .int .i64 x.nx, .int .i64 x.mo, .int .i64 x.bo, .int .i64 x.fr, .slice p len cap, .int .i64 0, .int .i64 0, .int .i64 0, .int .i64 0, .int .i64 0, .int .i64 0, .int .i64 0] 121)) (w1.heap.size) #[.int .i64 x.me, .int .i64 x.rv, .int .i64 x.nx, .int .i64 x.mo, .int .i64 x.bo, .int .i64 x.fr, .slice p len cap, .int .i64 0, .int .i64 0, .int .i64 0, .int .i64 0, .int .i64 0, .int .i64 0, .int .i64 0] 121) := Blk.new w1 _ _
  have H2B : Hid (Below w.heap.size w (w1.alloc (.cells #[.int .i64 x.me, .int .i64 x.rv, .int .i64 x.nx, .int .i64 x.mo, .int .i64 x.bo, .int .i64 x.fr, .slice p len cap, .int .i64 0, .int .i64 0, .int .i64 0, .int .i64 0, .int .i64 0, .int .i64 0, .int .i64 0] 121))) := H1B.out.alloc H1B.out.size _
  have hsW2 : (w1.alloc (.cells #[.int .i64 x.me, .int .i64 x.rv, .int .i64 x.nx, .int .i64 x.mo, .int .i64 x.bo, .int .i64 x.fr, .slice p len cap, .int .i64 0, .int .i64 0, .int .i64 0, .int .i64 0, .int .i64 0, .int .i64 0, .int .i64 0] 121)).heap.size = w1.heap.size + 1 := by simp
  clear H1d H1r H1l H1R H1B
  go_upto_region 4 with (first | (refine zqw rfl rfl rfl HSV zqu59 ?_) | fail)
  generalize (w1.alloc (.cells #[.int .i64 x.me, .int .i64 x.rv, .int .i64 x.nx, .int .i64 x.mo, .int .i64 x.bo, .int .i64 x.fr, .slice p len cap, .int .i64 0, .int .i64 0, .int .i64 0, .int .i64 0, .int .i64 0, .int .i64 0, .int .i64 0] 121)) = W2 at *
  clear HSV
  have qd6 : W2.cell? ⟨w.heap.size, 6, none⟩ = some (.slice p len cap) := H2d.out.cell 6
  go_wp2_with (first
   | (at_builtin; refine wp_copyD deb.debtT rfl _ _ rfl (w1.heap.size + 1) p len cap x.ds rfl rfl H2R.out (by omega) ?_)
   | (refine zqw rfl rfl rfl H2d zqu59 ?_)
   | (refine zqw rfl rfl rfl H2r zqu59 ?_)
   | (refine zqw rfl rfl rfl H2l zqu69 ?_)
   | (refine zqw rfl rfl rfl H2n zqu121 ?_)
   | fail)
  intro v3 w3 hl3 hg3
  have hb3 : Below W2.heap.size W2 w3 := (Below.refl _ _).grown hg3 (Nat.le_refl _) (fun k hk => by cases hk)
  obtain ⟨p3, cap3, hv3, hf3⟩ := deb.ld_fresh hl3 HM.out.1
  rw [HLEN.out] at hv3 hf3
  subst hv3
  have H3d := shN H2d hb3
  have H3r := shN H2r hb3
  have H3l := shN H2l hb3
  have H3n := shN H2n hb3
  have H3B := shB H2B hb3
  have HL3 : Hid (Ld 43 w3 (w1.heap.size + 1) (.slice p3 len cap3) x.ds) := hl3
  have hsw3 : W2.heap.size ≤ w3.heap.size := hb3.size
  clear hl3 hg3 hb3 hf3 qd6 H2d H2r H2l H2n H2B
  go_wp2_with (first
   | (refine wp_letS rfl 57 _ _ rfl (w1.heap.size) 6 rfl p3 len cap3 rfl (by kernel_rfl) #[.int .i64 x.me, .int .i64 x.rv, .int .i64 x.nx, .int .i64 x.mo, .int .i64 x.bo, .int .i64 x.fr, .slice p len cap, .int .i64 0, .int .i64 0, .int .i64 0, .int .i64 0, .int .i64 0, .int .i64 0, .int .i64 0] 121 H3n.out (by simp) ?_)
   | (refine zqw rfl rfl rfl H3d zqu59 ?_)
   | (refine zqw rfl rfl rfl H3r zqu59 ?_)
   | (refine zqw rfl rfl rfl H3l zqu69 ?_)
   | (refine zqw rfl rfl rfl H3n zqu121 ?_)
   | fail)
  intro W4 hU
  have H4d := shK hU H3d (by omega)
  have H4r := shK hU H3r (by omega)
  have H4l := shK hU H3l (by omega)
  have H4n : Hid (Blk W4 (w1.heap.size) #[.int .i64 x.me, .int .i64 x.rv, .int .i64 x.nx, .int .i64 x.mo, .int .i64 x.bo, .int .i64 x.fr, .slice p3 len cap3, .int .i64 0, .int .i64 0, .int .i64 0, .int .i64 0, .int .i64 0, .int .i64 0, .int .i64 0] 121) := hU.blk
  have H4B := shV hU H3B (by omega)
  have HL4 : Hid (Ld 43 W4 (w1.heap.size + 1) (.slice p3 len cap3) x.ds) := ld_upd HL3.out hU (by omega)
  have HCA : Hid (Calls Tryz.prog F (#[.pointer (some ⟨w1.heap.size, 0, none⟩)] ++ caps) W4 fun e w' => WPost W4 w1.heap.size (Or0 Is) e w') := HFU.out HM.out W4 w1.heap.size p3 cap3 H4B.out (by omega) H4n.out HL4.out
  have hsW4 : W4.heap.size = w3.heap.size := hU.size
  clear hU HL3 HL4 HFU H3d H3r H3l H3n H3B
  go_wp2_with fail
  refine HCA.out.mono ?_
  rintro e w5 ⟨y, b, q, n, c, f, rfl, hor, hi5, hf5, hb5⟩
  have H5d : Hid (Blk w5 (w.heap.size) #[.int .i64 x.me, .int .i64 x.rv, .int .i64 x.nx, .int .i64 x.mo, .int .i64 x.bo, .int .i64 x.fr, .slice p len cap] 59) := H4d.out.below hb5 (by omega)
  have H5r : Hid (Blk w5 (w.heap.size + 1) #[.int .i64 0, .int .i64 0, .int .i64 0, .int .i64 0, .int .i64 0, .int .i64 0, .slice none 0 0] 59) := H4r.out.below hb5 (by omega)
  have H5l : Hid (Blk w5 (w.heap.size + 1 + 1) #[.int .i64 0, .int .i64 0, .int .i64 0, .int .i64 0, .int .i64 0, .int .i64 0, .int .i64 0] 69) := H4l.out.below hb5 (by omega)
  have H5n : Hid (Blk w5 (w1.heap.size) #[.int .i64 y.me, .int .i64 y.rv, .int .i64 y.nx, .int .i64 y.mo, .int .i64 y.bo, .int .i64 y.fr, .slice q n c, .int .i64 b.id, .int .i64 b.te, .int .i64 b.de, .int .i64 b.fe, .int .i64 b.pr, .int .i64 b.ch, .int .i64 b.un] 121) := hi5
  have H5B : Hid (Below w.heap.size w w5) := H4B.out.trans (hb5.mono (by omega))
  have hsw5 : W4.heap.size ≤ w5.heap.size := hb5.size
  have H6F : Hid (deb.Fresh w5 (w1.heap.size + 1) q n c y.ds) := hf5
  have HUPF : Hid (0 < n → ∀ y, q = some y → y.block < w5.heap.size) := came_lt H6F.out.came
  have HOR : Hid (Or0 Is y b f) := hor
  clear hor hi5 hf5 hb5 HCA hK H4d H4r H4l H4n H4B
  by_cases h0 : f = 0
  ·subst h0
   have HV : Hid (Is y b 0) := by
    rcases HOR.out with ⟨h, _⟩ | ⟨_, h⟩
    ·exact absurd rfl h
    ·exact h
   clear HOR
   go_wp2_with fail
   refine wp_region_held_drew (S := fun v => Blk v (w1.heap.size) #[.int .i64 y.me, .int .i64 y.rv, .int .i64 y.nx, .int .i64 y.mo, .int .i64 y.bo, .int .i64 y.fr, .slice q n c, .int .i64 b.id, .int .i64 b.te, .int .i64 b.de, .int .i64 b.fe, .int .i64 b.pr, .int .i64 b.ch, .int .i64 b.un] 121) (by kernel_rfl) (Blk.drew H5n.out 1) (fun hHeld => ?_)
   refine zqs 0 28 (.pointer (some ⟨w1.heap.size, 0, none⟩)) rfl rfl (by kernel_rfl) (fun _ _ _ h => h) rfl (fun v hv => by clear hv; go_simp) hHeld ?_
   simp only [Act.put, zqa, zqb, zqc]
   refine zqt 1 29 (.agg #[.int .i64 y.me, .int .i64 y.rv, .int .i64 y.nx, .int .i64 y.mo, .int .i64 y.bo, .int .i64 y.fr, .slice q n c]) rfl rfl (by kernel_rfl) (fun _ _ _ h => h) (Or.inl ⟨by rfl, fun v hv => by have g0 := hv.cell 0; have g1 := hv.cell 1; have g2 := hv.cell 2; have g3 := hv.cell 3; have g4 := hv.cell 4; have g5 := hv.cell 5; have g6 := hv.cell 6; clear hv; go_simp⟩) hHeld ?_
   simp only [Act.put, zqa, zqb, zqc]
   refine zqs 2 30 (.pointer (some ⟨w1.heap.size, 7, none⟩)) rfl rfl (by kernel_rfl) (fun _ _ _ h => h) rfl (fun v hv => by clear hv; go_simp) hHeld ?_
   simp only [Act.put, zqa, zqb, zqc]
   refine zqt 3 31 (.agg #[.int .i64 b.id, .int .i64 b.te, .int .i64 b.de, .int .i64 b.fe, .int .i64 b.pr, .int .i64 b.ch, .int .i64 b.un]) rfl rfl (by kernel_rfl) (fun _ _ _ h => h) (Or.inl ⟨by rfl, fun v hv => by have g0 := hv.cell 7; have g1 := hv.cell 8; have g2 := hv.cell 9; have g3 := hv.cell 10; have g4 := hv.cell 11; have g5 := hv.cell 12; have g6 := hv.cell 13; clear hv; go_simp⟩) hHeld ?_
   simp only [Act.put, zqa, zqb, zqc]
   refine zqo 4 (by kernel_rfl) rfl (fun K hK => ?_)
   rw [if_pos (by rfl)]
   refine wp_letOp 59 _ _ rfl (w.heap.size + 1) rfl #[.int .i64 y.me, .int .i64 y.rv, .int .i64 y.nx, .int .i64 y.mo, .int .i64 y.bo, .int .i64 y.fr, .slice q n c] rfl (by kernel_rfl) (by simp [Value.oneCell']) #[.int .i64 0, .int .i64 0, .int .i64 0, .int .i64 0, .int .i64 0, .int .i64 0, .slice none 0 0] 59 (Blk.drew H5r.out 1) rfl rfl ?_
   intro V1 hU
   have H7d : Hid (Blk V1 (w.heap.size) #[.int .i64 x.me, .int .i64 x.rv, .int .i64 x.nx, .int .i64 x.mo, .int .i64 x.bo, .int .i64 x.fr, .slice p len cap] 59) := hU.keep (Blk.drew H5d.out 1) (by omega)
   have H7r : Hid (Blk V1 (w.heap.size + 1) #[.int .i64 y.me, .int .i64 y.rv, .int .i64 y.nx, .int .i64 y.mo, .int .i64 y.bo, .int .i64 y.fr, .slice q n c] 59) := hU.blk
   have H7l : Hid (Blk V1 (w.heap.size + 1 + 1) #[.int .i64 0, .int .i64 0, .int .i64 0, .int .i64 0, .int .i64 0, .int .i64 0, .int .i64 0] 69) := hU.keep (Blk.drew H5l.out 1) (by omega)
   have H7n : Hid (Blk V1 (w1.heap.size) #[.int .i64 y.me, .int .i64 y.rv, .int .i64 y.nx, .int .i64 y.mo, .int .i64 y.bo, .int .i64 y.fr, .slice q n c, .int .i64 b.id, .int .i64 b.te, .int .i64 b.de, .int .i64 b.fe, .int .i64 b.pr, .int .i64 b.ch, .int .i64 b.un] 121) := hU.keep (Blk.drew H5n.out 1) (by omega)
   have H7F : Hid (deb.Fresh V1 (w1.heap.size + 1) q n c y.ds) := fresh_updN (fresh_drew H6F.out) hU (fun hn y hy => by have f1 := H6F.out.new hn y hy; have f2 := HUPF.out hn y hy; omega)
   have H7B : Hid (Below w.heap.size w V1) := hU.bel _ _ (by omega) H5B.out.drew
   clear hU H5d H5r H5l H5n H6F H5B
   refine hK.out _ _ H7n.out (fun hHeld => ?_)
   clear hK K
   refine zqo 5 (by kernel_rfl) rfl (fun K hK => ?_)
   rw [if_pos (by rfl)]
   refine wp_letOp 69 _ _ rfl (w.heap.size + 1 + 1) rfl #[.int .i64 b.id, .int .i64 b.te, .int .i64 b.de, .int .i64 b.fe, .int .i64 b.pr, .int .i64 b.ch, .int .i64 b.un] rfl (by kernel_rfl) (by simp [Value.oneCell']) #[.int .i64 0, .int .i64 0, .int .i64 0, .int .i64 0, .int .i64 0, .int .i64 0, .int .i64 0] 69 H7l.out rfl rfl ?_
   intro V2 hU
   have H8d := shK hU H7d (by omega)
   have H8r := shK hU H7r (by omega)
   have H8l : Hid (Blk V2 (w.heap.size + 1 + 1) #[.int .i64 b.id, .int .i64 b.te, .int .i64 b.de, .int .i64 b.fe, .int .i64 b.pr, .int .i64 b.ch, .int .i64 b.un] 69) := hU.blk
   have H8n := shK hU H7n (by omega)
   have H8F : Hid (deb.Fresh V2 (w1.heap.size + 1) q n c y.ds) := fresh_updN H7F.out hU (fun hn y hy => by have f1 := H7F.out.new hn y hy; have f2 := HUPF.out hn y hy; omega)
   have H8B := shV hU H7B (by omega)
   clear hU H7d H7r H7l H7n H7F H7B
   refine hK.out _ _ H8n.out (fun hHeld => ?_)
   clear hK K
   refine zqs 6 6 (.int .i64 0) rfl rfl (by kernel_rfl) (fun _ _ _ h => h) rfl (fun v hv => by clear hv; go_simp) hHeld ?_
   simp only [Act.put, zqa, zqb, zqc]
   refine wpAnyH_done (by kernel_rfl) ?_ _
   clear hHeld
   have Rr0 : Hid (V2.cell? ⟨w.heap.size + 1, 0, none⟩ = some (.int .i64 y.me)) := H8r.out.cell 0
   have Rr1 : Hid (V2.cell? ⟨w.heap.size + 1, 1, none⟩ = some (.int .i64 y.rv)) := H8r.out.cell 1
   have Rr2 : Hid (V2.cell? ⟨w.heap.size + 1, 2, none⟩ = some (.int .i64 y.nx)) := H8r.out.cell 2
   have Rr3 : Hid (V2.cell? ⟨w.heap.size + 1, 3, none⟩ = some (.int .i64 y.mo)) := H8r.out.cell 3
   have Rr4 : Hid (V2.cell? ⟨w.heap.size + 1, 4, none⟩ = some (.int .i64 y.bo)) := H8r.out.cell 4
   have Rr5 : Hid (V2.cell? ⟨w.heap.size + 1, 5, none⟩ = some (.int .i64 y.fr)) := H8r.out.cell 5
   have Rr6 : Hid (V2.cell? ⟨w.heap.size + 1, 6, none⟩ = some (.slice q n c)) := H8r.out.cell 6
   have Rl0 : Hid (V2.cell? ⟨w.heap.size + 1 + 1, 0, none⟩ = some (.int .i64 b.id)) := H8l.out.cell 0
   have Rl1 : Hid (V2.cell? ⟨w.heap.size + 1 + 1, 1, none⟩ = some (.int .i64 b.te)) := H8l.out.cell 1
   have Rl2 : Hid (V2.cell? ⟨w.heap.size + 1 + 1, 2, none⟩ = some (.int .i64 b.de)) := H8l.out.cell 2
   have Rl3 : Hid (V2.cell? ⟨w.heap.size + 1 + 1, 3, none⟩ = some (.int .i64 b.fe)) := H8l.out.cell 3
   have Rl4 : Hid (V2.cell? ⟨w.heap.size + 1 + 1, 4, none⟩ = some (.int .i64 b.pr)) := H8l.out.cell 4
   have Rl5 : Hid (V2.cell? ⟨w.heap.size + 1 + 1, 5, none⟩ = some (.int .i64 b.ch)) := H8l.out.cell 5
   have Rl6 : Hid (V2.cell? ⟨w.heap.size + 1 + 1, 6, none⟩ = some (.int .i64 b.un)) := H8l.out.cell 6
   go_wp2_with fail
   exact bodyPost_ret (v := .tuple #[.agg #[.int .i64 y.me, .int .i64 y.rv, .int .i64 y.nx, .int .i64 y.mo, .int .i64 y.bo, .int .i64 y.fr, .slice q n c], .agg #[.int .i64 b.id, .int .i64 b.te, .int .i64 b.de, .int .i64 b.fe, .int .i64 b.pr, .int .i64 b.ch, .int .i64 b.un], .int .i64 0]) (by simp [results, Tryz.results44, Rr0.out, Rr1.out, Rr2.out, Rr3.out, Rr4.out, Rr5.out, Rr6.out, Rl0.out, Rl1.out, Rl2.out, Rl3.out, Rl4.out, Rl5.out, Rl6.out, go_sem]) rfl ⟨y, b, q, n, c, 0, rfl, HV.out, H8F.out.low (by omega), H8B.out⟩
  ·have d0 : (f != 0) = true := by simpa using h0
   have HV : Hid (Is ac0 bi0 f) := by
    rcases HOR.out with ⟨_, h⟩ | ⟨h, _⟩
    ·exact h
    ·exact absurd h h0
   clear HOR h0
   go_wp2_with (first
    | (refine zql rfl rfl rfl rfl zqu59 (by simp [Value.oneCell']) H5r rfl ?_)
    | (refine zqw rfl rfl rfl H5d zqu59 ?_)
    | (refine zqw rfl rfl rfl H5r zqu59 ?_)
    | (refine zqw rfl rfl rfl H5l zqu69 ?_)
    | (refine zqw rfl rfl rfl H5n zqu121 ?_)
    | fail)
   intro w5a hU
   have H7d := shK hU H5d (by omega)
   have H7r : Hid (Blk w5a (w.heap.size + 1) #[.int .i64 0, .int .i64 0, .int .i64 0, .int .i64 0, .int .i64 0, .int .i64 0, .slice none 0 0] 59) := hU.blk
   have H7l := shK hU H5l (by omega)
   have H7n := shK hU H5n (by omega)
   have H7B := shV hU H5B (by omega)
   have hsw5a : w5a.heap.size = w5.heap.size := hU.size
   clear hU H5d H5r H5l H5n H5B
   go_wp2_with (first
    | (refine zql rfl rfl rfl rfl zqu69 (by simp [Value.oneCell']) H7l rfl ?_)
    | (refine zqw rfl rfl rfl H7d zqu59 ?_)
    | (refine zqw rfl rfl rfl H7r zqu59 ?_)
    | (refine zqw rfl rfl rfl H7l zqu69 ?_)
    | (refine zqw rfl rfl rfl H7n zqu121 ?_)
    | fail)
   intro w5ab hU
   have H8d := shK hU H7d (by omega)
   have H8r := shK hU H7r (by omega)
   have H8l : Hid (Blk w5ab (w.heap.size + 1 + 1) #[.int .i64 0, .int .i64 0, .int .i64 0, .int .i64 0, .int .i64 0, .int .i64 0, .int .i64 0] 69) := hU.blk
   have H8n := shK hU H7n (by omega)
   have H8B := shV hU H7B (by omega)
   have hsw5ab : w5ab.heap.size = w5a.heap.size := hU.size
   clear hU H7d H7r H7l H7n H7B
   obtain ⟨Rr0, Rr1, Rr2, Rr3, Rr4, Rr5, Rr6⟩ := shc7 H8r
   obtain ⟨Rl0, Rl1, Rl2, Rl3, Rl4, Rl5, Rl6⟩ := shc7 H8l
   go_wp2_with fail
   exact bodyPost_ret (v := .tuple #[.agg #[.int .i64 0, .int .i64 0, .int .i64 0, .int .i64 0, .int .i64 0, .int .i64 0, .slice none 0 0], .agg #[.int .i64 0, .int .i64 0, .int .i64 0, .int .i64 0, .int .i64 0, .int .i64 0, .int .i64 0], .int .i64 f]) (by simp [results, Tryz.results44, Rr0.out, Rr1.out, Rr2.out, Rr3.out, Rr4.out, Rr5.out, Rr6.out, Rl0.out, Rl1.out, Rl2.out, Rl3.out, Rl4.out, Rl5.out, Rl6.out, go_sem]) rfl ⟨ac0, bi0, none, 0, 0, _, rfl, HV.out, deb.fresh_nil _ _, H8B.out⟩
end acc
end Go.Proofs.YtomibnggmhjdfaaGreat
