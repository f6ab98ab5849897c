/- An account in a month, as the document has it. -/
import Derived.Test.YtfhlokjpdkmdjaaSh
import Derived.Test.YtfhlokjpdkmdjaaAcCp
import Derived.Test.YtfhlokjpdkmdjaaAcMy
import Derived.Test.YtfhlokjpdkmdjaaDbA
namespace Go.Proofs.Ytfhlokjpdkmdjaa.acc
open Go.Proofs.Ytfhlokjpdkmdjaa.tar (Du du0 Came RowD Ld PairT)
open Go.RowKit
set_option maxRecDepth 100000
set_option linter.unusedVariables false
set_option linter.unusedSimpArgs false

set_option maxHeartbeats 8000000 in
theorem rrolled (x : Ac) (p : Option Addr) (len cap : Nat) (m : Int) (w : World) (h : RowD w p len x.ds) (hl : len ≤ maxLen) : Calls Try.prog 70 #[.agg #[.int .i64 x.me, .int .i64 x.rv, .int .i64 x.nx, .int .i64 x.mo, .int .i64 x.bo, .int .i64 x.fr, .slice p len cap], .int .i64 m] w fun e w' => APost w (RollIs x m) e w' := by
  have H0d : Hid (Blk ((w.alloc (.cells #[.int .i64 x.me, .int .i64 x.rv, .int .i64 x.nx, .int .i64 x.mo, .int .i64 x.bo, .int .i64 x.fr, .slice p len cap] 55)).alloc (.cells #[.int .i64 0, .int .i64 0, .int .i64 0, .int .i64 0, .int .i64 0, .int .i64 0, .slice none 0 0] 55)) w.heap.size #[.int .i64 x.me, .int .i64 x.rv, .int .i64 x.nx, .int .i64 x.mo, .int .i64 x.bo, .int .i64 x.fr, .slice p len cap] 55) := (Blk.new w _ _).alloc _
  have H0r : Hid (Blk ((w.alloc (.cells #[.int .i64 x.me, .int .i64 x.rv, .int .i64 x.nx, .int .i64 x.mo, .int .i64 x.bo, .int .i64 x.fr, .slice p len cap] 55)).alloc (.cells #[.int .i64 0, .int .i64 0, .int .i64 0, .int .i64 0, .int .i64 0, .int .i64 0, .slice none 0 0] 55)) (w.heap.size + 1) #[.int .i64 0, .int .i64 0, .int .i64 0, .int .i64 0, .int .i64 0, .int .i64 0, .slice none 0 0] 55) := Blk.new1 w _ _ _
  have H0B : Hid (Below w.heap.size w ((w.alloc (.cells #[.int .i64 x.me, .int .i64 x.rv, .int .i64 x.nx, .int .i64 x.mo, .int .i64 x.bo, .int .i64 x.fr, .slice p len cap] 55)).alloc (.cells #[.int .i64 0, .int .i64 0, .int .i64 0, .int .i64 0, .int .i64 0, .int .i64 0, .slice none 0 0] 55))) := ((Below.refl w.heap.size w).alloc (by simp) _).alloc (by simp) _
  have HROW : Hid (RowD ((w.alloc (.cells #[.int .i64 x.me, .int .i64 x.rv, .int .i64 x.nx, .int .i64 x.mo, .int .i64 x.bo, .int .i64 x.fr, .slice p len cap] 55)).alloc (.cells #[.int .i64 0, .int .i64 0, .int .i64 0, .int .i64 0, .int .i64 0, .int .i64 0, .slice none 0 0] 55)) p len x.ds) := h.below H0B.out
  have hs1 : w.heap.size + 1 < ((w.alloc (.cells #[.int .i64 x.me, .int .i64 x.rv, .int .i64 x.nx, .int .i64 x.mo, .int .i64 x.bo, .int .i64 x.fr, .slice p len cap] 55)).alloc (.cells #[.int .i64 0, .int .i64 0, .int .i64 0, .int .i64 0, .int .i64 0, .int .i64 0, .slice none 0 0] 55)).heap.size := H0r.out.lt
  have HIM : Hid (∀ W, Calls Try.prog 47 #[.int .i64 m, .int .i64 0, .int .i64 2399] W fun e w' => e = .returned (.bool (decide (0 ≤ m ∧ m ≤ 2399))) ∧ w' = W) := fun W => cal.cin m 0 2399 W
  by_cases hm : AMay x
  · have hmo := hm.2.2.2.2.1
    have hdm := hm.1
    have HAM : Hid (Calls Try.prog 68 #[.agg #[.int .i64 x.me, .int .i64 x.rv, .int .i64 x.nx, .int .i64 x.mo, .int .i64 x.bo, .int .i64 x.fr, .slice p len cap]] ((w.alloc (.cells #[.int .i64 x.me, .int .i64 x.rv, .int .i64 x.nx, .int .i64 x.mo, .int .i64 x.bo, .int .i64 x.fr, .slice p len cap] 55)).alloc (.cells #[.int .i64 0, .int .i64 0, .int .i64 0, .int .i64 0, .int .i64 0, .int .i64 0, .slice none 0 0] 55)) fun e w' => e = .returned (.bool true) ∧ Below ((w.alloc (.cells #[.int .i64 x.me, .int .i64 x.rv, .int .i64 x.nx, .int .i64 x.mo, .int .i64 x.bo, .int .i64 x.fr, .slice p len cap] 55)).alloc (.cells #[.int .i64 0, .int .i64 0, .int .i64 0, .int .i64 0, .int .i64 0, .int .i64 0, .slice none 0 0] 55)).heap.size ((w.alloc (.cells #[.int .i64 x.me, .int .i64 x.rv, .int .i64 x.nx, .int .i64 x.mo, .int .i64 x.bo, .int .i64 x.fr, .slice p len cap] 55)).alloc (.cells #[.int .i64 0, .int .i64 0, .int .i64 0, .int .i64 0, .int .i64 0, .int .i64 0, .slice none 0 0] 55)) w') := ramay x p len cap _ HROW.out hl hm
    have HM : Hid (AMay x) := hm
    clear h hm
    generalize hWW : ((w.alloc (.cells #[.int .i64 x.me, .int .i64 x.rv, .int .i64 x.nx, .int .i64 x.mo, .int .i64 x.bo, .int .i64 x.fr, .slice p len cap] 55)).alloc (.cells #[.int .i64 0, .int .i64 0, .int .i64 0, .int .i64 0, .int .i64 0, .int .i64 0, .slice none 0 0] 55)) = W2 at *
    have HWW : Hid (((w.alloc (.cells #[.int .i64 x.me, .int .i64 x.rv, .int .i64 x.nx, .int .i64 x.mo, .int .i64 x.bo, .int .i64 x.fr, .slice p len cap] 55)).alloc (.cells #[.int .i64 0, .int .i64 0, .int .i64 0, .int .i64 0, .int .i64 0, .int .i64 0, .slice none 0 0] 55)) = W2) := hWW
    clear hWW
    go_enter Try.func70, Try.ntmps70
    go_upto_region 1 with fail
    rw [HWW.out]
    clear HWW
    go_wp2_with (first | (refine wp_whole rfl 55 _ rfl _ rfl 55 _ _ H0d.out Try.underlying55 rfl (by kernel_rfl) ?_) | fail)
    refine HAM.out.mono ?_
    rintro e w1 ⟨rfl, hb1⟩
    have H1d : Hid (Blk w1 w.heap.size #[.int .i64 x.me, .int .i64 x.rv, .int .i64 x.nx, .int .i64 x.mo, .int .i64 x.bo, .int .i64 x.fr, .slice p len cap] 55) := H0d.out.below hb1 (by omega)
    have H1r : Hid (Blk w1 (w.heap.size + 1) #[.int .i64 0, .int .i64 0, .int .i64 0, .int .i64 0, .int .i64 0, .int .i64 0, .slice none 0 0] 55) := H0r.out.below hb1 (by omega)
    have H1B := shB H0B hb1
    have H1R : Hid (RowD w1 p len x.ds) := HROW.out.below hb1
    have hs2 : w.heap.size + 1 < w1.heap.size := Nat.lt_of_lt_of_le hs1 hb1.size
    clear hb1 HAM HROW H0d H0r H0B hs1
    by_cases h1 : 0 ≤ m ∧ m ≤ 2399
    · rw [decide_eq_true h1] at HIM
      go_wp2_with fail
      refine (HIM.out _).mono ?_
      rintro e w2 ⟨rfl, hw2⟩
      subst hw2
      clear HIM
      have c3 : w2.cell? ⟨w.heap.size, 3, none⟩ = some (.int .i64 x.mo) := H1d.out.cell 3
      have c6 : w2.cell? ⟨w.heap.size, 6, none⟩ = some (.slice p len cap) := H1d.out.cell 6
      by_cases h2 : m < x.mo
      · have hd2 : decide (m < x.mo) = true := decide_eq_true h2
        have HER : Hid (RollIs x m ac0 23) := .inr (.inl ⟨HM.out, fun hh => by have := hh.2; omega, .inr ⟨h1, h2, rfl⟩, rfl⟩)
        clear h1 h2 hmo hdm
        go_wp2_with (first | (refine wp_letAll rfl 55 _ _ rfl _ rfl _ rfl (by kernel_rfl) (by simp [Value.oneCell']) _ 55 H1r.out rfl ?_) | fail)
        intro WF hU
        have H9r : Hid (Blk WF (w.heap.size + 1) #[.int .i64 0, .int .i64 0, .int .i64 0, .int .i64 0, .int .i64 0, .int .i64 0, .slice none 0 0] 55) := hU.blk
        have H9B := shV hU H1B (by omega)
        clear hU
        obtain ⟨Rr0, Rr1, Rr2, Rr3, Rr4, Rr5, Rr6⟩ := shc7 H9r
        go_wp2_with fail
        exact bodyPost_ret (v := .tuple #[.agg #[.int .i64 0, .int .i64 0, .int .i64 0, .int .i64 0, .int .i64 0, .int .i64 0, .slice none 0 0], .int .i64 23]) (by simp [results, Try.results70, Rr0.out, Rr1.out, Rr2.out, Rr3.out, Rr4.out, Rr5.out, Rr6.out, go_sem]) rfl ⟨ac0, none, 0, 0, _, rfl, HER.out, deb.fresh_nil _ _, H9B.out⟩
      · have hd2 : decide (m < x.mo) = false := decide_eq_false h2
        have HCP : Hid (Calls Try.prog 69 #[.agg #[.int .i64 x.me, .int .i64 x.rv, .int .i64 x.nx, .int .i64 x.mo, .int .i64 x.bo, .int .i64 x.fr, .slice p len cap]] w2 fun e w' => ∃ p' cap', e = .returned (Ac.v x p' len cap') ∧ deb.Fresh w' w2.heap.size p' len cap' x.ds ∧ Below w2.heap.size w2 w') := rcopy x p len cap w2 H1R.out hdm
        have HRM : Hid (RMay x m) := ⟨h1, by omega⟩
        go_wp2_with (first | (refine wp_whole rfl 55 _ rfl _ rfl 55 _ _ H1d.out Try.underlying55 rfl (by kernel_rfl) ?_) | fail)
        refine HCP.out.mono ?_
        rintro e w3 ⟨p3, cap3, rfl, hf3, hb3⟩
        unfold Ac.v Ac.cs
        have H3d := shN H1d hb3
        have H3r := shN H1r hb3
        have H3B := shB H1B hb3
        have H3R : Hid (RowD w3 p len x.ds) := H1R.out.below hb3
        have H3F : Hid (deb.Fresh w3 w2.heap.size p3 len cap3 x.ds) := hf3
        have hs3 : w2.heap.size ≤ w3.heap.size := hb3.size
        have hs4 : w3.heap.size < (w3.alloc (.cells #[.int .i64 x.me, .int .i64 x.rv, .int .i64 x.nx, .int .i64 x.mo, .int .i64 x.bo, .int .i64 x.fr, .slice p3 len cap3] 55)).heap.size := (Blk.new w3 #[.int .i64 x.me, .int .i64 x.rv, .int .i64 x.nx, .int .i64 x.mo, .int .i64 x.bo, .int .i64 x.fr, .slice p3 len cap3] 55).lt
        have H4o : Hid (Blk (w3.alloc (.cells #[.int .i64 x.me, .int .i64 x.rv, .int .i64 x.nx, .int .i64 x.mo, .int .i64 x.bo, .int .i64 x.fr, .slice p3 len cap3] 55)) w3.heap.size #[.int .i64 x.me, .int .i64 x.rv, .int .i64 x.nx, .int .i64 x.mo, .int .i64 x.bo, .int .i64 x.fr, .slice p3 len cap3] 55) := Blk.new w3 _ _
        have H4d : Hid (Blk (w3.alloc (.cells #[.int .i64 x.me, .int .i64 x.rv, .int .i64 x.nx, .int .i64 x.mo, .int .i64 x.bo, .int .i64 x.fr, .slice p3 len cap3] 55)) w.heap.size #[.int .i64 x.me, .int .i64 x.rv, .int .i64 x.nx, .int .i64 x.mo, .int .i64 x.bo, .int .i64 x.fr, .slice p len cap] 55) := H3d.out.alloc _
        have H4r : Hid (Blk (w3.alloc (.cells #[.int .i64 x.me, .int .i64 x.rv, .int .i64 x.nx, .int .i64 x.mo, .int .i64 x.bo, .int .i64 x.fr, .slice p3 len cap3] 55)) (w.heap.size + 1) #[.int .i64 0, .int .i64 0, .int .i64 0, .int .i64 0, .int .i64 0, .int .i64 0, .slice none 0 0] 55) := H3r.out.alloc _
        have H4B : Hid (Below w.heap.size w (w3.alloc (.cells #[.int .i64 x.me, .int .i64 x.rv, .int .i64 x.nx, .int .i64 x.mo, .int .i64 x.bo, .int .i64 x.fr, .slice p3 len cap3] 55))) := H3B.out.alloc H3B.out.size _
        have H4R : Hid (RowD (w3.alloc (.cells #[.int .i64 x.me, .int .i64 x.rv, .int .i64 x.nx, .int .i64 x.mo, .int .i64 x.bo, .int .i64 x.fr, .slice p3 len cap3] 55)) p len x.ds) := H3R.out.below ((Below.refl w3.heap.size w3).alloc (Nat.le_refl _) _)
        have H4F : Hid (deb.Fresh (w3.alloc (.cells #[.int .i64 x.me, .int .i64 x.rv, .int .i64 x.nx, .int .i64 x.mo, .int .i64 x.bo, .int .i64 x.fr, .slice p3 len cap3] 55)) w2.heap.size p3 len cap3 x.ds) := H3F.out.below ((Below.refl w3.heap.size w3).alloc (Nat.le_refl _) _)
        clear hf3 hb3 HCP H3d H3r H3B H3R H3F H1d H1r H1B H1R c3 c6
        by_cases h3 : m = x.mo
        · have hd3 : (m == x.mo) = true := by simpa using h3
          have HRL : Hid (RollIs x m x 0) := .inr (.inr ⟨HM.out, HRM.out, by unfold rolled; rw [if_pos h3], rfl⟩)
          have c3 : (w3.alloc (.cells #[.int .i64 x.me, .int .i64 x.rv, .int .i64 x.nx, .int .i64 x.mo, .int .i64 x.bo, .int .i64 x.fr, .slice p3 len cap3] 55)).cell? ⟨w.heap.size, 3, none⟩ = some (.int .i64 x.mo) := H4d.out.cell 3
          clear h3 h1 h2 hmo hdm
          go_upto_region 8 with fail
          generalize (w3.alloc (.cells #[.int .i64 x.me, .int .i64 x.rv, .int .i64 x.nx, .int .i64 x.mo, .int .i64 x.bo, .int .i64 x.fr, .slice p3 len cap3] 55)) = W4 at *
          go_wp2_with (first | (refine wp_whole rfl 55 _ rfl _ rfl 55 _ _ H4o.out Try.underlying55 rfl (by kernel_rfl) ?_) | (refine wp_letAll rfl 55 _ _ rfl _ rfl _ rfl (by kernel_rfl) (by simp [Value.oneCell']) _ 55 H4r.out rfl ?_) | fail)
          intro WF hU
          have H9r : Hid (Blk WF (w.heap.size + 1) #[.int .i64 x.me, .int .i64 x.rv, .int .i64 x.nx, .int .i64 x.mo, .int .i64 x.bo, .int .i64 x.fr, .slice p3 len cap3] 55) := hU.blk
          have H9B := shV hU H4B (by omega)
          have H9F : Hid (deb.Fresh WF w.heap.size p3 len cap3 x.ds) := (fresh_upd H4F.out hU (by omega)).low (by omega)
          clear hU
          have Rr0 : Hid (WF.cell? ⟨w.heap.size + 1, 0, none⟩ = some (.int .i64 x.me)) := H9r.out.cell 0
          have Rr1 : Hid (WF.cell? ⟨w.heap.size + 1, 1, none⟩ = some (.int .i64 x.rv)) := H9r.out.cell 1
          have Rr2 : Hid (WF.cell? ⟨w.heap.size + 1, 2, none⟩ = some (.int .i64 x.nx)) := H9r.out.cell 2
          have Rr3 : Hid (WF.cell? ⟨w.heap.size + 1, 3, none⟩ = some (.int .i64 x.mo)) := H9r.out.cell 3
          have Rr4 : Hid (WF.cell? ⟨w.heap.size + 1, 4, none⟩ = some (.int .i64 x.bo)) := H9r.out.cell 4
          have Rr5 : Hid (WF.cell? ⟨w.heap.size + 1, 5, none⟩ = some (.int .i64 x.fr)) := H9r.out.cell 5
          have Rr6 : Hid (WF.cell? ⟨w.heap.size + 1, 6, none⟩ = some (.slice p3 len cap3)) := H9r.out.cell 6
          go_wp2_with fail
          exact bodyPost_ret (v := .tuple #[.agg #[.int .i64 x.me, .int .i64 x.rv, .int .i64 x.nx, .int .i64 x.mo, .int .i64 x.bo, .int .i64 x.fr, .slice p3 len cap3], .int .i64 0]) (by simp [results, Try.results70, Rr0.out, Rr1.out, Rr2.out, Rr3.out, Rr4.out, Rr5.out, Rr6.out, go_sem]) rfl ⟨x, p3, len, cap3, _, rfl, HRL.out, H9F.out, H9B.out⟩
        · have hd3 : (m == x.mo) = false := by simpa using h3
          have hmt : ((m - x.mo).toNat : Int) = m - x.mo := by omega
          have HRL : Hid (rolled x m = ⟨x.me, x.rv, x.nx, m, 0, x.fr, deb.ageAll x.ds (m - x.mo).toNat⟩) := by show _ = _; unfold rolled; rw [if_neg h3]
          have HAG : Hid (Calls Try.prog 82 #[.slice p len cap, .int .i64 (m - x.mo)] (w3.alloc (.cells #[.int .i64 x.me, .int .i64 x.rv, .int .i64 x.nx, .int .i64 x.mo, .int .i64 x.bo, .int .i64 x.fr, .slice p3 len cap3] 55)) fun e w' => deb.AgePost (w3.alloc (.cells #[.int .i64 x.me, .int .i64 x.rv, .int .i64 x.nx, .int .i64 x.mo, .int .i64 x.bo, .int .i64 x.fr, .slice p3 len cap3] 55)) x.ds (m - x.mo) e w') := deb.rages p len cap x.ds (m - x.mo) _ H4R.out hl
          have hmr : 0 ≤ m - x.mo ∧ m - x.mo ≤ 2400 := by omega
          have HDM : Hid (deb.Mays x.ds) := hdm
          have HMR : Hid (0 ≤ m - x.mo ∧ m - x.mo ≤ 2400) := hmr
          have c3 : (w3.alloc (.cells #[.int .i64 x.me, .int .i64 x.rv, .int .i64 x.nx, .int .i64 x.mo, .int .i64 x.bo, .int .i64 x.fr, .slice p3 len cap3] 55)).cell? ⟨w.heap.size, 3, none⟩ = some (.int .i64 x.mo) := H4d.out.cell 3
          have c6 : (w3.alloc (.cells #[.int .i64 x.me, .int .i64 x.rv, .int .i64 x.nx, .int .i64 x.mo, .int .i64 x.bo, .int .i64 x.fr, .slice p3 len cap3] 55)).cell? ⟨w.heap.size, 6, none⟩ = some (.slice p len cap) := H4d.out.cell 6
          clear h3 hdm hmr hmt
          go_upto_region 8 with fail
          generalize (w3.alloc (.cells #[.int .i64 x.me, .int .i64 x.rv, .int .i64 x.nx, .int .i64 x.mo, .int .i64 x.bo, .int .i64 x.fr, .slice p3 len cap3] 55)) = W4 at *
          go_wp2_with fail
          refine HAG.out.mono ?_
          rintro e w5 ⟨p5, n5, c5, z5, f5, rfl, hi5, hf5, hb5⟩
          obtain ⟨rfl, rfl⟩ := hi5.got HDM.out HMR.out
          have H5o := shN H4o hb5
          have H5r := shN H4r hb5
          have H5B := shB H4B hb5
          have H5F : Hid (deb.Fresh w5 W4.heap.size p5 n5 c5 (deb.ageAll x.ds (m - x.mo).toNat)) := hf5
          clear hi5 hf5 hb5 HAG H4o H4d H4r H4B H4R H4F c3 c6
          go_wp2_with (first | (refine wp_letS rfl 53 _ _ rfl (w3.heap.size) 6 rfl p5 n5 c5 rfl (by kernel_rfl) #[.int .i64 x.me, .int .i64 x.rv, .int .i64 x.nx, .int .i64 x.mo, .int .i64 x.bo, .int .i64 x.fr, .slice p3 len cap3] 55 H5o.out (by simp) ?_) | fail)
          intro W6 hU
          have H6o : Hid (Blk W6 w3.heap.size #[.int .i64 x.me, .int .i64 x.rv, .int .i64 x.nx, .int .i64 x.mo, .int .i64 x.bo, .int .i64 x.fr, .slice p5 n5 c5] 55) := hU.blk
          have H6r := shK hU H5r (by omega)
          have H6B := shV hU H5B (by omega)
          have H6F : Hid (deb.Fresh W6 W4.heap.size p5 n5 c5 (deb.ageAll x.ds (m - x.mo).toNat)) := fresh_upd H5F.out hU (by omega)
          clear hU H5o H5r H5B H5F
          go_wp2_with (first | (refine wp_let1 rfl 3 _ _ rfl (w3.heap.size) 3 rfl .i64 m rfl (by kernel_rfl) #[.int .i64 x.me, .int .i64 x.rv, .int .i64 x.nx, .int .i64 x.mo, .int .i64 x.bo, .int .i64 x.fr, .slice p5 n5 c5] 55 H6o.out (by simp) ?_) | fail)
          intro W7 hU
          have H7o : Hid (Blk W7 w3.heap.size #[.int .i64 x.me, .int .i64 x.rv, .int .i64 x.nx, .int .i64 m, .int .i64 x.bo, .int .i64 x.fr, .slice p5 n5 c5] 55) := hU.blk
          have H7r := shK hU H6r (by omega)
          have H7B := shV hU H6B (by omega)
          have H7F : Hid (deb.Fresh W7 W4.heap.size p5 n5 c5 (deb.ageAll x.ds (m - x.mo).toNat)) := fresh_upd H6F.out hU (by omega)
          clear hU H6o H6r H6B H6F
          go_wp2_with (first | (refine wp_let1 rfl 3 _ _ rfl (w3.heap.size) 4 rfl .i64 0 rfl (by kernel_rfl) #[.int .i64 x.me, .int .i64 x.rv, .int .i64 x.nx, .int .i64 m, .int .i64 x.bo, .int .i64 x.fr, .slice p5 n5 c5] 55 H7o.out (by simp) ?_) | fail)
          intro W8 hU
          have H8o : Hid (Blk W8 w3.heap.size #[.int .i64 x.me, .int .i64 x.rv, .int .i64 x.nx, .int .i64 m, .int .i64 0, .int .i64 x.fr, .slice p5 n5 c5] 55) := hU.blk
          have H8r := shK hU H7r (by omega)
          have H8B := shV hU H7B (by omega)
          have H8F : Hid (deb.Fresh W8 W4.heap.size p5 n5 c5 (deb.ageAll x.ds (m - x.mo).toNat)) := fresh_upd H7F.out hU (by omega)
          clear hU H7o H7r H7B H7F
          go_wp2_with (first | (refine wp_whole rfl 55 _ rfl _ rfl 55 _ _ H8o.out Try.underlying55 rfl (by kernel_rfl) ?_) | (refine wp_letAll rfl 55 _ _ rfl _ rfl _ rfl (by kernel_rfl) (by simp [Value.oneCell']) _ 55 H8r.out rfl ?_) | fail)
          intro WF hU
          have H9r : Hid (Blk WF (w.heap.size + 1) #[.int .i64 x.me, .int .i64 x.rv, .int .i64 x.nx, .int .i64 m, .int .i64 0, .int .i64 x.fr, .slice p5 n5 c5] 55) := hU.blk
          have H9B := shV hU H8B (by omega)
          have H9F : Hid (deb.Fresh WF w.heap.size p5 n5 c5 (deb.ageAll x.ds (m - x.mo).toNat)) := (fresh_upd H8F.out hU (by omega)).low (by omega)
          clear hU
          have Rr0 : Hid (WF.cell? ⟨w.heap.size + 1, 0, none⟩ = some (.int .i64 x.me)) := H9r.out.cell 0
          have Rr1 : Hid (WF.cell? ⟨w.heap.size + 1, 1, none⟩ = some (.int .i64 x.rv)) := H9r.out.cell 1
          have Rr2 : Hid (WF.cell? ⟨w.heap.size + 1, 2, none⟩ = some (.int .i64 x.nx)) := H9r.out.cell 2
          have Rr3 : Hid (WF.cell? ⟨w.heap.size + 1, 3, none⟩ = some (.int .i64 m)) := H9r.out.cell 3
          have Rr4 : Hid (WF.cell? ⟨w.heap.size + 1, 4, none⟩ = some (.int .i64 0)) := H9r.out.cell 4
          have Rr5 : Hid (WF.cell? ⟨w.heap.size + 1, 5, none⟩ = some (.int .i64 x.fr)) := H9r.out.cell 5
          have Rr6 : Hid (WF.cell? ⟨w.heap.size + 1, 6, none⟩ = some (.slice p5 n5 c5)) := H9r.out.cell 6
          go_wp2_with fail
          exact bodyPost_ret (v := .tuple #[.agg #[.int .i64 x.me, .int .i64 x.rv, .int .i64 x.nx, .int .i64 m, .int .i64 0, .int .i64 x.fr, .slice p5 n5 c5], .int .i64 0]) (by simp [results, Try.results70, Rr0.out, Rr1.out, Rr2.out, Rr3.out, Rr4.out, Rr5.out, Rr6.out, go_sem]) rfl ⟨⟨x.me, x.rv, x.nx, m, 0, x.fr, deb.ageAll x.ds (m - x.mo).toNat⟩, p5, n5, c5, _, rfl, .inr (.inr ⟨HM.out, HRM.out, HRL.out.symm, rfl⟩), H9F.out, H9B.out⟩
    · rw [decide_eq_false h1] at HIM
      have HER : Hid (RollIs x m ac0 2) := .inr (.inl ⟨HM.out, fun hh => h1 hh.1, .inl ⟨h1, rfl⟩, rfl⟩)
      clear h1 hmo hdm
      go_wp2_with fail
      refine (HIM.out _).mono ?_
      rintro e w2 ⟨rfl, hw2⟩
      subst hw2
      go_wp2_with (first | (refine wp_letAll rfl 55 _ _ rfl _ rfl _ rfl (by kernel_rfl) (by simp [Value.oneCell']) _ 55 H1r.out rfl ?_) | fail)
      intro WF hU
      have H9r : Hid (Blk WF (w.heap.size + 1) #[.int .i64 0, .int .i64 0, .int .i64 0, .int .i64 0, .int .i64 0, .int .i64 0, .slice none 0 0] 55) := hU.blk
      have H9B := shV hU H1B (by omega)
      clear hU
      obtain ⟨Rr0, Rr1, Rr2, Rr3, Rr4, Rr5, Rr6⟩ := shc7 H9r
      go_wp2_with fail
      exact bodyPost_ret (v := .tuple #[.agg #[.int .i64 0, .int .i64 0, .int .i64 0, .int .i64 0, .int .i64 0, .int .i64 0, .slice none 0 0], .int .i64 2]) (by simp [results, Try.results70, Rr0.out, Rr1.out, Rr2.out, Rr3.out, Rr4.out, Rr5.out, Rr6.out, go_sem]) rfl ⟨ac0, none, 0, 0, _, rfl, HER.out, deb.fresh_nil _ _, H9B.out⟩
  · skip
    have HAM : Hid (Calls Try.prog 68 #[.agg #[.int .i64 x.me, .int .i64 x.rv, .int .i64 x.nx, .int .i64 x.mo, .int .i64 x.bo, .int .i64 x.fr, .slice p len cap]] ((w.alloc (.cells #[.int .i64 x.me, .int .i64 x.rv, .int .i64 x.nx, .int .i64 x.mo, .int .i64 x.bo, .int .i64 x.fr, .slice p len cap] 55)).alloc (.cells #[.int .i64 0, .int .i64 0, .int .i64 0, .int .i64 0, .int .i64 0, .int .i64 0, .slice none 0 0] 55)) fun e w' => e = .returned (.bool false) ∧ Below ((w.alloc (.cells #[.int .i64 x.me, .int .i64 x.rv, .int .i64 x.nx, .int .i64 x.mo, .int .i64 x.bo, .int .i64 x.fr, .slice p len cap] 55)).alloc (.cells #[.int .i64 0, .int .i64 0, .int .i64 0, .int .i64 0, .int .i64 0, .int .i64 0, .slice none 0 0] 55)).heap.size ((w.alloc (.cells #[.int .i64 x.me, .int .i64 x.rv, .int .i64 x.nx, .int .i64 x.mo, .int .i64 x.bo, .int .i64 x.fr, .slice p len cap] 55)).alloc (.cells #[.int .i64 0, .int .i64 0, .int .i64 0, .int .i64 0, .int .i64 0, .int .i64 0, .slice none 0 0] 55)) w') := ranot x p len cap _ HROW.out hl hm
    have HM : Hid (¬ AMay x) := hm
    clear h hm
    generalize hWW : ((w.alloc (.cells #[.int .i64 x.me, .int .i64 x.rv, .int .i64 x.nx, .int .i64 x.mo, .int .i64 x.bo, .int .i64 x.fr, .slice p len cap] 55)).alloc (.cells #[.int .i64 0, .int .i64 0, .int .i64 0, .int .i64 0, .int .i64 0, .int .i64 0, .slice none 0 0] 55)) = W2 at *
    have HWW : Hid (((w.alloc (.cells #[.int .i64 x.me, .int .i64 x.rv, .int .i64 x.nx, .int .i64 x.mo, .int .i64 x.bo, .int .i64 x.fr, .slice p len cap] 55)).alloc (.cells #[.int .i64 0, .int .i64 0, .int .i64 0, .int .i64 0, .int .i64 0, .int .i64 0, .slice none 0 0] 55)) = W2) := hWW
    clear hWW
    go_enter Try.func70, Try.ntmps70
    go_upto_region 1 with fail
    rw [HWW.out]
    clear HWW
    go_wp2_with (first | (refine wp_whole rfl 55 _ rfl _ rfl 55 _ _ H0d.out Try.underlying55 rfl (by kernel_rfl) ?_) | fail)
    refine HAM.out.mono ?_
    rintro e w1 ⟨rfl, hb1⟩
    have H1d : Hid (Blk w1 w.heap.size #[.int .i64 x.me, .int .i64 x.rv, .int .i64 x.nx, .int .i64 x.mo, .int .i64 x.bo, .int .i64 x.fr, .slice p len cap] 55) := H0d.out.below hb1 (by omega)
    have H1r : Hid (Blk w1 (w.heap.size + 1) #[.int .i64 0, .int .i64 0, .int .i64 0, .int .i64 0, .int .i64 0, .int .i64 0, .slice none 0 0] 55) := H0r.out.below hb1 (by omega)
    have H1B := shB H0B hb1
    have H1R : Hid (RowD w1 p len x.ds) := HROW.out.below hb1
    have hs2 : w.heap.size + 1 < w1.heap.size := Nat.lt_of_lt_of_le hs1 hb1.size
    clear hb1 HAM HROW H0d H0r H0B hs1
    go_wp2_with (first | (refine wp_letAll rfl 55 _ _ rfl _ rfl _ rfl (by kernel_rfl) (by simp [Value.oneCell']) _ 55 H1r.out rfl ?_) | fail)
    intro WF hU
    have H9r : Hid (Blk WF (w.heap.size + 1) #[.int .i64 0, .int .i64 0, .int .i64 0, .int .i64 0, .int .i64 0, .int .i64 0, .slice none 0 0] 55) := hU.blk
    have H9B := shV hU H1B (by omega)
    clear hU
    obtain ⟨Rr0, Rr1, Rr2, Rr3, Rr4, Rr5, Rr6⟩ := shc7 H9r
    go_wp2_with fail
    exact bodyPost_ret (v := .tuple #[.agg #[.int .i64 0, .int .i64 0, .int .i64 0, .int .i64 0, .int .i64 0, .int .i64 0, .slice none 0 0], .int .i64 5]) (by simp [results, Try.results70, Rr0.out, Rr1.out, Rr2.out, Rr3.out, Rr4.out, Rr5.out, Rr6.out, go_sem]) rfl ⟨ac0, none, 0, 0, _, rfl, .inl ⟨HM.out, rfl, rfl⟩, deb.fresh_nil _ _, H9B.out⟩

end Go.Proofs.Ytfhlokjpdkmdjaa.acc
