/- An allowance is granted to an account at work. -/
import Derived.Test.YtlolippocnngcabApB
import Derived.Test.YtlolippocnngcabApU
namespace Go.Proofs.Ytlolippocnngcab.acc
open Go.Proofs.Ytlolippocnngcab.tar (Du du0 Came RowD Ld PairT)
open Go.RowKit
set_option maxRecDepth 100000
set_option linter.unusedVariables false
set_option linter.unusedSimpArgs false

set_option maxHeartbeats 4000000 in
theorem pgrant (g : Nat) (x : Ac) (p : Option Addr) (len cap : Nat) (t : Tm) (pt : Option Addr) (lt ct : Nat) (m : Int) (w : World) (hw : Blk w g (wcs x bi0 p len cap) 81) (hd : deb.Fresh w (g + 1) p len cap x.ds) (ha : AMay x) (ht : Came w pt lt ct t.ts) (hwf : wf4 t) (hfar : Far pt lt g) : Calls Try.prog 43 #[.pointer (some ⟨g, 0, none⟩), .agg #[.slice pt lt ct, .int .i64 t.ff, .int .i64 t.fb, .int .i64 t.db, .int .i64 t.al], .int .i64 m] w fun e w' => DPost w g (Or0 (GrantIs x t m)) e w' := by
  have hgl := hw.lt
  have H0B : Hid (Below w.heap.size w (w.alloc (.cells #[.slice pt lt ct, .int .i64 t.ff, .int .i64 t.fb, .int .i64 t.db, .int .i64 t.al] 42))) := (Below.refl w.heap.size w).alloc (by simp) _
  have H0C : Hid (Chg w (w.alloc (.cells #[.slice pt lt ct, .int .i64 t.ff, .int .i64 t.fb, .int .i64 t.db, .int .i64 t.al] 42)) g) := .of H0B.out
  have H0t : Hid (Blk (w.alloc (.cells #[.slice pt lt ct, .int .i64 t.ff, .int .i64 t.fb, .int .i64 t.db, .int .i64 t.al] 42)) (w.heap.size) #[.slice pt lt ct, .int .i64 t.ff, .int .i64 t.fb, .int .i64 t.db, .int .i64 t.al] 42) := Blk.new w _ _
  have H0g : Hid (Blk (w.alloc (.cells #[.slice pt lt ct, .int .i64 t.ff, .int .i64 t.fb, .int .i64 t.db, .int .i64 t.al] 42)) g (wcs x bi0 p len cap) 81) := hw.alloc _
  have H0D : Hid (deb.Fresh (w.alloc (.cells #[.slice pt lt ct, .int .i64 t.ff, .int .i64 t.fb, .int .i64 t.db, .int .i64 t.al] 42)) (g + 1) p len cap x.ds) := hd.below H0B.out
  have H0T : Hid (Came (w.alloc (.cells #[.slice pt lt ct, .int .i64 t.ff, .int .i64 t.fb, .int .i64 t.db, .int .i64 t.al] 42)) pt lt ct t.ts) := ht.below H0B.out
  have HFAR : Hid (Far pt lt g) := hfar
  have HBG : Hid (∀ W, Blk W g (wcs x bi0 p len cap) 81 → deb.Fresh W (g + 1) p len cap x.ds → Came W pt lt ct t.ts → Calls Try.prog 48 #[.pointer (some ⟨g, 0, none⟩), .agg #[.slice pt lt ct, .int .i64 t.ff, .int .i64 t.fb, .int .i64 t.db, .int .i64 t.al], .int .i64 m] W fun e w' => DPost W g (BeginR x t m bi0) e w') := fun W h1 h2 h3 => pbegin g x p len cap t pt lt ct bi0 m W h1 h2 ha h3 hwf hfar
  have HM : Hid (AMay x) := ha
  have hnx := ha.2.2.2.1
  clear hw hd ht hwf hfar ha H0B
  generalize hWW : (w.alloc (.cells #[.slice pt lt ct, .int .i64 t.ff, .int .i64 t.fb, .int .i64 t.db, .int .i64 t.al] 42)) = W0 at *
  have HWW : Hid ((w.alloc (.cells #[.slice pt lt ct, .int .i64 t.ff, .int .i64 t.fb, .int .i64 t.db, .int .i64 t.al] 42)) = W0) := hWW
  clear hWW
  go_enter Try.func43, Try.ntmps43
  go_upto_region 1 with fail
  rw [HWW.out]
  clear HWW
  go_wp2_with (first | (refine wp_whole rfl 42 _ rfl (w.heap.size) rfl 42 #[.slice pt lt ct, .int .i64 t.ff, .int .i64 t.fb, .int .i64 t.db, .int .i64 t.al] _ H0t.out Try.underlying42 rfl (by kernel_rfl) ?_) | fail)
  refine (HBG.out _ H0g.out H0D.out H0T.out).mono ?_
  rintro e w1 ⟨y, b2, q, n, c, f, rfl, ⟨hr, hb2⟩, hi1, hf1, hc1⟩
  subst hb2
  have H1D : Hid (deb.Fresh w1 (g + 1) q n c y.ds) := hf1
  have H1g : Hid (Blk w1 g #[.int .i64 y.me, .int .i64 y.rv, .int .i64 y.nx, .int .i64 y.mo, .int .i64 y.bo, .int .i64 y.fr, .slice q n c, .int .i64 0, .int .i64 0, .int .i64 0, .int .i64 0, .int .i64 0, .int .i64 0, .int .i64 0] 81) := hi1
  have H1t : Hid (Blk w1 (w.heap.size) #[.slice pt lt ct, .int .i64 t.ff, .int .i64 t.fb, .int .i64 t.db, .int .i64 t.al] 42) := Chg.keep (g := g) (hc1) H0t.out (by omega)
  have H1T : Hid (Came w1 pt lt ct t.ts) := came_chg H0T.out (hc1) HFAR.out
  have H1C : Hid (Chg w w1 g) := H0C.out.trans (hc1)
  clear H0C H0g H0t H0T hf1 hc1 hi1 H0D HBG
  by_cases h0 : f = 0
  · skip
    subst h0
    have hrr : TRight t ∧ RMay x m ∧ y = rolled x m := by
      rcases hr with ⟨h1, h2, _⟩ | ⟨_, _, h3, _⟩ | ⟨h1, h2, h3, _⟩
      · exact absurd (h2.ok.1 rfl) h1
      · exact absurd rfl h3.ne
      · exact ⟨h1, h2, h3⟩
    have HRY : Hid (Ready x t m) := ⟨HM.out, hrr.1, hrr.2.1⟩
    have HT : Hid (TRight t) := hrr.1
    have HBR : Hid (y = rolled x m) := hrr.2.2
    have hbs := rolled_same x m
    rw [← hrr.2.2] at hbs
    have hbo := (rolled_may HM.out hrr.2.1).2.2.2.2.2.1
    rw [← hrr.2.2] at hbo
    have hdm : deb.Mays y.ds := by rw [hrr.2.2]; exact (rolled_may HM.out hrr.2.1).1
    have HYN : Hid (y.nx = x.nx) := hbs.2.2.1
    have hyx : 1 ≤ y.nx ∧ y.nx ≤ 1048576 := by rw [hbs.2.2.1]; exact hnx
    have HBS : Hid (y.me = x.me ∧ y.rv = x.rv ∧ y.nx = x.nx ∧ y.mo = m ∧ y.fr = x.fr) := hbs
    clear hrr hr hbs
    by_cases h5 : t.al = 0
    · have d5 : (t.al == 0) = true := by simpa using h5
      have HV : Hid (Or0 (GrantIs x t m) y bi0 22) := .inl ⟨by decide, .inr (.inl ⟨HRY.out, h5, rfl, rfl, rfl⟩)⟩
      clear h5
      have qt4 : w1.cell? ⟨w.heap.size, 4, none⟩ = some (.int .i64 t.al) := H1t.out.cell 4
      go_wp2_with fail
      go_ret
      exact ⟨y, bi0, q, n, c, 22, rfl, HV.out, H1g.out, H1D.out, H1C.out⟩
    · have d5 : (t.al == 0) = false := by simpa using h5
      by_cases h6 : x.fr = m
      · have d6 : (y.fr == m) = true := by simp; rw [HBS.out.2.2.2.2]; exact h6
        have HV : Hid (Or0 (GrantIs x t m) y bi0 21) := .inl ⟨by decide, .inr (.inr (.inl ⟨HRY.out, h5, h6, rfl, rfl, rfl⟩))⟩
        clear h5 h6
        have qt4 : w1.cell? ⟨w.heap.size, 4, none⟩ = some (.int .i64 t.al) := H1t.out.cell 4
        have qg5 : w1.cell? ⟨g, 5, none⟩ = some (.int .i64 y.fr) := H1g.out.cell 5
        go_wp2_with fail
        go_ret
        exact ⟨y, bi0, q, n, c, 21, rfl, HV.out, H1g.out, H1D.out, H1C.out⟩
      · have d6 : (y.fr == m) = false := by simp; rw [HBS.out.2.2.2.2]; exact h6
        have qt4 : w1.cell? ⟨w.heap.size, 4, none⟩ = some (.int .i64 t.al) := H1t.out.cell 4
        have qg5 : w1.cell? ⟨g, 5, none⟩ = some (.int .i64 y.fr) := H1g.out.cell 5
        go_wp2_with (first | (refine wp_let1 rfl 3 _ _ rfl g 5 rfl .i64 m rfl (by kernel_rfl) #[.int .i64 y.me, .int .i64 y.rv, .int .i64 y.nx, .int .i64 y.mo, .int .i64 y.bo, .int .i64 y.fr, .slice q n c, .int .i64 0, .int .i64 0, .int .i64 0, .int .i64 0, .int .i64 0, .int .i64 0, .int .i64 0] 81 H1g.out (by simp) ?_) | fail)
        intro W2 hU
        have H2g : Hid (Blk W2 g #[.int .i64 y.me, .int .i64 y.rv, .int .i64 y.nx, .int .i64 y.mo, .int .i64 y.bo, .int .i64 m, .slice q n c, .int .i64 0, .int .i64 0, .int .i64 0, .int .i64 0, .int .i64 0, .int .i64 0, .int .i64 0] 81) := hU.blk
        have H2t : Hid (Blk W2 (w.heap.size) #[.slice pt lt ct, .int .i64 t.ff, .int .i64 t.fb, .int .i64 t.db, .int .i64 t.al] 42) := Chg.keep (g := g) (.upd hU) H1t.out (by omega)
        have H2T : Hid (Came W2 pt lt ct t.ts) := came_chg H1T.out (.upd hU) HFAR.out
        have H2D : Hid (deb.Fresh W2 (g + 1) q n c y.ds) := fresh_chg H1D.out (.upd hU)
        have H2C : Hid (Chg w W2 g) := H1C.out.trans (.upd hU)
        clear H1C H1g H1t H1T H1D hU qt4 qg5 d5 d6
        have qt4 : W2.cell? ⟨w.heap.size, 4, none⟩ = some (.int .i64 t.al) := H2t.out.cell 4
        go_wp2_with (first | (refine wp_let1 rfl 3 _ _ rfl g 13 rfl .i64 t.al rfl (by kernel_rfl) #[.int .i64 y.me, .int .i64 y.rv, .int .i64 y.nx, .int .i64 y.mo, .int .i64 y.bo, .int .i64 m, .slice q n c, .int .i64 0, .int .i64 0, .int .i64 0, .int .i64 0, .int .i64 0, .int .i64 0, .int .i64 0] 81 H2g.out (by simp) ?_) | fail)
        intro W3 hU
        have H3g : Hid (Blk W3 g #[.int .i64 y.me, .int .i64 y.rv, .int .i64 y.nx, .int .i64 y.mo, .int .i64 y.bo, .int .i64 m, .slice q n c, .int .i64 0, .int .i64 0, .int .i64 0, .int .i64 0, .int .i64 0, .int .i64 0, .int .i64 t.al] 81) := hU.blk
        have H3t : Hid (Blk W3 (w.heap.size) #[.slice pt lt ct, .int .i64 t.ff, .int .i64 t.fb, .int .i64 t.db, .int .i64 t.al] 42) := Chg.keep (g := g) (.upd hU) H2t.out (by omega)
        have H3T : Hid (Came W3 pt lt ct t.ts) := came_chg H2T.out (.upd hU) HFAR.out
        have H3D : Hid (deb.Fresh W3 (g + 1) q n c y.ds) := fresh_chg H2D.out (.upd hU)
        have H3C : Hid (Chg w W3 g) := H2C.out.trans (.upd hU)
        clear H2C H2g H2t H2T H2D hU qt4
        have HGV : Hid (⟨y.me, y.rv, y.nx + 1, y.mo, y.bo, m, y.ds⟩ = granted x m) := by
          show _ = _
          unfold granted
          rw [← HBR.out, HBS.out.1, HBS.out.2.1, HBS.out.2.2.1, HBS.out.2.2.2.1]
        have HNU : Hid (Calls Try.prog 45 #[.pointer (some ⟨g, 0, none⟩)] W3 fun e w' => NumPost W3 g ⟨y.me, y.rv, y.nx, y.mo, y.bo, m, y.ds⟩ ⟨0, 0, 0, 0, 0, 0, t.al⟩ q n c e w') := pnum g ⟨y.me, y.rv, y.nx, y.mo, y.bo, m, y.ds⟩ ⟨0, 0, 0, 0, 0, 0, t.al⟩ q n c W3 H3g.out hyx
        go_wp2_with fail
        refine HNU.out.mono ?_
        rintro e wN ⟨hcN, ⟨hx, rfl, hiN⟩ | ⟨hx, rfl, hiN⟩⟩
        · have HV : Hid (Or0 (GrantIs x t m) ⟨y.me, y.rv, y.nx, y.mo, y.bo, m, y.ds⟩ ⟨0, 0, 0, 0, 0, 0, t.al⟩ 20) := .inl ⟨by decide, .inr (.inr (.inr (.inl ⟨HRY.out, h5, h6, by rw [← HYN.out]; exact hx, rfl, rfl, rfl⟩)))⟩
          have HDN := fresh_chg H3D.out hcN
          have HCN := H3C.out.trans hcN
          clear HNU hx
          go_wp2_with fail
          go_ret
          exact ⟨⟨y.me, y.rv, y.nx, y.mo, y.bo, m, y.ds⟩, ⟨0, 0, 0, 0, 0, 0, t.al⟩, q, n, c, 20, rfl, HV.out, hiN, HDN, HCN⟩
        · have HV : Hid (Or0 (GrantIs x t m) ⟨y.me, y.rv, y.nx + 1, y.mo, y.bo, m, y.ds⟩ ⟨y.nx, 0, 0, 0, 0, 0, t.al⟩ 0) := .inr ⟨rfl, .inr (.inr (.inr (.inr ⟨HRY.out, h5, h6, by rw [← HYN.out]; exact hx, rfl, HGV.out, by rw [HYN.out]⟩)))⟩
          have HDN := fresh_chg H3D.out hcN
          have HCN := H3C.out.trans hcN
          clear HNU hx
          go_wp2_with fail
          go_ret
          exact ⟨⟨y.me, y.rv, y.nx + 1, y.mo, y.bo, m, y.ds⟩, ⟨y.nx, 0, 0, 0, 0, 0, t.al⟩, q, n, c, 0, rfl, HV.out, hiN, HDN, HCN⟩
  · skip
    have d0 : (f != 0) = true := by simpa using h0
    have HV : Hid (Or0 (GrantIs x t m) y bi0 f) := by
      refine .inl ⟨h0, .inl ⟨?_, rfl, rfl⟩⟩
      rcases hr with ⟨h1, h2, _⟩ | ⟨h1, h2, h3, _⟩ | ⟨_, _, _, h1⟩
      · exact .inr (.inl ⟨HM.out, h1, h2⟩)
      · exact .inr (.inr ⟨HM.out, h1, h2, h3⟩)
      · exact absurd h1 h0
    clear hr h0
    go_wp2_with fail
    go_ret
    exact ⟨y, bi0, q, n, c, f, rfl, HV.out, H1g.out, H1D.out, H1C.out⟩

end Go.Proofs.Ytlolippocnngcab.acc
