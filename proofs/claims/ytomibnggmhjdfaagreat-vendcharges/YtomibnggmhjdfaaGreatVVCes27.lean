import Derived.Test.YtomibnggmhjdfaaGreatVVCes14
import Derived.Test.YtomibnggmhjdfaaGreatVVCes21
set_option linter.unusedVariables false
set_option linter.unusedSimpArgs false
namespace Go.Proofs.YtomibnggmhjdfaaGreat
namespace acc
open tar (Du du0 Came RowD Ld PairT)
open Go.RowKit
set_option maxRecDepth 100000
set_option maxHeartbeats 4000000 in
theorem pgrant (g : Nat) (x : Ac) (p : Option Addr) (len cap : Nat) (t : Tm) (pt : Option Addr) (lt ct : Nat) (m : Int) (w : World) (hw : Blk w g (wcs x bi0 p len cap) 121) (hd : deb.Fresh w (g + 1) p len cap x.ds) (ha : AMay x) (ht : Came w pt lt ct t.ts) (hwf : wf4 t) (hfar : Far pt lt g) : Calls Tryz.prog 111 #[.pointer (some ⟨g, 0, none⟩), .agg #[.slice pt lt ct, .int .i64 t.ff, .int .i64 t.fb, .int .i64 t.db, .int .i64 t.al], .int .i64 m] w fun e w' => DPost w g (Or0 (GrantIs x t m)) e w' := by
 have hgl := hw.lt
 have H0B : Hid (Below w.heap.size w (w.alloc (.cells #[.slice pt lt ct, .int .i64 t.ff, .int .i64 t.fb, .int .i64 t.db, .int .i64 t.al] 24))) := (Below.refl w.heap.size w).alloc (by simp) _
 have H0C : Hid (Chg w (w.alloc (.cells #[.slice pt lt ct, .int .i64 t.ff, .int .i64 t.fb, .int .i64 t.db, .int .i64 t.al] 24)) g) := .of H0B.out
 have H0t : Hid (Blk (w.alloc (.cells #[.slice pt lt ct, .int .i64 t.ff, .int .i64 t.fb, .int .i64 t.db, .int .i64 t.al] 24)) (w.heap.size) #[.slice pt lt ct, .int .i64 t.ff, .int .i64 t.fb, .int .i64 t.db, .int .i64 t.al] 24) := Blk.new w _ _
 have H0g : Hid (Blk (w.alloc (.cells #[.slice pt lt ct, .int .i64 t.ff, .int .i64 t.fb, .int .i64 t.db, .int .i64 t.al] 24)) g (wcs x bi0 p len cap) 121) := hw.alloc _
 have H0D : Hid (deb.Fresh (w.alloc (.cells #[.slice pt lt ct, .int .i64 t.ff, .int .i64 t.fb, .int .i64 t.db, .int .i64 t.al] 24)) (g + 1) p len cap x.ds) := hd.below H0B.out
 have H0T : Hid (Came (w.alloc (.cells #[.slice pt lt ct, .int .i64 t.ff, .int .i64 t.fb, .int .i64 t.db, .int .i64 t.al] 24)) pt lt ct t.ts) := ht.below H0B.out
 have HFAR : Hid (Far pt lt g) := hfar
 have HBG : Hid (∀ W, Blk W g (wcs x bi0 p len cap) 121 → deb.Fresh W (g + 1) p len cap x.ds → Came W pt lt ct t.ts → Calls Tryz.prog 113 #[.pointer (some ⟨g, 0, none⟩), .agg #[.slice pt lt ct, .int .i64 t.ff, .int .i64 t.fb, .int .i64 t.db, .int .i64 t.al], .int .i64 m] W fun e w' => DPost W g (BeginR x t m bi0) e w') := fun W h1 h2 h3 => pbegin g x p len cap t pt lt ct bi0 m W h1 h2 ha h3 hwf hfar
 have HM : Hid (AMay x) := ha
 have hnx := ha.2.2.2.1
 clear hw hd ht hwf hfar ha H0B
 generalize hWW : (w.alloc (.cells #[.slice pt lt ct, .int .i64 t.ff, .int .i64 t.fb, .int .i64 t.db, .int .i64 t.al] 24)) = W0 at *
 have HWW : Hid ((w.alloc (.cells #[.slice pt lt ct, .int .i64 t.ff, .int .i64 t.fb, .int .i64 t.db, .int .i64 t.al] 24)) = W0) := hWW
 clear hWW
 go_enter Tryz.func111, Tryz.ntmps111
 go_upto_region 1 with fail
 rw [HWW.out]
 clear HWW
 go_wp2_with (first | (refine zqw rfl rfl rfl H0t zqu24 ?_) | fail)
 refine (HBG.out _ H0g.out H0D.out H0T.out).mono ?_
 rintro e w1 ⟨y, b2, q, n, c, f, rfl, ⟨hr, hb2⟩, hi1, hf1, hc1⟩
 subst hb2
 have H1D : Hid (deb.Fresh w1 (g + 1) q n c y.ds) := hf1
 have H1g : Hid (Blk w1 g #[.int .i64 y.me, .int .i64 y.rv, .int .i64 y.nx, .int .i64 y.mo, .int .i64 y.bo, .int .i64 y.fr, .slice q n c, .int .i64 0, .int .i64 0, .int .i64 0, .int .i64 0, .int .i64 0, .int .i64 0, .int .i64 0] 121) := hi1
 have H1t : Hid (Blk w1 (w.heap.size) #[.slice pt lt ct, .int .i64 t.ff, .int .i64 t.fb, .int .i64 t.db, .int .i64 t.al] 24) := Chg.keep (g := g) (hc1) H0t.out (by omega)
 have H1T : Hid (Came w1 pt lt ct t.ts) := came_chg H0T.out (hc1) HFAR.out
 have H1C : Hid (Chg w w1 g) := H0C.out.trans (hc1)
 clear H0C H0g H0t H0T hf1 hc1 hi1 H0D HBG
 by_cases h0 : f = 0
 ·skip
  subst h0
  have hrr : TRight t ∧ RMay x m ∧ y = rolled x m := by
   rcases hr with ⟨h1, h2, _⟩ | ⟨_, _, h3, _⟩ | ⟨h1, h2, h3, _⟩
   ·exact absurd (h2.ok.1 rfl) h1
   ·exact absurd rfl h3.ne
   ·exact ⟨h1, h2, h3⟩
  have HRY : Hid (Ready x t m) := ⟨HM.out, hrr.1, hrr.2.1⟩
  have HT : Hid (TRight t) := hrr.1
  have HBR : Hid (y = rolled x m) := hrr.2.2
  have hbs := rolled_same x m
  rw [← hrr.2.2] at hbs
  have hbo := (rolled_may HM.out hrr.2.1).2.2.2.2.2.1
  rw [← hrr.2.2] at hbo
  have hdm : deb.Mays y.ds := by rw [hrr.2.2]; exact (rolled_may HM.out hrr.2.1).1
  have HYN : Hid (y.nx = x.nx) := hbs.2.2.1
  have hyx : 1 ≤ y.nx ∧ y.nx ≤ 1048576 := by rw [hbs.2.2.1]; exact hnx
  have HBS : Hid (y.me = x.me ∧ y.rv = x.rv ∧ y.nx = x.nx ∧ y.mo = m ∧ y.fr = x.fr) := hbs
  clear hrr hr hbs
  by_cases h5 : t.al = 0
  ·have d5 : (t.al == 0) = true := by simpa using h5
   have HV : Hid (Or0 (GrantIs x t m) y bi0 22) := .inl ⟨by decide, .inr (.inl ⟨HRY.out, h5, rfl, rfl, rfl⟩)⟩
   clear h5
   have qt4 : w1.cell? ⟨w.heap.size, 4, none⟩ = some (.int .i64 t.al) := H1t.out.cell 4
   go_wp2_with fail
   go_ret
   exact ⟨y, bi0, q, n, c, 22, rfl, HV.out, H1g.out, H1D.out, H1C.out⟩
  ·have d5 : (t.al == 0) = false := by simpa using h5
   by_cases h6 : x.fr = m
   ·have d6 : (y.fr == m) = true := by simp; rw [HBS.out.2.2.2.2]; exact h6
    have HV : Hid (Or0 (GrantIs x t m) y bi0 21) := .inl ⟨by decide, .inr (.inr (.inl ⟨HRY.out, h5, h6, rfl, rfl, rfl⟩))⟩
    clear h5 h6
    have qt4 : w1.cell? ⟨w.heap.size, 4, none⟩ = some (.int .i64 t.al) := H1t.out.cell 4
    have qg5 : w1.cell? ⟨g, 5, none⟩ = some (.int .i64 y.fr) := H1g.out.cell 5
    go_wp2_with fail
    go_ret
    exact ⟨y, bi0, q, n, c, 21, rfl, HV.out, H1g.out, H1D.out, H1C.out⟩
   ·have d6 : (y.fr == m) = false := by simp; rw [HBS.out.2.2.2.2]; exact h6
    have qt4 : w1.cell? ⟨w.heap.size, 4, none⟩ = some (.int .i64 t.al) := H1t.out.cell 4
    have qg5 : w1.cell? ⟨g, 5, none⟩ = some (.int .i64 y.fr) := H1g.out.cell 5
    go_wp2_with (first | (refine wp_let1 rfl 3 _ _ rfl g 5 rfl .i64 m rfl (by kernel_rfl) #[.int .i64 y.me, .int .i64 y.rv, .int .i64 y.nx, .int .i64 y.mo, .int .i64 y.bo, .int .i64 y.fr, .slice q n c, .int .i64 0, .int .i64 0, .int .i64 0, .int .i64 0, .int .i64 0, .int .i64 0, .int .i64 0] 121 H1g.out (by simp) ?_) | fail)
    intro W2 hU
    have H2g : Hid (Blk W2 g #[.int .i64 y.me, .int .i64 y.rv, .int .i64 y.nx, .int .i64 y.mo, .int .i64 y.bo, .int .i64 m, .slice q n c, .int .i64 0, .int .i64 0, .int .i64 0, .int .i64 0, .int .i64 0, .int .i64 0, .int .i64 0] 121) := hU.blk
    have H2t : Hid (Blk W2 (w.heap.size) #[.slice pt lt ct, .int .i64 t.ff, .int .i64 t.fb, .int .i64 t.db, .int .i64 t.al] 24) := Chg.keep (g := g) (.upd hU) H1t.out (by omega)
    have H2T : Hid (Came W2 pt lt ct t.ts) := came_chg H1T.out (.upd hU) HFAR.out
    have H2D : Hid (deb.Fresh W2 (g + 1) q n c y.ds) := fresh_chg H1D.out (.upd hU)
    have H2C : Hid (Chg w W2 g) := H1C.out.trans (.upd hU)
    clear H1C H1g H1t H1T H1D hU qt4 qg5 d5 d6
    have qt4 : W2.cell? ⟨w.heap.size, 4, none⟩ = some (.int .i64 t.al) := H2t.out.cell 4
    go_wp2_with (first | (refine wp_let1 rfl 3 _ _ rfl g 13 rfl .i64 t.al rfl (by kernel_rfl) #[.int .i64 y.me, .int .i64 y.rv, .int .i64 y.nx, .int .i64 y.mo, .int .i64 y.bo, .int .i64 m, .slice q n c, .int .i64 0, .int .i64 0, .int .i64 0, .int .i64 0, .int .i64 0, .int .i64 0, .int .i64 0] 121 H2g.out (by simp) ?_) | fail)
    intro W3 hU
    have H3g : Hid (Blk W3 g #[.int .i64 y.me, .int .i64 y.rv, .int .i64 y.nx, .int .i64 y.mo, .int .i64 y.bo, .int .i64 m, .slice q n c, .int .i64 0, .int .i64 0, .int .i64 0, .int .i64 0, .int .i64 0, .int .i64 0, .int .i64 t.al] 121) := hU.blk
    have H3t : Hid (Blk W3 (w.heap.size) #[.slice pt lt ct, .int .i64 t.ff, .int .i64 t.fb, .int .i64 t.db, .int .i64 t.al] 24) := Chg.keep (g := g) (.upd hU) H2t.out (by omega)
    have H3T : Hid (Came W3 pt lt ct t.ts) := came_chg H2T.out (.upd hU) HFAR.out
    have H3D : Hid (deb.Fresh W3 (g + 1) q n c y.ds) := fresh_chg H2D.out (.upd hU)
    have H3C : Hid (Chg w W3 g) := H2C.out.trans (.upd hU)
    clear H2C H2g H2t H2T H2D hU qt4
    have HGV : Hid (⟨y.me, y.rv, y.nx + 1, y.mo, y.bo, m, y.ds⟩ = granted x m) := by
     show _ = _
     unfold granted
     rw [← HBR.out, HBS.out.1, HBS.out.2.1, HBS.out.2.2.1, HBS.out.2.2.2.1]
    have HNU : Hid (Calls Tryz.prog 117 #[.pointer (some ⟨g, 0, none⟩)] W3 fun e w' => NumPost W3 g ⟨y.me, y.rv, y.nx, y.mo, y.bo, m, y.ds⟩ ⟨0, 0, 0, 0, 0, 0, t.al⟩ q n c e w') := pnum g ⟨y.me, y.rv, y.nx, y.mo, y.bo, m, y.ds⟩ ⟨0, 0, 0, 0, 0, 0, t.al⟩ q n c W3 H3g.out hyx
    go_wp2_with fail
    refine HNU.out.mono ?_
    rintro e wN ⟨hcN, ⟨hx, rfl, hiN⟩ | ⟨hx, rfl, hiN⟩⟩
    ·have HV : Hid (Or0 (GrantIs x t m) ⟨y.me, y.rv, y.nx, y.mo, y.bo, m, y.ds⟩ ⟨0, 0, 0, 0, 0, 0, t.al⟩ 20) := .inl ⟨by decide, .inr (.inr (.inr (.inl ⟨HRY.out, h5, h6, by rw [← HYN.out]; exact hx, rfl, rfl, rfl⟩)))⟩
     have HDN := fresh_chg H3D.out hcN
     have HCN := H3C.out.trans hcN
     clear HNU hx
     go_wp2_with fail
     go_ret
     exact ⟨⟨y.me, y.rv, y.nx, y.mo, y.bo, m, y.ds⟩, ⟨0, 0, 0, 0, 0, 0, t.al⟩, q, n, c, 20, rfl, HV.out, hiN, HDN, HCN⟩
    ·have HV : Hid (Or0 (GrantIs x t m) ⟨y.me, y.rv, y.nx + 1, y.mo, y.bo, m, y.ds⟩ ⟨y.nx, 0, 0, 0, 0, 0, t.al⟩ 0) := .inr ⟨rfl, .inr (.inr (.inr (.inr ⟨HRY.out, h5, h6, by rw [← HYN.out]; exact hx, rfl, HGV.out, by rw [HYN.out]⟩)))⟩
     have HDN := fresh_chg H3D.out hcN
     have HCN := H3C.out.trans hcN
     clear HNU hx
     go_wp2_with fail
     go_ret
     exact ⟨⟨y.me, y.rv, y.nx + 1, y.mo, y.bo, m, y.ds⟩, ⟨y.nx, 0, 0, 0, 0, 0, t.al⟩, q, n, c, 0, rfl, HV.out, hiN, HDN, HCN⟩
 ·skip
  have d0 : (f != 0) = true := by simpa using h0
  have HV : Hid (Or0 (GrantIs x t m) y bi0 f) := by
   refine .inl ⟨h0, .inl ⟨?_, rfl, rfl⟩⟩
   rcases hr with ⟨h1, h2, _⟩ | ⟨h1, h2, h3, _⟩ | ⟨_, _, _, h1⟩
   ·exact .inr (.inl ⟨HM.out, h1, h2⟩)
   ·exact .inr (.inr ⟨HM.out, h1, h2, h3⟩)
   ·exact absurd h1 h0
  clear hr h0
  go_wp2_with fail
  go_ret
  exact ⟨y, bi0, q, n, c, f, rfl, HV.out, H1g.out, H1D.out, H1C.out⟩
end acc
namespace book
open Go.RowKit cell
set_option maxRecDepth 100000
theorem take_next (l : List Int) (k : Nat) (h : k < l.length) : l.take k ++ [l.getD k 0] = l.take (k + 1) := by
 rw [List.take_add_one]; simp [List.getD, List.getElem?_eq_getElem h]
theorem index13_0 (a0 a1 a2 a3 a4 a5 a6 a7 a8 a9 a10 a11 a12 : Int) (W : World) : (Instr.index 146 (.agg #[.int .i64 a0, .int .i64 a1, .int .i64 a2, .int .i64 a3, .int .i64 a4, .int .i64 a5, .int .i64 a6, .int .i64 a7, .int .i64 a8, .int .i64 a9, .int .i64 a10, .int .i64 a11, .int .i64 a12]) (.int .i64 0)).run Tryz.prog W = .ok (.int .i64 a0) W := by kernel_rfl
theorem index13_1 (a0 a1 a2 a3 a4 a5 a6 a7 a8 a9 a10 a11 a12 : Int) (W : World) : (Instr.index 146 (.agg #[.int .i64 a0, .int .i64 a1, .int .i64 a2, .int .i64 a3, .int .i64 a4, .int .i64 a5, .int .i64 a6, .int .i64 a7, .int .i64 a8, .int .i64 a9, .int .i64 a10, .int .i64 a11, .int .i64 a12]) (.int .i64 1)).run Tryz.prog W = .ok (.int .i64 a1) W := by kernel_rfl
theorem index13_2 (a0 a1 a2 a3 a4 a5 a6 a7 a8 a9 a10 a11 a12 : Int) (W : World) : (Instr.index 146 (.agg #[.int .i64 a0, .int .i64 a1, .int .i64 a2, .int .i64 a3, .int .i64 a4, .int .i64 a5, .int .i64 a6, .int .i64 a7, .int .i64 a8, .int .i64 a9, .int .i64 a10, .int .i64 a11, .int .i64 a12]) (.int .i64 2)).run Tryz.prog W = .ok (.int .i64 a2) W := by kernel_rfl
theorem index13_3 (a0 a1 a2 a3 a4 a5 a6 a7 a8 a9 a10 a11 a12 : Int) (W : World) : (Instr.index 146 (.agg #[.int .i64 a0, .int .i64 a1, .int .i64 a2, .int .i64 a3, .int .i64 a4, .int .i64 a5, .int .i64 a6, .int .i64 a7, .int .i64 a8, .int .i64 a9, .int .i64 a10, .int .i64 a11, .int .i64 a12]) (.int .i64 3)).run Tryz.prog W = .ok (.int .i64 a3) W := by kernel_rfl
theorem index13_4 (a0 a1 a2 a3 a4 a5 a6 a7 a8 a9 a10 a11 a12 : Int) (W : World) : (Instr.index 146 (.agg #[.int .i64 a0, .int .i64 a1, .int .i64 a2, .int .i64 a3, .int .i64 a4, .int .i64 a5, .int .i64 a6, .int .i64 a7, .int .i64 a8, .int .i64 a9, .int .i64 a10, .int .i64 a11, .int .i64 a12]) (.int .i64 4)).run Tryz.prog W = .ok (.int .i64 a4) W := by kernel_rfl
theorem index13_5 (a0 a1 a2 a3 a4 a5 a6 a7 a8 a9 a10 a11 a12 : Int) (W : World) : (Instr.index 146 (.agg #[.int .i64 a0, .int .i64 a1, .int .i64 a2, .int .i64 a3, .int .i64 a4, .int .i64 a5, .int .i64 a6, .int .i64 a7, .int .i64 a8, .int .i64 a9, .int .i64 a10, .int .i64 a11, .int .i64 a12]) (.int .i64 5)).run Tryz.prog W = .ok (.int .i64 a5) W := by kernel_rfl
theorem index13_6 (a0 a1 a2 a3 a4 a5 a6 a7 a8 a9 a10 a11 a12 : Int) (W : World) : (Instr.index 146 (.agg #[.int .i64 a0, .int .i64 a1, .int .i64 a2, .int .i64 a3, .int .i64 a4, .int .i64 a5, .int .i64 a6, .int .i64 a7, .int .i64 a8, .int .i64 a9, .int .i64 a10, .int .i64 a11, .int .i64 a12]) (.int .i64 6)).run Tryz.prog W = .ok (.int .i64 a6) W := by kernel_rfl
theorem index13_7 (a0 a1 a2 a3 a4 a5 a6 a7 a8 a9 a10 a11 a12 : Int) (W : World) : (Instr.index 146 (.agg #[.int .i64 a0, .int .i64 a1, .int .i64 a2, .int .i64 a3, .int .i64 a4, .int .i64 a5, .int .i64 a6, .int .i64 a7, .int .i64 a8, .int .i64 a9, .int .i64 a10, .int .i64 a11, .int .i64 a12]) (.int .i64 7)).run Tryz.prog W = .ok (.int .i64 a7) W := by kernel_rfl
theorem index13_8 (a0 a1 a2 a3 a4 a5 a6 a7 a8 a9 a10 a11 a12 : Int) (W : World) : (Instr.index 146 (.agg #[.int .i64 a0, .int .i64 a1, .int .i64 a2, .int .i64 a3, .int .i64 a4, .int .i64 a5, .int .i64 a6, .int .i64 a7, .int .i64 a8, .int .i64 a9, .int .i64 a10, .int .i64 a11, .int .i64 a12]) (.int .i64 8)).run Tryz.prog W = .ok (.int .i64 a8) W := by kernel_rfl
theorem index13_9 (a0 a1 a2 a3 a4 a5 a6 a7 a8 a9 a10 a11 a12 : Int) (W : World) : (Instr.index 146 (.agg #[.int .i64 a0, .int .i64 a1, .int .i64 a2, .int .i64 a3, .int .i64 a4, .int .i64 a5, .int .i64 a6, .int .i64 a7, .int .i64 a8, .int .i64 a9, .int .i64 a10, .int .i64 a11, .int .i64 a12]) (.int .i64 9)).run Tryz.prog W = .ok (.int .i64 a9) W := by kernel_rfl
theorem index13_10 (a0 a1 a2 a3 a4 a5 a6 a7 a8 a9 a10 a11 a12 : Int) (W : World) : (Instr.index 146 (.agg #[.int .i64 a0, .int .i64 a1, .int .i64 a2, .int .i64 a3, .int .i64 a4, .int .i64 a5, .int .i64 a6, .int .i64 a7, .int .i64 a8, .int .i64 a9, .int .i64 a10, .int .i64 a11, .int .i64 a12]) (.int .i64 10)).run Tryz.prog W = .ok (.int .i64 a10) W := by kernel_rfl
theorem index13_11 (a0 a1 a2 a3 a4 a5 a6 a7 a8 a9 a10 a11 a12 : Int) (W : World) : (Instr.index 146 (.agg #[.int .i64 a0, .int .i64 a1, .int .i64 a2, .int .i64 a3, .int .i64 a4, .int .i64 a5, .int .i64 a6, .int .i64 a7, .int .i64 a8, .int .i64 a9, .int .i64 a10, .int .i64 a11, .int .i64 a12]) (.int .i64 11)).run Tryz.prog W = .ok (.int .i64 a11) W := by kernel_rfl
theorem index13_12 (a0 a1 a2 a3 a4 a5 a6 a7 a8 a9 a10 a11 a12 : Int) (W : World) : (Instr.index 146 (.agg #[.int .i64 a0, .int .i64 a1, .int .i64 a2, .int .i64 a3, .int .i64 a4, .int .i64 a5, .int .i64 a6, .int .i64 a7, .int .i64 a8, .int .i64 a9, .int .i64 a10, .int .i64 a11, .int .i64 a12]) (.int .i64 12)).run Tryz.prog W = .ok (.int .i64 a12) W := by kernel_rfl
theorem index13 (a0 a1 a2 a3 a4 a5 a6 a7 a8 a9 a10 a11 a12 : Int) (k : Nat) (hk : k < 13) (W : World) : (Instr.index 146 (.agg #[.int .i64 a0, .int .i64 a1, .int .i64 a2, .int .i64 a3, .int .i64 a4, .int .i64 a5, .int .i64 a6, .int .i64 a7, .int .i64 a8, .int .i64 a9, .int .i64 a10, .int .i64 a11, .int .i64 a12]) (.int .i64 (k : Int))).run Tryz.prog W = .ok (.int .i64 ([a0, a1, a2, a3, a4, a5, a6, a7, a8, a9, a10, a11, a12].getD k 0)) W := by
 match k, hk with
 | 0, _ => exact index13_0 a0 a1 a2 a3 a4 a5 a6 a7 a8 a9 a10 a11 a12 W
 | 1, _ => exact index13_1 a0 a1 a2 a3 a4 a5 a6 a7 a8 a9 a10 a11 a12 W
 | 2, _ => exact index13_2 a0 a1 a2 a3 a4 a5 a6 a7 a8 a9 a10 a11 a12 W
 | 3, _ => exact index13_3 a0 a1 a2 a3 a4 a5 a6 a7 a8 a9 a10 a11 a12 W
 | 4, _ => exact index13_4 a0 a1 a2 a3 a4 a5 a6 a7 a8 a9 a10 a11 a12 W
 | 5, _ => exact index13_5 a0 a1 a2 a3 a4 a5 a6 a7 a8 a9 a10 a11 a12 W
 | 6, _ => exact index13_6 a0 a1 a2 a3 a4 a5 a6 a7 a8 a9 a10 a11 a12 W
 | 7, _ => exact index13_7 a0 a1 a2 a3 a4 a5 a6 a7 a8 a9 a10 a11 a12 W
 | 8, _ => exact index13_8 a0 a1 a2 a3 a4 a5 a6 a7 a8 a9 a10 a11 a12 W
 | 9, _ => exact index13_9 a0 a1 a2 a3 a4 a5 a6 a7 a8 a9 a10 a11 a12 W
 | 10, _ => exact index13_10 a0 a1 a2 a3 a4 a5 a6 a7 a8 a9 a10 a11 a12 W
 | 11, _ => exact index13_11 a0 a1 a2 a3 a4 a5 a6 a7 a8 a9 a10 a11 a12 W
 | 12, _ => exact index13_12 a0 a1 a2 a3 a4 a5 a6 a7 a8 a9 a10 a11 a12 W
theorem make13 (w : World) : (Instr.makeSlice 25 (.int .i64 0) (.int .i64 13)).run Tryz.prog w = .ok (.slice (some ⟨w.heap.size, 0, none⟩) 0 13) (w.alloc (.cells (madeCells (Value.int .u32 0).cells 13) 64)) := by
 obtain ⟨i0, hi, hz0, hz1, hz2⟩ := info_parts info_u32
 have := run_make (P := Tryz.prog) w 25 64 i0 (.int .u32 0) Tryz.underlying25 hi hz0 .i64 .i64 0 13 (by omega) (by omega) (by rw [hz2]; decide) (by omega)
 rw [hz1] at this
 exact this
set_option maxHeartbeats 4000000 in
theorem bwords (v : Ev) (hm : ∀ x ∈ evL v, 0 ≤ x ∧ x < 4294967296) (w : World) : Calls Tryz.prog 64 #[.agg #[.int .i64 v.kd, .int .i64 v.me, .int .i64 v.mo, .int .i64 v.id, .int .i64 v.te, .int .i64 v.de, .int .i64 v.fe, .int .i64 v.pr, .int .i64 v.ch, .int .i64 v.un, .int .i64 v.tg, .int .i64 v.ow, .int .i64 v.bp]] w fun e w' => ∃ V, e = .returned V ∧ Ws w' w.heap.size V (evL v) ∧ Below w.heap.size w w' := by
 have HM : Hid (∀ k, k < 13 → 0 ≤ (evL v).getD k 0 ∧ (evL v).getD k 0 < 4294967296) := fun k hk => hm _ (by
  have hl : k < (evL v).length := hk
  rw [show (evL v).getD k 0 = (evL v)[k] by simp [List.getD, List.getElem?_eq_getElem hl]]
  exact List.getElem_mem _)
 have HIX : Hid (∀ k : Nat, k < 13 → ∀ W, (Instr.index 146 (.agg #[.int .i64 v.kd, .int .i64 v.me, .int .i64 v.mo, .int .i64 v.id, .int .i64 v.te, .int .i64 v.de, .int .i64 v.fe, .int .i64 v.pr, .int .i64 v.ch, .int .i64 v.un, .int .i64 v.tg, .int .i64 v.ow, .int .i64 v.bp]) (.int .i64 (k : Int))).run Tryz.prog W = .ok (.int .i64 ((evL v).getD k 0)) W) := fun k hk W => index13 v.kd v.me v.mo v.id v.te v.de v.fe v.pr v.ch v.un v.tg v.ow v.bp k hk W
 have HL : Hid ((evL v).length = 13) := rfl
 clear hm
 have HB1 : Hid (Below w.heap.size w ((w.alloc (.cells #[.int .i64 v.kd, .int .i64 v.me, .int .i64 v.mo, .int .i64 v.id, .int .i64 v.te, .int .i64 v.de, .int .i64 v.fe, .int .i64 v.pr, .int .i64 v.ch, .int .i64 v.un, .int .i64 v.tg, .int .i64 v.ow, .int .i64 v.bp] 71)).alloc (.cells #[.int .i64 v.kd, .int .i64 v.me, .int .i64 v.mo, .int .i64 v.id, .int .i64 v.te, .int .i64 v.de, .int .i64 v.fe, .int .i64 v.pr, .int .i64 v.ch, .int .i64 v.un, .int .i64 v.tg, .int .i64 v.ow, .int .i64 v.bp] 146))) := ((Below.refl _ _).alloc (Nat.le_refl _) _).alloc (by simp) _
 go_enter Tryz.func64, Tryz.ntmps64
 go_upto_region 2 with fail
 generalize hW1 : ((w.alloc (.cells #[.int .i64 v.kd, .int .i64 v.me, .int .i64 v.mo, .int .i64 v.id, .int .i64 v.te, .int .i64 v.de, .int .i64 v.fe, .int .i64 v.pr, .int .i64 v.ch, .int .i64 v.un, .int .i64 v.tg, .int .i64 v.ow, .int .i64 v.bp] 71)).alloc (.cells #[.int .i64 v.kd, .int .i64 v.me, .int .i64 v.mo, .int .i64 v.id, .int .i64 v.te, .int .i64 v.de, .int .i64 v.fe, .int .i64 v.pr, .int .i64 v.ch, .int .i64 v.un, .int .i64 v.tg, .int .i64 v.ow, .int .i64 v.bp] 146)) = W1 at *
 have HA : Hid (Blk W1 (w.heap.size + 1) #[.int .i64 v.kd, .int .i64 v.me, .int .i64 v.mo, .int .i64 v.id, .int .i64 v.te, .int .i64 v.de, .int .i64 v.fe, .int .i64 v.pr, .int .i64 v.ch, .int .i64 v.un, .int .i64 v.tg, .int .i64 v.ow, .int .i64 v.bp] 146) := by show Blk _ _ _ _; rw [← hW1]; exact Blk.new1 _ _ _ _
 clear hW1
 have hmk := make13 W1
 have hsz : w.heap.size ≤ W1.heap.size := HB1.out.size
 have HL0 : Hid (Ws (W1.alloc (.cells (madeCells (Value.int .u32 0).cells 13) 64)) w.heap.size (.slice (some ⟨W1.heap.size, 0, none⟩) 0 13) []) := World.ownsRow_made W1 _ 13 hsz (by unfold maxLen; omega) (size_madeCells _ _)
 have HB0 : Hid (Below w.heap.size w (W1.alloc (.cells (madeCells (Value.int .u32 0).cells 13) 64))) := HB1.out.alloc HB1.out.size _
 have HA0 : Hid (Blk (W1.alloc (.cells (madeCells (Value.int .u32 0).cells 13) 64)) (w.heap.size + 1) #[.int .i64 v.kd, .int .i64 v.me, .int .i64 v.mo, .int .i64 v.id, .int .i64 v.te, .int .i64 v.de, .int .i64 v.fe, .int .i64 v.pr, .int .i64 v.ch, .int .i64 v.un, .int .i64 v.tg, .int .i64 v.ow, .int .i64 v.bp] 146) := HA.out.alloc _
 generalize (W1.alloc (.cells (madeCells (Value.int .u32 0).cells 13) 64)) = W0 at *
 clear HA HB1
 obtain ⟨b0, b1, b2, b3, b4, b5, b6, b7, b8, b9, b10, b11, b12⟩ := scl13 HA0
 go_wp2_with fail
 clear hmk hsz b0 b1 b2 b3 b4 b5 b6 b7 b8 b9 b10 b11 b12
 go_loopw [4, 45] (fun v4 v45 wr => ∃ (k : Nat) (V : Value), k ≤ 13 ∧ V = v4 ∧ v45 = .int .i64 (k : Int) ∧ Ws wr w.heap.size V ((evL v).take k) ∧ Below w.heap.size w wr) (fun _ v45 _ => 13 - (intOf v45).toNat)
 case atStart => exact ⟨0, _, Nat.zero_le _, rfl, rfl, HL0.out, HB0.out⟩
 case round =>
  obtain ⟨k, V, hk, hV, rfl, hlw, hbl⟩ := hrel
  subst hV
  have hs6 : ((evL v).take k).length ≤ 1000000 := by rw [List.length_take]; omega
  have HUA : Hid (∀ o, Ws (wr.alloc o) w.heap.size V ((evL v).take k)) := fun o => hlw.alloc o
  have HBA : Hid (∀ o, Below w.heap.size w (wr.alloc o)) := fun o => hbl.alloc hbl.size o
  have HSA : Hid (∀ o, w.heap.size ≤ (wr.alloc o).heap.size) := fun o => (hbl.alloc hbl.size o).size
  have HBL : Hid (Below w.heap.size w wr) := hbl
  have HUL : Hid (Ws wr w.heap.size V ((evL v).take k)) := hlw
  clear hlw hbl HL0 HB0 HA0
  by_cases hkm : k < 13
  ·have hix := HIX.out k hkm
   have HPN : Hid ((evL v).take k ++ [(evL v).getD k 0] = (evL v).take (k + 1)) := take_next _ k hkm
   have hz := HM.out k hkm
   clear HIX HM
   generalize (evL v).getD k 0 = z at *
   have hwz : IntKind.u32.wrap z = z := by rw [IntKind.wrap_u32]; omega
   have hwz2 : z % 4294967296 = z := by omega
   have hdl : decide ((k : Int) < 13) = true := decide_eq_true (by omega)
   clear hz
   go_wp2_with (first | (refine wp_word rfl _ _ rfl w.heap.size wr.heap.size V ((evL v).take k) z rfl rfl (HUA.out _) ((Blk.new wr _ _).cell 0) hs6 (HSA.out _) ?_; intro v3 w3 h3 hg3; have hb3 := own_bel (HUA.out _) hg3 (HBA.out _) (Nat.le_refl _) (HSA.out _); have H3 : Hid (Ws w3 w.heap.size v3 ((evL v).take k ++ [z])) := h3; have HB3 : Hid (Below w.heap.size w w3) := hb3; clear h3 hg3 hb3) | fail)
   go_roundw
   case rel => exact ⟨k + 1, v3, by omega, rfl, by go_num, by rw [← HPN.out]; exact H3.out, HB3.out⟩
   case measure => simp [intOf]; omega
  ·have hdl : decide ((k : Int) < 13) = false := decide_eq_false (by omega)
   have HFN : Hid (Ws wr w.heap.size V (evL v)) := by
    have := HUL.out
    rw [List.take_of_length_le (by rw [HL.out]; omega)] at this
    exact this
   go_wp2_with fail
   go_ret
   exact ⟨V, rfl, HFN.out, HBL.out⟩
end book
end Go.Proofs.YtomibnggmhjdfaaGreat
