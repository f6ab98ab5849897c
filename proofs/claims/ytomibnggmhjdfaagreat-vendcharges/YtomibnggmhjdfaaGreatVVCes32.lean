import Derived.Test.YtomibnggmhjdfaaGreatVVCes10
import Derived.Test.YtomibnggmhjdfaaGreatVVCes14
import Derived.Test.YtomibnggmhjdfaaGreatVVCes21
import Derived.Test.YtomibnggmhjdfaaGreatVVCes31
set_option linter.unusedVariables false
set_option linter.unusedSimpArgs false
namespace Go.Proofs.YtomibnggmhjdfaaGreat
namespace acc
open tar (Du du0 Came RowD Ld PairT)
open Go.RowKit
set_option maxRecDepth 100000
set_option maxHeartbeats 16000000 in
theorem psell (g : Nat) (x : Ac) (p : Option Addr) (len cap : Nat) (t : Tm) (pt : Option Addr) (lt ct : Nat) (te m : Int) (w : World) (hw : Blk w g (wcs x bi0 p len cap) 121) (hd : deb.Fresh w (g + 1) p len cap x.ds) (ha : AMay x) (ht : Came w pt lt ct t.ts) (hwf : wf4 t) (hfar : Far pt lt g) : Calls Tryz.prog 109 #[.pointer (some ⟨g, 0, none⟩), .agg #[.slice pt lt ct, .int .i64 t.ff, .int .i64 t.fb, .int .i64 t.db, .int .i64 t.al], .int .i64 te, .int .i64 m] w fun e w' => DPost w g (Or0 (SellIs x t te m)) e w' := by
 have HIT : Hid (∀ W, Calls Tryz.prog 69 #[.int .i64 1, .int .i64 100000000, .int .i64 te] W fun e w' => e = .returned (.bool (decide (1 ≤ te ∧ te ≤ 100000000))) ∧ w' = W) := fun W => awithin 1 100000000 te W
 have hgl := hw.lt
 have H0B : Hid (Below w.heap.size w (w.alloc (.cells #[.slice pt lt ct, .int .i64 t.ff, .int .i64 t.fb, .int .i64 t.db, .int .i64 t.al] 24))) := (Below.refl w.heap.size w).alloc (by simp) _
 have H0C : Hid (Chg w (w.alloc (.cells #[.slice pt lt ct, .int .i64 t.ff, .int .i64 t.fb, .int .i64 t.db, .int .i64 t.al] 24)) g) := .of H0B.out
 have H0t : Hid (Blk (w.alloc (.cells #[.slice pt lt ct, .int .i64 t.ff, .int .i64 t.fb, .int .i64 t.db, .int .i64 t.al] 24)) (w.heap.size) #[.slice pt lt ct, .int .i64 t.ff, .int .i64 t.fb, .int .i64 t.db, .int .i64 t.al] 24) := Blk.new w _ _
 have H0g : Hid (Blk (w.alloc (.cells #[.slice pt lt ct, .int .i64 t.ff, .int .i64 t.fb, .int .i64 t.db, .int .i64 t.al] 24)) g (wcs x bi0 p len cap) 121) := hw.alloc _
 have H0D : Hid (deb.Fresh (w.alloc (.cells #[.slice pt lt ct, .int .i64 t.ff, .int .i64 t.fb, .int .i64 t.db, .int .i64 t.al] 24)) (g + 1) p len cap x.ds) := hd.below H0B.out
 have H0T : Hid (Came (w.alloc (.cells #[.slice pt lt ct, .int .i64 t.ff, .int .i64 t.fb, .int .i64 t.db, .int .i64 t.al] 24)) pt lt ct t.ts) := ht.below H0B.out
 have HFAR : Hid (Far pt lt g) := hfar
 have HBG : Hid (∀ W, Blk W g (wcs x bi0 p len cap) 121 → deb.Fresh W (g + 1) p len cap x.ds → Came W pt lt ct t.ts → Calls Tryz.prog 113 #[.pointer (some ⟨g, 0, none⟩), .agg #[.slice pt lt ct, .int .i64 t.ff, .int .i64 t.fb, .int .i64 t.db, .int .i64 t.al], .int .i64 m] W fun e w' => DPost W g (BeginR x t m bi0) e w') := fun W h1 h2 h3 => pbegin g x p len cap t pt lt ct bi0 m W h1 h2 ha h3 hwf hfar
 have HM : Hid (AMay x) := ha
 have hnx := ha.2.2.2.1
 clear hw hd ht hwf hfar ha H0B
 generalize hWW : (w.alloc (.cells #[.slice pt lt ct, .int .i64 t.ff, .int .i64 t.fb, .int .i64 t.db, .int .i64 t.al] 24)) = W0 at *
 have HWW : Hid ((w.alloc (.cells #[.slice pt lt ct, .int .i64 t.ff, .int .i64 t.fb, .int .i64 t.db, .int .i64 t.al] 24)) = W0) := hWW
 clear hWW
 go_enter Tryz.func109, Tryz.ntmps109
 go_upto_region 1 with fail
 rw [HWW.out]
 clear HWW
 go_wp2_with (first | (refine zqw rfl rfl rfl H0t zqu24 ?_) | fail)
 refine (HBG.out _ H0g.out H0D.out H0T.out).mono ?_
 rintro e w1 ⟨y, b2, q, n, c, f, rfl, ⟨hr, hb2⟩, hi1, hf1, hc1⟩
 subst hb2
 have H1D : Hid (deb.Fresh w1 (g + 1) q n c y.ds) := hf1
 have H1g : Hid (Blk w1 g #[.int .i64 y.me, .int .i64 y.rv, .int .i64 y.nx, .int .i64 y.mo, .int .i64 y.bo, .int .i64 y.fr, .slice q n c, .int .i64 0, .int .i64 0, .int .i64 0, .int .i64 0, .int .i64 0, .int .i64 0, .int .i64 0] 121) := hi1
 have H1t : Hid (Blk w1 (w.heap.size) #[.slice pt lt ct, .int .i64 t.ff, .int .i64 t.fb, .int .i64 t.db, .int .i64 t.al] 24) := Chg.keep (g := g) (hc1) H0t.out (by omega)
 have H1T : Hid (Came w1 pt lt ct t.ts) := came_chg H0T.out (hc1) HFAR.out
 have H1C : Hid (Chg w w1 g) := H0C.out.trans (hc1)
 clear H0C H0g H0t H0T hf1 hc1 hi1 H0D HBG
 by_cases h0 : f = 0
 ·skip
  subst h0
  have hrr : TRight t ∧ RMay x m ∧ y = rolled x m := by
   rcases hr with ⟨h1, h2, _⟩ | ⟨_, _, h3, _⟩ | ⟨h1, h2, h3, _⟩
   ·exact absurd (h2.ok.1 rfl) h1
   ·exact absurd rfl h3.ne
   ·exact ⟨h1, h2, h3⟩
  have HRY : Hid (Ready x t m) := ⟨HM.out, hrr.1, hrr.2.1⟩
  have HT : Hid (TRight t) := hrr.1
  have HBR : Hid (y = rolled x m) := hrr.2.2
  have hbs := rolled_same x m
  rw [← hrr.2.2] at hbs
  have hbo := (rolled_may HM.out hrr.2.1).2.2.2.2.2.1
  rw [← hrr.2.2] at hbo
  have hdm : deb.Mays y.ds := by rw [hrr.2.2]; exact (rolled_may HM.out hrr.2.1).1
  have HYN : Hid (y.nx = x.nx) := hbs.2.2.1
  have hyx : 1 ≤ y.nx ∧ y.nx ≤ 1048576 := by rw [hbs.2.2.1]; exact hnx
  have HBS : Hid (y.me = x.me ∧ y.rv = x.rv ∧ y.nx = x.nx ∧ y.mo = m ∧ y.fr = x.fr) := hbs
  clear hrr hr hbs
  by_cases h5 : 1 ≤ te ∧ te ≤ 100000000
  ·rw [decide_eq_true h5] at HIT
   go_wp2_with fail
   refine (HIT.out _).mono ?_
   rintro e wz ⟨rfl, hwz⟩
   subst wz
   clear HIT
   go_wp2_with fail
   have htok := HT.out.2
   have HTM : Hid (deb.TMay te t.db) := ⟨⟨by omega, h5.2⟩, htok.2.2.1⟩
   have HRE : Hid (Calls Tryz.prog 114 #[.slice q n c, .int .i64 te, .int .i64 t.db] w1.drew fun e w' => deb.RecPost w1.drew y.ds te t.db e w') := deb.krec _ q n c y.ds te t.db (fresh_drew H1D.out).came (tar.wf_mid (by omega) (by omega)) (tar.wf_mid htok.2.2.1.1 (by have := htok.2.2.1.2; omega))
   have HPA : Hid (∀ W, Calls Tryz.prog 115 #[.int .i64 te, .int .i64 t.fb] W fun e w' => e = .returned (.tuple #[.int .i64 (te * t.fb / 10000), .int .i64 0]) ∧ Below W.heap.size W w') := fun W => cents.part_yes te t.fb W (by omega) (by omega) htok.2.1.1 htok.2.1.2
   have hpb := deb.share_bd (t := te) (bp := t.fb) ⟨⟨by omega, h5.2⟩, htok.2.1⟩
   have hsb := deb.share_bd HTM.out
   refine wp_region_held_drew (S := fun v => Blk v (g) #[.int .i64 y.me, .int .i64 y.rv, .int .i64 y.nx, .int .i64 y.mo, .int .i64 y.bo, .int .i64 y.fr, .slice q n c, .int .i64 0, .int .i64 0, .int .i64 0, .int .i64 0, .int .i64 0, .int .i64 0, .int .i64 0] 121 ∧ Blk v (w.heap.size) #[.slice pt lt ct, .int .i64 t.ff, .int .i64 t.fb, .int .i64 t.db, .int .i64 t.al] 24) (by kernel_rfl) ⟨Blk.drew H1g.out 1, Blk.drew H1t.out 1⟩ (fun hHeld => ?_)
   refine zqs 0 31 (.pointer (some ⟨g, 0, none⟩)) rfl rfl (by kernel_rfl) (fun _ _ _ h => h) rfl (fun v hv => by clear hv; go_simp) hHeld ?_
   simp only [Act.put, zqa, zqb, zqc]
   refine zqs 1 32 (.pointer (some ⟨g, 0, none⟩)) rfl rfl (by kernel_rfl) (fun _ _ _ h => h) rfl (fun v hv => by clear hv; go_simp) hHeld ?_
   simp only [Act.put, zqa, zqb, zqc]
   refine zqs 2 33 (.pointer (some ⟨g, 0, none⟩)) rfl rfl (by kernel_rfl) (fun _ _ _ h => h) rfl (fun v hv => by clear hv; go_simp) hHeld ?_
   simp only [Act.put, zqa, zqb, zqc]
   refine zqs 3 34 (.pointer (some ⟨g, 6, none⟩)) rfl rfl (by kernel_rfl) (fun _ _ _ h => h) rfl (fun v hv => by clear hv; go_simp) hHeld ?_
   simp only [Act.put, zqa, zqb, zqc]
   refine zqt 4 35 (.slice q n c) rfl rfl (by kernel_rfl) (fun _ _ _ h => h) (Or.inl ⟨by rfl, fun v hv => by have g0 := hv.1.cell 6; clear hv; go_simp⟩) hHeld ?_
   simp only [Act.put, zqa, zqb, zqc]
   refine zqs 5 36 (.int .i64 te) rfl rfl (by kernel_rfl) (fun _ _ _ h => h) rfl (fun v hv => by clear hv; go_simp) hHeld ?_
   simp only [Act.put, zqa, zqb, zqc]
   refine zqs 6 37 (.pointer (some ⟨w.heap.size, 3, none⟩)) rfl rfl (by kernel_rfl) (fun _ _ _ h => h) rfl (fun v hv => by clear hv; go_simp) hHeld ?_
   simp only [Act.put, zqa, zqb, zqc]
   refine zqt 7 38 (.int .i64 t.db) rfl rfl (by kernel_rfl) (fun _ _ _ h => h) (Or.inl ⟨by rfl, fun v hv => by have g0 := hv.2.cell 3; clear hv; go_simp⟩) hHeld ?_
   simp only [Act.put, zqa, zqb, zqc]
   refine zqo 8 (by kernel_rfl) rfl (fun K hK => ?_)
   rw [if_pos (by rfl)]
   refine wp_callOp 39 rfl (by clear hK; go_simp) HRE.out ?_
   rintro e w5 ⟨pz, lz, cz, z, pd, fz, rfl, hi5, hf5, hb5⟩
   obtain ⟨rfl, hz, hpd⟩ := hi5.got hdm HTM.out
   have HZF : Hid (deb.Fresh w5 (g + 1) pz lz cz z) := hf5.low (by show g + 1 ≤ w1.heap.size; have := H1g.out.lt; omega)
   have hT0 := (deb.sumD_pos (deb.mem_fits hdm.2)).1
   have hpd0 : 0 ≤ pd := by rw [hpd]; omega
   have hpd1 : pd ≤ 100000000 := by rw [hpd]; omega
   have HPD : Hid (pd = paid x t te m) := by show _ = _; rw [hpd]; unfold paid share; rw [← HBR.out]
   have HZV : Hid (z = deb.recK (rolled x m).ds (share t te) (rolled x m).ds.length) := by show _ = _; rw [hz]; unfold share; rw [← HBR.out]
   have HFE : Hid (t.ff + te * t.fb / 10000 = fee t te) := rfl
   clear hpd hz hT0 hi5 hf5
   have H2g : Hid (Blk w5 g #[.int .i64 y.me, .int .i64 y.rv, .int .i64 y.nx, .int .i64 y.mo, .int .i64 y.bo, .int .i64 y.fr, .slice q n c, .int .i64 0, .int .i64 0, .int .i64 0, .int .i64 0, .int .i64 0, .int .i64 0, .int .i64 0] 121) := (Blk.drew H1g.out 1).next hb5
   have H2t : Hid (Blk w5 (w.heap.size) #[.slice pt lt ct, .int .i64 t.ff, .int .i64 t.fb, .int .i64 t.db, .int .i64 t.al] 24) := Chg.keep (g := g) ((Chg.of (bel_drew (Below.refl _ _) 1)).trans (.of hb5)) H1t.out (by omega)
   have H2T : Hid (Came w5 pt lt ct t.ts) := came_chg H1T.out ((Chg.of (bel_drew (Below.refl _ _) 1)).trans (.of hb5)) HFAR.out
   have H2D : Hid (deb.Fresh w5 (g + 1) q n c y.ds) := fresh_chg H1D.out ((Chg.of (bel_drew (Below.refl _ _) 1)).trans (.of hb5))
   have H2C : Hid (Chg w w5 g) := H1C.out.trans ((Chg.of (bel_drew (Below.refl _ _) 1)).trans (.of hb5))
   clear H1C H1g H1t H1T H1D
   refine ⟨_, rfl, hK.out _ _ ⟨H2g.out, H2t.out⟩ (fun hHeld => ?_)⟩
   clear hK K hb5 HRE
   simp only [Act.put, zqa, zqb, zqc]
   refine zqs 9 30 (.tuple #[.slice pz lz cz, .int .i64 pd, .int .i64 0]) rfl rfl (by kernel_rfl) (fun _ _ _ h => h) rfl (fun v hv => by clear hv; go_simp) hHeld ?_
   simp only [Act.put, zqa, zqb, zqc]
   refine zqs 10 40 (.slice pz lz cz) rfl rfl (by kernel_rfl) (fun _ _ _ h => h) rfl (fun v hv => by clear hv; go_simp) hHeld ?_
   simp only [Act.put, zqa, zqb, zqc]
   refine zqs 11 41 (.int .i64 pd) rfl rfl (by kernel_rfl) (fun _ _ _ h => h) rfl (fun v hv => by clear hv; go_simp) hHeld ?_
   simp only [Act.put, zqa, zqb, zqc]
   refine zqs 12 42 (.int .i64 0) rfl rfl (by kernel_rfl) (fun _ _ _ h => h) rfl (fun v hv => by clear hv; go_simp) hHeld ?_
   simp only [Act.put, zqa, zqb, zqc]
   refine zqs 13 10 (.slice pz lz cz) rfl rfl (by kernel_rfl) (fun _ _ _ h => h) rfl (fun v hv => by clear hv; go_simp) hHeld ?_
   simp only [Act.put, zqa, zqb, zqc]
   refine zqs 14 11 (.int .i64 pd) rfl rfl (by kernel_rfl) (fun _ _ _ h => h) rfl (fun v hv => by clear hv; go_simp) hHeld ?_
   simp only [Act.put, zqa, zqb, zqc]
   refine zqs 15 12 (.int .i64 0) rfl rfl (by kernel_rfl) (fun _ _ _ h => h) rfl (fun v hv => by clear hv; go_simp) hHeld ?_
   simp only [Act.put, zqa, zqb, zqc]
   refine wpAnyH_done (by kernel_rfl) ?_ _
   clear hHeld
   have qt2 : w5.cell? ⟨w.heap.size, 2, none⟩ = some (.int .i64 t.fb) := H2t.out.cell 2
   go_wp2_with fail
   refine (HPA.out _).mono ?_
   rintro e w6 ⟨rfl, hb6⟩
   have H3g := shN H2g hb6
   have H3t : Hid (Blk w6 (w.heap.size) #[.slice pt lt ct, .int .i64 t.ff, .int .i64 t.fb, .int .i64 t.db, .int .i64 t.al] 24) := Chg.keep (g := g) (.of hb6) H2t.out (by omega)
   have H3T : Hid (Came w6 pt lt ct t.ts) := came_chg H2T.out (.of hb6) HFAR.out
   have H3D : Hid (deb.Fresh w6 (g + 1) q n c y.ds) := fresh_chg H2D.out (.of hb6)
   have H3Z : Hid (deb.Fresh w6 (g + 1) pz lz cz z) := fresh_chg HZF.out (.of hb6)
   have H3C : Hid (Chg w w6 g) := H2C.out.trans (.of hb6)
   clear H2C H2g H2t H2T H2D HZF hb6 qt2 HPA
   generalize te * t.fb / 10000 = pq at *
   have hff := htok.1
   have HRS : Hid (te - pd - (t.ff + pq) = rest x t te m) := by show _ = _; unfold rest; rw [HPD.out, HFE.out]
   have HRH : Hid (tar.Right t.ts) := HT.out.1
   clear htok
   by_cases h6 : te - pd - (t.ff + pq) < 0
   ·have d6 : decide (te - pd - (t.ff + pq) < 0) = true := decide_eq_true h6
    have HV : Hid (Or0 (SellIs x t te m) y bi0 19) := .inl ⟨by decide, .inr (.inl ⟨HRY.out, fun hh => by have := hh.2.1; rw [← HRS.out] at this; omega, rfl, rfl, rfl⟩)⟩
    have qt1 : w6.cell? ⟨w.heap.size, 1, none⟩ = some (.int .i64 t.ff) := H3t.out.cell 1
    go_wp2_with fail
    go_ret
    exact ⟨y, bi0, q, n, c, 19, rfl, HV.out, H3g.out, H3D.out, H3C.out⟩
   ·have d6 : decide (te - pd - (t.ff + pq) < 0) = false := decide_eq_false h6
    have HMS : Hid (Calls Tryz.prog 116 #[.slice pt lt ct, .int .i64 y.bo, .int .i64 (te - pd - (t.ff + pq))] w6.drew fun e w' => tar.ThreePost w6.drew (tar.MostIs t.ts y.bo (te - pd - (t.ff + pq))) e w') := tar.kmost _ pt lt ct t.ts y.bo _ (H3T.out.below (bel_drew (Below.refl _ _) 1)) (tar.wf_mid hbo.1 (by omega)) (tar.wf_mid (by omega) (by omega))
    have HMM : Hid (tar.MayMost y.bo (te - pd - (t.ff + pq))) := ⟨hbo, by omega, by omega⟩
    have qt1 : w6.cell? ⟨w.heap.size, 1, none⟩ = some (.int .i64 t.ff) := H3t.out.cell 1
    go_wp2_with fail
    clear qt1
    refine wp_region_held_drew (S := fun v => Blk v (g) #[.int .i64 y.me, .int .i64 y.rv, .int .i64 y.nx, .int .i64 y.mo, .int .i64 y.bo, .int .i64 y.fr, .slice q n c, .int .i64 0, .int .i64 0, .int .i64 0, .int .i64 0, .int .i64 0, .int .i64 0, .int .i64 0] 121 ∧ Blk v (w.heap.size) #[.slice pt lt ct, .int .i64 t.ff, .int .i64 t.fb, .int .i64 t.db, .int .i64 t.al] 24) (by kernel_rfl) ⟨Blk.drew H3g.out 1, Blk.drew H3t.out 1⟩ (fun hHeld => ?_)
    refine zqs 0 62 (.pointer (some ⟨w.heap.size, 0, none⟩)) rfl rfl (by kernel_rfl) (fun _ _ _ h => h) rfl (fun v hv => by clear hv; go_simp) hHeld ?_
    simp only [Act.put, zqa, zqb, zqc]
    refine zqt 1 63 (.slice pt lt ct) rfl rfl (by kernel_rfl) (fun _ _ _ h => h) (Or.inl ⟨by rfl, fun v hv => by have g0 := hv.2.cell 0; clear hv; go_simp⟩) hHeld ?_
    simp only [Act.put, zqa, zqb, zqc]
    refine zqs 2 64 (.pointer (some ⟨g, 0, none⟩)) rfl rfl (by kernel_rfl) (fun _ _ _ h => h) rfl (fun v hv => by clear hv; go_simp) hHeld ?_
    simp only [Act.put, zqa, zqb, zqc]
    refine zqs 3 65 (.pointer (some ⟨g, 0, none⟩)) rfl rfl (by kernel_rfl) (fun _ _ _ h => h) rfl (fun v hv => by clear hv; go_simp) hHeld ?_
    simp only [Act.put, zqa, zqb, zqc]
    refine zqs 4 66 (.pointer (some ⟨g, 0, none⟩)) rfl rfl (by kernel_rfl) (fun _ _ _ h => h) rfl (fun v hv => by clear hv; go_simp) hHeld ?_
    simp only [Act.put, zqa, zqb, zqc]
    refine zqs 5 67 (.pointer (some ⟨g, 4, none⟩)) rfl rfl (by kernel_rfl) (fun _ _ _ h => h) rfl (fun v hv => by clear hv; go_simp) hHeld ?_
    simp only [Act.put, zqa, zqb, zqc]
    refine zqt 6 68 (.int .i64 y.bo) rfl rfl (by kernel_rfl) (fun _ _ _ h => h) (Or.inl ⟨by rfl, fun v hv => by have g0 := hv.1.cell 4; clear hv; go_simp⟩) hHeld ?_
    simp only [Act.put, zqa, zqb, zqc]
    refine zqs 7 69 (.int .i64 (te - pd - (t.ff + pq))) rfl rfl (by kernel_rfl) (fun _ _ _ h => h) rfl (fun v hv => by clear hv; go_simp) hHeld ?_
    simp only [Act.put, zqa, zqb, zqc]
    refine zqo 8 (by kernel_rfl) rfl (fun K hK => ?_)
    rw [if_pos (by rfl)]
    refine wp_callOp 70 rfl (by clear hK; go_simp) HMS.out ?_
    rintro e w7 ⟨u, pc, fm, rfl, hi7, hb7⟩
    obtain ⟨rfl, hmo7, hpc⟩ := hi7.got HRH.out HMM.out
    have hu0 := hmo7.1.1
    have hu1 : u ≤ 2097151 := by have := hmo7.1.2; unfold tar.Top at this; omega
    have hu2 : y.bo + u ≤ 10000000 := by have := hmo7.1.2; unfold tar.Top at this; omega
    have hcb := tar.cost_bd HRH.out y.bo (y.bo + u) hbo.1 (by omega) hu2
    rw [← hpc] at hcb
    have hpc1 : pc ≤ (te - pd - (t.ff + pq)) := by rw [hpc]; exact hmo7.2.1
    have hpc0 : 0 ≤ pc := by omega
    have HMO : Hid (tar.MostOf t.ts (rolled x m).bo (rest x t te m) u) := by show tar.MostOf _ _ _ _; rw [← HBR.out, ← HRS.out]; exact hmo7
    have HPC : Hid (pc = tar.cost t.ts (rolled x m).bo ((rolled x m).bo + u)) := by show _ = _; rw [← HBR.out]; exact hpc
    have HONE : Hid (∀ v, tar.MostOf t.ts (rolled x m).bo (rest x t te m) v → v = u) := fun v hv => by
     have hbb : 0 ≤ (rolled x m).bo := by rw [← HBR.out]; exact hbo.1
     exact hv.one HRH.out hbb HMO.out
    clear hmo7 hpc hcb hi7
    have H4g : Hid (Blk w7 g #[.int .i64 y.me, .int .i64 y.rv, .int .i64 y.nx, .int .i64 y.mo, .int .i64 y.bo, .int .i64 y.fr, .slice q n c, .int .i64 0, .int .i64 0, .int .i64 0, .int .i64 0, .int .i64 0, .int .i64 0, .int .i64 0] 121) := (Blk.drew H3g.out 1).next hb7
    have H4t : Hid (Blk w7 (w.heap.size) #[.slice pt lt ct, .int .i64 t.ff, .int .i64 t.fb, .int .i64 t.db, .int .i64 t.al] 24) := Chg.keep (g := g) ((Chg.of (bel_drew (Below.refl _ _) 1)).trans (.of hb7)) H3t.out (by omega)
    have H4T : Hid (Came w7 pt lt ct t.ts) := came_chg H3T.out ((Chg.of (bel_drew (Below.refl _ _) 1)).trans (.of hb7)) HFAR.out
    have H4D : Hid (deb.Fresh w7 (g + 1) q n c y.ds) := fresh_chg H3D.out ((Chg.of (bel_drew (Below.refl _ _) 1)).trans (.of hb7))
    have H4Z : Hid (deb.Fresh w7 (g + 1) pz lz cz z) := fresh_chg H3Z.out ((Chg.of (bel_drew (Below.refl _ _) 1)).trans (.of hb7))
    have H4C : Hid (Chg w w7 g) := H3C.out.trans ((Chg.of (bel_drew (Below.refl _ _) 1)).trans (.of hb7))
    clear H3C H3g H3t H3T H3D H3Z
    refine ⟨_, rfl, hK.out _ _ ⟨H4g.out, H4t.out⟩ (fun hHeld => ?_)⟩
    clear hK K hb7 HMS
    simp only [Act.put, zqa, zqb, zqc]
    refine zqs 9 61 (.tuple #[.int .i64 u, .int .i64 pc, .int .i64 0]) rfl rfl (by kernel_rfl) (fun _ _ _ h => h) rfl (fun v hv => by clear hv; go_simp) hHeld ?_
    simp only [Act.put, zqa, zqb, zqc]
    refine zqs 10 71 (.int .i64 u) rfl rfl (by kernel_rfl) (fun _ _ _ h => h) rfl (fun v hv => by clear hv; go_simp) hHeld ?_
    simp only [Act.put, zqa, zqb, zqc]
    refine zqs 11 72 (.int .i64 pc) rfl rfl (by kernel_rfl) (fun _ _ _ h => h) rfl (fun v hv => by clear hv; go_simp) hHeld ?_
    simp only [Act.put, zqa, zqb, zqc]
    refine zqs 12 73 (.int .i64 0) rfl rfl (by kernel_rfl) (fun _ _ _ h => h) rfl (fun v hv => by clear hv; go_simp) hHeld ?_
    simp only [Act.put, zqa, zqb, zqc]
    refine zqs 13 17 (.int .i64 u) rfl rfl (by kernel_rfl) (fun _ _ _ h => h) rfl (fun v hv => by clear hv; go_simp) hHeld ?_
    simp only [Act.put, zqa, zqb, zqc]
    refine zqs 14 18 (.int .i64 pc) rfl rfl (by kernel_rfl) (fun _ _ _ h => h) rfl (fun v hv => by clear hv; go_simp) hHeld ?_
    simp only [Act.put, zqa, zqb, zqc]
    refine zqs 15 19 (.int .i64 0) rfl rfl (by kernel_rfl) (fun _ _ _ h => h) rfl (fun v hv => by clear hv; go_simp) hHeld ?_
    simp only [Act.put, zqa, zqb, zqc]
    refine wpAnyH_done (by kernel_rfl) ?_ _
    clear hHeld
    by_cases h7 : u = 0
    ·have d7 : (u == 0) = true := by simpa using h7
     have HV : Hid (Or0 (SellIs x t te m) y bi0 19) := .inl ⟨by decide, .inr (.inl ⟨HRY.out, fun hh => hh.2.2 (by rw [← h7]; exact HMO.out), rfl, rfl, rfl⟩)⟩
     clear h7
     go_wp2_with fail
     go_ret
     exact ⟨y, bi0, q, n, c, 19, rfl, HV.out, H4g.out, H4D.out, H4C.out⟩
    ·have d7 : (u == 0) = false := by simpa using h7
     have HTE : Hid (TenOk x t te m) := ⟨h5, by rw [← HRS.out]; omega, fun hh => h7 (HONE.out 0 hh).symm⟩
     clear h7
     go_wp2_with (first | (refine wp_letS rfl 57 _ _ rfl g 6 rfl pz lz cz rfl (by kernel_rfl) #[.int .i64 y.me, .int .i64 y.rv, .int .i64 y.nx, .int .i64 y.mo, .int .i64 y.bo, .int .i64 y.fr, .slice q n c, .int .i64 0, .int .i64 0, .int .i64 0, .int .i64 0, .int .i64 0, .int .i64 0, .int .i64 0] 121 H4g.out (by simp) ?_) | fail)
     intro W8 hU
     have H5g : Hid (Blk W8 g #[.int .i64 y.me, .int .i64 y.rv, .int .i64 y.nx, .int .i64 y.mo, .int .i64 y.bo, .int .i64 y.fr, .slice pz lz cz, .int .i64 0, .int .i64 0, .int .i64 0, .int .i64 0, .int .i64 0, .int .i64 0, .int .i64 0] 121) := hU.blk
     have H5t : Hid (Blk W8 (w.heap.size) #[.slice pt lt ct, .int .i64 t.ff, .int .i64 t.fb, .int .i64 t.db, .int .i64 t.al] 24) := Chg.keep (g := g) (.upd hU) H4t.out (by omega)
     have H5Z : Hid (deb.Fresh W8 (g + 1) pz lz cz z) := fresh_chg H4Z.out (.upd hU)
     have H5C : Hid (Chg w W8 g) := H4C.out.trans (.upd hU)
     clear H4C H4g H4t H4Z hU d7
     have qg4 : W8.cell? ⟨g, 4, none⟩ = some (.int .i64 y.bo) := H5g.out.cell 4
     have hwb : IntKind.i64.wrap (y.bo + u) = y.bo + u := by rw [IntKind.wrap_i64]; omega
     go_wp2_with (first | (refine wp_let1 rfl 3 _ _ rfl g 4 rfl .i64 (y.bo + u) rfl (by kernel_rfl) #[.int .i64 y.me, .int .i64 y.rv, .int .i64 y.nx, .int .i64 y.mo, .int .i64 y.bo, .int .i64 y.fr, .slice pz lz cz, .int .i64 0, .int .i64 0, .int .i64 0, .int .i64 0, .int .i64 0, .int .i64 0, .int .i64 0] 121 H5g.out (by simp) ?_) | fail)
     intro W9 hU
     have H6g : Hid (Blk W9 g #[.int .i64 y.me, .int .i64 y.rv, .int .i64 y.nx, .int .i64 y.mo, .int .i64 (y.bo + u), .int .i64 y.fr, .slice pz lz cz, .int .i64 0, .int .i64 0, .int .i64 0, .int .i64 0, .int .i64 0, .int .i64 0, .int .i64 0] 121) := hU.blk
     have H6t : Hid (Blk W9 (w.heap.size) #[.slice pt lt ct, .int .i64 t.ff, .int .i64 t.fb, .int .i64 t.db, .int .i64 t.al] 24) := Chg.keep (g := g) (.upd hU) H5t.out (by omega)
     have H6Z : Hid (deb.Fresh W9 (g + 1) pz lz cz z) := fresh_chg H5Z.out (.upd hU)
     have H6C : Hid (Chg w W9 g) := H5C.out.trans (.upd hU)
     clear H5C H5g H5t H5Z hU qg4 hwb
     have hwd : IntKind.i64.wrap ((te - pd - (t.ff + pq)) - pc) = (te - pd - (t.ff + pq)) - pc := by rw [IntKind.wrap_i64]; omega
     have HPUT : Hid (putAll #[.int .i64 y.me, .int .i64 y.rv, .int .i64 y.nx, .int .i64 y.mo, .int .i64 (y.bo + u), .int .i64 y.fr, .slice pz lz cz, .int .i64 0, .int .i64 0, .int .i64 0, .int .i64 0, .int .i64 0, .int .i64 0, .int .i64 0] 7 (#[.int .i64 0, .int .i64 te, .int .i64 pd, .int .i64 (t.ff + pq), .int .i64 pc, .int .i64 ((te - pd - (t.ff + pq)) - pc), .int .i64 u] : Array Value).toList = #[.int .i64 y.me, .int .i64 y.rv, .int .i64 y.nx, .int .i64 y.mo, .int .i64 (y.bo + u), .int .i64 y.fr, .slice pz lz cz, .int .i64 0, .int .i64 te, .int .i64 pd, .int .i64 (t.ff + pq), .int .i64 pc, .int .i64 ((te - pd - (t.ff + pq)) - pc), .int .i64 u]) := by show _ = _; kernel_rfl
     go_wp2_with (first | (refine wp_let rfl 69 _ _ rfl g 7 rfl (.agg #[.int .i64 0, .int .i64 te, .int .i64 pd, .int .i64 (t.ff + pq), .int .i64 pc, .int .i64 ((te - pd - (t.ff + pq)) - pc), .int .i64 u]) rfl #[.int .i64 0, .int .i64 te, .int .i64 pd, .int .i64 (t.ff + pq), .int .i64 pc, .int .i64 ((te - pd - (t.ff + pq)) - pc), .int .i64 u] rfl (by kernel_rfl) (by simp [Value.oneCell']) #[.int .i64 y.me, .int .i64 y.rv, .int .i64 y.nx, .int .i64 y.mo, .int .i64 (y.bo + u), .int .i64 y.fr, .slice pz lz cz, .int .i64 0, .int .i64 0, .int .i64 0, .int .i64 0, .int .i64 0, .int .i64 0, .int .i64 0] 121 H6g.out (by simp) #[.int .i64 y.me, .int .i64 y.rv, .int .i64 y.nx, .int .i64 y.mo, .int .i64 (y.bo + u), .int .i64 y.fr, .slice pz lz cz, .int .i64 0, .int .i64 te, .int .i64 pd, .int .i64 (t.ff + pq), .int .i64 pc, .int .i64 ((te - pd - (t.ff + pq)) - pc), .int .i64 u] HPUT.out ?_) | fail)
     intro WA hU
     have H7g : Hid (Blk WA g #[.int .i64 y.me, .int .i64 y.rv, .int .i64 y.nx, .int .i64 y.mo, .int .i64 (y.bo + u), .int .i64 y.fr, .slice pz lz cz, .int .i64 0, .int .i64 te, .int .i64 pd, .int .i64 (t.ff + pq), .int .i64 pc, .int .i64 ((te - pd - (t.ff + pq)) - pc), .int .i64 u] 121) := hU.blk
     have H7t : Hid (Blk WA (w.heap.size) #[.slice pt lt ct, .int .i64 t.ff, .int .i64 t.fb, .int .i64 t.db, .int .i64 t.al] 24) := Chg.keep (g := g) (.upd hU) H6t.out (by omega)
     have H7Z : Hid (deb.Fresh WA (g + 1) pz lz cz z) := fresh_chg H6Z.out (.upd hU)
     have H7C : Hid (Chg w WA g) := H6C.out.trans (.upd hU)
     clear H6C H6g H6t H6Z hU hwd
     have HSV : Hid (⟨y.me, y.rv, y.nx + 1, y.mo, y.bo + u, y.fr, z⟩ = sold x t te m u) := by
      show _ = _
      unfold sold
      rw [HZV.out, ← HBR.out, HBS.out.1, HBS.out.2.1, HBS.out.2.2.1, HBS.out.2.2.2.1, HBS.out.2.2.2.2]
     have HBV : Hid (⟨y.nx, te, pd, (t.ff + pq), pc, (te - pd - (t.ff + pq)) - pc, u⟩ = bill x t te m u) := by
      show _ = _
      unfold bill
      rw [← HPC.out, ← HRS.out, ← HPD.out, ← HFE.out, HYN.out]
     have HNU : Hid (Calls Tryz.prog 117 #[.pointer (some ⟨g, 0, none⟩)] WA fun e w' => NumPost WA g ⟨y.me, y.rv, y.nx, y.mo, y.bo + u, y.fr, z⟩ ⟨0, te, pd, (t.ff + pq), pc, (te - pd - (t.ff + pq)) - pc, u⟩ pz lz cz e w') := pnum g ⟨y.me, y.rv, y.nx, y.mo, y.bo + u, y.fr, z⟩ ⟨0, te, pd, (t.ff + pq), pc, (te - pd - (t.ff + pq)) - pc, u⟩ pz lz cz WA H7g.out hyx
     go_wp2_with fail
     refine HNU.out.mono ?_
     rintro e wN ⟨hcN, ⟨hx, rfl, hiN⟩ | ⟨hx, rfl, hiN⟩⟩
     ·have HV : Hid (Or0 (SellIs x t te m) ⟨y.me, y.rv, y.nx, y.mo, y.bo + u, y.fr, z⟩ ⟨0, te, pd, (t.ff + pq), pc, (te - pd - (t.ff + pq)) - pc, u⟩ 20) := .inl ⟨by decide, .inr (.inr (.inl ⟨HRY.out, HTE.out, by rw [← HYN.out]; exact hx, rfl, rfl, rfl⟩))⟩
      have HDN := fresh_chg H7Z.out hcN
      have HCN := H7C.out.trans hcN
      clear HNU hx
      go_wp2_with fail
      go_ret
      exact ⟨⟨y.me, y.rv, y.nx, y.mo, y.bo + u, y.fr, z⟩, ⟨0, te, pd, (t.ff + pq), pc, (te - pd - (t.ff + pq)) - pc, u⟩, pz, lz, cz, 20, rfl, HV.out, hiN, HDN, HCN⟩
     ·have HV : Hid (Or0 (SellIs x t te m) ⟨y.me, y.rv, y.nx + 1, y.mo, y.bo + u, y.fr, z⟩ ⟨y.nx, te, pd, (t.ff + pq), pc, (te - pd - (t.ff + pq)) - pc, u⟩ 0) := .inr ⟨rfl, .inr (.inr (.inr ⟨HRY.out, HTE.out, by rw [← HYN.out]; exact hx, rfl, u, HMO.out, HSV.out, HBV.out⟩))⟩
      have HDN := fresh_chg H7Z.out hcN
      have HCN := H7C.out.trans hcN
      clear HNU hx
      go_wp2_with fail
      go_ret
      exact ⟨⟨y.me, y.rv, y.nx + 1, y.mo, y.bo + u, y.fr, z⟩, ⟨y.nx, te, pd, (t.ff + pq), pc, (te - pd - (t.ff + pq)) - pc, u⟩, pz, lz, cz, 0, rfl, HV.out, hiN, HDN, HCN⟩
  ·rw [decide_eq_false h5] at HIT
   have HV : Hid (Or0 (SellIs x t te m) y bi0 19) := .inl ⟨by decide, .inr (.inl ⟨HRY.out, fun hh => h5 hh.1, rfl, rfl, rfl⟩)⟩
   clear h5
   go_wp2_with fail
   refine (HIT.out _).mono ?_
   rintro e wz ⟨rfl, hwz⟩
   subst wz
   go_wp2_with fail
   go_ret
   exact ⟨y, bi0, q, n, c, 19, rfl, HV.out, H1g.out, H1D.out, H1C.out⟩
 ·skip
  have d0 : (f != 0) = true := by simpa using h0
  have HV : Hid (Or0 (SellIs x t te m) y bi0 f) := by
   refine .inl ⟨h0, .inl ⟨?_, rfl, rfl⟩⟩
   rcases hr with ⟨h1, h2, _⟩ | ⟨h1, h2, h3, _⟩ | ⟨_, _, _, h1⟩
   ·exact .inr (.inl ⟨HM.out, h1, h2⟩)
   ·exact .inr (.inr ⟨HM.out, h1, h2, h3⟩)
   ·exact absurd h1 h0
  clear hr h0
  go_wp2_with fail
  go_ret
  exact ⟨y, bi0, q, n, c, f, rfl, HV.out, H1g.out, H1D.out, H1C.out⟩
end acc
end Go.Proofs.YtomibnggmhjdfaaGreat
