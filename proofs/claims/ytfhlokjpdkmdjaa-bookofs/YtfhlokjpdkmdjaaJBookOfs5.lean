import Derived.Test.YtfhlokjpdkmdjaaJBookOfs4
import Derived.Test.YtfhlokjpdkmdjaaJBookOfs1
import Derived.Test.YtfhlokjpdkmdjaaDbK
import Derived.Deep.DeepCutAuto
import Derived.Test.YtfhlokjpdkmdjaaAcD
import Derived.WalkKit
import Derived.Test.YtfhlokjpdkmdjaaProg
import Derived.Test.YtfhlokjpdkmdjaaJBookOfs3
import Derived.Test.YtfhlokjpdkmdjaaAcU
import Derived.Deep.RegionHeld
import Derived.Test.YtfhlokjpdkmdjaaBkE
import Derived.Below
import Derived.Test.YtfhlokjpdkmdjaaBkD
import Derived.Test.YtfhlokjpdkmdjaaBlk
import Derived.Test.YtfhlokjpdkmdjaaLet

/- A sale, to an account at work. -/
namespace Go.Proofs.Ytfhlokjpdkmdjaa.acc
open Go.Proofs.Ytfhlokjpdkmdjaa.tar (Du du0 Came RowD Ld PairT)
open Go.RowKit
set_option maxRecDepth 100000
set_option linter.unusedVariables false
set_option linter.unusedSimpArgs false

set_option maxHeartbeats 16000000 in
theorem psell (g : Nat) (x : Ac) (p : Option Addr) (len cap : Nat) (t : Tm) (pt : Option Addr) (lt ct : Nat) (te m : Int) (w : World) (hw : Blk w g (wcs x bi0 p len cap) 134) (hd : deb.Fresh w (g + 1) p len cap x.ds) (ha : AMay x) (ht : Came w pt lt ct t.ts) (hwf : wf4 t) (hfar : Far pt lt g) : Calls Try.prog 88 #[.pointer (some ⟨g, 0, none⟩), .agg #[.slice pt lt ct, .int .i64 t.ff, .int .i64 t.fb, .int .i64 t.db, .int .i64 t.al], .int .i64 te, .int .i64 m] w fun e w' => DPost w g (Or0 (SellIs x t te m)) e w' := by
  have HIT : Hid (∀ W, Calls Try.prog 49 #[.int .i64 1, .int .i64 100000000, .int .i64 te] W fun e w' => e = .returned (.bool (decide (1 ≤ te ∧ te ≤ 100000000))) ∧ w' = W) := fun W => awithin 1 100000000 te W
  have hgl := hw.lt
  have H0B : Hid (Below w.heap.size w (w.alloc (.cells #[.slice pt lt ct, .int .i64 t.ff, .int .i64 t.fb, .int .i64 t.db, .int .i64 t.al] 40))) := (Below.refl w.heap.size w).alloc (by simp) _
  have H0C : Hid (Chg w (w.alloc (.cells #[.slice pt lt ct, .int .i64 t.ff, .int .i64 t.fb, .int .i64 t.db, .int .i64 t.al] 40)) g) := .of H0B.out
  have H0t : Hid (Blk (w.alloc (.cells #[.slice pt lt ct, .int .i64 t.ff, .int .i64 t.fb, .int .i64 t.db, .int .i64 t.al] 40)) (w.heap.size) #[.slice pt lt ct, .int .i64 t.ff, .int .i64 t.fb, .int .i64 t.db, .int .i64 t.al] 40) := Blk.new w _ _
  have H0g : Hid (Blk (w.alloc (.cells #[.slice pt lt ct, .int .i64 t.ff, .int .i64 t.fb, .int .i64 t.db, .int .i64 t.al] 40)) g (wcs x bi0 p len cap) 134) := hw.alloc _
  have H0D : Hid (deb.Fresh (w.alloc (.cells #[.slice pt lt ct, .int .i64 t.ff, .int .i64 t.fb, .int .i64 t.db, .int .i64 t.al] 40)) (g + 1) p len cap x.ds) := hd.below H0B.out
  have H0T : Hid (Came (w.alloc (.cells #[.slice pt lt ct, .int .i64 t.ff, .int .i64 t.fb, .int .i64 t.db, .int .i64 t.al] 40)) pt lt ct t.ts) := ht.below H0B.out
  have HFAR : Hid (Far pt lt g) := hfar
  have HBG : Hid (∀ W, Blk W g (wcs x bi0 p len cap) 134 → deb.Fresh W (g + 1) p len cap x.ds → Came W pt lt ct t.ts → Calls Try.prog 96 #[.pointer (some ⟨g, 0, none⟩), .agg #[.slice pt lt ct, .int .i64 t.ff, .int .i64 t.fb, .int .i64 t.db, .int .i64 t.al], .int .i64 m] W fun e w' => DPost W g (BeginR x t m bi0) e w') := fun W h1 h2 h3 => pbegin g x p len cap t pt lt ct bi0 m W h1 h2 ha h3 hwf hfar
  have HM : Hid (AMay x) := ha
  have hnx := ha.2.2.2.1
  clear hw hd ht hwf hfar ha H0B
  generalize hWW : (w.alloc (.cells #[.slice pt lt ct, .int .i64 t.ff, .int .i64 t.fb, .int .i64 t.db, .int .i64 t.al] 40)) = W0 at *
  have HWW : Hid ((w.alloc (.cells #[.slice pt lt ct, .int .i64 t.ff, .int .i64 t.fb, .int .i64 t.db, .int .i64 t.al] 40)) = W0) := hWW
  clear hWW
  go_enter Try.func88, Try.ntmps88
  go_upto_region 1 with fail
  rw [HWW.out]
  clear HWW
  go_wp2_with (first | (refine wp_whole rfl 40 _ rfl (w.heap.size) rfl 40 #[.slice pt lt ct, .int .i64 t.ff, .int .i64 t.fb, .int .i64 t.db, .int .i64 t.al] _ H0t.out Try.underlying40 rfl (by kernel_rfl) ?_) | fail)
  refine (HBG.out _ H0g.out H0D.out H0T.out).mono ?_
  rintro e w1 ⟨y, b2, q, n, c, f, rfl, ⟨hr, hb2⟩, hi1, hf1, hc1⟩
  subst hb2
  have H1D : Hid (deb.Fresh w1 (g + 1) q n c y.ds) := hf1
  have H1g : Hid (Blk w1 g #[.int .i64 y.me, .int .i64 y.rv, .int .i64 y.nx, .int .i64 y.mo, .int .i64 y.bo, .int .i64 y.fr, .slice q n c, .int .i64 0, .int .i64 0, .int .i64 0, .int .i64 0, .int .i64 0, .int .i64 0, .int .i64 0] 134) := hi1
  have H1t : Hid (Blk w1 (w.heap.size) #[.slice pt lt ct, .int .i64 t.ff, .int .i64 t.fb, .int .i64 t.db, .int .i64 t.al] 40) := Chg.keep (g := g) (hc1) H0t.out (by omega)
  have H1T : Hid (Came w1 pt lt ct t.ts) := came_chg H0T.out (hc1) HFAR.out
  have H1C : Hid (Chg w w1 g) := H0C.out.trans (hc1)
  clear H0C H0g H0t H0T hf1 hc1 hi1 H0D HBG
  by_cases h0 : f = 0
  · skip
    subst h0
    have hrr : TRight t ∧ RMay x m ∧ y = rolled x m := by
      rcases hr with ⟨h1, h2, _⟩ | ⟨_, _, h3, _⟩ | ⟨h1, h2, h3, _⟩
      · exact absurd (h2.ok.1 rfl) h1
      · exact absurd rfl h3.ne
      · exact ⟨h1, h2, h3⟩
    have HRY : Hid (Ready x t m) := ⟨HM.out, hrr.1, hrr.2.1⟩
    have HT : Hid (TRight t) := hrr.1
    have HBR : Hid (y = rolled x m) := hrr.2.2
    have hbs := rolled_same x m
    rw [← hrr.2.2] at hbs
    have hbo := (rolled_may HM.out hrr.2.1).2.2.2.2.2.1
    rw [← hrr.2.2] at hbo
    have hdm : deb.Mays y.ds := by rw [hrr.2.2]; exact (rolled_may HM.out hrr.2.1).1
    have HYN : Hid (y.nx = x.nx) := hbs.2.2.1
    have hyx : 1 ≤ y.nx ∧ y.nx ≤ 1048576 := by rw [hbs.2.2.1]; exact hnx
    have HBS : Hid (y.me = x.me ∧ y.rv = x.rv ∧ y.nx = x.nx ∧ y.mo = m ∧ y.fr = x.fr) := hbs
    clear hrr hr hbs
    by_cases h5 : 1 ≤ te ∧ te ≤ 100000000
    · rw [decide_eq_true h5] at HIT
      go_wp2_with fail
      refine (HIT.out _).mono ?_
      rintro e wz ⟨rfl, hwz⟩
      subst wz
      clear HIT
      go_wp2_with fail
      have htok := HT.out.2
      have HTM : Hid (deb.TMay te t.db) := ⟨⟨by omega, h5.2⟩, htok.2.2.1⟩
      have HRE : Hid (Calls Try.prog 97 #[.slice q n c, .int .i64 te, .int .i64 t.db] w1.drew fun e w' => deb.RecPost w1.drew y.ds te t.db e w') := deb.krec _ q n c y.ds te t.db (fresh_drew H1D.out).came (tar.wf_mid (by omega) (by omega)) (tar.wf_mid htok.2.2.1.1 (by have := htok.2.2.1.2; omega))
      have HPA : Hid (∀ W, Calls Try.prog 98 #[.int .i64 te, .int .i64 t.fb] W fun e w' => e = .returned (.tuple #[.int .i64 (te * t.fb / 10000), .int .i64 0]) ∧ Below W.heap.size W w') := fun W => cents.part_yes te t.fb W (by omega) (by omega) htok.2.1.1 htok.2.1.2
      have hpb := deb.share_bd (t := te) (bp := t.fb) ⟨⟨by omega, h5.2⟩, htok.2.1⟩
      have hsb := deb.share_bd HTM.out
      refine wp_region_held_drew (S := fun v => Blk v (g) #[.int .i64 y.me, .int .i64 y.rv, .int .i64 y.nx, .int .i64 y.mo, .int .i64 y.bo, .int .i64 y.fr, .slice q n c, .int .i64 0, .int .i64 0, .int .i64 0, .int .i64 0, .int .i64 0, .int .i64 0, .int .i64 0] 134 ∧ Blk v (w.heap.size) #[.slice pt lt ct, .int .i64 t.ff, .int .i64 t.fb, .int .i64 t.db, .int .i64 t.al] 40) (by kernel_rfl) ⟨Blk.drew H1g.out 1, Blk.drew H1t.out 1⟩ (fun hHeld => ?_)
      refine take_at 0 31 (.pointer (some ⟨g, 0, none⟩)) _ rfl rfl (by kernel_rfl) (by kernel_rfl) (by kernel_rfl) (fun _ _ _ h => h) (Or.inl ⟨by rfl, fun v hv => by skip; clear hv; go_simp⟩) hHeld ?_
      simp only [Act.put, List.setIfInBounds_toArray, List.set_cons_zero, List.set_cons_succ]
      refine take_at 1 32 (.pointer (some ⟨g, 0, none⟩)) _ rfl rfl (by kernel_rfl) (by kernel_rfl) (by kernel_rfl) (fun _ _ _ h => h) (Or.inl ⟨by rfl, fun v hv => by skip; clear hv; go_simp⟩) hHeld ?_
      simp only [Act.put, List.setIfInBounds_toArray, List.set_cons_zero, List.set_cons_succ]
      refine take_at 2 33 (.pointer (some ⟨g, 0, none⟩)) _ rfl rfl (by kernel_rfl) (by kernel_rfl) (by kernel_rfl) (fun _ _ _ h => h) (Or.inl ⟨by rfl, fun v hv => by skip; clear hv; go_simp⟩) hHeld ?_
      simp only [Act.put, List.setIfInBounds_toArray, List.set_cons_zero, List.set_cons_succ]
      refine take_at 3 34 (.pointer (some ⟨g, 6, none⟩)) _ rfl rfl (by kernel_rfl) (by kernel_rfl) (by kernel_rfl) (fun _ _ _ h => h) (Or.inl ⟨by rfl, fun v hv => by skip; clear hv; go_simp⟩) hHeld ?_
      simp only [Act.put, List.setIfInBounds_toArray, List.set_cons_zero, List.set_cons_succ]
      refine take_at 4 35 (.slice q n c) _ rfl rfl (by kernel_rfl) (by kernel_rfl) (by kernel_rfl) (fun _ _ _ h => h) (Or.inl ⟨by rfl, fun v hv => by have g0 := hv.1.cell 6; clear hv; go_simp⟩) hHeld ?_
      simp only [Act.put, List.setIfInBounds_toArray, List.set_cons_zero, List.set_cons_succ]
      refine take_at 5 36 (.int .i64 te) _ rfl rfl (by kernel_rfl) (by kernel_rfl) (by kernel_rfl) (fun _ _ _ h => h) (Or.inl ⟨by rfl, fun v hv => by skip; clear hv; go_simp⟩) hHeld ?_
      simp only [Act.put, List.setIfInBounds_toArray, List.set_cons_zero, List.set_cons_succ]
      refine take_at 6 37 (.pointer (some ⟨w.heap.size, 3, none⟩)) _ rfl rfl (by kernel_rfl) (by kernel_rfl) (by kernel_rfl) (fun _ _ _ h => h) (Or.inl ⟨by rfl, fun v hv => by skip; clear hv; go_simp⟩) hHeld ?_
      simp only [Act.put, List.setIfInBounds_toArray, List.set_cons_zero, List.set_cons_succ]
      refine take_at 7 38 (.int .i64 t.db) _ rfl rfl (by kernel_rfl) (by kernel_rfl) (by kernel_rfl) (fun _ _ _ h => h) (Or.inl ⟨by rfl, fun v hv => by have g0 := hv.2.cell 3; clear hv; go_simp⟩) hHeld ?_
      simp only [Act.put, List.setIfInBounds_toArray, List.set_cons_zero, List.set_cons_succ]
      refine wpAnyH_ready (rs := [8]) (by kernel_rfl) (by simp) (AllReadyH.cons rfl (fun K hK => ?_) AllReadyH.nil)
      rw [if_pos (by rfl)]
      refine wp_callOp 39 rfl (by clear hK; go_simp) HRE.out ?_
      rintro e w5 ⟨pz, lz, cz, z, pd, fz, rfl, hi5, hf5, hb5⟩
      obtain ⟨rfl, hz, hpd⟩ := hi5.got hdm HTM.out
      have HZF : Hid (deb.Fresh w5 (g + 1) pz lz cz z) := hf5.low (by show g + 1 ≤ w1.heap.size; have := H1g.out.lt; omega)
      have hT0 := (deb.sumD_pos (deb.mem_fits hdm.2)).1
      have hpd0 : 0 ≤ pd := by rw [hpd]; omega
      have hpd1 : pd ≤ 100000000 := by rw [hpd]; omega
      have HPD : Hid (pd = paid x t te m) := by show _ = _; rw [hpd]; unfold paid share; rw [← HBR.out]
      have HZV : Hid (z = deb.recK (rolled x m).ds (share t te) (rolled x m).ds.length) := by show _ = _; rw [hz]; unfold share; rw [← HBR.out]
      have HFE : Hid (t.ff + te * t.fb / 10000 = fee t te) := rfl
      clear hpd hz hT0 hi5 hf5
      have H2g : Hid (Blk w5 g #[.int .i64 y.me, .int .i64 y.rv, .int .i64 y.nx, .int .i64 y.mo, .int .i64 y.bo, .int .i64 y.fr, .slice q n c, .int .i64 0, .int .i64 0, .int .i64 0, .int .i64 0, .int .i64 0, .int .i64 0, .int .i64 0] 134) := (Blk.drew H1g.out 1).next hb5
      have H2t : Hid (Blk w5 (w.heap.size) #[.slice pt lt ct, .int .i64 t.ff, .int .i64 t.fb, .int .i64 t.db, .int .i64 t.al] 40) := Chg.keep (g := g) ((Chg.of (bel_drew (Below.refl _ _) 1)).trans (.of hb5)) H1t.out (by omega)
      have H2T : Hid (Came w5 pt lt ct t.ts) := came_chg H1T.out ((Chg.of (bel_drew (Below.refl _ _) 1)).trans (.of hb5)) HFAR.out
      have H2D : Hid (deb.Fresh w5 (g + 1) q n c y.ds) := fresh_chg H1D.out ((Chg.of (bel_drew (Below.refl _ _) 1)).trans (.of hb5))
      have H2C : Hid (Chg w w5 g) := H1C.out.trans ((Chg.of (bel_drew (Below.refl _ _) 1)).trans (.of hb5))
      clear H1C H1g H1t H1T H1D 
      refine ⟨_, rfl, hK.out _ _ ⟨H2g.out, H2t.out⟩ (fun hHeld => ?_)⟩
      clear hK K hb5 HRE
      simp only [Act.put, List.setIfInBounds_toArray, List.set_cons_zero, List.set_cons_succ]
      refine take_at 9 30 (.tuple #[.slice pz lz cz, .int .i64 pd, .int .i64 0]) _ rfl rfl (by kernel_rfl) (by kernel_rfl) (by kernel_rfl) (fun _ _ _ h => h) (Or.inl ⟨by rfl, fun v hv => by skip; clear hv; go_simp⟩) hHeld ?_
      simp only [Act.put, List.setIfInBounds_toArray, List.set_cons_zero, List.set_cons_succ]
      refine take_at 10 40 (.slice pz lz cz) _ rfl rfl (by kernel_rfl) (by kernel_rfl) (by kernel_rfl) (fun _ _ _ h => h) (Or.inl ⟨by rfl, fun v hv => by skip; clear hv; go_simp⟩) hHeld ?_
      simp only [Act.put, List.setIfInBounds_toArray, List.set_cons_zero, List.set_cons_succ]
      refine take_at 11 41 (.int .i64 pd) _ rfl rfl (by kernel_rfl) (by kernel_rfl) (by kernel_rfl) (fun _ _ _ h => h) (Or.inl ⟨by rfl, fun v hv => by skip; clear hv; go_simp⟩) hHeld ?_
      simp only [Act.put, List.setIfInBounds_toArray, List.set_cons_zero, List.set_cons_succ]
      refine take_at 12 42 (.int .i64 0) _ rfl rfl (by kernel_rfl) (by kernel_rfl) (by kernel_rfl) (fun _ _ _ h => h) (Or.inl ⟨by rfl, fun v hv => by skip; clear hv; go_simp⟩) hHeld ?_
      simp only [Act.put, List.setIfInBounds_toArray, List.set_cons_zero, List.set_cons_succ]
      refine take_at 13 10 (.slice pz lz cz) _ rfl rfl (by kernel_rfl) (by kernel_rfl) (by kernel_rfl) (fun _ _ _ h => h) (Or.inl ⟨by rfl, fun v hv => by skip; clear hv; go_simp⟩) hHeld ?_
      simp only [Act.put, List.setIfInBounds_toArray, List.set_cons_zero, List.set_cons_succ]
      refine take_at 14 11 (.int .i64 pd) _ rfl rfl (by kernel_rfl) (by kernel_rfl) (by kernel_rfl) (fun _ _ _ h => h) (Or.inl ⟨by rfl, fun v hv => by skip; clear hv; go_simp⟩) hHeld ?_
      simp only [Act.put, List.setIfInBounds_toArray, List.set_cons_zero, List.set_cons_succ]
      refine take_at 15 12 (.int .i64 0) _ rfl rfl (by kernel_rfl) (by kernel_rfl) (by kernel_rfl) (fun _ _ _ h => h) (Or.inl ⟨by rfl, fun v hv => by skip; clear hv; go_simp⟩) hHeld ?_
      simp only [Act.put, List.setIfInBounds_toArray, List.set_cons_zero, List.set_cons_succ]
      refine wpAnyH_done (by kernel_rfl) ?_ _
      clear hHeld
      have qt2 : w5.cell? ⟨w.heap.size, 2, none⟩ = some (.int .i64 t.fb) := H2t.out.cell 2
      go_wp2_with fail
      refine (HPA.out _).mono ?_
      rintro e w6 ⟨rfl, hb6⟩
      have H3g : Hid (Blk w6 g #[.int .i64 y.me, .int .i64 y.rv, .int .i64 y.nx, .int .i64 y.mo, .int .i64 y.bo, .int .i64 y.fr, .slice q n c, .int .i64 0, .int .i64 0, .int .i64 0, .int .i64 0, .int .i64 0, .int .i64 0, .int .i64 0] 134) := H2g.out.next hb6
      have H3t : Hid (Blk w6 (w.heap.size) #[.slice pt lt ct, .int .i64 t.ff, .int .i64 t.fb, .int .i64 t.db, .int .i64 t.al] 40) := Chg.keep (g := g) (.of hb6) H2t.out (by omega)
      have H3T : Hid (Came w6 pt lt ct t.ts) := came_chg H2T.out (.of hb6) HFAR.out
      have H3D : Hid (deb.Fresh w6 (g + 1) q n c y.ds) := fresh_chg H2D.out (.of hb6)
      have H3Z : Hid (deb.Fresh w6 (g + 1) pz lz cz z) := fresh_chg HZF.out (.of hb6)
      have H3C : Hid (Chg w w6 g) := H2C.out.trans (.of hb6)
      clear H2C H2g H2t H2T H2D HZF hb6 qt2 HPA
      generalize te * t.fb / 10000 = pq at *
      have hff := htok.1
      have HRS : Hid (te - pd - (t.ff + pq) = rest x t te m) := by show _ = _; unfold rest; rw [HPD.out, HFE.out]
      have HRH : Hid (tar.Right t.ts) := HT.out.1
      clear htok
      by_cases h6 : te - pd - (t.ff + pq) < 0
      · have d6 : decide (te - pd - (t.ff + pq) < 0) = true := decide_eq_true h6
        have HV : Hid (Or0 (SellIs x t te m) y bi0 19) := .inl ⟨by decide, .inr (.inl ⟨HRY.out, fun hh => by have := hh.2.1; rw [← HRS.out] at this; omega, rfl, rfl, rfl⟩)⟩
        have qt1 : w6.cell? ⟨w.heap.size, 1, none⟩ = some (.int .i64 t.ff) := H3t.out.cell 1
        go_wp2_with fail
        go_ret
        exact ⟨y, bi0, q, n, c, 19, rfl, HV.out, H3g.out, H3D.out, H3C.out⟩
      · have d6 : decide (te - pd - (t.ff + pq) < 0) = false := decide_eq_false h6
        have HMS : Hid (Calls Try.prog 99 #[.slice pt lt ct, .int .i64 y.bo, .int .i64 (te - pd - (t.ff + pq))] w6.drew fun e w' => tar.ThreePost w6.drew (tar.MostIs t.ts y.bo (te - pd - (t.ff + pq))) e w') := tar.kmost _ pt lt ct t.ts y.bo _ (H3T.out.below (bel_drew (Below.refl _ _) 1)) (tar.wf_mid hbo.1 (by omega)) (tar.wf_mid (by omega) (by omega))
        have HMM : Hid (tar.MayMost y.bo (te - pd - (t.ff + pq))) := ⟨hbo, by omega, by omega⟩
        have qt1 : w6.cell? ⟨w.heap.size, 1, none⟩ = some (.int .i64 t.ff) := H3t.out.cell 1
        go_wp2_with fail
        clear qt1
        refine wp_region_held_drew (S := fun v => Blk v (g) #[.int .i64 y.me, .int .i64 y.rv, .int .i64 y.nx, .int .i64 y.mo, .int .i64 y.bo, .int .i64 y.fr, .slice q n c, .int .i64 0, .int .i64 0, .int .i64 0, .int .i64 0, .int .i64 0, .int .i64 0, .int .i64 0] 134 ∧ Blk v (w.heap.size) #[.slice pt lt ct, .int .i64 t.ff, .int .i64 t.fb, .int .i64 t.db, .int .i64 t.al] 40) (by kernel_rfl) ⟨Blk.drew H3g.out 1, Blk.drew H3t.out 1⟩ (fun hHeld => ?_)
        refine take_at 0 62 (.pointer (some ⟨w.heap.size, 0, none⟩)) _ rfl rfl (by kernel_rfl) (by kernel_rfl) (by kernel_rfl) (fun _ _ _ h => h) (Or.inl ⟨by rfl, fun v hv => by skip; clear hv; go_simp⟩) hHeld ?_
        simp only [Act.put, List.setIfInBounds_toArray, List.set_cons_zero, List.set_cons_succ]
        refine take_at 1 63 (.slice pt lt ct) _ rfl rfl (by kernel_rfl) (by kernel_rfl) (by kernel_rfl) (fun _ _ _ h => h) (Or.inl ⟨by rfl, fun v hv => by have g0 := hv.2.cell 0; clear hv; go_simp⟩) hHeld ?_
        simp only [Act.put, List.setIfInBounds_toArray, List.set_cons_zero, List.set_cons_succ]
        refine take_at 2 64 (.pointer (some ⟨g, 0, none⟩)) _ rfl rfl (by kernel_rfl) (by kernel_rfl) (by kernel_rfl) (fun _ _ _ h => h) (Or.inl ⟨by rfl, fun v hv => by skip; clear hv; go_simp⟩) hHeld ?_
        simp only [Act.put, List.setIfInBounds_toArray, List.set_cons_zero, List.set_cons_succ]
        refine take_at 3 65 (.pointer (some ⟨g, 0, none⟩)) _ rfl rfl (by kernel_rfl) (by kernel_rfl) (by kernel_rfl) (fun _ _ _ h => h) (Or.inl ⟨by rfl, fun v hv => by skip; clear hv; go_simp⟩) hHeld ?_
        simp only [Act.put, List.setIfInBounds_toArray, List.set_cons_zero, List.set_cons_succ]
        refine take_at 4 66 (.pointer (some ⟨g, 0, none⟩)) _ rfl rfl (by kernel_rfl) (by kernel_rfl) (by kernel_rfl) (fun _ _ _ h => h) (Or.inl ⟨by rfl, fun v hv => by skip; clear hv; go_simp⟩) hHeld ?_
        simp only [Act.put, List.setIfInBounds_toArray, List.set_cons_zero, List.set_cons_succ]
        refine take_at 5 67 (.pointer (some ⟨g, 4, none⟩)) _ rfl rfl (by kernel_rfl) (by kernel_rfl) (by kernel_rfl) (fun _ _ _ h => h) (Or.inl ⟨by rfl, fun v hv => by skip; clear hv; go_simp⟩) hHeld ?_
        simp only [Act.put, List.setIfInBounds_toArray, List.set_cons_zero, List.set_cons_succ]
        refine take_at 6 68 (.int .i64 y.bo) _ rfl rfl (by kernel_rfl) (by kernel_rfl) (by kernel_rfl) (fun _ _ _ h => h) (Or.inl ⟨by rfl, fun v hv => by have g0 := hv.1.cell 4; clear hv; go_simp⟩) hHeld ?_
        simp only [Act.put, List.setIfInBounds_toArray, List.set_cons_zero, List.set_cons_succ]
        refine take_at 7 69 (.int .i64 (te - pd - (t.ff + pq))) _ rfl rfl (by kernel_rfl) (by kernel_rfl) (by kernel_rfl) (fun _ _ _ h => h) (Or.inl ⟨by rfl, fun v hv => by skip; clear hv; go_simp⟩) hHeld ?_
        simp only [Act.put, List.setIfInBounds_toArray, List.set_cons_zero, List.set_cons_succ]
        refine wpAnyH_ready (rs := [8]) (by kernel_rfl) (by simp) (AllReadyH.cons rfl (fun K hK => ?_) AllReadyH.nil)
        rw [if_pos (by rfl)]
        refine wp_callOp 70 rfl (by clear hK; go_simp) HMS.out ?_
        rintro e w7 ⟨u, pc, fm, rfl, hi7, hb7⟩
        obtain ⟨rfl, hmo7, hpc⟩ := hi7.got HRH.out HMM.out
        have hu0 := hmo7.1.1
        have hu1 : u ≤ 2097151 := by have := hmo7.1.2; unfold tar.Top at this; omega
        have hu2 : y.bo + u ≤ 10000000 := by have := hmo7.1.2; unfold tar.Top at this; omega
        have hcb := tar.cost_bd HRH.out y.bo (y.bo + u) hbo.1 (by omega) hu2
        rw [← hpc] at hcb
        have hpc1 : pc ≤ (te - pd - (t.ff + pq)) := by rw [hpc]; exact hmo7.2.1
        have hpc0 : 0 ≤ pc := by omega
        have HMO : Hid (tar.MostOf t.ts (rolled x m).bo (rest x t te m) u) := by show tar.MostOf _ _ _ _; rw [← HBR.out, ← HRS.out]; exact hmo7
        have HPC : Hid (pc = tar.cost t.ts (rolled x m).bo ((rolled x m).bo + u)) := by show _ = _; rw [← HBR.out]; exact hpc
        have HONE : Hid (∀ v, tar.MostOf t.ts (rolled x m).bo (rest x t te m) v → v = u) := fun v hv => by
          have hbb : 0 ≤ (rolled x m).bo := by rw [← HBR.out]; exact hbo.1
          exact hv.one HRH.out hbb HMO.out
        clear hmo7 hpc hcb hi7
        have H4g : Hid (Blk w7 g #[.int .i64 y.me, .int .i64 y.rv, .int .i64 y.nx, .int .i64 y.mo, .int .i64 y.bo, .int .i64 y.fr, .slice q n c, .int .i64 0, .int .i64 0, .int .i64 0, .int .i64 0, .int .i64 0, .int .i64 0, .int .i64 0] 134) := (Blk.drew H3g.out 1).next hb7
        have H4t : Hid (Blk w7 (w.heap.size) #[.slice pt lt ct, .int .i64 t.ff, .int .i64 t.fb, .int .i64 t.db, .int .i64 t.al] 40) := Chg.keep (g := g) ((Chg.of (bel_drew (Below.refl _ _) 1)).trans (.of hb7)) H3t.out (by omega)
        have H4T : Hid (Came w7 pt lt ct t.ts) := came_chg H3T.out ((Chg.of (bel_drew (Below.refl _ _) 1)).trans (.of hb7)) HFAR.out
        have H4D : Hid (deb.Fresh w7 (g + 1) q n c y.ds) := fresh_chg H3D.out ((Chg.of (bel_drew (Below.refl _ _) 1)).trans (.of hb7))
        have H4Z : Hid (deb.Fresh w7 (g + 1) pz lz cz z) := fresh_chg H3Z.out ((Chg.of (bel_drew (Below.refl _ _) 1)).trans (.of hb7))
        have H4C : Hid (Chg w w7 g) := H3C.out.trans ((Chg.of (bel_drew (Below.refl _ _) 1)).trans (.of hb7))
        clear H3C H3g H3t H3T H3D H3Z 
        refine ⟨_, rfl, hK.out _ _ ⟨H4g.out, H4t.out⟩ (fun hHeld => ?_)⟩
        clear hK K hb7 HMS
        simp only [Act.put, List.setIfInBounds_toArray, List.set_cons_zero, List.set_cons_succ]
        refine take_at 9 61 (.tuple #[.int .i64 u, .int .i64 pc, .int .i64 0]) _ rfl rfl (by kernel_rfl) (by kernel_rfl) (by kernel_rfl) (fun _ _ _ h => h) (Or.inl ⟨by rfl, fun v hv => by skip; clear hv; go_simp⟩) hHeld ?_
        simp only [Act.put, List.setIfInBounds_toArray, List.set_cons_zero, List.set_cons_succ]
        refine take_at 10 71 (.int .i64 u) _ rfl rfl (by kernel_rfl) (by kernel_rfl) (by kernel_rfl) (fun _ _ _ h => h) (Or.inl ⟨by rfl, fun v hv => by skip; clear hv; go_simp⟩) hHeld ?_
        simp only [Act.put, List.setIfInBounds_toArray, List.set_cons_zero, List.set_cons_succ]
        refine take_at 11 72 (.int .i64 pc) _ rfl rfl (by kernel_rfl) (by kernel_rfl) (by kernel_rfl) (fun _ _ _ h => h) (Or.inl ⟨by rfl, fun v hv => by skip; clear hv; go_simp⟩) hHeld ?_
        simp only [Act.put, List.setIfInBounds_toArray, List.set_cons_zero, List.set_cons_succ]
        refine take_at 12 73 (.int .i64 0) _ rfl rfl (by kernel_rfl) (by kernel_rfl) (by kernel_rfl) (fun _ _ _ h => h) (Or.inl ⟨by rfl, fun v hv => by skip; clear hv; go_simp⟩) hHeld ?_
        simp only [Act.put, List.setIfInBounds_toArray, List.set_cons_zero, List.set_cons_succ]
        refine take_at 13 17 (.int .i64 u) _ rfl rfl (by kernel_rfl) (by kernel_rfl) (by kernel_rfl) (fun _ _ _ h => h) (Or.inl ⟨by rfl, fun v hv => by skip; clear hv; go_simp⟩) hHeld ?_
        simp only [Act.put, List.setIfInBounds_toArray, List.set_cons_zero, List.set_cons_succ]
        refine take_at 14 18 (.int .i64 pc) _ rfl rfl (by kernel_rfl) (by kernel_rfl) (by kernel_rfl) (fun _ _ _ h => h) (Or.inl ⟨by rfl, fun v hv => by skip; clear hv; go_simp⟩) hHeld ?_
        simp only [Act.put, List.setIfInBounds_toArray, List.set_cons_zero, List.set_cons_succ]
        refine take_at 15 19 (.int .i64 0) _ rfl rfl (by kernel_rfl) (by kernel_rfl) (by kernel_rfl) (fun _ _ _ h => h) (Or.inl ⟨by rfl, fun v hv => by skip; clear hv; go_simp⟩) hHeld ?_
        simp only [Act.put, List.setIfInBounds_toArray, List.set_cons_zero, List.set_cons_succ]
        refine wpAnyH_done (by kernel_rfl) ?_ _
        clear hHeld
        by_cases h7 : u = 0
        · have d7 : (u == 0) = true := by simpa using h7
          have HV : Hid (Or0 (SellIs x t te m) y bi0 19) := .inl ⟨by decide, .inr (.inl ⟨HRY.out, fun hh => hh.2.2 (by rw [← h7]; exact HMO.out), rfl, rfl, rfl⟩)⟩
          clear h7
          go_wp2_with fail
          go_ret
          exact ⟨y, bi0, q, n, c, 19, rfl, HV.out, H4g.out, H4D.out, H4C.out⟩
        · have d7 : (u == 0) = false := by simpa using h7
          have HTE : Hid (TenOk x t te m) := ⟨h5, by rw [← HRS.out]; omega, fun hh => h7 (HONE.out 0 hh).symm⟩
          clear h7
          go_wp2_with (first | (refine wp_letS rfl 53 _ _ rfl g 6 rfl pz lz cz rfl (by kernel_rfl) #[.int .i64 y.me, .int .i64 y.rv, .int .i64 y.nx, .int .i64 y.mo, .int .i64 y.bo, .int .i64 y.fr, .slice q n c, .int .i64 0, .int .i64 0, .int .i64 0, .int .i64 0, .int .i64 0, .int .i64 0, .int .i64 0] 134 H4g.out (by simp) ?_) | fail)
          intro W8 hU
          have H5g : Hid (Blk W8 g #[.int .i64 y.me, .int .i64 y.rv, .int .i64 y.nx, .int .i64 y.mo, .int .i64 y.bo, .int .i64 y.fr, .slice pz lz cz, .int .i64 0, .int .i64 0, .int .i64 0, .int .i64 0, .int .i64 0, .int .i64 0, .int .i64 0] 134) := hU.blk
          have H5t : Hid (Blk W8 (w.heap.size) #[.slice pt lt ct, .int .i64 t.ff, .int .i64 t.fb, .int .i64 t.db, .int .i64 t.al] 40) := Chg.keep (g := g) (.upd hU) H4t.out (by omega)
          have H5Z : Hid (deb.Fresh W8 (g + 1) pz lz cz z) := fresh_chg H4Z.out (.upd hU)
          have H5C : Hid (Chg w W8 g) := H4C.out.trans (.upd hU)
          clear H4C H4g H4t H4Z hU d7
          have qg4 : W8.cell? ⟨g, 4, none⟩ = some (.int .i64 y.bo) := H5g.out.cell 4
          have hwb : IntKind.i64.wrap (y.bo + u) = y.bo + u := by rw [IntKind.wrap_i64]; omega
          go_wp2_with (first | (refine wp_let1 rfl 3 _ _ rfl g 4 rfl .i64 (y.bo + u) rfl (by kernel_rfl) #[.int .i64 y.me, .int .i64 y.rv, .int .i64 y.nx, .int .i64 y.mo, .int .i64 y.bo, .int .i64 y.fr, .slice pz lz cz, .int .i64 0, .int .i64 0, .int .i64 0, .int .i64 0, .int .i64 0, .int .i64 0, .int .i64 0] 134 H5g.out (by simp) ?_) | fail)
          intro W9 hU
          have H6g : Hid (Blk W9 g #[.int .i64 y.me, .int .i64 y.rv, .int .i64 y.nx, .int .i64 y.mo, .int .i64 (y.bo + u), .int .i64 y.fr, .slice pz lz cz, .int .i64 0, .int .i64 0, .int .i64 0, .int .i64 0, .int .i64 0, .int .i64 0, .int .i64 0] 134) := hU.blk
          have H6t : Hid (Blk W9 (w.heap.size) #[.slice pt lt ct, .int .i64 t.ff, .int .i64 t.fb, .int .i64 t.db, .int .i64 t.al] 40) := Chg.keep (g := g) (.upd hU) H5t.out (by omega)
          have H6Z : Hid (deb.Fresh W9 (g + 1) pz lz cz z) := fresh_chg H5Z.out (.upd hU)
          have H6C : Hid (Chg w W9 g) := H5C.out.trans (.upd hU)
          clear H5C H5g H5t H5Z hU qg4 hwb
          have hwd : IntKind.i64.wrap ((te - pd - (t.ff + pq)) - pc) = (te - pd - (t.ff + pq)) - pc := by rw [IntKind.wrap_i64]; omega
          have HPUT : Hid (putAll #[.int .i64 y.me, .int .i64 y.rv, .int .i64 y.nx, .int .i64 y.mo, .int .i64 (y.bo + u), .int .i64 y.fr, .slice pz lz cz, .int .i64 0, .int .i64 0, .int .i64 0, .int .i64 0, .int .i64 0, .int .i64 0, .int .i64 0] 7 (#[.int .i64 0, .int .i64 te, .int .i64 pd, .int .i64 (t.ff + pq), .int .i64 pc, .int .i64 ((te - pd - (t.ff + pq)) - pc), .int .i64 u] : Array Value).toList = #[.int .i64 y.me, .int .i64 y.rv, .int .i64 y.nx, .int .i64 y.mo, .int .i64 (y.bo + u), .int .i64 y.fr, .slice pz lz cz, .int .i64 0, .int .i64 te, .int .i64 pd, .int .i64 (t.ff + pq), .int .i64 pc, .int .i64 ((te - pd - (t.ff + pq)) - pc), .int .i64 u]) := by show _ = _; kernel_rfl
          go_wp2_with (first | (refine wp_let rfl 23 _ _ rfl g 7 rfl (.agg #[.int .i64 0, .int .i64 te, .int .i64 pd, .int .i64 (t.ff + pq), .int .i64 pc, .int .i64 ((te - pd - (t.ff + pq)) - pc), .int .i64 u]) rfl #[.int .i64 0, .int .i64 te, .int .i64 pd, .int .i64 (t.ff + pq), .int .i64 pc, .int .i64 ((te - pd - (t.ff + pq)) - pc), .int .i64 u] rfl (by kernel_rfl) (by simp [Value.oneCell']) #[.int .i64 y.me, .int .i64 y.rv, .int .i64 y.nx, .int .i64 y.mo, .int .i64 (y.bo + u), .int .i64 y.fr, .slice pz lz cz, .int .i64 0, .int .i64 0, .int .i64 0, .int .i64 0, .int .i64 0, .int .i64 0, .int .i64 0] 134 H6g.out (by simp) #[.int .i64 y.me, .int .i64 y.rv, .int .i64 y.nx, .int .i64 y.mo, .int .i64 (y.bo + u), .int .i64 y.fr, .slice pz lz cz, .int .i64 0, .int .i64 te, .int .i64 pd, .int .i64 (t.ff + pq), .int .i64 pc, .int .i64 ((te - pd - (t.ff + pq)) - pc), .int .i64 u] HPUT.out ?_) | fail)
          intro WA hU
          have H7g : Hid (Blk WA g #[.int .i64 y.me, .int .i64 y.rv, .int .i64 y.nx, .int .i64 y.mo, .int .i64 (y.bo + u), .int .i64 y.fr, .slice pz lz cz, .int .i64 0, .int .i64 te, .int .i64 pd, .int .i64 (t.ff + pq), .int .i64 pc, .int .i64 ((te - pd - (t.ff + pq)) - pc), .int .i64 u] 134) := hU.blk
          have H7t : Hid (Blk WA (w.heap.size) #[.slice pt lt ct, .int .i64 t.ff, .int .i64 t.fb, .int .i64 t.db, .int .i64 t.al] 40) := Chg.keep (g := g) (.upd hU) H6t.out (by omega)
          have H7Z : Hid (deb.Fresh WA (g + 1) pz lz cz z) := fresh_chg H6Z.out (.upd hU)
          have H7C : Hid (Chg w WA g) := H6C.out.trans (.upd hU)
          clear H6C H6g H6t H6Z hU hwd
          have HSV : Hid (⟨y.me, y.rv, y.nx + 1, y.mo, y.bo + u, y.fr, z⟩ = sold x t te m u) := by
            show _ = _
            unfold sold
            rw [HZV.out, ← HBR.out, HBS.out.1, HBS.out.2.1, HBS.out.2.2.1, HBS.out.2.2.2.1, HBS.out.2.2.2.2]
          have HBV : Hid (⟨y.nx, te, pd, (t.ff + pq), pc, (te - pd - (t.ff + pq)) - pc, u⟩ = bill x t te m u) := by
            show _ = _
            unfold bill
            rw [← HPC.out, ← HRS.out, ← HPD.out, ← HFE.out, HYN.out]
          have HNU : Hid (Calls Try.prog 100 #[.pointer (some ⟨g, 0, none⟩)] WA fun e w' => NumPost WA g ⟨y.me, y.rv, y.nx, y.mo, y.bo + u, y.fr, z⟩ ⟨0, te, pd, (t.ff + pq), pc, (te - pd - (t.ff + pq)) - pc, u⟩ pz lz cz e w') := pnum g ⟨y.me, y.rv, y.nx, y.mo, y.bo + u, y.fr, z⟩ ⟨0, te, pd, (t.ff + pq), pc, (te - pd - (t.ff + pq)) - pc, u⟩ pz lz cz WA H7g.out hyx
          go_wp2_with fail
          refine HNU.out.mono ?_
          rintro e wN ⟨hcN, ⟨hx, rfl, hiN⟩ | ⟨hx, rfl, hiN⟩⟩
          · have HV : Hid (Or0 (SellIs x t te m) ⟨y.me, y.rv, y.nx, y.mo, y.bo + u, y.fr, z⟩ ⟨0, te, pd, (t.ff + pq), pc, (te - pd - (t.ff + pq)) - pc, u⟩ 20) := .inl ⟨by decide, .inr (.inr (.inl ⟨HRY.out, HTE.out, by rw [← HYN.out]; exact hx, rfl, rfl, rfl⟩))⟩
            have HDN := fresh_chg H7Z.out hcN
            have HCN := H7C.out.trans hcN
            clear HNU hx
            go_wp2_with fail
            go_ret
            exact ⟨⟨y.me, y.rv, y.nx, y.mo, y.bo + u, y.fr, z⟩, ⟨0, te, pd, (t.ff + pq), pc, (te - pd - (t.ff + pq)) - pc, u⟩, pz, lz, cz, 20, rfl, HV.out, hiN, HDN, HCN⟩
          · have HV : Hid (Or0 (SellIs x t te m) ⟨y.me, y.rv, y.nx + 1, y.mo, y.bo + u, y.fr, z⟩ ⟨y.nx, te, pd, (t.ff + pq), pc, (te - pd - (t.ff + pq)) - pc, u⟩ 0) := .inr ⟨rfl, .inr (.inr (.inr ⟨HRY.out, HTE.out, by rw [← HYN.out]; exact hx, rfl, u, HMO.out, HSV.out, HBV.out⟩))⟩
            have HDN := fresh_chg H7Z.out hcN
            have HCN := H7C.out.trans hcN
            clear HNU hx
            go_wp2_with fail
            go_ret
            exact ⟨⟨y.me, y.rv, y.nx + 1, y.mo, y.bo + u, y.fr, z⟩, ⟨y.nx, te, pd, (t.ff + pq), pc, (te - pd - (t.ff + pq)) - pc, u⟩, pz, lz, cz, 0, rfl, HV.out, hiN, HDN, HCN⟩
    · rw [decide_eq_false h5] at HIT
      have HV : Hid (Or0 (SellIs x t te m) y bi0 19) := .inl ⟨by decide, .inr (.inl ⟨HRY.out, fun hh => h5 hh.1, rfl, rfl, rfl⟩)⟩
      clear h5
      go_wp2_with fail
      refine (HIT.out _).mono ?_
      rintro e wz ⟨rfl, hwz⟩
      subst wz
      go_wp2_with fail
      go_ret
      exact ⟨y, bi0, q, n, c, 19, rfl, HV.out, H1g.out, H1D.out, H1C.out⟩
  · skip
    have d0 : (f != 0) = true := by simpa using h0
    have HV : Hid (Or0 (SellIs x t te m) y bi0 f) := by
      refine .inl ⟨h0, .inl ⟨?_, rfl, rfl⟩⟩
      rcases hr with ⟨h1, h2, _⟩ | ⟨h1, h2, h3, _⟩ | ⟨_, _, _, h1⟩
      · exact .inr (.inl ⟨HM.out, h1, h2⟩)
      · exact .inr (.inr ⟨HM.out, h1, h2, h3⟩)
      · exact absurd h1 h0
    clear hr h0
    go_wp2_with fail
    go_ret
    exact ⟨y, bi0, q, n, c, f, rfl, HV.out, H1g.out, H1D.out, H1C.out⟩

end Go.Proofs.Ytfhlokjpdkmdjaa.acc

/- account.Sell: what is asked of it. -/
namespace Go.Proofs.Ytfhlokjpdkmdjaa.acc
open Go.Proofs.Ytfhlokjpdkmdjaa.tar (Du)
open Go.RowKit

def KcSell : Prop := ∀ (W : World) (x : Ac) (p : Option Addr) (len cap : Nat) (t : Tm) (pt : Option Addr) (lt ct : Nat) (te m : Int), ACame W x p len cap → TCame W t pt lt ct → (Lit.int .i64 te).wf = true → (Lit.int .i64 m).wf = true → Calls Try.prog 78 #[x.v p len cap, t.v pt lt ct, .int .i64 te, .int .i64 m] W fun e w' => BPost W (SellIs x t te m) e w'

end Go.Proofs.Ytfhlokjpdkmdjaa.acc

/- account.Sell. -/
namespace Go.Proofs.Ytfhlokjpdkmdjaa.acc
open Go.Proofs.Ytfhlokjpdkmdjaa.tar (Du du0 Came RowD Ld PairT)
open Go.RowKit
set_option maxRecDepth 100000
set_option linter.unusedVariables false
set_option linter.unusedSimpArgs false

set_option maxHeartbeats 1000000 in
theorem psell1 (B0 B1 B2 g : Nat) (x : Ac) (p : Option Addr) (len cap : Nat) (t : Tm) (pt : Option Addr) (lt ct : Nat) (te m : Int) (w : World) (hB0 : Blk w B0 #[.slice pt lt ct, .int .i64 t.ff, .int .i64 t.fb, .int .i64 t.db, .int .i64 t.al] 40) (hB1 : Blk w B1 #[.int .i64 te] 3) (hB2 : Blk w B2 #[.int .i64 m] 3) (hw : Blk w g (wcs x bi0 p len cap) 134) (hd : deb.Fresh w (g + 1) p len cap x.ds) (ha : AMay x) (ht : Came w pt lt ct t.ts) (hwf : wf4 t) (hfar : Far pt lt g) : Calls Try.prog 87 #[.pointer (some ⟨g, 0, none⟩), .pointer (some ⟨B0, 0, none⟩), .pointer (some ⟨B1, 0, none⟩), .pointer (some ⟨B2, 0, none⟩)] w fun e w' => WPost w g (Or0 (SellIs x t te m)) e w' := by
  have HIN : Hid (Calls Try.prog 88 #[.pointer (some ⟨g, 0, none⟩), .agg #[.slice pt lt ct, .int .i64 t.ff, .int .i64 t.fb, .int .i64 t.db, .int .i64 t.al], .int .i64 te, .int .i64 m] w fun e w' => WPost w g (Or0 (SellIs x t te m)) e w') := (psell g x p len cap t pt lt ct te m w hw hd ha ht hwf hfar).mono fun e w' h => h.w (Nat.le_of_lt hw.lt)
  have HK0 : Hid (Blk w B0 #[.slice pt lt ct, .int .i64 t.ff, .int .i64 t.fb, .int .i64 t.db, .int .i64 t.al] 40) := hB0
  have HK1 : Hid (Blk w B1 #[.int .i64 te] 3) := hB1
  have qB1 : w.cell? ⟨B1, 0, none⟩ = some (.int .i64 te) := hB1.cell 0
  have HK2 : Hid (Blk w B2 #[.int .i64 m] 3) := hB2
  have qB2 : w.cell? ⟨B2, 0, none⟩ = some (.int .i64 m) := hB2.cell 0
  clear hw ha hd ht hwf hfar
  go_enter Try.func87, Try.ntmps87
  go_wp2_with (first | (refine wp_whole rfl 40 _ rfl B0 rfl 40 #[.slice pt lt ct, .int .i64 t.ff, .int .i64 t.fb, .int .i64 t.db, .int .i64 t.al] _ HK0.out Try.underlying40 rfl (by kernel_rfl) ?_) | fail)
  refine HIN.out.mono ?_
  rintro e w1 hx
  have HX : Hid (WPost w g (Or0 (SellIs x t te m)) e w1) := hx
  obtain ⟨y, b, q, n, c, f, rfl, _⟩ := hx
  clear HIN
  go_wp2_with fail
  go_ret
  exact HX.out
set_option maxHeartbeats 4000000 in
theorem ksell : KcSell := by
  intro w x p len cap t pt lt ct te m ha ht hte hm
  unfold Ac.v Ac.cs Tm.v
  have H0d : Hid (Blk ((((((w.alloc (.cells #[.int .i64 x.me, .int .i64 x.rv, .int .i64 x.nx, .int .i64 x.mo, .int .i64 x.bo, .int .i64 x.fr, .slice p len cap] 55)).alloc (.cells #[.slice pt lt ct, .int .i64 t.ff, .int .i64 t.fb, .int .i64 t.db, .int .i64 t.al] 40)).alloc (.cells #[.int .i64 te] 3)).alloc (.cells #[.int .i64 m] 3)).alloc (.cells #[.int .i64 0, .int .i64 0, .int .i64 0, .int .i64 0, .int .i64 0, .int .i64 0, .slice none 0 0] 55)).alloc (.cells #[.int .i64 0, .int .i64 0, .int .i64 0, .int .i64 0, .int .i64 0, .int .i64 0, .int .i64 0] 23)) (w.heap.size) #[.int .i64 x.me, .int .i64 x.rv, .int .i64 x.nx, .int .i64 x.mo, .int .i64 x.bo, .int .i64 x.fr, .slice p len cap] 55) := (((((Blk.new w _ _).alloc _).alloc _).alloc _).alloc _).alloc _
  have H0t : Hid (Blk ((((((w.alloc (.cells #[.int .i64 x.me, .int .i64 x.rv, .int .i64 x.nx, .int .i64 x.mo, .int .i64 x.bo, .int .i64 x.fr, .slice p len cap] 55)).alloc (.cells #[.slice pt lt ct, .int .i64 t.ff, .int .i64 t.fb, .int .i64 t.db, .int .i64 t.al] 40)).alloc (.cells #[.int .i64 te] 3)).alloc (.cells #[.int .i64 m] 3)).alloc (.cells #[.int .i64 0, .int .i64 0, .int .i64 0, .int .i64 0, .int .i64 0, .int .i64 0, .slice none 0 0] 55)).alloc (.cells #[.int .i64 0, .int .i64 0, .int .i64 0, .int .i64 0, .int .i64 0, .int .i64 0, .int .i64 0] 23)) (w.heap.size + 1) #[.slice pt lt ct, .int .i64 t.ff, .int .i64 t.fb, .int .i64 t.db, .int .i64 t.al] 40) := ((((Blk.new1 w _ _ _).alloc _).alloc _).alloc _).alloc _
  have H0e : Hid (Blk ((((((w.alloc (.cells #[.int .i64 x.me, .int .i64 x.rv, .int .i64 x.nx, .int .i64 x.mo, .int .i64 x.bo, .int .i64 x.fr, .slice p len cap] 55)).alloc (.cells #[.slice pt lt ct, .int .i64 t.ff, .int .i64 t.fb, .int .i64 t.db, .int .i64 t.al] 40)).alloc (.cells #[.int .i64 te] 3)).alloc (.cells #[.int .i64 m] 3)).alloc (.cells #[.int .i64 0, .int .i64 0, .int .i64 0, .int .i64 0, .int .i64 0, .int .i64 0, .slice none 0 0] 55)).alloc (.cells #[.int .i64 0, .int .i64 0, .int .i64 0, .int .i64 0, .int .i64 0, .int .i64 0, .int .i64 0] 23)) (w.heap.size + 1 + 1) #[.int .i64 te] 3) := (((Blk.new2 w _ _ _ _).alloc _).alloc _).alloc _
  have H0m : Hid (Blk ((((((w.alloc (.cells #[.int .i64 x.me, .int .i64 x.rv, .int .i64 x.nx, .int .i64 x.mo, .int .i64 x.bo, .int .i64 x.fr, .slice p len cap] 55)).alloc (.cells #[.slice pt lt ct, .int .i64 t.ff, .int .i64 t.fb, .int .i64 t.db, .int .i64 t.al] 40)).alloc (.cells #[.int .i64 te] 3)).alloc (.cells #[.int .i64 m] 3)).alloc (.cells #[.int .i64 0, .int .i64 0, .int .i64 0, .int .i64 0, .int .i64 0, .int .i64 0, .slice none 0 0] 55)).alloc (.cells #[.int .i64 0, .int .i64 0, .int .i64 0, .int .i64 0, .int .i64 0, .int .i64 0, .int .i64 0] 23)) (w.heap.size + 1 + 1 + 1) #[.int .i64 m] 3) := ((Blk.new3 w _ _ _ _ _).alloc _).alloc _
  have H0r : Hid (Blk ((((((w.alloc (.cells #[.int .i64 x.me, .int .i64 x.rv, .int .i64 x.nx, .int .i64 x.mo, .int .i64 x.bo, .int .i64 x.fr, .slice p len cap] 55)).alloc (.cells #[.slice pt lt ct, .int .i64 t.ff, .int .i64 t.fb, .int .i64 t.db, .int .i64 t.al] 40)).alloc (.cells #[.int .i64 te] 3)).alloc (.cells #[.int .i64 m] 3)).alloc (.cells #[.int .i64 0, .int .i64 0, .int .i64 0, .int .i64 0, .int .i64 0, .int .i64 0, .slice none 0 0] 55)).alloc (.cells #[.int .i64 0, .int .i64 0, .int .i64 0, .int .i64 0, .int .i64 0, .int .i64 0, .int .i64 0] 23)) (w.heap.size + 1 + 1 + 1 + 1) #[.int .i64 0, .int .i64 0, .int .i64 0, .int .i64 0, .int .i64 0, .int .i64 0, .slice none 0 0] 55) := (blk_new4 w _ _ _ _ _ _).alloc _
  have H0l : Hid (Blk ((((((w.alloc (.cells #[.int .i64 x.me, .int .i64 x.rv, .int .i64 x.nx, .int .i64 x.mo, .int .i64 x.bo, .int .i64 x.fr, .slice p len cap] 55)).alloc (.cells #[.slice pt lt ct, .int .i64 t.ff, .int .i64 t.fb, .int .i64 t.db, .int .i64 t.al] 40)).alloc (.cells #[.int .i64 te] 3)).alloc (.cells #[.int .i64 m] 3)).alloc (.cells #[.int .i64 0, .int .i64 0, .int .i64 0, .int .i64 0, .int .i64 0, .int .i64 0, .slice none 0 0] 55)).alloc (.cells #[.int .i64 0, .int .i64 0, .int .i64 0, .int .i64 0, .int .i64 0, .int .i64 0, .int .i64 0] 23)) (w.heap.size + 1 + 1 + 1 + 1 + 1) #[.int .i64 0, .int .i64 0, .int .i64 0, .int .i64 0, .int .i64 0, .int .i64 0, .int .i64 0] 23) := blk_new5 w _ _ _ _ _ _ _
  have H0B : Hid (Below w.heap.size w ((((((w.alloc (.cells #[.int .i64 x.me, .int .i64 x.rv, .int .i64 x.nx, .int .i64 x.mo, .int .i64 x.bo, .int .i64 x.fr, .slice p len cap] 55)).alloc (.cells #[.slice pt lt ct, .int .i64 t.ff, .int .i64 t.fb, .int .i64 t.db, .int .i64 t.al] 40)).alloc (.cells #[.int .i64 te] 3)).alloc (.cells #[.int .i64 m] 3)).alloc (.cells #[.int .i64 0, .int .i64 0, .int .i64 0, .int .i64 0, .int .i64 0, .int .i64 0, .slice none 0 0] 55)).alloc (.cells #[.int .i64 0, .int .i64 0, .int .i64 0, .int .i64 0, .int .i64 0, .int .i64 0, .int .i64 0] 23))) := ((((((Below.refl w.heap.size w).alloc (by simp) _).alloc (by simp) _).alloc (by simp; omega) _).alloc (by simp; omega) _).alloc (by simp; omega) _).alloc (by simp; omega) _
  have H0R : Hid (Came ((((((w.alloc (.cells #[.int .i64 x.me, .int .i64 x.rv, .int .i64 x.nx, .int .i64 x.mo, .int .i64 x.bo, .int .i64 x.fr, .slice p len cap] 55)).alloc (.cells #[.slice pt lt ct, .int .i64 t.ff, .int .i64 t.fb, .int .i64 t.db, .int .i64 t.al] 40)).alloc (.cells #[.int .i64 te] 3)).alloc (.cells #[.int .i64 m] 3)).alloc (.cells #[.int .i64 0, .int .i64 0, .int .i64 0, .int .i64 0, .int .i64 0, .int .i64 0, .slice none 0 0] 55)).alloc (.cells #[.int .i64 0, .int .i64 0, .int .i64 0, .int .i64 0, .int .i64 0, .int .i64 0, .int .i64 0] 23)) p len cap x.ds) := ha.ds.below H0B.out
  have hs0 : w.heap.size + 1 + 1 + 1 + 1 + 1 < ((((((w.alloc (.cells #[.int .i64 x.me, .int .i64 x.rv, .int .i64 x.nx, .int .i64 x.mo, .int .i64 x.bo, .int .i64 x.fr, .slice p len cap] 55)).alloc (.cells #[.slice pt lt ct, .int .i64 t.ff, .int .i64 t.fb, .int .i64 t.db, .int .i64 t.al] 40)).alloc (.cells #[.int .i64 te] 3)).alloc (.cells #[.int .i64 m] 3)).alloc (.cells #[.int .i64 0, .int .i64 0, .int .i64 0, .int .i64 0, .int .i64 0, .int .i64 0, .slice none 0 0] 55)).alloc (.cells #[.int .i64 0, .int .i64 0, .int .i64 0, .int .i64 0, .int .i64 0, .int .i64 0, .int .i64 0] 23)).heap.size := H0l.out.lt
  generalize hWW : ((((((w.alloc (.cells #[.int .i64 x.me, .int .i64 x.rv, .int .i64 x.nx, .int .i64 x.mo, .int .i64 x.bo, .int .i64 x.fr, .slice p len cap] 55)).alloc (.cells #[.slice pt lt ct, .int .i64 t.ff, .int .i64 t.fb, .int .i64 t.db, .int .i64 t.al] 40)).alloc (.cells #[.int .i64 te] 3)).alloc (.cells #[.int .i64 m] 3)).alloc (.cells #[.int .i64 0, .int .i64 0, .int .i64 0, .int .i64 0, .int .i64 0, .int .i64 0, .slice none 0 0] 55)).alloc (.cells #[.int .i64 0, .int .i64 0, .int .i64 0, .int .i64 0, .int .i64 0, .int .i64 0, .int .i64 0] 23)) = W0 at *
  have HWW : Hid (((((((w.alloc (.cells #[.int .i64 x.me, .int .i64 x.rv, .int .i64 x.nx, .int .i64 x.mo, .int .i64 x.bo, .int .i64 x.fr, .slice p len cap] 55)).alloc (.cells #[.slice pt lt ct, .int .i64 t.ff, .int .i64 t.fb, .int .i64 t.db, .int .i64 t.al] 40)).alloc (.cells #[.int .i64 te] 3)).alloc (.cells #[.int .i64 m] 3)).alloc (.cells #[.int .i64 0, .int .i64 0, .int .i64 0, .int .i64 0, .int .i64 0, .int .i64 0, .slice none 0 0] 55)).alloc (.cells #[.int .i64 0, .int .i64 0, .int .i64 0, .int .i64 0, .int .i64 0, .int .i64 0, .int .i64 0] 23)) = W0) := hWW
  clear hWW
  go_enter Try.func78, Try.ntmps78
  go_upto_region 1 with fail
  rw [HWW.out]
  clear HWW
  have HXt : Hid (∀ W, Below W0.heap.size W0 W → Blk W (w.heap.size + 1) #[.slice pt lt ct, .int .i64 t.ff, .int .i64 t.fb, .int .i64 t.db, .int .i64 t.al] 40) := fun W hW => H0t.out.next hW
  have HXe : Hid (∀ W, Below W0.heap.size W0 W → Blk W (w.heap.size + 1 + 1) #[.int .i64 te] 3) := fun W hW => H0e.out.next hW
  have HXm : Hid (∀ W, Below W0.heap.size W0 W → Blk W (w.heap.size + 1 + 1 + 1) #[.int .i64 m] 3) := fun W hW => H0m.out.next hW
  have HTC : Hid (Came w pt lt ct t.ts) := ht.ts
  have HBW : Hid (Below w.heap.size w W0) := H0B.out
  have hbw : w.heap.size ≤ W0.heap.size := H0B.out.size
  have HWK : Hid (Calls Try.prog 75 #[.agg #[.int .i64 x.me, .int .i64 x.rv, .int .i64 x.nx, .int .i64 x.mo, .int .i64 x.bo, .int .i64 x.fr, .slice p len cap], .func (.func 87) #[] #[.pointer (some ⟨w.heap.size + 1, 0, none⟩), .pointer (some ⟨w.heap.size + 1 + 1, 0, none⟩), .pointer (some ⟨w.heap.size + 1 + 1 + 1, 0, none⟩)]] W0 fun e w' => BPost W0 (SellIs x t te m) e w') := by
    refine pwork 87 #[.pointer (some ⟨w.heap.size + 1, 0, none⟩), .pointer (some ⟨w.heap.size + 1 + 1, 0, none⟩), .pointer (some ⟨w.heap.size + 1 + 1 + 1, 0, none⟩)] (SellIs x t te m) x p len cap W0 H0R.out (fun h => .inl ⟨.inl ⟨h, rfl⟩, rfl, rfl⟩) (fun _ _ => by kernel_rfl) ?_
    intro hm W g p' cap' hB hg hblk hld
    have HFR : deb.Fresh W (g + 1) p' len cap' x.ds := by
      obtain ⟨a0, c0, hv, hfr⟩ := deb.ld_fresh hld hm.1
      injection hv with h1 h2 h3
      rw [h1, h2, h3]; exact hfr
    have hfar : Far pt lt g := fun hn y hy => by have := came_lt HTC.out hn y hy; omega
    exact psell1 _ _ _ g x p' len cap' t pt lt ct te m W (HXt.out W hB) (HXe.out W hB) (HXm.out W hB) hblk HFR hm (HTC.out.below (HBW.out.trans (hB.mono hbw))) ht.wf hfar
  clear ha ht HXt HXe HXm
  go_wp2_with (first
    | (refine wp_whole rfl 55 _ rfl (w.heap.size) rfl 55 #[.int .i64 x.me, .int .i64 x.rv, .int .i64 x.nx, .int .i64 x.mo, .int .i64 x.bo, .int .i64 x.fr, .slice p len cap] _ H0d.out Try.underlying55 rfl (by kernel_rfl) ?_)
    | (refine wp_whole rfl 40 _ rfl (w.heap.size + 1) rfl 40 #[.slice pt lt ct, .int .i64 t.ff, .int .i64 t.fb, .int .i64 t.db, .int .i64 t.al] _ H0t.out Try.underlying40 rfl (by kernel_rfl) ?_)
    | (refine wp_whole rfl 3 _ rfl (w.heap.size + 1 + 1) rfl 3 #[.int .i64 te] _ H0e.out Try.underlying3 rfl (by kernel_rfl) ?_)
    | (refine wp_whole rfl 3 _ rfl (w.heap.size + 1 + 1 + 1) rfl 3 #[.int .i64 m] _ H0m.out Try.underlying3 rfl (by kernel_rfl) ?_)
    | (refine wp_whole rfl 55 _ rfl (w.heap.size + 1 + 1 + 1 + 1) rfl 55 #[.int .i64 0, .int .i64 0, .int .i64 0, .int .i64 0, .int .i64 0, .int .i64 0, .slice none 0 0] _ H0r.out Try.underlying55 rfl (by kernel_rfl) ?_)
    | (refine wp_whole rfl 23 _ rfl (w.heap.size + 1 + 1 + 1 + 1 + 1) rfl 23 #[.int .i64 0, .int .i64 0, .int .i64 0, .int .i64 0, .int .i64 0, .int .i64 0, .int .i64 0] _ H0l.out Try.underlying23 rfl (by kernel_rfl) ?_)
    | fail)
  refine HWK.out.mono ?_
  rintro e w1 ⟨b, l, pr, lr, cr, fz, rfl, hi, hf, hb1⟩
  have H1d : Hid (Blk w1 (w.heap.size) #[.int .i64 x.me, .int .i64 x.rv, .int .i64 x.nx, .int .i64 x.mo, .int .i64 x.bo, .int .i64 x.fr, .slice p len cap] 55) := H0d.out.next hb1
  have H1t : Hid (Blk w1 (w.heap.size + 1) #[.slice pt lt ct, .int .i64 t.ff, .int .i64 t.fb, .int .i64 t.db, .int .i64 t.al] 40) := H0t.out.next hb1
  have H1e : Hid (Blk w1 (w.heap.size + 1 + 1) #[.int .i64 te] 3) := H0e.out.next hb1
  have H1m : Hid (Blk w1 (w.heap.size + 1 + 1 + 1) #[.int .i64 m] 3) := H0m.out.next hb1
  have H1r : Hid (Blk w1 (w.heap.size + 1 + 1 + 1 + 1) #[.int .i64 0, .int .i64 0, .int .i64 0, .int .i64 0, .int .i64 0, .int .i64 0, .slice none 0 0] 55) := H0r.out.next hb1
  have H1l : Hid (Blk w1 (w.heap.size + 1 + 1 + 1 + 1 + 1) #[.int .i64 0, .int .i64 0, .int .i64 0, .int .i64 0, .int .i64 0, .int .i64 0, .int .i64 0] 23) := H0l.out.next hb1
  have H1R : Hid (Came w1 p len cap x.ds) := H0R.out.below hb1
  have H1B : Hid (Below w.heap.size w w1) := H0B.out.trans (hb1.mono H0B.out.size)
  have hsw1 : W0.heap.size ≤ w1.heap.size := hb1.size
  clear hb1 H0d H0t H0e H0m H0r H0l H0R H0B
  unfold Ac.v Ac.cs Bi.v
  clear HWK
  have H2F : Hid (deb.Fresh w1 W0.heap.size pr lr cr b.ds) := hf
  have HUPF : Hid (0 < lr → ∀ y, pr = some y → y.block < w1.heap.size) := came_lt H2F.out.came
  have HV : Hid (SellIs x t te m b l fz) := hi
  clear hf hi
  go_wp2_with (first
    | (refine wp_letAll rfl 55 _ _ rfl (w.heap.size + 1 + 1 + 1 + 1) rfl #[.int .i64 b.me, .int .i64 b.rv, .int .i64 b.nx, .int .i64 b.mo, .int .i64 b.bo, .int .i64 b.fr, .slice pr lr cr] rfl (by kernel_rfl) (by simp [Value.oneCell']) #[.int .i64 0, .int .i64 0, .int .i64 0, .int .i64 0, .int .i64 0, .int .i64 0, .slice none 0 0] 55 H1r.out rfl ?_)
    | (refine wp_whole rfl 55 _ rfl (w.heap.size) rfl 55 #[.int .i64 x.me, .int .i64 x.rv, .int .i64 x.nx, .int .i64 x.mo, .int .i64 x.bo, .int .i64 x.fr, .slice p len cap] _ H1d.out Try.underlying55 rfl (by kernel_rfl) ?_)
    | (refine wp_whole rfl 40 _ rfl (w.heap.size + 1) rfl 40 #[.slice pt lt ct, .int .i64 t.ff, .int .i64 t.fb, .int .i64 t.db, .int .i64 t.al] _ H1t.out Try.underlying40 rfl (by kernel_rfl) ?_)
    | (refine wp_whole rfl 3 _ rfl (w.heap.size + 1 + 1) rfl 3 #[.int .i64 te] _ H1e.out Try.underlying3 rfl (by kernel_rfl) ?_)
    | (refine wp_whole rfl 3 _ rfl (w.heap.size + 1 + 1 + 1) rfl 3 #[.int .i64 m] _ H1m.out Try.underlying3 rfl (by kernel_rfl) ?_)
    | (refine wp_whole rfl 55 _ rfl (w.heap.size + 1 + 1 + 1 + 1) rfl 55 #[.int .i64 0, .int .i64 0, .int .i64 0, .int .i64 0, .int .i64 0, .int .i64 0, .slice none 0 0] _ H1r.out Try.underlying55 rfl (by kernel_rfl) ?_)
    | (refine wp_whole rfl 23 _ rfl (w.heap.size + 1 + 1 + 1 + 1 + 1) rfl 23 #[.int .i64 0, .int .i64 0, .int .i64 0, .int .i64 0, .int .i64 0, .int .i64 0, .int .i64 0] _ H1l.out Try.underlying23 rfl (by kernel_rfl) ?_)
    | fail)
  intro W4 hU
  have H3d : Hid (Blk W4 (w.heap.size) #[.int .i64 x.me, .int .i64 x.rv, .int .i64 x.nx, .int .i64 x.mo, .int .i64 x.bo, .int .i64 x.fr, .slice p len cap] 55) := hU.keep H1d.out (by omega)
  have H3t : Hid (Blk W4 (w.heap.size + 1) #[.slice pt lt ct, .int .i64 t.ff, .int .i64 t.fb, .int .i64 t.db, .int .i64 t.al] 40) := hU.keep H1t.out (by omega)
  have H3e : Hid (Blk W4 (w.heap.size + 1 + 1) #[.int .i64 te] 3) := hU.keep H1e.out (by omega)
  have H3m : Hid (Blk W4 (w.heap.size + 1 + 1 + 1) #[.int .i64 m] 3) := hU.keep H1m.out (by omega)
  have H3r : Hid (Blk W4 (w.heap.size + 1 + 1 + 1 + 1) #[.int .i64 b.me, .int .i64 b.rv, .int .i64 b.nx, .int .i64 b.mo, .int .i64 b.bo, .int .i64 b.fr, .slice pr lr cr] 55) := hU.blk
  have H3l : Hid (Blk W4 (w.heap.size + 1 + 1 + 1 + 1 + 1) #[.int .i64 0, .int .i64 0, .int .i64 0, .int .i64 0, .int .i64 0, .int .i64 0, .int .i64 0] 23) := hU.keep H1l.out (by omega)
  have H3F : Hid (deb.Fresh W4 W0.heap.size pr lr cr b.ds) := fresh_updN H2F.out hU (fun hn y hy => by have f1 := H2F.out.new hn y hy; have f2 := HUPF.out hn y hy; omega)
  have H3B : Hid (Below w.heap.size w W4) := hU.bel _ _ (by omega) H1B.out
  have hsW4 : W4.heap.size = w1.heap.size := hU.size
  clear hU H1d H1t H1e H1m H1r H1l H2F H1B
  go_wp2_with (first
    | (refine wp_letAll rfl 23 _ _ rfl (w.heap.size + 1 + 1 + 1 + 1 + 1) rfl #[.int .i64 l.id, .int .i64 l.te, .int .i64 l.de, .int .i64 l.fe, .int .i64 l.pr, .int .i64 l.ch, .int .i64 l.un] rfl (by kernel_rfl) (by simp [Value.oneCell']) #[.int .i64 0, .int .i64 0, .int .i64 0, .int .i64 0, .int .i64 0, .int .i64 0, .int .i64 0] 23 H3l.out rfl ?_)
    | (refine wp_whole rfl 55 _ rfl (w.heap.size) rfl 55 #[.int .i64 x.me, .int .i64 x.rv, .int .i64 x.nx, .int .i64 x.mo, .int .i64 x.bo, .int .i64 x.fr, .slice p len cap] _ H3d.out Try.underlying55 rfl (by kernel_rfl) ?_)
    | (refine wp_whole rfl 40 _ rfl (w.heap.size + 1) rfl 40 #[.slice pt lt ct, .int .i64 t.ff, .int .i64 t.fb, .int .i64 t.db, .int .i64 t.al] _ H3t.out Try.underlying40 rfl (by kernel_rfl) ?_)
    | (refine wp_whole rfl 3 _ rfl (w.heap.size + 1 + 1) rfl 3 #[.int .i64 te] _ H3e.out Try.underlying3 rfl (by kernel_rfl) ?_)
    | (refine wp_whole rfl 3 _ rfl (w.heap.size + 1 + 1 + 1) rfl 3 #[.int .i64 m] _ H3m.out Try.underlying3 rfl (by kernel_rfl) ?_)
    | (refine wp_whole rfl 55 _ rfl (w.heap.size + 1 + 1 + 1 + 1) rfl 55 #[.int .i64 b.me, .int .i64 b.rv, .int .i64 b.nx, .int .i64 b.mo, .int .i64 b.bo, .int .i64 b.fr, .slice pr lr cr] _ H3r.out Try.underlying55 rfl (by kernel_rfl) ?_)
    | (refine wp_whole rfl 23 _ rfl (w.heap.size + 1 + 1 + 1 + 1 + 1) rfl 23 #[.int .i64 0, .int .i64 0, .int .i64 0, .int .i64 0, .int .i64 0, .int .i64 0, .int .i64 0] _ H3l.out Try.underlying23 rfl (by kernel_rfl) ?_)
    | fail)
  intro W5 hU
  have H4d : Hid (Blk W5 (w.heap.size) #[.int .i64 x.me, .int .i64 x.rv, .int .i64 x.nx, .int .i64 x.mo, .int .i64 x.bo, .int .i64 x.fr, .slice p len cap] 55) := hU.keep H3d.out (by omega)
  have H4t : Hid (Blk W5 (w.heap.size + 1) #[.slice pt lt ct, .int .i64 t.ff, .int .i64 t.fb, .int .i64 t.db, .int .i64 t.al] 40) := hU.keep H3t.out (by omega)
  have H4e : Hid (Blk W5 (w.heap.size + 1 + 1) #[.int .i64 te] 3) := hU.keep H3e.out (by omega)
  have H4m : Hid (Blk W5 (w.heap.size + 1 + 1 + 1) #[.int .i64 m] 3) := hU.keep H3m.out (by omega)
  have H4r : Hid (Blk W5 (w.heap.size + 1 + 1 + 1 + 1) #[.int .i64 b.me, .int .i64 b.rv, .int .i64 b.nx, .int .i64 b.mo, .int .i64 b.bo, .int .i64 b.fr, .slice pr lr cr] 55) := hU.keep H3r.out (by omega)
  have H4l : Hid (Blk W5 (w.heap.size + 1 + 1 + 1 + 1 + 1) #[.int .i64 l.id, .int .i64 l.te, .int .i64 l.de, .int .i64 l.fe, .int .i64 l.pr, .int .i64 l.ch, .int .i64 l.un] 23) := hU.blk
  have H4F : Hid (deb.Fresh W5 W0.heap.size pr lr cr b.ds) := fresh_updN H3F.out hU (fun hn y hy => by have f1 := H3F.out.new hn y hy; have f2 := HUPF.out hn y hy; omega)
  have H4B : Hid (Below w.heap.size w W5) := hU.bel _ _ (by omega) H3B.out
  have hsW5 : W5.heap.size = W4.heap.size := hU.size
  clear hU H3d H3t H3e H3m H3r H3l H3F H3B
  have Rr0 : Hid (W5.cell? ⟨w.heap.size + 1 + 1 + 1 + 1, 0, none⟩ = some (.int .i64 b.me)) := H4r.out.cell 0
  have Rr1 : Hid (W5.cell? ⟨w.heap.size + 1 + 1 + 1 + 1, 1, none⟩ = some (.int .i64 b.rv)) := H4r.out.cell 1
  have Rr2 : Hid (W5.cell? ⟨w.heap.size + 1 + 1 + 1 + 1, 2, none⟩ = some (.int .i64 b.nx)) := H4r.out.cell 2
  have Rr3 : Hid (W5.cell? ⟨w.heap.size + 1 + 1 + 1 + 1, 3, none⟩ = some (.int .i64 b.mo)) := H4r.out.cell 3
  have Rr4 : Hid (W5.cell? ⟨w.heap.size + 1 + 1 + 1 + 1, 4, none⟩ = some (.int .i64 b.bo)) := H4r.out.cell 4
  have Rr5 : Hid (W5.cell? ⟨w.heap.size + 1 + 1 + 1 + 1, 5, none⟩ = some (.int .i64 b.fr)) := H4r.out.cell 5
  have Rr6 : Hid (W5.cell? ⟨w.heap.size + 1 + 1 + 1 + 1, 6, none⟩ = some (.slice pr lr cr)) := H4r.out.cell 6
  have Rl0 : Hid (W5.cell? ⟨w.heap.size + 1 + 1 + 1 + 1 + 1, 0, none⟩ = some (.int .i64 l.id)) := H4l.out.cell 0
  have Rl1 : Hid (W5.cell? ⟨w.heap.size + 1 + 1 + 1 + 1 + 1, 1, none⟩ = some (.int .i64 l.te)) := H4l.out.cell 1
  have Rl2 : Hid (W5.cell? ⟨w.heap.size + 1 + 1 + 1 + 1 + 1, 2, none⟩ = some (.int .i64 l.de)) := H4l.out.cell 2
  have Rl3 : Hid (W5.cell? ⟨w.heap.size + 1 + 1 + 1 + 1 + 1, 3, none⟩ = some (.int .i64 l.fe)) := H4l.out.cell 3
  have Rl4 : Hid (W5.cell? ⟨w.heap.size + 1 + 1 + 1 + 1 + 1, 4, none⟩ = some (.int .i64 l.pr)) := H4l.out.cell 4
  have Rl5 : Hid (W5.cell? ⟨w.heap.size + 1 + 1 + 1 + 1 + 1, 5, none⟩ = some (.int .i64 l.ch)) := H4l.out.cell 5
  have Rl6 : Hid (W5.cell? ⟨w.heap.size + 1 + 1 + 1 + 1 + 1, 6, none⟩ = some (.int .i64 l.un)) := H4l.out.cell 6
  go_wp2_with fail
  exact bodyPost_ret (v := .tuple #[.agg #[.int .i64 b.me, .int .i64 b.rv, .int .i64 b.nx, .int .i64 b.mo, .int .i64 b.bo, .int .i64 b.fr, .slice pr lr cr], .agg #[.int .i64 l.id, .int .i64 l.te, .int .i64 l.de, .int .i64 l.fe, .int .i64 l.pr, .int .i64 l.ch, .int .i64 l.un], .int .i64 fz]) (by simp [results, Try.results78, Rr0.out, Rr1.out, Rr2.out, Rr3.out, Rr4.out, Rr5.out, Rr6.out, Rl0.out, Rl1.out, Rl2.out, Rl3.out, Rl4.out, Rl5.out, Rl6.out, go_sem]) rfl ⟨b, l, pr, lr, cr, fz, rfl, HV.out, H4F.out.low (by omega), H4B.out⟩

end Go.Proofs.Ytfhlokjpdkmdjaa.acc

/- What an event asks of an account, in the program. -/
namespace Go.Proofs.Ytfhlokjpdkmdjaa.book
open Go.RowKit
open Go.Proofs.Ytfhlokjpdkmdjaa.acc (Ac Tm Bi APost BPost TFault TRight OpenIs OweIs SellIs GrantIs RekeyIs wf6 ACame TCame fresh_updN fresh_drew came_lt)
set_option maxRecDepth 100000
set_option linter.unusedVariables false
set_option linter.unusedSimpArgs false

set_option maxHeartbeats 8000000 in
theorem bwork (gW : Nat) (V : Value) (B : Nat) (t : Tm) (pt : Option Addr) (lt ct : Nat) (x : Ac) (so : List So) (p : Option Addr) (len cap : Nat) (v : Ev) (w : World) (hw : Blk w gW #[V, .slice pt lt ct, .int .i64 t.ff, .int .i64 t.fb, .int .i64 t.db, .int .i64 t.al, .map (some B)] 72) (ht : TCame w t pt lt ct) (ha : ACame w x p len cap) (hv : (Lit.int .i64 v.te).wf = true ∧ (Lit.int .i64 v.mo).wf = true) (hk : v.kd = 2 ∨ v.kd = 3 ∨ v.kd = 4) :
    Calls Try.prog 67 #[.pointer (some ⟨gW, 0, none⟩), .agg #[.int .i64 x.me, .int .i64 x.rv, .int .i64 x.nx, .int .i64 x.mo, .int .i64 x.bo, .int .i64 x.fr, .slice p len cap], .agg #[.int .i64 v.kd, .int .i64 v.me, .int .i64 v.mo, .int .i64 v.id, .int .i64 v.te, .int .i64 v.de, .int .i64 v.fe, .int .i64 v.pr, .int .i64 v.ch, .int .i64 v.un, .int .i64 v.tg, .int .i64 v.ow, .int .i64 v.bp]] w fun e w' => BPost w (Tells t ⟨x, so⟩ v) e w' := by
  have hgl := hw.lt
  have HWF : Hid ((Lit.int .i64 v.te).wf = true ∧ (Lit.int .i64 v.mo).wf = true) := hv
  have H0a : Hid (Blk ((((w.alloc (.cells #[.int .i64 x.me, .int .i64 x.rv, .int .i64 x.nx, .int .i64 x.mo, .int .i64 x.bo, .int .i64 x.fr, .slice p len cap] 55)).alloc (.cells #[.int .i64 v.kd, .int .i64 v.me, .int .i64 v.mo, .int .i64 v.id, .int .i64 v.te, .int .i64 v.de, .int .i64 v.fe, .int .i64 v.pr, .int .i64 v.ch, .int .i64 v.un, .int .i64 v.tg, .int .i64 v.ow, .int .i64 v.bp] 27)).alloc (.cells #[.int .i64 0, .int .i64 0, .int .i64 0, .int .i64 0, .int .i64 0, .int .i64 0, .slice none 0 0] 55)).alloc (.cells #[.int .i64 0, .int .i64 0, .int .i64 0, .int .i64 0, .int .i64 0, .int .i64 0, .int .i64 0] 23)) (w.heap.size) #[.int .i64 x.me, .int .i64 x.rv, .int .i64 x.nx, .int .i64 x.mo, .int .i64 x.bo, .int .i64 x.fr, .slice p len cap] 55) := (((Blk.new w _ _).alloc _).alloc _).alloc _
  have H0v : Hid (Blk ((((w.alloc (.cells #[.int .i64 x.me, .int .i64 x.rv, .int .i64 x.nx, .int .i64 x.mo, .int .i64 x.bo, .int .i64 x.fr, .slice p len cap] 55)).alloc (.cells #[.int .i64 v.kd, .int .i64 v.me, .int .i64 v.mo, .int .i64 v.id, .int .i64 v.te, .int .i64 v.de, .int .i64 v.fe, .int .i64 v.pr, .int .i64 v.ch, .int .i64 v.un, .int .i64 v.tg, .int .i64 v.ow, .int .i64 v.bp] 27)).alloc (.cells #[.int .i64 0, .int .i64 0, .int .i64 0, .int .i64 0, .int .i64 0, .int .i64 0, .slice none 0 0] 55)).alloc (.cells #[.int .i64 0, .int .i64 0, .int .i64 0, .int .i64 0, .int .i64 0, .int .i64 0, .int .i64 0] 23)) (w.heap.size + 1) #[.int .i64 v.kd, .int .i64 v.me, .int .i64 v.mo, .int .i64 v.id, .int .i64 v.te, .int .i64 v.de, .int .i64 v.fe, .int .i64 v.pr, .int .i64 v.ch, .int .i64 v.un, .int .i64 v.tg, .int .i64 v.ow, .int .i64 v.bp] 27) := ((Blk.new1 w _ _ _).alloc _).alloc _
  have H0r : Hid (Blk ((((w.alloc (.cells #[.int .i64 x.me, .int .i64 x.rv, .int .i64 x.nx, .int .i64 x.mo, .int .i64 x.bo, .int .i64 x.fr, .slice p len cap] 55)).alloc (.cells #[.int .i64 v.kd, .int .i64 v.me, .int .i64 v.mo, .int .i64 v.id, .int .i64 v.te, .int .i64 v.de, .int .i64 v.fe, .int .i64 v.pr, .int .i64 v.ch, .int .i64 v.un, .int .i64 v.tg, .int .i64 v.ow, .int .i64 v.bp] 27)).alloc (.cells #[.int .i64 0, .int .i64 0, .int .i64 0, .int .i64 0, .int .i64 0, .int .i64 0, .slice none 0 0] 55)).alloc (.cells #[.int .i64 0, .int .i64 0, .int .i64 0, .int .i64 0, .int .i64 0, .int .i64 0, .int .i64 0] 23)) (w.heap.size + 1 + 1) #[.int .i64 0, .int .i64 0, .int .i64 0, .int .i64 0, .int .i64 0, .int .i64 0, .slice none 0 0] 55) := (Blk.new2 w _ _ _ _).alloc _
  have H0l : Hid (Blk ((((w.alloc (.cells #[.int .i64 x.me, .int .i64 x.rv, .int .i64 x.nx, .int .i64 x.mo, .int .i64 x.bo, .int .i64 x.fr, .slice p len cap] 55)).alloc (.cells #[.int .i64 v.kd, .int .i64 v.me, .int .i64 v.mo, .int .i64 v.id, .int .i64 v.te, .int .i64 v.de, .int .i64 v.fe, .int .i64 v.pr, .int .i64 v.ch, .int .i64 v.un, .int .i64 v.tg, .int .i64 v.ow, .int .i64 v.bp] 27)).alloc (.cells #[.int .i64 0, .int .i64 0, .int .i64 0, .int .i64 0, .int .i64 0, .int .i64 0, .slice none 0 0] 55)).alloc (.cells #[.int .i64 0, .int .i64 0, .int .i64 0, .int .i64 0, .int .i64 0, .int .i64 0, .int .i64 0] 23)) (w.heap.size + 1 + 1 + 1) #[.int .i64 0, .int .i64 0, .int .i64 0, .int .i64 0, .int .i64 0, .int .i64 0, .int .i64 0] 23) := Blk.new3 w _ _ _ _ _
  have H0B : Hid (Below w.heap.size w ((((w.alloc (.cells #[.int .i64 x.me, .int .i64 x.rv, .int .i64 x.nx, .int .i64 x.mo, .int .i64 x.bo, .int .i64 x.fr, .slice p len cap] 55)).alloc (.cells #[.int .i64 v.kd, .int .i64 v.me, .int .i64 v.mo, .int .i64 v.id, .int .i64 v.te, .int .i64 v.de, .int .i64 v.fe, .int .i64 v.pr, .int .i64 v.ch, .int .i64 v.un, .int .i64 v.tg, .int .i64 v.ow, .int .i64 v.bp] 27)).alloc (.cells #[.int .i64 0, .int .i64 0, .int .i64 0, .int .i64 0, .int .i64 0, .int .i64 0, .slice none 0 0] 55)).alloc (.cells #[.int .i64 0, .int .i64 0, .int .i64 0, .int .i64 0, .int .i64 0, .int .i64 0, .int .i64 0] 23))) := ((((Below.refl w.heap.size w).alloc (by simp) _).alloc (by simp) _).alloc (by simp; omega) _).alloc (by simp; omega) _
  have H0A : Hid (ACame ((((w.alloc (.cells #[.int .i64 x.me, .int .i64 x.rv, .int .i64 x.nx, .int .i64 x.mo, .int .i64 x.bo, .int .i64 x.fr, .slice p len cap] 55)).alloc (.cells #[.int .i64 v.kd, .int .i64 v.me, .int .i64 v.mo, .int .i64 v.id, .int .i64 v.te, .int .i64 v.de, .int .i64 v.fe, .int .i64 v.pr, .int .i64 v.ch, .int .i64 v.un, .int .i64 v.tg, .int .i64 v.ow, .int .i64 v.bp] 27)).alloc (.cells #[.int .i64 0, .int .i64 0, .int .i64 0, .int .i64 0, .int .i64 0, .int .i64 0, .slice none 0 0] 55)).alloc (.cells #[.int .i64 0, .int .i64 0, .int .i64 0, .int .i64 0, .int .i64 0, .int .i64 0, .int .i64 0] 23)) x p len cap) := ha.below H0B.out
  have H0T : Hid (TCame ((((w.alloc (.cells #[.int .i64 x.me, .int .i64 x.rv, .int .i64 x.nx, .int .i64 x.mo, .int .i64 x.bo, .int .i64 x.fr, .slice p len cap] 55)).alloc (.cells #[.int .i64 v.kd, .int .i64 v.me, .int .i64 v.mo, .int .i64 v.id, .int .i64 v.te, .int .i64 v.de, .int .i64 v.fe, .int .i64 v.pr, .int .i64 v.ch, .int .i64 v.un, .int .i64 v.tg, .int .i64 v.ow, .int .i64 v.bp] 27)).alloc (.cells #[.int .i64 0, .int .i64 0, .int .i64 0, .int .i64 0, .int .i64 0, .int .i64 0, .slice none 0 0] 55)).alloc (.cells #[.int .i64 0, .int .i64 0, .int .i64 0, .int .i64 0, .int .i64 0, .int .i64 0, .int .i64 0] 23)) t pt lt ct) := ht.below H0B.out
  have hs0 : w.heap.size + 1 + 1 + 1 < ((((w.alloc (.cells #[.int .i64 x.me, .int .i64 x.rv, .int .i64 x.nx, .int .i64 x.mo, .int .i64 x.bo, .int .i64 x.fr, .slice p len cap] 55)).alloc (.cells #[.int .i64 v.kd, .int .i64 v.me, .int .i64 v.mo, .int .i64 v.id, .int .i64 v.te, .int .i64 v.de, .int .i64 v.fe, .int .i64 v.pr, .int .i64 v.ch, .int .i64 v.un, .int .i64 v.tg, .int .i64 v.ow, .int .i64 v.bp] 27)).alloc (.cells #[.int .i64 0, .int .i64 0, .int .i64 0, .int .i64 0, .int .i64 0, .int .i64 0, .slice none 0 0] 55)).alloc (.cells #[.int .i64 0, .int .i64 0, .int .i64 0, .int .i64 0, .int .i64 0, .int .i64 0, .int .i64 0] 23)).heap.size := H0l.out.lt
  have H0W : Hid (Blk ((((w.alloc (.cells #[.int .i64 x.me, .int .i64 x.rv, .int .i64 x.nx, .int .i64 x.mo, .int .i64 x.bo, .int .i64 x.fr, .slice p len cap] 55)).alloc (.cells #[.int .i64 v.kd, .int .i64 v.me, .int .i64 v.mo, .int .i64 v.id, .int .i64 v.te, .int .i64 v.de, .int .i64 v.fe, .int .i64 v.pr, .int .i64 v.ch, .int .i64 v.un, .int .i64 v.tg, .int .i64 v.ow, .int .i64 v.bp] 27)).alloc (.cells #[.int .i64 0, .int .i64 0, .int .i64 0, .int .i64 0, .int .i64 0, .int .i64 0, .slice none 0 0] 55)).alloc (.cells #[.int .i64 0, .int .i64 0, .int .i64 0, .int .i64 0, .int .i64 0, .int .i64 0, .int .i64 0] 23)) gW #[V, .slice pt lt ct, .int .i64 t.ff, .int .i64 t.fb, .int .i64 t.db, .int .i64 t.al, .map (some B)] 72) := hw.next H0B.out
  clear hw ha ht hv
  generalize hWW : ((((w.alloc (.cells #[.int .i64 x.me, .int .i64 x.rv, .int .i64 x.nx, .int .i64 x.mo, .int .i64 x.bo, .int .i64 x.fr, .slice p len cap] 55)).alloc (.cells #[.int .i64 v.kd, .int .i64 v.me, .int .i64 v.mo, .int .i64 v.id, .int .i64 v.te, .int .i64 v.de, .int .i64 v.fe, .int .i64 v.pr, .int .i64 v.ch, .int .i64 v.un, .int .i64 v.tg, .int .i64 v.ow, .int .i64 v.bp] 27)).alloc (.cells #[.int .i64 0, .int .i64 0, .int .i64 0, .int .i64 0, .int .i64 0, .int .i64 0, .slice none 0 0] 55)).alloc (.cells #[.int .i64 0, .int .i64 0, .int .i64 0, .int .i64 0, .int .i64 0, .int .i64 0, .int .i64 0] 23)) = W0 at *
  have HWW : Hid (((((w.alloc (.cells #[.int .i64 x.me, .int .i64 x.rv, .int .i64 x.nx, .int .i64 x.mo, .int .i64 x.bo, .int .i64 x.fr, .slice p len cap] 55)).alloc (.cells #[.int .i64 v.kd, .int .i64 v.me, .int .i64 v.mo, .int .i64 v.id, .int .i64 v.te, .int .i64 v.de, .int .i64 v.fe, .int .i64 v.pr, .int .i64 v.ch, .int .i64 v.un, .int .i64 v.tg, .int .i64 v.ow, .int .i64 v.bp] 27)).alloc (.cells #[.int .i64 0, .int .i64 0, .int .i64 0, .int .i64 0, .int .i64 0, .int .i64 0, .slice none 0 0] 55)).alloc (.cells #[.int .i64 0, .int .i64 0, .int .i64 0, .int .i64 0, .int .i64 0, .int .i64 0, .int .i64 0] 23)) = W0) := hWW
  clear hWW
  go_enter Try.func67, Try.ntmps67
  go_upto_region 1 with fail
  rw [HWW.out]
  clear HWW
  have HS0 : Hid (w.heap.size ≤ W0.heap.size) := H0B.out.size
  have qv0 : W0.cell? ⟨w.heap.size + 1, 0, none⟩ = some (.int .i64 v.kd) := H0v.out.cell 0
  by_cases k2 : v.kd = 2
  case pos =>
    have q2 : (v.kd == 2) = true := by simpa using k2
    have HK : Hid (v.kd = 2) := k2
    clear k2 hk
    go_wp2_with fail
    clear q2 qv0
    have HSL : Hid (Calls Try.prog 78 #[.agg #[.int .i64 x.me, .int .i64 x.rv, .int .i64 x.nx, .int .i64 x.mo, .int .i64 x.bo, .int .i64 x.fr, .slice p len cap], .agg #[.slice pt lt ct, .int .i64 t.ff, .int .i64 t.fb, .int .i64 t.db, .int .i64 t.al], .int .i64 v.te, .int .i64 v.mo] W0.drew fun e w' => BPost W0.drew (SellIs x t v.te v.mo) e w') := acc.ksell _ x p len cap t pt lt ct v.te v.mo (H0A.out.below (Below.refl _ _).drew) (H0T.out.below (Below.refl _ _).drew) HWF.out.1 HWF.out.2
    refine wp_region_held_drew (S := fun u => Blk u (gW) #[V, .slice pt lt ct, .int .i64 t.ff, .int .i64 t.fb, .int .i64 t.db, .int .i64 t.al, .map (some B)] 72 ∧ Blk u (w.heap.size) #[.int .i64 x.me, .int .i64 x.rv, .int .i64 x.nx, .int .i64 x.mo, .int .i64 x.bo, .int .i64 x.fr, .slice p len cap] 55 ∧ Blk u (w.heap.size + 1) #[.int .i64 v.kd, .int .i64 v.me, .int .i64 v.mo, .int .i64 v.id, .int .i64 v.te, .int .i64 v.de, .int .i64 v.fe, .int .i64 v.pr, .int .i64 v.ch, .int .i64 v.un, .int .i64 v.tg, .int .i64 v.ow, .int .i64 v.bp] 27) (by kernel_rfl) (show _ from ⟨Blk.drew H0W.out 1, Blk.drew H0a.out 1, Blk.drew H0v.out 1⟩) (fun hHeld => ?_)
    refine take_at 0 13 (.agg #[.int .i64 x.me, .int .i64 x.rv, .int .i64 x.nx, .int .i64 x.mo, .int .i64 x.bo, .int .i64 x.fr, .slice p len cap]) _ rfl rfl (by kernel_rfl) (by kernel_rfl) (by kernel_rfl) (fun _ _ _ h => h) (Or.inl ⟨by rfl, fun v hv => by have g0 := hv.2.1.cell 0; have g1 := hv.2.1.cell 1; have g2 := hv.2.1.cell 2; have g3 := hv.2.1.cell 3; have g4 := hv.2.1.cell 4; have g5 := hv.2.1.cell 5; have g6 := hv.2.1.cell 6; clear hv; go_simp⟩) hHeld ?_
    simp only [Act.put, List.setIfInBounds_toArray, List.set_cons_zero, List.set_cons_succ]
    refine take_at 1 14 (.pointer (some ⟨gW, 0, none⟩)) _ rfl rfl (by kernel_rfl) (by kernel_rfl) (by kernel_rfl) (fun _ _ _ h => h) (Or.inl ⟨by rfl, fun v hv => by skip; clear hv; go_simp⟩) hHeld ?_
    simp only [Act.put, List.setIfInBounds_toArray, List.set_cons_zero, List.set_cons_succ]
    refine take_at 2 15 (.pointer (some ⟨gW, 0, none⟩)) _ rfl rfl (by kernel_rfl) (by kernel_rfl) (by kernel_rfl) (fun _ _ _ h => h) (Or.inl ⟨by rfl, fun v hv => by skip; clear hv; go_simp⟩) hHeld ?_
    simp only [Act.put, List.setIfInBounds_toArray, List.set_cons_zero, List.set_cons_succ]
    refine take_at 3 16 (.pointer (some ⟨gW, 1, none⟩)) _ rfl rfl (by kernel_rfl) (by kernel_rfl) (by kernel_rfl) (fun _ _ _ h => h) (Or.inl ⟨by rfl, fun v hv => by skip; clear hv; go_simp⟩) hHeld ?_
    simp only [Act.put, List.setIfInBounds_toArray, List.set_cons_zero, List.set_cons_succ]
    refine take_at 4 17 (.agg #[.slice pt lt ct, .int .i64 t.ff, .int .i64 t.fb, .int .i64 t.db, .int .i64 t.al]) _ rfl rfl (by kernel_rfl) (by kernel_rfl) (by kernel_rfl) (fun _ _ _ h => h) (Or.inl ⟨by rfl, fun v hv => by have g0 := hv.1.cell 1; have g1 := hv.1.cell 2; have g2 := hv.1.cell 3; have g3 := hv.1.cell 4; have g4 := hv.1.cell 5; clear hv; go_simp⟩) hHeld ?_
    simp only [Act.put, List.setIfInBounds_toArray, List.set_cons_zero, List.set_cons_succ]
    refine take_at 5 18 (.pointer (some ⟨w.heap.size + 1, 3, none⟩)) _ rfl rfl (by kernel_rfl) (by kernel_rfl) (by kernel_rfl) (fun _ _ _ h => h) (Or.inl ⟨by rfl, fun v hv => by skip; clear hv; go_simp⟩) hHeld ?_
    simp only [Act.put, List.setIfInBounds_toArray, List.set_cons_zero, List.set_cons_succ]
    refine take_at 6 19 (.pointer (some ⟨w.heap.size + 1, 4, none⟩)) _ rfl rfl (by kernel_rfl) (by kernel_rfl) (by kernel_rfl) (fun _ _ _ h => h) (Or.inl ⟨by rfl, fun v hv => by skip; clear hv; go_simp⟩) hHeld ?_
    simp only [Act.put, List.setIfInBounds_toArray, List.set_cons_zero, List.set_cons_succ]
    refine take_at 7 20 (.int .i64 v.te) _ rfl rfl (by kernel_rfl) (by kernel_rfl) (by kernel_rfl) (fun _ _ _ h => h) (Or.inl ⟨by rfl, fun v hv => by have g0 := hv.2.2.cell 4; clear hv; go_simp⟩) hHeld ?_
    simp only [Act.put, List.setIfInBounds_toArray, List.set_cons_zero, List.set_cons_succ]
    refine take_at 8 21 (.pointer (some ⟨w.heap.size + 1, 2, none⟩)) _ rfl rfl (by kernel_rfl) (by kernel_rfl) (by kernel_rfl) (fun _ _ _ h => h) (Or.inl ⟨by rfl, fun v hv => by skip; clear hv; go_simp⟩) hHeld ?_
    simp only [Act.put, List.setIfInBounds_toArray, List.set_cons_zero, List.set_cons_succ]
    refine take_at 9 22 (.int .i64 v.mo) _ rfl rfl (by kernel_rfl) (by kernel_rfl) (by kernel_rfl) (fun _ _ _ h => h) (Or.inl ⟨by rfl, fun v hv => by have g0 := hv.2.2.cell 2; clear hv; go_simp⟩) hHeld ?_
    simp only [Act.put, List.setIfInBounds_toArray, List.set_cons_zero, List.set_cons_succ]
    refine wpAnyH_ready (rs := [10]) (by kernel_rfl) (by simp) (AllReadyH.cons rfl (fun K hK => ?_) AllReadyH.nil)
    rw [if_pos (by rfl)]
    refine wp_callOp 23 rfl (by clear hK; go_simp) HSL.out ?_
    rintro e w1 ⟨b, l, pb, lb, cb, f, rfl, hi, hf, hb1⟩
    have hW1 : W0.heap.size ≤ w1.heap.size := hb1.size
    have HI : Hid (SellIs x t v.te v.mo b l f) := hi
    have HF1 : Hid (deb.Fresh w1 W0.heap.size pb lb cb b.ds) := hf
    have H1a : Hid (Blk w1 (w.heap.size) #[.int .i64 x.me, .int .i64 x.rv, .int .i64 x.nx, .int .i64 x.mo, .int .i64 x.bo, .int .i64 x.fr, .slice p len cap] 55) := (Blk.drew H0a.out 1).next hb1
    have H1v : Hid (Blk w1 (w.heap.size + 1) #[.int .i64 v.kd, .int .i64 v.me, .int .i64 v.mo, .int .i64 v.id, .int .i64 v.te, .int .i64 v.de, .int .i64 v.fe, .int .i64 v.pr, .int .i64 v.ch, .int .i64 v.un, .int .i64 v.tg, .int .i64 v.ow, .int .i64 v.bp] 27) := (Blk.drew H0v.out 1).next hb1
    have H1r : Hid (Blk w1 (w.heap.size + 1 + 1) #[.int .i64 0, .int .i64 0, .int .i64 0, .int .i64 0, .int .i64 0, .int .i64 0, .slice none 0 0] 55) := (Blk.drew H0r.out 1).next hb1
    have H1l : Hid (Blk w1 (w.heap.size + 1 + 1 + 1) #[.int .i64 0, .int .i64 0, .int .i64 0, .int .i64 0, .int .i64 0, .int .i64 0, .int .i64 0] 23) := (Blk.drew H0l.out 1).next hb1
    have H1W : Hid (Blk w1 (gW) #[V, .slice pt lt ct, .int .i64 t.ff, .int .i64 t.fb, .int .i64 t.db, .int .i64 t.al, .map (some B)] 72) := (Blk.drew H0W.out 1).next hb1
    have H1B : Hid (Below w.heap.size w w1) := H0B.out.drew.trans (hb1.mono H0B.out.size)
    clear H0a H0v H0r H0l H0W H0B
    refine ⟨_, rfl, hK.out _ _ ⟨H1W.out, H1a.out, H1v.out⟩ (fun hHeld => ?_)⟩
    clear hK K hi hf hb1 HSL
    unfold acc.Ac.v acc.Ac.cs acc.Bi.v
    simp only [Act.put, List.setIfInBounds_toArray, List.set_cons_zero, List.set_cons_succ]
    refine take_at 11 24 (.agg #[.int .i64 b.me, .int .i64 b.rv, .int .i64 b.nx, .int .i64 b.mo, .int .i64 b.bo, .int .i64 b.fr, .slice pb lb cb]) _ rfl rfl (by kernel_rfl) (by kernel_rfl) (by kernel_rfl) (fun _ _ _ h => h) (Or.inl ⟨by rfl, fun v hv => by skip; clear hv; go_simp⟩) hHeld ?_
    simp only [Act.put, List.setIfInBounds_toArray, List.set_cons_zero, List.set_cons_succ]
    refine take_at 12 25 (.agg #[.int .i64 l.id, .int .i64 l.te, .int .i64 l.de, .int .i64 l.fe, .int .i64 l.pr, .int .i64 l.ch, .int .i64 l.un]) _ rfl rfl (by kernel_rfl) (by kernel_rfl) (by kernel_rfl) (fun _ _ _ h => h) (Or.inl ⟨by rfl, fun v hv => by skip; clear hv; go_simp⟩) hHeld ?_
    simp only [Act.put, List.setIfInBounds_toArray, List.set_cons_zero, List.set_cons_succ]
    refine take_at 13 26 (.int .i64 f) _ rfl rfl (by kernel_rfl) (by kernel_rfl) (by kernel_rfl) (fun _ _ _ h => h) (Or.inl ⟨by rfl, fun v hv => by skip; clear hv; go_simp⟩) hHeld ?_
    simp only [Act.put, List.setIfInBounds_toArray, List.set_cons_zero, List.set_cons_succ]
    refine wpAnyH_ready (rs := [14]) (by kernel_rfl) (by simp) (AllReadyH.cons rfl (fun K hK => ?_) AllReadyH.nil)
    rw [if_pos (by rfl)]
    refine wp_letOp 55 _ _ rfl (w.heap.size + 1 + 1) rfl #[.int .i64 b.me, .int .i64 b.rv, .int .i64 b.nx, .int .i64 b.mo, .int .i64 b.bo, .int .i64 b.fr, .slice pb lb cb] rfl (by kernel_rfl) (by simp [Value.oneCell']) #[.int .i64 0, .int .i64 0, .int .i64 0, .int .i64 0, .int .i64 0, .int .i64 0, .slice none 0 0] 55 H1r.out rfl rfl ?_
    intro V1 hU
    have H2a : Hid (Blk V1 (w.heap.size) #[.int .i64 x.me, .int .i64 x.rv, .int .i64 x.nx, .int .i64 x.mo, .int .i64 x.bo, .int .i64 x.fr, .slice p len cap] 55) := hU.keep H1a.out (by omega)
    have H2v : Hid (Blk V1 (w.heap.size + 1) #[.int .i64 v.kd, .int .i64 v.me, .int .i64 v.mo, .int .i64 v.id, .int .i64 v.te, .int .i64 v.de, .int .i64 v.fe, .int .i64 v.pr, .int .i64 v.ch, .int .i64 v.un, .int .i64 v.tg, .int .i64 v.ow, .int .i64 v.bp] 27) := hU.keep H1v.out (by omega)
    have H2r : Hid (Blk V1 (w.heap.size + 1 + 1) #[.int .i64 b.me, .int .i64 b.rv, .int .i64 b.nx, .int .i64 b.mo, .int .i64 b.bo, .int .i64 b.fr, .slice pb lb cb] 55) := hU.blk
    have H2l : Hid (Blk V1 (w.heap.size + 1 + 1 + 1) #[.int .i64 0, .int .i64 0, .int .i64 0, .int .i64 0, .int .i64 0, .int .i64 0, .int .i64 0] 23) := hU.keep H1l.out (by omega)
    have H2W : Hid (Blk V1 (gW) #[V, .slice pt lt ct, .int .i64 t.ff, .int .i64 t.fb, .int .i64 t.db, .int .i64 t.al, .map (some B)] 72) := hU.keep H1W.out (by omega)
    have H2B : Hid (Below w.heap.size w V1) := hU.bel _ _ (by omega) H1B.out
    clear H1a H1v H1r H1l H1W H1B
    have HF2 : Hid (deb.Fresh V1 W0.heap.size pb lb cb b.ds) := fresh_updN HF1.out hU (fun hn y hy => by have f1 := HF1.out.new hn y hy; omega)
    clear hU HF1
    refine hK.out _ _ ⟨H2W.out, H2a.out, H2v.out⟩ (fun hHeld => ?_)
    clear hK K
    refine wpAnyH_ready (rs := [15]) (by kernel_rfl) (by simp) (AllReadyH.cons rfl (fun K hK => ?_) AllReadyH.nil)
    rw [if_pos (by rfl)]
    refine wp_letOp 23 _ _ rfl (w.heap.size + 1 + 1 + 1) rfl #[.int .i64 l.id, .int .i64 l.te, .int .i64 l.de, .int .i64 l.fe, .int .i64 l.pr, .int .i64 l.ch, .int .i64 l.un] rfl (by kernel_rfl) (by simp [Value.oneCell']) #[.int .i64 0, .int .i64 0, .int .i64 0, .int .i64 0, .int .i64 0, .int .i64 0, .int .i64 0] 23 H2l.out rfl rfl ?_
    intro V2 hU
    have H3a : Hid (Blk V2 (w.heap.size) #[.int .i64 x.me, .int .i64 x.rv, .int .i64 x.nx, .int .i64 x.mo, .int .i64 x.bo, .int .i64 x.fr, .slice p len cap] 55) := hU.keep H2a.out (by omega)
    have H3v : Hid (Blk V2 (w.heap.size + 1) #[.int .i64 v.kd, .int .i64 v.me, .int .i64 v.mo, .int .i64 v.id, .int .i64 v.te, .int .i64 v.de, .int .i64 v.fe, .int .i64 v.pr, .int .i64 v.ch, .int .i64 v.un, .int .i64 v.tg, .int .i64 v.ow, .int .i64 v.bp] 27) := hU.keep H2v.out (by omega)
    have H3r : Hid (Blk V2 (w.heap.size + 1 + 1) #[.int .i64 b.me, .int .i64 b.rv, .int .i64 b.nx, .int .i64 b.mo, .int .i64 b.bo, .int .i64 b.fr, .slice pb lb cb] 55) := hU.keep H2r.out (by omega)
    have H3l : Hid (Blk V2 (w.heap.size + 1 + 1 + 1) #[.int .i64 l.id, .int .i64 l.te, .int .i64 l.de, .int .i64 l.fe, .int .i64 l.pr, .int .i64 l.ch, .int .i64 l.un] 23) := hU.blk
    have H3W : Hid (Blk V2 (gW) #[V, .slice pt lt ct, .int .i64 t.ff, .int .i64 t.fb, .int .i64 t.db, .int .i64 t.al, .map (some B)] 72) := hU.keep H2W.out (by omega)
    have H3B : Hid (Below w.heap.size w V2) := hU.bel _ _ (by omega) H2B.out
    clear H2a H2v H2r H2l H2W H2B
    have HF3 : Hid (deb.Fresh V2 W0.heap.size pb lb cb b.ds) := fresh_updN HF2.out hU (fun hn y hy => by have f1 := HF2.out.new hn y hy; omega)
    clear hU HF2
    refine hK.out _ _ ⟨H3W.out, H3a.out, H3v.out⟩ (fun hHeld => ?_)
    clear hK K
    refine take_at 16 8 (.int .i64 f) _ rfl rfl (by kernel_rfl) (by kernel_rfl) (by kernel_rfl) (fun _ _ _ h => h) (Or.inl ⟨by rfl, fun v hv => by skip; clear hv; go_simp⟩) hHeld ?_
    simp only [Act.put, List.setIfInBounds_toArray, List.set_cons_zero, List.set_cons_succ]
    refine wpAnyH_done (by kernel_rfl) ?_ _
    clear hHeld
    have Rr0 : Hid (V2.cell? ⟨w.heap.size + 1 + 1, 0, none⟩ = some (.int .i64 b.me)) := H3r.out.cell 0
    have Rr1 : Hid (V2.cell? ⟨w.heap.size + 1 + 1, 1, none⟩ = some (.int .i64 b.rv)) := H3r.out.cell 1
    have Rr2 : Hid (V2.cell? ⟨w.heap.size + 1 + 1, 2, none⟩ = some (.int .i64 b.nx)) := H3r.out.cell 2
    have Rr3 : Hid (V2.cell? ⟨w.heap.size + 1 + 1, 3, none⟩ = some (.int .i64 b.mo)) := H3r.out.cell 3
    have Rr4 : Hid (V2.cell? ⟨w.heap.size + 1 + 1, 4, none⟩ = some (.int .i64 b.bo)) := H3r.out.cell 4
    have Rr5 : Hid (V2.cell? ⟨w.heap.size + 1 + 1, 5, none⟩ = some (.int .i64 b.fr)) := H3r.out.cell 5
    have Rr6 : Hid (V2.cell? ⟨w.heap.size + 1 + 1, 6, none⟩ = some (.slice pb lb cb)) := H3r.out.cell 6
    have Rl0 : Hid (V2.cell? ⟨w.heap.size + 1 + 1 + 1, 0, none⟩ = some (.int .i64 l.id)) := H3l.out.cell 0
    have Rl1 : Hid (V2.cell? ⟨w.heap.size + 1 + 1 + 1, 1, none⟩ = some (.int .i64 l.te)) := H3l.out.cell 1
    have Rl2 : Hid (V2.cell? ⟨w.heap.size + 1 + 1 + 1, 2, none⟩ = some (.int .i64 l.de)) := H3l.out.cell 2
    have Rl3 : Hid (V2.cell? ⟨w.heap.size + 1 + 1 + 1, 3, none⟩ = some (.int .i64 l.fe)) := H3l.out.cell 3
    have Rl4 : Hid (V2.cell? ⟨w.heap.size + 1 + 1 + 1, 4, none⟩ = some (.int .i64 l.pr)) := H3l.out.cell 4
    have Rl5 : Hid (V2.cell? ⟨w.heap.size + 1 + 1 + 1, 5, none⟩ = some (.int .i64 l.ch)) := H3l.out.cell 5
    have Rl6 : Hid (V2.cell? ⟨w.heap.size + 1 + 1 + 1, 6, none⟩ = some (.int .i64 l.un)) := H3l.out.cell 6
    go_wp2_with fail
    exact bodyPost_ret (v := .tuple #[.agg #[.int .i64 b.me, .int .i64 b.rv, .int .i64 b.nx, .int .i64 b.mo, .int .i64 b.bo, .int .i64 b.fr, .slice pb lb cb], .agg #[.int .i64 l.id, .int .i64 l.te, .int .i64 l.de, .int .i64 l.fe, .int .i64 l.pr, .int .i64 l.ch, .int .i64 l.un], .int .i64 f]) (by simp [results, Try.results67, Rr0.out, Rr1.out, Rr2.out, Rr3.out, Rr4.out, Rr5.out, Rr6.out, Rl0.out, Rl1.out, Rl2.out, Rl3.out, Rl4.out, Rl5.out, Rl6.out, go_sem]) rfl ⟨b, l, pb, lb, cb, f, rfl, .inl ⟨HK.out, HI.out⟩, HF3.out.low HS0.out, H3B.out⟩
  have q2 : (v.kd == 2) = false := by simpa using k2
  by_cases k3 : v.kd = 3
  case pos =>
    have q3 : (v.kd == 3) = true := by simpa using k3
    have HK : Hid (v.kd = 3) := k3
    clear k2 k3 hk
    go_wp2_with fail
    clear q2 q3 qv0
    have HSL : Hid (Calls Try.prog 79 #[.agg #[.int .i64 x.me, .int .i64 x.rv, .int .i64 x.nx, .int .i64 x.mo, .int .i64 x.bo, .int .i64 x.fr, .slice p len cap], .agg #[.slice pt lt ct, .int .i64 t.ff, .int .i64 t.fb, .int .i64 t.db, .int .i64 t.al], .int .i64 v.mo] W0.drew fun e w' => BPost W0.drew (GrantIs x t v.mo) e w') := acc.kgrant _ x p len cap t pt lt ct v.mo (H0A.out.below (Below.refl _ _).drew) (H0T.out.below (Below.refl _ _).drew) HWF.out.2
    refine wp_region_held_drew (S := fun u => Blk u (gW) #[V, .slice pt lt ct, .int .i64 t.ff, .int .i64 t.fb, .int .i64 t.db, .int .i64 t.al, .map (some B)] 72 ∧ Blk u (w.heap.size) #[.int .i64 x.me, .int .i64 x.rv, .int .i64 x.nx, .int .i64 x.mo, .int .i64 x.bo, .int .i64 x.fr, .slice p len cap] 55 ∧ Blk u (w.heap.size + 1) #[.int .i64 v.kd, .int .i64 v.me, .int .i64 v.mo, .int .i64 v.id, .int .i64 v.te, .int .i64 v.de, .int .i64 v.fe, .int .i64 v.pr, .int .i64 v.ch, .int .i64 v.un, .int .i64 v.tg, .int .i64 v.ow, .int .i64 v.bp] 27) (by kernel_rfl) (show _ from ⟨Blk.drew H0W.out 1, Blk.drew H0a.out 1, Blk.drew H0v.out 1⟩) (fun hHeld => ?_)
    refine take_at 0 29 (.agg #[.int .i64 x.me, .int .i64 x.rv, .int .i64 x.nx, .int .i64 x.mo, .int .i64 x.bo, .int .i64 x.fr, .slice p len cap]) _ rfl rfl (by kernel_rfl) (by kernel_rfl) (by kernel_rfl) (fun _ _ _ h => h) (Or.inl ⟨by rfl, fun v hv => by have g0 := hv.2.1.cell 0; have g1 := hv.2.1.cell 1; have g2 := hv.2.1.cell 2; have g3 := hv.2.1.cell 3; have g4 := hv.2.1.cell 4; have g5 := hv.2.1.cell 5; have g6 := hv.2.1.cell 6; clear hv; go_simp⟩) hHeld ?_
    simp only [Act.put, List.setIfInBounds_toArray, List.set_cons_zero, List.set_cons_succ]
    refine take_at 1 30 (.pointer (some ⟨gW, 0, none⟩)) _ rfl rfl (by kernel_rfl) (by kernel_rfl) (by kernel_rfl) (fun _ _ _ h => h) (Or.inl ⟨by rfl, fun v hv => by skip; clear hv; go_simp⟩) hHeld ?_
    simp only [Act.put, List.setIfInBounds_toArray, List.set_cons_zero, List.set_cons_succ]
    refine take_at 2 31 (.pointer (some ⟨gW, 0, none⟩)) _ rfl rfl (by kernel_rfl) (by kernel_rfl) (by kernel_rfl) (fun _ _ _ h => h) (Or.inl ⟨by rfl, fun v hv => by skip; clear hv; go_simp⟩) hHeld ?_
    simp only [Act.put, List.setIfInBounds_toArray, List.set_cons_zero, List.set_cons_succ]
    refine take_at 3 32 (.pointer (some ⟨gW, 1, none⟩)) _ rfl rfl (by kernel_rfl) (by kernel_rfl) (by kernel_rfl) (fun _ _ _ h => h) (Or.inl ⟨by rfl, fun v hv => by skip; clear hv; go_simp⟩) hHeld ?_
    simp only [Act.put, List.setIfInBounds_toArray, List.set_cons_zero, List.set_cons_succ]
    refine take_at 4 33 (.agg #[.slice pt lt ct, .int .i64 t.ff, .int .i64 t.fb, .int .i64 t.db, .int .i64 t.al]) _ rfl rfl (by kernel_rfl) (by kernel_rfl) (by kernel_rfl) (fun _ _ _ h => h) (Or.inl ⟨by rfl, fun v hv => by have g0 := hv.1.cell 1; have g1 := hv.1.cell 2; have g2 := hv.1.cell 3; have g3 := hv.1.cell 4; have g4 := hv.1.cell 5; clear hv; go_simp⟩) hHeld ?_
    simp only [Act.put, List.setIfInBounds_toArray, List.set_cons_zero, List.set_cons_succ]
    refine take_at 5 34 (.pointer (some ⟨w.heap.size + 1, 2, none⟩)) _ rfl rfl (by kernel_rfl) (by kernel_rfl) (by kernel_rfl) (fun _ _ _ h => h) (Or.inl ⟨by rfl, fun v hv => by skip; clear hv; go_simp⟩) hHeld ?_
    simp only [Act.put, List.setIfInBounds_toArray, List.set_cons_zero, List.set_cons_succ]
    refine take_at 6 35 (.int .i64 v.mo) _ rfl rfl (by kernel_rfl) (by kernel_rfl) (by kernel_rfl) (fun _ _ _ h => h) (Or.inl ⟨by rfl, fun v hv => by have g0 := hv.2.2.cell 2; clear hv; go_simp⟩) hHeld ?_
    simp only [Act.put, List.setIfInBounds_toArray, List.set_cons_zero, List.set_cons_succ]
    refine wpAnyH_ready (rs := [7]) (by kernel_rfl) (by simp) (AllReadyH.cons rfl (fun K hK => ?_) AllReadyH.nil)
    rw [if_pos (by rfl)]
    refine wp_callOp 36 rfl (by clear hK; go_simp) HSL.out ?_
    rintro e w1 ⟨b, l, pb, lb, cb, f, rfl, hi, hf, hb1⟩
    have hW1 : W0.heap.size ≤ w1.heap.size := hb1.size
    have HI : Hid (GrantIs x t v.mo b l f) := hi
    have HF1 : Hid (deb.Fresh w1 W0.heap.size pb lb cb b.ds) := hf
    have H1a : Hid (Blk w1 (w.heap.size) #[.int .i64 x.me, .int .i64 x.rv, .int .i64 x.nx, .int .i64 x.mo, .int .i64 x.bo, .int .i64 x.fr, .slice p len cap] 55) := (Blk.drew H0a.out 1).next hb1
    have H1v : Hid (Blk w1 (w.heap.size + 1) #[.int .i64 v.kd, .int .i64 v.me, .int .i64 v.mo, .int .i64 v.id, .int .i64 v.te, .int .i64 v.de, .int .i64 v.fe, .int .i64 v.pr, .int .i64 v.ch, .int .i64 v.un, .int .i64 v.tg, .int .i64 v.ow, .int .i64 v.bp] 27) := (Blk.drew H0v.out 1).next hb1
    have H1r : Hid (Blk w1 (w.heap.size + 1 + 1) #[.int .i64 0, .int .i64 0, .int .i64 0, .int .i64 0, .int .i64 0, .int .i64 0, .slice none 0 0] 55) := (Blk.drew H0r.out 1).next hb1
    have H1l : Hid (Blk w1 (w.heap.size + 1 + 1 + 1) #[.int .i64 0, .int .i64 0, .int .i64 0, .int .i64 0, .int .i64 0, .int .i64 0, .int .i64 0] 23) := (Blk.drew H0l.out 1).next hb1
    have H1W : Hid (Blk w1 (gW) #[V, .slice pt lt ct, .int .i64 t.ff, .int .i64 t.fb, .int .i64 t.db, .int .i64 t.al, .map (some B)] 72) := (Blk.drew H0W.out 1).next hb1
    have H1B : Hid (Below w.heap.size w w1) := H0B.out.drew.trans (hb1.mono H0B.out.size)
    clear H0a H0v H0r H0l H0W H0B
    refine ⟨_, rfl, hK.out _ _ ⟨H1W.out, H1a.out, H1v.out⟩ (fun hHeld => ?_)⟩
    clear hK K hi hf hb1 HSL
    unfold acc.Ac.v acc.Ac.cs acc.Bi.v
    simp only [Act.put, List.setIfInBounds_toArray, List.set_cons_zero, List.set_cons_succ]
    refine take_at 8 37 (.agg #[.int .i64 b.me, .int .i64 b.rv, .int .i64 b.nx, .int .i64 b.mo, .int .i64 b.bo, .int .i64 b.fr, .slice pb lb cb]) _ rfl rfl (by kernel_rfl) (by kernel_rfl) (by kernel_rfl) (fun _ _ _ h => h) (Or.inl ⟨by rfl, fun v hv => by skip; clear hv; go_simp⟩) hHeld ?_
    simp only [Act.put, List.setIfInBounds_toArray, List.set_cons_zero, List.set_cons_succ]
    refine take_at 9 38 (.agg #[.int .i64 l.id, .int .i64 l.te, .int .i64 l.de, .int .i64 l.fe, .int .i64 l.pr, .int .i64 l.ch, .int .i64 l.un]) _ rfl rfl (by kernel_rfl) (by kernel_rfl) (by kernel_rfl) (fun _ _ _ h => h) (Or.inl ⟨by rfl, fun v hv => by skip; clear hv; go_simp⟩) hHeld ?_
    simp only [Act.put, List.setIfInBounds_toArray, List.set_cons_zero, List.set_cons_succ]
    refine take_at 10 39 (.int .i64 f) _ rfl rfl (by kernel_rfl) (by kernel_rfl) (by kernel_rfl) (fun _ _ _ h => h) (Or.inl ⟨by rfl, fun v hv => by skip; clear hv; go_simp⟩) hHeld ?_
    simp only [Act.put, List.setIfInBounds_toArray, List.set_cons_zero, List.set_cons_succ]
    refine wpAnyH_ready (rs := [11]) (by kernel_rfl) (by simp) (AllReadyH.cons rfl (fun K hK => ?_) AllReadyH.nil)
    rw [if_pos (by rfl)]
    refine wp_letOp 55 _ _ rfl (w.heap.size + 1 + 1) rfl #[.int .i64 b.me, .int .i64 b.rv, .int .i64 b.nx, .int .i64 b.mo, .int .i64 b.bo, .int .i64 b.fr, .slice pb lb cb] rfl (by kernel_rfl) (by simp [Value.oneCell']) #[.int .i64 0, .int .i64 0, .int .i64 0, .int .i64 0, .int .i64 0, .int .i64 0, .slice none 0 0] 55 H1r.out rfl rfl ?_
    intro V1 hU
    have H2a : Hid (Blk V1 (w.heap.size) #[.int .i64 x.me, .int .i64 x.rv, .int .i64 x.nx, .int .i64 x.mo, .int .i64 x.bo, .int .i64 x.fr, .slice p len cap] 55) := hU.keep H1a.out (by omega)
    have H2v : Hid (Blk V1 (w.heap.size + 1) #[.int .i64 v.kd, .int .i64 v.me, .int .i64 v.mo, .int .i64 v.id, .int .i64 v.te, .int .i64 v.de, .int .i64 v.fe, .int .i64 v.pr, .int .i64 v.ch, .int .i64 v.un, .int .i64 v.tg, .int .i64 v.ow, .int .i64 v.bp] 27) := hU.keep H1v.out (by omega)
    have H2r : Hid (Blk V1 (w.heap.size + 1 + 1) #[.int .i64 b.me, .int .i64 b.rv, .int .i64 b.nx, .int .i64 b.mo, .int .i64 b.bo, .int .i64 b.fr, .slice pb lb cb] 55) := hU.blk
    have H2l : Hid (Blk V1 (w.heap.size + 1 + 1 + 1) #[.int .i64 0, .int .i64 0, .int .i64 0, .int .i64 0, .int .i64 0, .int .i64 0, .int .i64 0] 23) := hU.keep H1l.out (by omega)
    have H2W : Hid (Blk V1 (gW) #[V, .slice pt lt ct, .int .i64 t.ff, .int .i64 t.fb, .int .i64 t.db, .int .i64 t.al, .map (some B)] 72) := hU.keep H1W.out (by omega)
    have H2B : Hid (Below w.heap.size w V1) := hU.bel _ _ (by omega) H1B.out
    clear H1a H1v H1r H1l H1W H1B
    have HF2 : Hid (deb.Fresh V1 W0.heap.size pb lb cb b.ds) := fresh_updN HF1.out hU (fun hn y hy => by have f1 := HF1.out.new hn y hy; omega)
    clear hU HF1
    refine hK.out _ _ ⟨H2W.out, H2a.out, H2v.out⟩ (fun hHeld => ?_)
    clear hK K
    refine wpAnyH_ready (rs := [12]) (by kernel_rfl) (by simp) (AllReadyH.cons rfl (fun K hK => ?_) AllReadyH.nil)
    rw [if_pos (by rfl)]
    refine wp_letOp 23 _ _ rfl (w.heap.size + 1 + 1 + 1) rfl #[.int .i64 l.id, .int .i64 l.te, .int .i64 l.de, .int .i64 l.fe, .int .i64 l.pr, .int .i64 l.ch, .int .i64 l.un] rfl (by kernel_rfl) (by simp [Value.oneCell']) #[.int .i64 0, .int .i64 0, .int .i64 0, .int .i64 0, .int .i64 0, .int .i64 0, .int .i64 0] 23 H2l.out rfl rfl ?_
    intro V2 hU
    have H3a : Hid (Blk V2 (w.heap.size) #[.int .i64 x.me, .int .i64 x.rv, .int .i64 x.nx, .int .i64 x.mo, .int .i64 x.bo, .int .i64 x.fr, .slice p len cap] 55) := hU.keep H2a.out (by omega)
    have H3v : Hid (Blk V2 (w.heap.size + 1) #[.int .i64 v.kd, .int .i64 v.me, .int .i64 v.mo, .int .i64 v.id, .int .i64 v.te, .int .i64 v.de, .int .i64 v.fe, .int .i64 v.pr, .int .i64 v.ch, .int .i64 v.un, .int .i64 v.tg, .int .i64 v.ow, .int .i64 v.bp] 27) := hU.keep H2v.out (by omega)
    have H3r : Hid (Blk V2 (w.heap.size + 1 + 1) #[.int .i64 b.me, .int .i64 b.rv, .int .i64 b.nx, .int .i64 b.mo, .int .i64 b.bo, .int .i64 b.fr, .slice pb lb cb] 55) := hU.keep H2r.out (by omega)
    have H3l : Hid (Blk V2 (w.heap.size + 1 + 1 + 1) #[.int .i64 l.id, .int .i64 l.te, .int .i64 l.de, .int .i64 l.fe, .int .i64 l.pr, .int .i64 l.ch, .int .i64 l.un] 23) := hU.blk
    have H3W : Hid (Blk V2 (gW) #[V, .slice pt lt ct, .int .i64 t.ff, .int .i64 t.fb, .int .i64 t.db, .int .i64 t.al, .map (some B)] 72) := hU.keep H2W.out (by omega)
    have H3B : Hid (Below w.heap.size w V2) := hU.bel _ _ (by omega) H2B.out
    clear H2a H2v H2r H2l H2W H2B
    have HF3 : Hid (deb.Fresh V2 W0.heap.size pb lb cb b.ds) := fresh_updN HF2.out hU (fun hn y hy => by have f1 := HF2.out.new hn y hy; omega)
    clear hU HF2
    refine hK.out _ _ ⟨H3W.out, H3a.out, H3v.out⟩ (fun hHeld => ?_)
    clear hK K
    refine take_at 13 8 (.int .i64 f) _ rfl rfl (by kernel_rfl) (by kernel_rfl) (by kernel_rfl) (fun _ _ _ h => h) (Or.inl ⟨by rfl, fun v hv => by skip; clear hv; go_simp⟩) hHeld ?_
    simp only [Act.put, List.setIfInBounds_toArray, List.set_cons_zero, List.set_cons_succ]
    refine wpAnyH_done (by kernel_rfl) ?_ _
    clear hHeld
    have Rr0 : Hid (V2.cell? ⟨w.heap.size + 1 + 1, 0, none⟩ = some (.int .i64 b.me)) := H3r.out.cell 0
    have Rr1 : Hid (V2.cell? ⟨w.heap.size + 1 + 1, 1, none⟩ = some (.int .i64 b.rv)) := H3r.out.cell 1
    have Rr2 : Hid (V2.cell? ⟨w.heap.size + 1 + 1, 2, none⟩ = some (.int .i64 b.nx)) := H3r.out.cell 2
    have Rr3 : Hid (V2.cell? ⟨w.heap.size + 1 + 1, 3, none⟩ = some (.int .i64 b.mo)) := H3r.out.cell 3
    have Rr4 : Hid (V2.cell? ⟨w.heap.size + 1 + 1, 4, none⟩ = some (.int .i64 b.bo)) := H3r.out.cell 4
    have Rr5 : Hid (V2.cell? ⟨w.heap.size + 1 + 1, 5, none⟩ = some (.int .i64 b.fr)) := H3r.out.cell 5
    have Rr6 : Hid (V2.cell? ⟨w.heap.size + 1 + 1, 6, none⟩ = some (.slice pb lb cb)) := H3r.out.cell 6
    have Rl0 : Hid (V2.cell? ⟨w.heap.size + 1 + 1 + 1, 0, none⟩ = some (.int .i64 l.id)) := H3l.out.cell 0
    have Rl1 : Hid (V2.cell? ⟨w.heap.size + 1 + 1 + 1, 1, none⟩ = some (.int .i64 l.te)) := H3l.out.cell 1
    have Rl2 : Hid (V2.cell? ⟨w.heap.size + 1 + 1 + 1, 2, none⟩ = some (.int .i64 l.de)) := H3l.out.cell 2
    have Rl3 : Hid (V2.cell? ⟨w.heap.size + 1 + 1 + 1, 3, none⟩ = some (.int .i64 l.fe)) := H3l.out.cell 3
    have Rl4 : Hid (V2.cell? ⟨w.heap.size + 1 + 1 + 1, 4, none⟩ = some (.int .i64 l.pr)) := H3l.out.cell 4
    have Rl5 : Hid (V2.cell? ⟨w.heap.size + 1 + 1 + 1, 5, none⟩ = some (.int .i64 l.ch)) := H3l.out.cell 5
    have Rl6 : Hid (V2.cell? ⟨w.heap.size + 1 + 1 + 1, 6, none⟩ = some (.int .i64 l.un)) := H3l.out.cell 6
    go_wp2_with fail
    exact bodyPost_ret (v := .tuple #[.agg #[.int .i64 b.me, .int .i64 b.rv, .int .i64 b.nx, .int .i64 b.mo, .int .i64 b.bo, .int .i64 b.fr, .slice pb lb cb], .agg #[.int .i64 l.id, .int .i64 l.te, .int .i64 l.de, .int .i64 l.fe, .int .i64 l.pr, .int .i64 l.ch, .int .i64 l.un], .int .i64 f]) (by simp [results, Try.results67, Rr0.out, Rr1.out, Rr2.out, Rr3.out, Rr4.out, Rr5.out, Rr6.out, Rl0.out, Rl1.out, Rl2.out, Rl3.out, Rl4.out, Rl5.out, Rl6.out, go_sem]) rfl ⟨b, l, pb, lb, cb, f, rfl, .inr (.inl ⟨HK.out, HI.out⟩), HF3.out.low HS0.out, H3B.out⟩
  have q3 : (v.kd == 3) = false := by simpa using k3
  have HK : Hid (v.kd = 4) := by show _ = _; omega
  clear k2 k3 hk
  have HSL : Hid (Calls Try.prog 80 #[.agg #[.int .i64 x.me, .int .i64 x.rv, .int .i64 x.nx, .int .i64 x.mo, .int .i64 x.bo, .int .i64 x.fr, .slice p len cap]] W0 fun e w' => BPost W0 (RekeyIs x) e w') := acc.krekey _ x p len cap H0A.out
  go_wp2_with (first
    | (refine wp_whole rfl 55 _ rfl (w.heap.size) rfl 55 #[.int .i64 x.me, .int .i64 x.rv, .int .i64 x.nx, .int .i64 x.mo, .int .i64 x.bo, .int .i64 x.fr, .slice p len cap] _ H0a.out Try.underlying55 rfl (by kernel_rfl) ?_)
    | (refine wp_whole rfl 27 _ rfl (w.heap.size + 1) rfl 27 #[.int .i64 v.kd, .int .i64 v.me, .int .i64 v.mo, .int .i64 v.id, .int .i64 v.te, .int .i64 v.de, .int .i64 v.fe, .int .i64 v.pr, .int .i64 v.ch, .int .i64 v.un, .int .i64 v.tg, .int .i64 v.ow, .int .i64 v.bp] _ H0v.out Try.underlying27 rfl (by kernel_rfl) ?_)
    | (refine wp_whole rfl 55 _ rfl (w.heap.size + 1 + 1) rfl 55 #[.int .i64 0, .int .i64 0, .int .i64 0, .int .i64 0, .int .i64 0, .int .i64 0, .slice none 0 0] _ H0r.out Try.underlying55 rfl (by kernel_rfl) ?_)
    | (refine wp_whole rfl 23 _ rfl (w.heap.size + 1 + 1 + 1) rfl 23 #[.int .i64 0, .int .i64 0, .int .i64 0, .int .i64 0, .int .i64 0, .int .i64 0, .int .i64 0] _ H0l.out Try.underlying23 rfl (by kernel_rfl) ?_)
    | (refine wp_whole rfl 72 _ rfl (gW) rfl 72 #[V, .slice pt lt ct, .int .i64 t.ff, .int .i64 t.fb, .int .i64 t.db, .int .i64 t.al, .map (some B)] _ H0W.out Try.underlying72 rfl (by kernel_rfl) ?_)
    | fail)
  clear qv0
  refine HSL.out.mono ?_
  rintro e w1 ⟨b, l, pb, lb, cb, f, rfl, hi, hf, hb1⟩
  have hW1 : W0.heap.size ≤ w1.heap.size := hb1.size
  have HI : Hid (RekeyIs x b l f) := hi
  have HF1 : Hid (deb.Fresh w1 W0.heap.size pb lb cb b.ds) := hf
  have H1a : Hid (Blk w1 (w.heap.size) #[.int .i64 x.me, .int .i64 x.rv, .int .i64 x.nx, .int .i64 x.mo, .int .i64 x.bo, .int .i64 x.fr, .slice p len cap] 55) := H0a.out.next hb1
  have H1v : Hid (Blk w1 (w.heap.size + 1) #[.int .i64 v.kd, .int .i64 v.me, .int .i64 v.mo, .int .i64 v.id, .int .i64 v.te, .int .i64 v.de, .int .i64 v.fe, .int .i64 v.pr, .int .i64 v.ch, .int .i64 v.un, .int .i64 v.tg, .int .i64 v.ow, .int .i64 v.bp] 27) := H0v.out.next hb1
  have H1r : Hid (Blk w1 (w.heap.size + 1 + 1) #[.int .i64 0, .int .i64 0, .int .i64 0, .int .i64 0, .int .i64 0, .int .i64 0, .slice none 0 0] 55) := H0r.out.next hb1
  have H1l : Hid (Blk w1 (w.heap.size + 1 + 1 + 1) #[.int .i64 0, .int .i64 0, .int .i64 0, .int .i64 0, .int .i64 0, .int .i64 0, .int .i64 0] 23) := H0l.out.next hb1
  have H1W : Hid (Blk w1 (gW) #[V, .slice pt lt ct, .int .i64 t.ff, .int .i64 t.fb, .int .i64 t.db, .int .i64 t.al, .map (some B)] 72) := H0W.out.next hb1
  have H1B : Hid (Below w.heap.size w w1) := H0B.out.trans (hb1.mono H0B.out.size)
  clear H0a H0v H0r H0l H0W H0B
  clear hi hf hb1 HSL q2 q3
  unfold acc.Ac.v acc.Ac.cs acc.Bi.v
  go_wp2_with (first
    | (refine wp_letAll rfl 55 _ _ rfl (w.heap.size + 1 + 1) rfl #[.int .i64 b.me, .int .i64 b.rv, .int .i64 b.nx, .int .i64 b.mo, .int .i64 b.bo, .int .i64 b.fr, .slice pb lb cb] rfl (by kernel_rfl) (by simp [Value.oneCell']) #[.int .i64 0, .int .i64 0, .int .i64 0, .int .i64 0, .int .i64 0, .int .i64 0, .slice none 0 0] 55 H1r.out rfl ?_)
    | (refine wp_whole rfl 55 _ rfl (w.heap.size) rfl 55 #[.int .i64 x.me, .int .i64 x.rv, .int .i64 x.nx, .int .i64 x.mo, .int .i64 x.bo, .int .i64 x.fr, .slice p len cap] _ H1a.out Try.underlying55 rfl (by kernel_rfl) ?_)
    | (refine wp_whole rfl 27 _ rfl (w.heap.size + 1) rfl 27 #[.int .i64 v.kd, .int .i64 v.me, .int .i64 v.mo, .int .i64 v.id, .int .i64 v.te, .int .i64 v.de, .int .i64 v.fe, .int .i64 v.pr, .int .i64 v.ch, .int .i64 v.un, .int .i64 v.tg, .int .i64 v.ow, .int .i64 v.bp] _ H1v.out Try.underlying27 rfl (by kernel_rfl) ?_)
    | (refine wp_whole rfl 55 _ rfl (w.heap.size + 1 + 1) rfl 55 #[.int .i64 0, .int .i64 0, .int .i64 0, .int .i64 0, .int .i64 0, .int .i64 0, .slice none 0 0] _ H1r.out Try.underlying55 rfl (by kernel_rfl) ?_)
    | (refine wp_whole rfl 23 _ rfl (w.heap.size + 1 + 1 + 1) rfl 23 #[.int .i64 0, .int .i64 0, .int .i64 0, .int .i64 0, .int .i64 0, .int .i64 0, .int .i64 0] _ H1l.out Try.underlying23 rfl (by kernel_rfl) ?_)
    | (refine wp_whole rfl 72 _ rfl (gW) rfl 72 #[V, .slice pt lt ct, .int .i64 t.ff, .int .i64 t.fb, .int .i64 t.db, .int .i64 t.al, .map (some B)] _ H1W.out Try.underlying72 rfl (by kernel_rfl) ?_)
    | fail)
  intro V1 hU
  have H2a : Hid (Blk V1 (w.heap.size) #[.int .i64 x.me, .int .i64 x.rv, .int .i64 x.nx, .int .i64 x.mo, .int .i64 x.bo, .int .i64 x.fr, .slice p len cap] 55) := hU.keep H1a.out (by omega)
  have H2v : Hid (Blk V1 (w.heap.size + 1) #[.int .i64 v.kd, .int .i64 v.me, .int .i64 v.mo, .int .i64 v.id, .int .i64 v.te, .int .i64 v.de, .int .i64 v.fe, .int .i64 v.pr, .int .i64 v.ch, .int .i64 v.un, .int .i64 v.tg, .int .i64 v.ow, .int .i64 v.bp] 27) := hU.keep H1v.out (by omega)
  have H2r : Hid (Blk V1 (w.heap.size + 1 + 1) #[.int .i64 b.me, .int .i64 b.rv, .int .i64 b.nx, .int .i64 b.mo, .int .i64 b.bo, .int .i64 b.fr, .slice pb lb cb] 55) := hU.blk
  have H2l : Hid (Blk V1 (w.heap.size + 1 + 1 + 1) #[.int .i64 0, .int .i64 0, .int .i64 0, .int .i64 0, .int .i64 0, .int .i64 0, .int .i64 0] 23) := hU.keep H1l.out (by omega)
  have H2W : Hid (Blk V1 (gW) #[V, .slice pt lt ct, .int .i64 t.ff, .int .i64 t.fb, .int .i64 t.db, .int .i64 t.al, .map (some B)] 72) := hU.keep H1W.out (by omega)
  have H2B : Hid (Below w.heap.size w V1) := hU.bel _ _ (by omega) H1B.out
  clear H1a H1v H1r H1l H1W H1B
  have HF2 : Hid (deb.Fresh V1 W0.heap.size pb lb cb b.ds) := fresh_updN HF1.out hU (fun hn y hy => by have f1 := HF1.out.new hn y hy; omega)
  clear hU HF1
  go_wp2_with (first
    | (refine wp_letAll rfl 23 _ _ rfl (w.heap.size + 1 + 1 + 1) rfl #[.int .i64 l.id, .int .i64 l.te, .int .i64 l.de, .int .i64 l.fe, .int .i64 l.pr, .int .i64 l.ch, .int .i64 l.un] rfl (by kernel_rfl) (by simp [Value.oneCell']) #[.int .i64 0, .int .i64 0, .int .i64 0, .int .i64 0, .int .i64 0, .int .i64 0, .int .i64 0] 23 H2l.out rfl ?_)
    | (refine wp_whole rfl 55 _ rfl (w.heap.size) rfl 55 #[.int .i64 x.me, .int .i64 x.rv, .int .i64 x.nx, .int .i64 x.mo, .int .i64 x.bo, .int .i64 x.fr, .slice p len cap] _ H2a.out Try.underlying55 rfl (by kernel_rfl) ?_)
    | (refine wp_whole rfl 27 _ rfl (w.heap.size + 1) rfl 27 #[.int .i64 v.kd, .int .i64 v.me, .int .i64 v.mo, .int .i64 v.id, .int .i64 v.te, .int .i64 v.de, .int .i64 v.fe, .int .i64 v.pr, .int .i64 v.ch, .int .i64 v.un, .int .i64 v.tg, .int .i64 v.ow, .int .i64 v.bp] _ H2v.out Try.underlying27 rfl (by kernel_rfl) ?_)
    | (refine wp_whole rfl 55 _ rfl (w.heap.size + 1 + 1) rfl 55 #[.int .i64 b.me, .int .i64 b.rv, .int .i64 b.nx, .int .i64 b.mo, .int .i64 b.bo, .int .i64 b.fr, .slice pb lb cb] _ H2r.out Try.underlying55 rfl (by kernel_rfl) ?_)
    | (refine wp_whole rfl 23 _ rfl (w.heap.size + 1 + 1 + 1) rfl 23 #[.int .i64 0, .int .i64 0, .int .i64 0, .int .i64 0, .int .i64 0, .int .i64 0, .int .i64 0] _ H2l.out Try.underlying23 rfl (by kernel_rfl) ?_)
    | (refine wp_whole rfl 72 _ rfl (gW) rfl 72 #[V, .slice pt lt ct, .int .i64 t.ff, .int .i64 t.fb, .int .i64 t.db, .int .i64 t.al, .map (some B)] _ H2W.out Try.underlying72 rfl (by kernel_rfl) ?_)
    | fail)
  intro V2 hU
  have H3a : Hid (Blk V2 (w.heap.size) #[.int .i64 x.me, .int .i64 x.rv, .int .i64 x.nx, .int .i64 x.mo, .int .i64 x.bo, .int .i64 x.fr, .slice p len cap] 55) := hU.keep H2a.out (by omega)
  have H3v : Hid (Blk V2 (w.heap.size + 1) #[.int .i64 v.kd, .int .i64 v.me, .int .i64 v.mo, .int .i64 v.id, .int .i64 v.te, .int .i64 v.de, .int .i64 v.fe, .int .i64 v.pr, .int .i64 v.ch, .int .i64 v.un, .int .i64 v.tg, .int .i64 v.ow, .int .i64 v.bp] 27) := hU.keep H2v.out (by omega)
  have H3r : Hid (Blk V2 (w.heap.size + 1 + 1) #[.int .i64 b.me, .int .i64 b.rv, .int .i64 b.nx, .int .i64 b.mo, .int .i64 b.bo, .int .i64 b.fr, .slice pb lb cb] 55) := hU.keep H2r.out (by omega)
  have H3l : Hid (Blk V2 (w.heap.size + 1 + 1 + 1) #[.int .i64 l.id, .int .i64 l.te, .int .i64 l.de, .int .i64 l.fe, .int .i64 l.pr, .int .i64 l.ch, .int .i64 l.un] 23) := hU.blk
  have H3W : Hid (Blk V2 (gW) #[V, .slice pt lt ct, .int .i64 t.ff, .int .i64 t.fb, .int .i64 t.db, .int .i64 t.al, .map (some B)] 72) := hU.keep H2W.out (by omega)
  have H3B : Hid (Below w.heap.size w V2) := hU.bel _ _ (by omega) H2B.out
  clear H2a H2v H2r H2l H2W H2B
  have HF3 : Hid (deb.Fresh V2 W0.heap.size pb lb cb b.ds) := fresh_updN HF2.out hU (fun hn y hy => by have f1 := HF2.out.new hn y hy; omega)
  clear hU HF2
  have Rr0 : Hid (V2.cell? ⟨w.heap.size + 1 + 1, 0, none⟩ = some (.int .i64 b.me)) := H3r.out.cell 0
  have Rr1 : Hid (V2.cell? ⟨w.heap.size + 1 + 1, 1, none⟩ = some (.int .i64 b.rv)) := H3r.out.cell 1
  have Rr2 : Hid (V2.cell? ⟨w.heap.size + 1 + 1, 2, none⟩ = some (.int .i64 b.nx)) := H3r.out.cell 2
  have Rr3 : Hid (V2.cell? ⟨w.heap.size + 1 + 1, 3, none⟩ = some (.int .i64 b.mo)) := H3r.out.cell 3
  have Rr4 : Hid (V2.cell? ⟨w.heap.size + 1 + 1, 4, none⟩ = some (.int .i64 b.bo)) := H3r.out.cell 4
  have Rr5 : Hid (V2.cell? ⟨w.heap.size + 1 + 1, 5, none⟩ = some (.int .i64 b.fr)) := H3r.out.cell 5
  have Rr6 : Hid (V2.cell? ⟨w.heap.size + 1 + 1, 6, none⟩ = some (.slice pb lb cb)) := H3r.out.cell 6
  have Rl0 : Hid (V2.cell? ⟨w.heap.size + 1 + 1 + 1, 0, none⟩ = some (.int .i64 l.id)) := H3l.out.cell 0
  have Rl1 : Hid (V2.cell? ⟨w.heap.size + 1 + 1 + 1, 1, none⟩ = some (.int .i64 l.te)) := H3l.out.cell 1
  have Rl2 : Hid (V2.cell? ⟨w.heap.size + 1 + 1 + 1, 2, none⟩ = some (.int .i64 l.de)) := H3l.out.cell 2
  have Rl3 : Hid (V2.cell? ⟨w.heap.size + 1 + 1 + 1, 3, none⟩ = some (.int .i64 l.fe)) := H3l.out.cell 3
  have Rl4 : Hid (V2.cell? ⟨w.heap.size + 1 + 1 + 1, 4, none⟩ = some (.int .i64 l.pr)) := H3l.out.cell 4
  have Rl5 : Hid (V2.cell? ⟨w.heap.size + 1 + 1 + 1, 5, none⟩ = some (.int .i64 l.ch)) := H3l.out.cell 5
  have Rl6 : Hid (V2.cell? ⟨w.heap.size + 1 + 1 + 1, 6, none⟩ = some (.int .i64 l.un)) := H3l.out.cell 6
  go_wp2_with fail
  exact bodyPost_ret (v := .tuple #[.agg #[.int .i64 b.me, .int .i64 b.rv, .int .i64 b.nx, .int .i64 b.mo, .int .i64 b.bo, .int .i64 b.fr, .slice pb lb cb], .agg #[.int .i64 l.id, .int .i64 l.te, .int .i64 l.de, .int .i64 l.fe, .int .i64 l.pr, .int .i64 l.ch, .int .i64 l.un], .int .i64 f]) (by simp [results, Try.results67, Rr0.out, Rr1.out, Rr2.out, Rr3.out, Rr4.out, Rr5.out, Rr6.out, Rl0.out, Rl1.out, Rl2.out, Rl3.out, Rl4.out, Rl5.out, Rl6.out, go_sem]) rfl ⟨b, l, pb, lb, cb, f, rfl, .inr (.inr ⟨HK.out, HI.out⟩), HF3.out.low HS0.out, H3B.out⟩

end Go.Proofs.Ytfhlokjpdkmdjaa.book

/- Two structs are compared, where what comes of it is known. -/
namespace Go.Proofs.Ytfhlokjpdkmdjaa
open Go.RowKit

theorem run_neOp {P : Program} {o : Oper} {a : Act} {w : World} (ty rt : TypeId) (x y : Operand) (ho : o.op = .binOp .neq ty x y rt) (ca cb : Array Value) (hx : a.eval x = .agg ca) (hy : a.eval y = .agg cb) (hg : P.eqGuardType P.depth ty = false) (b : Bool)
    (hr : (Op.equalIn 10000 ty (.agg ca) (.agg cb)).run P w = .ok b w) : (execOp a.eval o).run P w = .ok (.value (.bool (!b))) w := by
  have hr' : (Op.equal ty (.agg ca) (.agg cb)).run P w = .ok b w := hr
  unfold execOp
  simp only [ho, hx, hy]
  have hp : ∀ w' : World, (program : Sem Program).run P w' = .ok P w' := fun _ => rfl
  simp [eqGuard, hg, binOp, hr', hp, Sem.run_bind]
theorem wp_neE {P : Program} {ops : Array Oper} {rest : List Oper} {o : Oper} {a : Act} {w : World} {Q : Exit → Act → World → Prop} (hw : Region.wanted o (yielded ops a.tmps) = true) (ty rt : TypeId) (x y : Operand) (ho : o.op = .binOp .neq ty x y rt) (ca cb : Array Value) (hx : a.eval x = .agg ca) (hy : a.eval y = .agg cb) (hg : P.eqGuardType P.depth ty = false) (b : Bool)
    (hr : (Op.equalIn 10000 ty (.agg ca) (.agg cb)).run P w = .ok b w) (d : Nat) (hd : o.dst = some d) (h : wpList P ops Q rest (a.put (some d) (.bool (!b))) w) : wpList P ops Q (o :: rest) a w :=
  wpList_step fun K hK => by
    rw [if_pos hw]
    exact wp_runOp d hd (run_neOp ty rt x y ho ca cb hx hy hg b hr) (hK _ _ h)

end Go.Proofs.Ytfhlokjpdkmdjaa

/- A token is sold, in the program. -/
namespace Go.Proofs.Ytfhlokjpdkmdjaa.book
open Go.RowKit
open Go.Proofs.Ytfhlokjpdkmdjaa.acc (Ac Tm Bi APost BPost TFault TRight OpenIs OweIs SellIs GrantIs RekeyIs wf6 ACame TCame fresh_updN fresh_drew came_lt)
set_option maxRecDepth 100000
set_option linter.unusedVariables false
set_option linter.unusedSimpArgs false

/-- What an event that is no Register comes to. -/
def HapR (t : Tm) (bk : List Cm) (k : Nat) (v : Ev) (bk' : List Cm) (f : Int) : Prop := ∃ c', HapIs t (bk.getD k cm0) v c' f ∧ (f = 0 → bk' = bk.set k c')
theorem ev_wf {v : Ev} (h : EMay v) : (Lit.int .i64 v.te).wf = true ∧ (Lit.int .i64 v.mo).wf = true := by
  have : (0 ≤ v.te ∧ v.te ≤ 100000000) ∧ 0 ≤ v.mo ∧ v.mo ≤ 2399 := by unfold EMay at h; omega
  exact ⟨wf_i (by omega) (by omega), wf_i (by omega) (by omega)⟩
theorem bill_eq {l : Bi} {v : Ev} (h : l.id = v.id ∧ l.te = v.te ∧ l.de = v.de ∧ l.fe = v.fe ∧ l.pr = v.pr ∧ l.ch = v.ch ∧ l.un = v.un) : l = billOf v := by
  obtain ⟨h1, h2, h3, h4, h5, h6, h7⟩ := h
  cases l
  unfold billOf
  simp only at h1 h2 h3 h4 h5 h6 h7
  rw [h1, h2, h3, h4, h5, h6, h7]
theorem rekey_rv {a b : Ac} {l : Bi} (h : RekeyIs a b l 0) : b.rv = a.rv + 1 := by
  rcases h with ⟨_, _, _, e⟩ | ⟨_, _, _, _, e⟩ | ⟨_, _, _, _, _, e⟩ | ⟨_, _, _, rfl, _, _⟩
  · cases e
  · cases e
  · cases e
  · rfl
/-- What is put in the place of a customer, at the end. -/
theorem put_wr {w0 : World} {base gW B : Nat} {t : Tm} {pt : Option Addr} {lt ct g n cap : Nat} {xs : List Cu} {bk : List Cm} {k : Nat} {x x' : Cu} {c' : Cm} {cur : Array Value} {w WF : World} (h : Wr w0 base gW B t pt lt ct (.slice (some ⟨g, 0, none⟩) n cap) xs bk w) (hk : k < xs.length) (hx : xs.getD k cu0 = x) (hcb : Blk w g cur 58)
    (hO : ∀ i, i < w.heap.size → i ≠ g → x.sold.ownBlock ≠ some i → WF.heap[i]? = w.heap[i]?) (hs : w.heap.size ≤ WF.heap.size) (hos : WF.os = w.os ∧ WF.tape = w.tape ∧ WF.output = w.output) (has : Has WF base x' c') (hwf : wf6 c'.a) (hme : c'.a.me = (bk.getD k cm0).a.me)
    (own : ∀ i, x'.sold.ownBlock = some i → x.sold.ownBlock = some i ∨ w.heap.size ≤ i) (new : 0 < x'.dn → ∀ p, x'.dp = some p → w.heap.size ≤ p.block) (self : ∀ i, x'.sold.ownBlock = some i → 0 < x'.dn → ∀ p, x'.dp = some p → p.block ≠ i)
    (hW : Blk WF g (putAll cur (k * 8) x'.cs) 58) (hsm : Small (bk.set k c') 120) : Wr w0 base gW B t pt lt ct (.slice (some ⟨g, 0, none⟩) n cap) (xs.set k x') (bk.set k c') WF := by
  have hgo : base ≤ g := (World.ownsRow.lt h.hold.row g rfl).1
  have hxo : ∀ i, x.sold.ownBlock = some i → base ≤ i := fun i hi => (World.ownsRow.lt (h.hold.has k hk).so i (by rw [hx]; exact hi)).1
  have hlow : ∀ i, i < base → WF.heap[i]? = w.heap[i]? := fun i hi => hO i (by have := h.sz; omega) (by omega) (fun e => by have := hxo i e; omega)
  refine ⟨?_, ?_, ?_, h.gw, h.gb, h.ne, h.n0, h.n1, Nat.le_trans h.sz hs, ?_, hsm, h.wf.set hwf⟩
  · show WF.heap[gW]? = _
    rw [hlow gW h.gw]; exact h.blk
  · rw [mes_set hme]
    show WF.heap[B]? = _
    rw [hlow B h.gb]; exact h.mp
  · exact h.hold.put2 hk (fun i hi h1 h2 => hO i hi (fun e => h1 (by rw [e]; rfl)) (by rw [← hx]; exact h2)) has (by rw [hx]; exact own) new self (lc_put2 h.hold.row hcb hk hW)
  · exact ⟨hos.1.trans h.bel.os, hos.2.1.trans h.bel.tape, hos.2.2.trans h.bel.output, Nat.le_trans h.bel.size hs, fun i hi => (hlow i (by have := h.n0; have := h.gw; omega)).trans (h.bel.block i hi)⟩
set_option maxHeartbeats 16000000 in
theorem bsell (w0 : World) (base gW B : Nat) (t : Tm) (pt : Option Addr) (lt ct g n cap : Nat) (xs : List Cu) (bk : List Cm) (k : Nat) (v : Ev) (w : World) (h : Wr w0 base gW B t pt lt ct (.slice (some ⟨g, 0, none⟩) n cap) xs bk w) (hk : k < xs.length) (ht : TCame w0 t pt lt ct) (hm : EMay v) (hkd : v.kd = 2 ∨ v.kd = 3 ∨ v.kd = 4) :
    Calls Try.prog 53 #[.pointer (some ⟨gW, 0, none⟩), .pointer (some ⟨g, k * 8, none⟩), .agg #[.int .i64 v.kd, .int .i64 v.me, .int .i64 v.mo, .int .i64 v.id, .int .i64 v.te, .int .i64 v.de, .int .i64 v.fe, .int .i64 v.pr, .int .i64 v.ch, .int .i64 v.un, .int .i64 v.tg, .int .i64 v.ow, .int .i64 v.bp]] w fun e w' => WPost w0 base gW B t pt lt ct (HapR t bk k v) w e w' := by
  have HNO : Hid (∀ (f : Int) (hf : f ≠ 0) W, Calls Try.prog 46 #[.int .i64 f] W fun e w' => e = .panicked (thrown f) ∧ w' = W) := fun f hf W => insist_no f hf W
  have HOK : Hid (∀ W, Calls Try.prog 46 #[.int .i64 0] W fun e w' => e = .returned (.tuple #[]) ∧ w' = W) := fun W => insist_ok W
  have hx0 := h.hold.has k hk
  have hoff := h.hold.off k hk
  have hself := h.hold.self k hk
  have hwf0 : wf6 (bk.getD k cm0).a := h.wf _ (getD_in (by rw [← h.hold.len]; exact hk))
  have hsm0 := (h.few.2 _ (getD_in (by rw [← h.hold.len]; exact hk))).1
  obtain ⟨c, hc⟩ : ∃ c, bk.getD k cm0 = c := ⟨_, rfl⟩
  obtain ⟨x, hx⟩ : ∃ x, xs.getD k cu0 = x := ⟨_, rfl⟩
  obtain ⟨g', cur, e1, hgb, hcb, hcs, hcc⟩ := at_cust h.hold.row hk
  obtain rfl : g = g' := by injection e1 with e1; injection e1
  clear e1
  rw [hc] at hx0 hwf0 hsm0
  rw [hx] at hx0 hcc hoff hself
  obtain ⟨y, sol⟩ := c
  obtain ⟨dp, dn, dc, sp, sn, sc, rfl⟩ := cuA_of hx0.num
  have HR : Hid (Wr w0 base gW B t pt lt ct (.slice (some ⟨g, 0, none⟩) n cap) xs bk w) := h
  have HKL : Hid (k < xs.length) := hk
  have HX : Hid (xs.getD k cu0 = (⟨y.me, y.rv, y.nx, y.mo, y.bo, y.fr, dp, dn, dc, sp, sn, sc⟩ : Cu)) := hx
  have HC : Hid (bk.getD k cm0 = ⟨y, sol⟩) := hc
  have HH : Hid (Has w base (⟨y.me, y.rv, y.nx, y.mo, y.bo, y.fr, dp, dn, dc, sp, sn, sc⟩ : Cu) ⟨y, sol⟩) := hx0
  have HOF : Hid (Off (⟨y.me, y.rv, y.nx, y.mo, y.bo, y.fr, dp, dn, dc, sp, sn, sc⟩ : Cu) (some g)) := hoff
  have HSE : Hid (∀ i, (Value.slice sp sn sc).ownBlock = some i → 0 < dn → ∀ p, dp = some p → p.block ≠ i) := hself
  have HMA : Hid (EMay v) := hm
  have HKD : Hid (v.kd = 2 ∨ v.kd = 3 ∨ v.kd = 4) := hkd
  have HCS : Hid (k * 8 + 8 ≤ cur.size) := hcs
  have HWK : Hid (∀ W, Below w.heap.size w W → Calls Try.prog 67 #[.pointer (some ⟨gW, 0, none⟩), .agg #[.int .i64 y.me, .int .i64 y.rv, .int .i64 y.nx, .int .i64 y.mo, .int .i64 y.bo, .int .i64 y.fr, .slice dp dn dc], .agg #[.int .i64 v.kd, .int .i64 v.me, .int .i64 v.mo, .int .i64 v.id, .int .i64 v.te, .int .i64 v.de, .int .i64 v.fe, .int .i64 v.pr, .int .i64 v.ch, .int .i64 v.un, .int .i64 v.tg, .int .i64 v.ow, .int .i64 v.bp]] W fun e w' => BPost W (Tells t ⟨y, sol⟩ v) e w') := fun W hB => bwork gW _ B t pt lt ct y sol dp dn dc v W (HR.out.next hB).blk (ht.below (HR.out.next hB).bel) ⟨hx0.ds.came.below hB, hwf0⟩ (ev_wf hm) hkd
  have HSZ : Hid (base ≤ w.heap.size) := h.sz
  have hgl : g < w.heap.size := hcb.lt
  have HSL : Hid (sol.length ≤ 120) := hsm0
  have HBG : Hid (base ≤ g) := hgb
  have HCB : Hid (Blk w g cur 58) := hcb
  have hn5 : v.kd ≠ 5 := by omega
  have HN5 : Hid (v.kd ≠ 5) := hn5
  have HOI : Hid (∀ i, (Value.slice sp sn sc).ownBlock = some i → i < w.heap.size ∧ base ≤ i ∧ i ≠ g) := fun i hi => ⟨(World.ownsRow.lt hx0.so i hi).2, (World.ownsRow.lt hx0.so i hi).1, fun e => hoff.1 i hi (by rw [e]; rfl)⟩
  clear h hk hx hc hx0 hoff hself hm hkd ht hwf0 hsm0 hgb hn5
  obtain ⟨O, hO⟩ : ∃ O, k * 8 = O := ⟨_, rfl⟩
  have HO : Hid (k * 8 = O) := hO
  rw [hO] at HCS hcs hcc
  rw [hO]
  clear hO
  have HC0 : Hid (cur[O + 0]? = some (.int .i64 y.me)) := hcc 0 (by decide)
  have HC1 : Hid (cur[O + 1]? = some (.int .i64 y.rv)) := hcc 1 (by decide)
  have HC2 : Hid (cur[O + 2]? = some (.int .i64 y.nx)) := hcc 2 (by decide)
  have HC3 : Hid (cur[O + 3]? = some (.int .i64 y.mo)) := hcc 3 (by decide)
  have HC4 : Hid (cur[O + 4]? = some (.int .i64 y.bo)) := hcc 4 (by decide)
  have HC5 : Hid (cur[O + 5]? = some (.int .i64 y.fr)) := hcc 5 (by decide)
  have HC6 : Hid (cur[O + 6]? = some (.slice dp dn dc)) := hcc 6 (by decide)
  have HC7 : Hid (cur[O + 7]? = some (.slice sp sn sc)) := hcc 7 (by decide)
  clear hcc
  have H0v : Hid (Blk (w.alloc (.cells #[.int .i64 v.kd, .int .i64 v.me, .int .i64 v.mo, .int .i64 v.id, .int .i64 v.te, .int .i64 v.de, .int .i64 v.fe, .int .i64 v.pr, .int .i64 v.ch, .int .i64 v.un, .int .i64 v.tg, .int .i64 v.ow, .int .i64 v.bp] 27)) w.heap.size #[.int .i64 v.kd, .int .i64 v.me, .int .i64 v.mo, .int .i64 v.id, .int .i64 v.te, .int .i64 v.de, .int .i64 v.fe, .int .i64 v.pr, .int .i64 v.ch, .int .i64 v.un, .int .i64 v.tg, .int .i64 v.ow, .int .i64 v.bp] 27) := Blk.new _ _ _
  have H0c : Hid (Blk (w.alloc (.cells #[.int .i64 v.kd, .int .i64 v.me, .int .i64 v.mo, .int .i64 v.id, .int .i64 v.te, .int .i64 v.de, .int .i64 v.fe, .int .i64 v.pr, .int .i64 v.ch, .int .i64 v.un, .int .i64 v.tg, .int .i64 v.ow, .int .i64 v.bp] 27)) g cur 58) := hcb.alloc _
  have H0B : Hid (Below w.heap.size w (w.alloc (.cells #[.int .i64 v.kd, .int .i64 v.me, .int .i64 v.mo, .int .i64 v.id, .int .i64 v.te, .int .i64 v.de, .int .i64 v.fe, .int .i64 v.pr, .int .i64 v.ch, .int .i64 v.un, .int .i64 v.tg, .int .i64 v.ow, .int .i64 v.bp] 27))) := (Below.refl _ _).alloc (Nat.le_refl _) _
  have hl0 : w.heap.size < (w.alloc (.cells #[.int .i64 v.kd, .int .i64 v.me, .int .i64 v.mo, .int .i64 v.id, .int .i64 v.te, .int .i64 v.de, .int .i64 v.fe, .int .i64 v.pr, .int .i64 v.ch, .int .i64 v.un, .int .i64 v.tg, .int .i64 v.ow, .int .i64 v.bp] 27)).heap.size := H0v.out.lt
  clear hcb hcs
  go_enter Try.func53, Try.ntmps53
  go_upto_region 1 with fail
  generalize (w.alloc (.cells #[.int .i64 v.kd, .int .i64 v.me, .int .i64 v.mo, .int .i64 v.id, .int .i64 v.te, .int .i64 v.de, .int .i64 v.fe, .int .i64 v.pr, .int .i64 v.ch, .int .i64 v.un, .int .i64 v.tg, .int .i64 v.ow, .int .i64 v.bp] 27)) = W0 at *
  have z0 : W0.cell? ⟨g, O, none⟩ = some (.int .i64 y.me) := (H0c.out.cell (O + 0)).trans HC0.out
  have z1 : W0.cell? ⟨g, O + 1, none⟩ = some (.int .i64 y.rv) := (H0c.out.cell (O + 1)).trans HC1.out
  have z2 : W0.cell? ⟨g, O + 2, none⟩ = some (.int .i64 y.nx) := (H0c.out.cell (O + 2)).trans HC2.out
  have z3 : W0.cell? ⟨g, O + 3, none⟩ = some (.int .i64 y.mo) := (H0c.out.cell (O + 3)).trans HC3.out
  have z4 : W0.cell? ⟨g, O + 4, none⟩ = some (.int .i64 y.bo) := (H0c.out.cell (O + 4)).trans HC4.out
  have z5 : W0.cell? ⟨g, O + 5, none⟩ = some (.int .i64 y.fr) := (H0c.out.cell (O + 5)).trans HC5.out
  have z6 : W0.cell? ⟨g, O + 6, none⟩ = some (.slice dp dn dc) := (H0c.out.cell (O + 6)).trans HC6.out
  have H2v : Hid (Blk (W0.alloc (.cells #[.int .i64 y.me, .int .i64 y.rv, .int .i64 y.nx, .int .i64 y.mo, .int .i64 y.bo, .int .i64 y.fr, .slice dp dn dc] 55)) (w.heap.size) #[.int .i64 v.kd, .int .i64 v.me, .int .i64 v.mo, .int .i64 v.id, .int .i64 v.te, .int .i64 v.de, .int .i64 v.fe, .int .i64 v.pr, .int .i64 v.ch, .int .i64 v.un, .int .i64 v.tg, .int .i64 v.ow, .int .i64 v.bp] 27) := (H0v.out.alloc _)
  have H2c : Hid (Blk (W0.alloc (.cells #[.int .i64 y.me, .int .i64 y.rv, .int .i64 y.nx, .int .i64 y.mo, .int .i64 y.bo, .int .i64 y.fr, .slice dp dn dc] 55)) (g) cur 58) := (H0c.out.alloc _)
  have H2a : Hid (Blk (W0.alloc (.cells #[.int .i64 y.me, .int .i64 y.rv, .int .i64 y.nx, .int .i64 y.mo, .int .i64 y.bo, .int .i64 y.fr, .slice dp dn dc] 55)) (W0.heap.size) #[.int .i64 y.me, .int .i64 y.rv, .int .i64 y.nx, .int .i64 y.mo, .int .i64 y.bo, .int .i64 y.fr, .slice dp dn dc] 55) := Blk.new _ _ _
  have H2B : Hid (Below w.heap.size w (W0.alloc (.cells #[.int .i64 y.me, .int .i64 y.rv, .int .i64 y.nx, .int .i64 y.mo, .int .i64 y.bo, .int .i64 y.fr, .slice dp dn dc] 55))) := H0B.out.alloc H0B.out.size _
  have hlW1 : W0.heap.size < (W0.alloc (.cells #[.int .i64 y.me, .int .i64 y.rv, .int .i64 y.nx, .int .i64 y.mo, .int .i64 y.bo, .int .i64 y.fr, .slice dp dn dc] 55)).heap.size := H2a.out.lt
  go_upto_region 2 with fail
  clear H0v H0c H0B
  generalize (W0.alloc (.cells #[.int .i64 y.me, .int .i64 y.rv, .int .i64 y.nx, .int .i64 y.mo, .int .i64 y.bo, .int .i64 y.fr, .slice dp dn dc] 55)) = W1 at *
  clear z0 z1 z2 z3 z4 z5 z6
  generalize W0.heap.size = ga at *
  have HW1 : Hid (Calls Try.prog 67 #[.pointer (some ⟨gW, 0, none⟩), .agg #[.int .i64 y.me, .int .i64 y.rv, .int .i64 y.nx, .int .i64 y.mo, .int .i64 y.bo, .int .i64 y.fr, .slice dp dn dc], .agg #[.int .i64 v.kd, .int .i64 v.me, .int .i64 v.mo, .int .i64 v.id, .int .i64 v.te, .int .i64 v.de, .int .i64 v.fe, .int .i64 v.pr, .int .i64 v.ch, .int .i64 v.un, .int .i64 v.tg, .int .i64 v.ow, .int .i64 v.bp]] W1 fun e w' => BPost W1 (Tells t ⟨y, sol⟩ v) e w') := HWK.out W1 H2B.out
  clear HWK
  go_wp2_with (first
    | (refine wp_whole rfl 27 _ rfl (w.heap.size) rfl 27 #[.int .i64 v.kd, .int .i64 v.me, .int .i64 v.mo, .int .i64 v.id, .int .i64 v.te, .int .i64 v.de, .int .i64 v.fe, .int .i64 v.pr, .int .i64 v.ch, .int .i64 v.un, .int .i64 v.tg, .int .i64 v.ow, .int .i64 v.bp] _ H2v.out Try.underlying27 rfl (by kernel_rfl) ?_)
    | (refine wp_whole rfl 58 _ rfl (g) rfl 58 cur _ H2c.out Try.underlying58 rfl (by kernel_rfl) ?_)
    | (refine wp_whole rfl 55 _ rfl (ga) rfl 55 #[.int .i64 y.me, .int .i64 y.rv, .int .i64 y.nx, .int .i64 y.mo, .int .i64 y.bo, .int .i64 y.fr, .slice dp dn dc] _ H2a.out Try.underlying55 rfl (by kernel_rfl) ?_)
    | fail)
  refine HW1.out.mono ?_
  rintro e w2 ⟨b, l, pb, lb, cb, f, rfl, hi, hf, hb1⟩
  have hW2 : W1.heap.size ≤ w2.heap.size := hb1.size
  have HI : Hid (Tells t ⟨y, sol⟩ v b l f) := hi
  have HF2 : Hid (deb.Fresh w2 W1.heap.size pb lb cb b.ds) := hf
  have H3v : Hid (Blk w2 (w.heap.size) #[.int .i64 v.kd, .int .i64 v.me, .int .i64 v.mo, .int .i64 v.id, .int .i64 v.te, .int .i64 v.de, .int .i64 v.fe, .int .i64 v.pr, .int .i64 v.ch, .int .i64 v.un, .int .i64 v.tg, .int .i64 v.ow, .int .i64 v.bp] 27) := H2v.out.next hb1
  have H3c : Hid (Blk w2 (g) cur 58) := H2c.out.next hb1
  have H3a : Hid (Blk w2 (ga) #[.int .i64 y.me, .int .i64 y.rv, .int .i64 y.nx, .int .i64 y.mo, .int .i64 y.bo, .int .i64 y.fr, .slice dp dn dc] 55) := H2a.out.next hb1
  have H3B : Hid (Below w.heap.size w w2) := H2B.out.trans (hb1.mono H2B.out.size)
  clear H2v H2c H2a H2B
  clear hi hf hb1 HW1
  unfold acc.Ac.v acc.Ac.cs acc.Bi.v
  have HF3 : Hid (deb.Fresh ((w2.alloc (.cells #[.int .i64 b.me, .int .i64 b.rv, .int .i64 b.nx, .int .i64 b.mo, .int .i64 b.bo, .int .i64 b.fr, .slice pb lb cb] 55)).alloc (.cells #[.int .i64 l.id, .int .i64 l.te, .int .i64 l.de, .int .i64 l.fe, .int .i64 l.pr, .int .i64 l.ch, .int .i64 l.un] 23)) W1.heap.size pb lb cb b.ds) := HF2.out.below (((Below.refl _ _).alloc (Nat.le_refl _) _).alloc (by simp) _)
  have HFU : Hid (0 < lb → ∀ p, pb = some p → p.block < w2.heap.size) := came_lt HF2.out.came
  have H4v : Hid (Blk ((w2.alloc (.cells #[.int .i64 b.me, .int .i64 b.rv, .int .i64 b.nx, .int .i64 b.mo, .int .i64 b.bo, .int .i64 b.fr, .slice pb lb cb] 55)).alloc (.cells #[.int .i64 l.id, .int .i64 l.te, .int .i64 l.de, .int .i64 l.fe, .int .i64 l.pr, .int .i64 l.ch, .int .i64 l.un] 23)) (w.heap.size) #[.int .i64 v.kd, .int .i64 v.me, .int .i64 v.mo, .int .i64 v.id, .int .i64 v.te, .int .i64 v.de, .int .i64 v.fe, .int .i64 v.pr, .int .i64 v.ch, .int .i64 v.un, .int .i64 v.tg, .int .i64 v.ow, .int .i64 v.bp] 27) := ((H3v.out.alloc _).alloc _)
  have H4c : Hid (Blk ((w2.alloc (.cells #[.int .i64 b.me, .int .i64 b.rv, .int .i64 b.nx, .int .i64 b.mo, .int .i64 b.bo, .int .i64 b.fr, .slice pb lb cb] 55)).alloc (.cells #[.int .i64 l.id, .int .i64 l.te, .int .i64 l.de, .int .i64 l.fe, .int .i64 l.pr, .int .i64 l.ch, .int .i64 l.un] 23)) (g) cur 58) := ((H3c.out.alloc _).alloc _)
  have H4a : Hid (Blk ((w2.alloc (.cells #[.int .i64 b.me, .int .i64 b.rv, .int .i64 b.nx, .int .i64 b.mo, .int .i64 b.bo, .int .i64 b.fr, .slice pb lb cb] 55)).alloc (.cells #[.int .i64 l.id, .int .i64 l.te, .int .i64 l.de, .int .i64 l.fe, .int .i64 l.pr, .int .i64 l.ch, .int .i64 l.un] 23)) (ga) #[.int .i64 y.me, .int .i64 y.rv, .int .i64 y.nx, .int .i64 y.mo, .int .i64 y.bo, .int .i64 y.fr, .slice dp dn dc] 55) := ((H3a.out.alloc _).alloc _)
  have H4be : Hid (Blk ((w2.alloc (.cells #[.int .i64 b.me, .int .i64 b.rv, .int .i64 b.nx, .int .i64 b.mo, .int .i64 b.bo, .int .i64 b.fr, .slice pb lb cb] 55)).alloc (.cells #[.int .i64 l.id, .int .i64 l.te, .int .i64 l.de, .int .i64 l.fe, .int .i64 l.pr, .int .i64 l.ch, .int .i64 l.un] 23)) (w2.heap.size) #[.int .i64 b.me, .int .i64 b.rv, .int .i64 b.nx, .int .i64 b.mo, .int .i64 b.bo, .int .i64 b.fr, .slice pb lb cb] 55) := (Blk.new _ _ _).alloc _
  have H4bi : Hid (Blk ((w2.alloc (.cells #[.int .i64 b.me, .int .i64 b.rv, .int .i64 b.nx, .int .i64 b.mo, .int .i64 b.bo, .int .i64 b.fr, .slice pb lb cb] 55)).alloc (.cells #[.int .i64 l.id, .int .i64 l.te, .int .i64 l.de, .int .i64 l.fe, .int .i64 l.pr, .int .i64 l.ch, .int .i64 l.un] 23)) (w2.heap.size + 1) #[.int .i64 l.id, .int .i64 l.te, .int .i64 l.de, .int .i64 l.fe, .int .i64 l.pr, .int .i64 l.ch, .int .i64 l.un] 23) := Blk.new1 _ _ _ _
  have H4B : Hid (Below w.heap.size w ((w2.alloc (.cells #[.int .i64 b.me, .int .i64 b.rv, .int .i64 b.nx, .int .i64 b.mo, .int .i64 b.bo, .int .i64 b.fr, .slice pb lb cb] 55)).alloc (.cells #[.int .i64 l.id, .int .i64 l.te, .int .i64 l.de, .int .i64 l.fe, .int .i64 l.pr, .int .i64 l.ch, .int .i64 l.un] 23))) := (H3B.out.alloc H3B.out.size _).alloc (Nat.le_trans H3B.out.size (by simp)) _
  have hlW3 : w2.heap.size + 1 < ((w2.alloc (.cells #[.int .i64 b.me, .int .i64 b.rv, .int .i64 b.nx, .int .i64 b.mo, .int .i64 b.bo, .int .i64 b.fr, .slice pb lb cb] 55)).alloc (.cells #[.int .i64 l.id, .int .i64 l.te, .int .i64 l.de, .int .i64 l.fe, .int .i64 l.pr, .int .i64 l.ch, .int .i64 l.un] 23)).heap.size := H4bi.out.lt
  go_upto_region 3 with fail
  clear H3v H3c H3a H3B
  generalize ((w2.alloc (.cells #[.int .i64 b.me, .int .i64 b.rv, .int .i64 b.nx, .int .i64 b.mo, .int .i64 b.bo, .int .i64 b.fr, .slice pb lb cb] 55)).alloc (.cells #[.int .i64 l.id, .int .i64 l.te, .int .i64 l.de, .int .i64 l.fe, .int .i64 l.pr, .int .i64 l.ch, .int .i64 l.un] 23)) = W3 at *
  clear HF2
  generalize w2.heap.size = gb at *
  by_cases h0 : f = 0
  case neg =>
    have HN1 := HNO.out f h0
    have HN2 : Hid (∀ W, Calls Try.prog 46 #[.int .i64 f] W fun e w' => e = .panicked (thrown f) ∧ w' = W) := HN1
    have HNE : Hid (f ≠ 0) := h0
    clear HN1 HNO h0
    go_wp2_with (first
      | (refine wp_whole rfl 27 _ rfl (w.heap.size) rfl 27 #[.int .i64 v.kd, .int .i64 v.me, .int .i64 v.mo, .int .i64 v.id, .int .i64 v.te, .int .i64 v.de, .int .i64 v.fe, .int .i64 v.pr, .int .i64 v.ch, .int .i64 v.un, .int .i64 v.tg, .int .i64 v.ow, .int .i64 v.bp] _ H4v.out Try.underlying27 rfl (by kernel_rfl) ?_)
      | (refine wp_whole rfl 58 _ rfl (g) rfl 58 cur _ H4c.out Try.underlying58 rfl (by kernel_rfl) ?_)
      | (refine wp_whole rfl 55 _ rfl (ga) rfl 55 #[.int .i64 y.me, .int .i64 y.rv, .int .i64 y.nx, .int .i64 y.mo, .int .i64 y.bo, .int .i64 y.fr, .slice dp dn dc] _ H4a.out Try.underlying55 rfl (by kernel_rfl) ?_)
      | (refine wp_whole rfl 55 _ rfl (gb) rfl 55 #[.int .i64 b.me, .int .i64 b.rv, .int .i64 b.nx, .int .i64 b.mo, .int .i64 b.bo, .int .i64 b.fr, .slice pb lb cb] _ H4be.out Try.underlying55 rfl (by kernel_rfl) ?_)
      | (refine wp_whole rfl 23 _ rfl (gb + 1) rfl 23 #[.int .i64 l.id, .int .i64 l.te, .int .i64 l.de, .int .i64 l.fe, .int .i64 l.pr, .int .i64 l.ch, .int .i64 l.un] _ H4bi.out Try.underlying23 rfl (by kernel_rfl) ?_)
      | fail)
    refine (HN2.out _).mono ?_
    rintro e W9 ⟨rfl, rfl⟩
    exact ⟨rfl, .of H4B.out HSZ.out, .inr ⟨f, [], HNE.out, rfl, ⟨⟨y, sol⟩, by rw [HC.out]; exact .inr ⟨HN5.out, b, l, f, HI.out, .inl ⟨HNE.out, rfl⟩⟩, fun q => absurd q HNE.out⟩⟩⟩
  subst h0
  go_wp2_with (first
    | (refine wp_whole rfl 27 _ rfl (w.heap.size) rfl 27 #[.int .i64 v.kd, .int .i64 v.me, .int .i64 v.mo, .int .i64 v.id, .int .i64 v.te, .int .i64 v.de, .int .i64 v.fe, .int .i64 v.pr, .int .i64 v.ch, .int .i64 v.un, .int .i64 v.tg, .int .i64 v.ow, .int .i64 v.bp] _ H4v.out Try.underlying27 rfl (by kernel_rfl) ?_)
    | (refine wp_whole rfl 58 _ rfl (g) rfl 58 cur _ H4c.out Try.underlying58 rfl (by kernel_rfl) ?_)
    | (refine wp_whole rfl 55 _ rfl (ga) rfl 55 #[.int .i64 y.me, .int .i64 y.rv, .int .i64 y.nx, .int .i64 y.mo, .int .i64 y.bo, .int .i64 y.fr, .slice dp dn dc] _ H4a.out Try.underlying55 rfl (by kernel_rfl) ?_)
    | (refine wp_whole rfl 55 _ rfl (gb) rfl 55 #[.int .i64 b.me, .int .i64 b.rv, .int .i64 b.nx, .int .i64 b.mo, .int .i64 b.bo, .int .i64 b.fr, .slice pb lb cb] _ H4be.out Try.underlying55 rfl (by kernel_rfl) ?_)
    | (refine wp_whole rfl 23 _ rfl (gb + 1) rfl 23 #[.int .i64 l.id, .int .i64 l.te, .int .i64 l.de, .int .i64 l.fe, .int .i64 l.pr, .int .i64 l.ch, .int .i64 l.un] _ H4bi.out Try.underlying23 rfl (by kernel_rfl) ?_)
    | fail)
  refine (HOK.out _).mono ?_
  rintro e W9 ⟨rfl, hw9⟩
  obtain rfl : W3 = W9 := hw9.symm
  have HEQ : Hid ((Op.equalIn 10000 23 (.agg #[.int .i64 l.id, .int .i64 l.te, .int .i64 l.de, .int .i64 l.fe, .int .i64 l.pr, .int .i64 l.ch, .int .i64 l.un]) (.agg #[.int .i64 v.id, .int .i64 v.te, .int .i64 v.de, .int .i64 v.fe, .int .i64 v.pr, .int .i64 v.ch, .int .i64 v.un])).run Try.prog W3 = .ok (decide (l.id = v.id ∧ l.te = v.te ∧ l.de = v.de ∧ l.fe = v.fe ∧ l.pr = v.pr ∧ l.ch = v.ch ∧ l.un = v.un)) W3) := eqBi 9998 l.id l.te l.de l.fe l.pr l.ch l.un v.id v.te v.de v.fe v.pr v.ch v.un W3
  by_cases hq : l = billOf v
  case neg =>
    rw [decide_eq_false (fun q => hq (bill_eq q))] at HEQ
    have HNE : Hid (l ≠ billOf v) := hq
    have HN2 : Hid (∀ W, Calls Try.prog 46 #[.int .i64 8] W fun e w' => e = .panicked (thrown 8) ∧ w' = W) := fun W => insist_no 8 (by decide) W
    clear HNO hq
    have cv0 : W3.cell? ⟨w.heap.size, 0, none⟩ = some (.int .i64 v.kd) := H4v.out.cell 0
    have cv1 : W3.cell? ⟨w.heap.size, 1, none⟩ = some (.int .i64 v.me) := H4v.out.cell 1
    have cv2 : W3.cell? ⟨w.heap.size, 2, none⟩ = some (.int .i64 v.mo) := H4v.out.cell 2
    have cv3 : W3.cell? ⟨w.heap.size, 3, none⟩ = some (.int .i64 v.id) := H4v.out.cell 3
    have cv4 : W3.cell? ⟨w.heap.size, 4, none⟩ = some (.int .i64 v.te) := H4v.out.cell 4
    have cv5 : W3.cell? ⟨w.heap.size, 5, none⟩ = some (.int .i64 v.de) := H4v.out.cell 5
    have cv6 : W3.cell? ⟨w.heap.size, 6, none⟩ = some (.int .i64 v.fe) := H4v.out.cell 6
    have cv7 : W3.cell? ⟨w.heap.size, 7, none⟩ = some (.int .i64 v.pr) := H4v.out.cell 7
    have cv8 : W3.cell? ⟨w.heap.size, 8, none⟩ = some (.int .i64 v.ch) := H4v.out.cell 8
    have cv9 : W3.cell? ⟨w.heap.size, 9, none⟩ = some (.int .i64 v.un) := H4v.out.cell 9
    have cv10 : W3.cell? ⟨w.heap.size, 10, none⟩ = some (.int .i64 v.tg) := H4v.out.cell 10
    have cv11 : W3.cell? ⟨w.heap.size, 11, none⟩ = some (.int .i64 v.ow) := H4v.out.cell 11
    have cv12 : W3.cell? ⟨w.heap.size, 12, none⟩ = some (.int .i64 v.bp) := H4v.out.cell 12
    have cb0 : W3.cell? ⟨gb + 1, 0, none⟩ = some (.int .i64 l.id) := H4bi.out.cell 0
    have cb1 : W3.cell? ⟨gb + 1, 1, none⟩ = some (.int .i64 l.te) := H4bi.out.cell 1
    have cb2 : W3.cell? ⟨gb + 1, 2, none⟩ = some (.int .i64 l.de) := H4bi.out.cell 2
    have cb3 : W3.cell? ⟨gb + 1, 3, none⟩ = some (.int .i64 l.fe) := H4bi.out.cell 3
    have cb4 : W3.cell? ⟨gb + 1, 4, none⟩ = some (.int .i64 l.pr) := H4bi.out.cell 4
    have cb5 : W3.cell? ⟨gb + 1, 5, none⟩ = some (.int .i64 l.ch) := H4bi.out.cell 5
    have cb6 : W3.cell? ⟨gb + 1, 6, none⟩ = some (.int .i64 l.un) := H4bi.out.cell 6
    go_wp2_with (first | (refine wp_neE (by rfl) 23 _ _ _ rfl #[.int .i64 l.id, .int .i64 l.te, .int .i64 l.de, .int .i64 l.fe, .int .i64 l.pr, .int .i64 l.ch, .int .i64 l.un] #[.int .i64 v.id, .int .i64 v.te, .int .i64 v.de, .int .i64 v.fe, .int .i64 v.pr, .int .i64 v.ch, .int .i64 v.un] rfl rfl (by kernel_rfl) false HEQ.out _ rfl ?_) | fail)
    refine (HN2.out _).mono ?_
    rintro e W9 ⟨rfl, rfl⟩
    exact ⟨rfl, .of H4B.out HSZ.out, .inr ⟨8, [], by decide, rfl, ⟨⟨y, sol⟩, by rw [HC.out]; exact .inr ⟨HN5.out, b, l, 0, HI.out, .inr (.inl ⟨rfl, HNE.out, rfl⟩)⟩, fun q => absurd q (by decide)⟩⟩⟩
  rw [decide_eq_true (show l.id = v.id ∧ l.te = v.te ∧ l.de = v.de ∧ l.fe = v.fe ∧ l.pr = v.pr ∧ l.ch = v.ch ∧ l.un = v.un by subst hq; exact ⟨rfl, rfl, rfl, rfl, rfl, rfl, rfl⟩)] at HEQ
  have HLB : Hid (l = billOf v) := hq
  clear hq HNO HOK
  have cv0 : W3.cell? ⟨w.heap.size, 0, none⟩ = some (.int .i64 v.kd) := H4v.out.cell 0
  have cv1 : W3.cell? ⟨w.heap.size, 1, none⟩ = some (.int .i64 v.me) := H4v.out.cell 1
  have cv2 : W3.cell? ⟨w.heap.size, 2, none⟩ = some (.int .i64 v.mo) := H4v.out.cell 2
  have cv3 : W3.cell? ⟨w.heap.size, 3, none⟩ = some (.int .i64 v.id) := H4v.out.cell 3
  have cv4 : W3.cell? ⟨w.heap.size, 4, none⟩ = some (.int .i64 v.te) := H4v.out.cell 4
  have cv5 : W3.cell? ⟨w.heap.size, 5, none⟩ = some (.int .i64 v.de) := H4v.out.cell 5
  have cv6 : W3.cell? ⟨w.heap.size, 6, none⟩ = some (.int .i64 v.fe) := H4v.out.cell 6
  have cv7 : W3.cell? ⟨w.heap.size, 7, none⟩ = some (.int .i64 v.pr) := H4v.out.cell 7
  have cv8 : W3.cell? ⟨w.heap.size, 8, none⟩ = some (.int .i64 v.ch) := H4v.out.cell 8
  have cv9 : W3.cell? ⟨w.heap.size, 9, none⟩ = some (.int .i64 v.un) := H4v.out.cell 9
  have cv10 : W3.cell? ⟨w.heap.size, 10, none⟩ = some (.int .i64 v.tg) := H4v.out.cell 10
  have cv11 : W3.cell? ⟨w.heap.size, 11, none⟩ = some (.int .i64 v.ow) := H4v.out.cell 11
  have cv12 : W3.cell? ⟨w.heap.size, 12, none⟩ = some (.int .i64 v.bp) := H4v.out.cell 12
  have cb0 : W3.cell? ⟨gb + 1, 0, none⟩ = some (.int .i64 l.id) := H4bi.out.cell 0
  have cb1 : W3.cell? ⟨gb + 1, 1, none⟩ = some (.int .i64 l.te) := H4bi.out.cell 1
  have cb2 : W3.cell? ⟨gb + 1, 2, none⟩ = some (.int .i64 l.de) := H4bi.out.cell 2
  have cb3 : W3.cell? ⟨gb + 1, 3, none⟩ = some (.int .i64 l.fe) := H4bi.out.cell 3
  have cb4 : W3.cell? ⟨gb + 1, 4, none⟩ = some (.int .i64 l.pr) := H4bi.out.cell 4
  have cb5 : W3.cell? ⟨gb + 1, 5, none⟩ = some (.int .i64 l.ch) := H4bi.out.cell 5
  have cb6 : W3.cell? ⟨gb + 1, 6, none⟩ = some (.int .i64 l.un) := H4bi.out.cell 6
  have ca0 : W3.cell? ⟨ga, 0, none⟩ = some (.int .i64 y.me) := H4a.out.cell 0
  have ca1 : W3.cell? ⟨ga, 1, none⟩ = some (.int .i64 y.rv) := H4a.out.cell 1
  have ca2 : W3.cell? ⟨ga, 2, none⟩ = some (.int .i64 y.nx) := H4a.out.cell 2
  have ca3 : W3.cell? ⟨ga, 3, none⟩ = some (.int .i64 y.mo) := H4a.out.cell 3
  have ca4 : W3.cell? ⟨ga, 4, none⟩ = some (.int .i64 y.bo) := H4a.out.cell 4
  have ca5 : W3.cell? ⟨ga, 5, none⟩ = some (.int .i64 y.fr) := H4a.out.cell 5
  have ca6 : W3.cell? ⟨ga, 6, none⟩ = some (.slice dp dn dc) := H4a.out.cell 6
  have HSI : Hid (l.id = v.id ∧ l.un = v.un) := by show _ ∧ _; rw [HLB.out]; exact ⟨rfl, rfl⟩
  go_upto_region 6 with (first | (refine wp_neE (by rfl) 23 _ _ _ rfl #[.int .i64 l.id, .int .i64 l.te, .int .i64 l.de, .int .i64 l.fe, .int .i64 l.pr, .int .i64 l.ch, .int .i64 l.un] #[.int .i64 v.id, .int .i64 v.te, .int .i64 v.de, .int .i64 v.fe, .int .i64 v.pr, .int .i64 v.ch, .int .i64 v.un] rfl rfl (by kernel_rfl) true HEQ.out _ rfl ?_) | fail)
  clear HEQ
  have HF4 : Hid (deb.Fresh (W3.alloc (.cells #[.int .i64 l.id, .int .i64 0, .int .i64 l.un, .int .i64 v.tg, .int .i64 y.rv] 103)) W1.heap.size pb lb cb b.ds) := HF3.out.below ((Below.refl _ _).alloc (Nat.le_refl _) _)
  have H5v : Hid (Blk (W3.alloc (.cells #[.int .i64 l.id, .int .i64 0, .int .i64 l.un, .int .i64 v.tg, .int .i64 y.rv] 103)) (w.heap.size) #[.int .i64 v.kd, .int .i64 v.me, .int .i64 v.mo, .int .i64 v.id, .int .i64 v.te, .int .i64 v.de, .int .i64 v.fe, .int .i64 v.pr, .int .i64 v.ch, .int .i64 v.un, .int .i64 v.tg, .int .i64 v.ow, .int .i64 v.bp] 27) := (H4v.out.alloc _)
  have H5c : Hid (Blk (W3.alloc (.cells #[.int .i64 l.id, .int .i64 0, .int .i64 l.un, .int .i64 v.tg, .int .i64 y.rv] 103)) (g) cur 58) := (H4c.out.alloc _)
  have H5a : Hid (Blk (W3.alloc (.cells #[.int .i64 l.id, .int .i64 0, .int .i64 l.un, .int .i64 v.tg, .int .i64 y.rv] 103)) (ga) #[.int .i64 y.me, .int .i64 y.rv, .int .i64 y.nx, .int .i64 y.mo, .int .i64 y.bo, .int .i64 y.fr, .slice dp dn dc] 55) := (H4a.out.alloc _)
  have H5be : Hid (Blk (W3.alloc (.cells #[.int .i64 l.id, .int .i64 0, .int .i64 l.un, .int .i64 v.tg, .int .i64 y.rv] 103)) (gb) #[.int .i64 b.me, .int .i64 b.rv, .int .i64 b.nx, .int .i64 b.mo, .int .i64 b.bo, .int .i64 b.fr, .slice pb lb cb] 55) := (H4be.out.alloc _)
  have H5bi : Hid (Blk (W3.alloc (.cells #[.int .i64 l.id, .int .i64 0, .int .i64 l.un, .int .i64 v.tg, .int .i64 y.rv] 103)) (gb + 1) #[.int .i64 l.id, .int .i64 l.te, .int .i64 l.de, .int .i64 l.fe, .int .i64 l.pr, .int .i64 l.ch, .int .i64 l.un] 23) := (H4bi.out.alloc _)
  have H5so : Hid (Blk (W3.alloc (.cells #[.int .i64 l.id, .int .i64 0, .int .i64 l.un, .int .i64 v.tg, .int .i64 y.rv] 103)) (W3.heap.size) #[.int .i64 l.id, .int .i64 0, .int .i64 l.un, .int .i64 v.tg, .int .i64 y.rv] 103) := Blk.new _ _ _
  have H5B : Hid (Below w.heap.size w (W3.alloc (.cells #[.int .i64 l.id, .int .i64 0, .int .i64 l.un, .int .i64 v.tg, .int .i64 y.rv] 103))) := H4B.out.alloc H4B.out.size _
  have hlW4 : W3.heap.size < (W3.alloc (.cells #[.int .i64 l.id, .int .i64 0, .int .i64 l.un, .int .i64 v.tg, .int .i64 y.rv] 103)).heap.size := H5so.out.lt
  go_upto_region 7 with fail
  clear H4v H4c H4a H4be H4bi H4B
  generalize (W3.alloc (.cells #[.int .i64 l.id, .int .i64 0, .int .i64 l.un, .int .i64 v.tg, .int .i64 y.rv] 103)) = W4 at *
  clear HF3 cv0 cv1 cv2 cv3 cv4 cv5 cv6 cv7 cv8 cv9 cv10 cv11 cv12 cb0 cb1 cb2 cb3 cb4 cb5 cb6 ca0 ca1 ca2 ca3 ca4 ca5 ca6
  generalize W3.heap.size = gs at *
  have c0 : W4.cell? ⟨w.heap.size, 0, none⟩ = some (.int .i64 v.kd) := H5v.out.cell 0
  by_cases k4 : v.kd = 4
  case neg =>
    have q4 : (v.kd == 4) = false := by simpa using k4
    have HK4 : Hid (¬ v.kd = 4) := k4
    clear k4
    have HF4x : Hid (deb.Fresh W4 W1.heap.size pb lb cb b.ds) := HF4.out
    clear HF4
    go_wp2_with (first
      | (refine wp_let rfl 55 _ _ rfl g O rfl (.agg #[.int .i64 b.me, .int .i64 b.rv, .int .i64 b.nx, .int .i64 b.mo, .int .i64 b.bo, .int .i64 b.fr, .slice pb lb cb]) rfl #[.int .i64 b.me, .int .i64 b.rv, .int .i64 b.nx, .int .i64 b.mo, .int .i64 b.bo, .int .i64 b.fr, .slice pb lb cb] rfl (by kernel_rfl) (by simp [Value.oneCell']) cur 58 H5c.out (by have := HCS.out; simp; omega) (putAll cur O [.int .i64 b.me, .int .i64 b.rv, .int .i64 b.nx, .int .i64 b.mo, .int .i64 b.bo, .int .i64 b.fr, .slice pb lb cb]) rfl ?_)
      | (refine wp_whole rfl 27 _ rfl (w.heap.size) rfl 27 #[.int .i64 v.kd, .int .i64 v.me, .int .i64 v.mo, .int .i64 v.id, .int .i64 v.te, .int .i64 v.de, .int .i64 v.fe, .int .i64 v.pr, .int .i64 v.ch, .int .i64 v.un, .int .i64 v.tg, .int .i64 v.ow, .int .i64 v.bp] _ H5v.out Try.underlying27 rfl (by kernel_rfl) ?_)
      | (refine wp_whole rfl 58 _ rfl (g) rfl 58 cur _ H5c.out Try.underlying58 rfl (by kernel_rfl) ?_)
      | (refine wp_whole rfl 55 _ rfl (ga) rfl 55 #[.int .i64 y.me, .int .i64 y.rv, .int .i64 y.nx, .int .i64 y.mo, .int .i64 y.bo, .int .i64 y.fr, .slice dp dn dc] _ H5a.out Try.underlying55 rfl (by kernel_rfl) ?_)
      | (refine wp_whole rfl 55 _ rfl (gb) rfl 55 #[.int .i64 b.me, .int .i64 b.rv, .int .i64 b.nx, .int .i64 b.mo, .int .i64 b.bo, .int .i64 b.fr, .slice pb lb cb] _ H5be.out Try.underlying55 rfl (by kernel_rfl) ?_)
      | (refine wp_whole rfl 23 _ rfl (gb + 1) rfl 23 #[.int .i64 l.id, .int .i64 l.te, .int .i64 l.de, .int .i64 l.fe, .int .i64 l.pr, .int .i64 l.ch, .int .i64 l.un] _ H5bi.out Try.underlying23 rfl (by kernel_rfl) ?_)
      | (refine wp_whole rfl 103 _ rfl (gs) rfl 103 #[.int .i64 l.id, .int .i64 0, .int .i64 l.un, .int .i64 v.tg, .int .i64 y.rv] _ H5so.out Try.underlying103 rfl (by kernel_rfl) ?_)
      | fail)
    intro W5 hU
    have HU5 : Hid (Upd W4 W5 g (putAll cur O [.int .i64 b.me, .int .i64 b.rv, .int .i64 b.nx, .int .i64 b.mo, .int .i64 b.bo, .int .i64 b.fr, .slice pb lb cb]) 58) := hU
    have H5c : Hid (Blk W5 g (putAll cur O [.int .i64 b.me, .int .i64 b.rv, .int .i64 b.nx, .int .i64 b.mo, .int .i64 b.bo, .int .i64 b.fr, .slice pb lb cb]) 58) := hU.blk
    have H5so : Hid (Blk W5 gs #[.int .i64 l.id, .int .i64 0, .int .i64 l.un, .int .i64 v.tg, .int .i64 y.rv] 103) := hU.keep H5so.out (by omega)
    have hs5 : W5.heap.size = W4.heap.size := hU.size
    have HX5 : Hid (Below w.heap.size w W4) := H5B.out
    have H5l : Hid (Lo W5 base (.slice sp sn sc) sol) := lo_upd (HH.out.so.next HX5.out) hU (fun i hi => (HOI.out i hi).2.2)
    have H5f : Hid (tar.Came W5 pb lb cb b.ds) := acc_upd HF4x.out.came hU (fun hn p hp => by have := HF4x.out.new hn p hp; omega)
    have HFN : Hid (0 < lb → ∀ p, pb = some p → W1.heap.size ≤ p.block ∧ p.block < gb) := fun hn p hp => ⟨HF4x.out.new hn p hp, HFU.out hn p hp⟩
    have HS5 : Hid (base ≤ W5.heap.size) := by show _ ≤ _; rw [hs5]; exact Nat.le_trans HSZ.out HX5.out.size
    have HSS : Hid (W4.heap.size = W5.heap.size) := hs5.symm
    clear hU
    go_wp2_with fail
    refine wp_region_held_drew (S := fun u => Blk u gs #[.int .i64 l.id, .int .i64 0, .int .i64 l.un, .int .i64 v.tg, .int .i64 y.rv] 103) (by kernel_rfl) (show _ from Blk.drew H5so.out 1) (fun hHeld => ?_)
    have q7 : W5.drew.cell? ⟨g, O + 7, none⟩ = some (.slice sp sn sc) := by
      rw [show W5.drew.cell? ⟨g, O + 7, none⟩ = W5.cell? ⟨g, O + 7, none⟩ from rfl, H5c.out.cell (O + 7), putAll_get _ _ _ _ (by have := HCS.out; simp; omega), if_neg (by simp only [List.length_cons, List.length_nil]; omega)]
      exact HC7.out
    have G0 : Hid (Blk W5.drew g (putAll cur O [.int .i64 b.me, .int .i64 b.rv, .int .i64 b.nx, .int .i64 b.mo, .int .i64 b.bo, .int .i64 b.fr, .slice pb lb cb]) 58) := H5c.out
    have G1 : Hid (Blk W5.drew gs #[.int .i64 l.id, .int .i64 0, .int .i64 l.un, .int .i64 v.tg, .int .i64 y.rv] 103) := H5so.out
    have G2 : Hid (Lo W5.drew base (.slice sp sn sc) sol) := H5l.out.next (Below.refl _ _).drew
    have G3 : Hid (tar.Came W5.drew pb lb cb b.ds) := H5f.out.below (Below.refl _ _).drew
    have G4 : Hid (∀ i, i ≠ g → W5.drew.heap[i]? = W4.heap[i]?) := fun i hi => HU5.out.oth i hi
    have G5 : Hid (W5.drew.os = w.os ∧ W5.drew.tape = w.tape ∧ W5.drew.output = w.output) := by have hb := (HU5.out.bel 0 w (Nat.zero_le _) (HX5.out.mono (Nat.zero_le _))); exact ⟨hb.os, hb.tape, hb.output⟩
    have G6 : Hid (base ≤ W5.drew.heap.size) := HS5.out
    have G7 : Hid (W4.heap.size = W5.drew.heap.size) := HSS.out
    clear H5c H5so H5l H5f HU5 HS5 HSS hs5
    generalize W5.drew = U at *
    refine take_at 0 50 (.pointer (some ⟨g, O, none⟩)) _ rfl rfl (by kernel_rfl) (by kernel_rfl) (by kernel_rfl) (fun _ _ _ h => h) (Or.inl ⟨by rfl, fun v hv => by skip; clear hv; go_simp⟩) hHeld ?_
    simp only [Act.put, List.setIfInBounds_toArray, List.set_cons_zero, List.set_cons_succ]
    refine take_at 1 51 (.pointer (some ⟨g, O, none⟩)) _ rfl rfl (by kernel_rfl) (by kernel_rfl) (by kernel_rfl) (fun _ _ _ h => h) (Or.inl ⟨by rfl, fun v hv => by skip; clear hv; go_simp⟩) hHeld ?_
    simp only [Act.put, List.setIfInBounds_toArray, List.set_cons_zero, List.set_cons_succ]
    refine take_at 2 52 (.pointer (some ⟨g, O, none⟩)) _ rfl rfl (by kernel_rfl) (by kernel_rfl) (by kernel_rfl) (fun _ _ _ h => h) (Or.inl ⟨by rfl, fun v hv => by skip; clear hv; go_simp⟩) hHeld ?_
    simp only [Act.put, List.setIfInBounds_toArray, List.set_cons_zero, List.set_cons_succ]
    refine take_at 3 53 (.pointer (some ⟨g, O + 7, none⟩)) _ rfl rfl (by kernel_rfl) (by kernel_rfl) (by kernel_rfl) (fun _ _ _ h => h) (Or.inl ⟨by rfl, fun v hv => by skip; clear hv; go_simp⟩) hHeld ?_
    simp only [Act.put, List.setIfInBounds_toArray, List.set_cons_zero, List.set_cons_succ]
    refine take_at 5 55 (.agg #[.int .i64 l.id, .int .i64 0, .int .i64 l.un, .int .i64 v.tg, .int .i64 y.rv]) _ rfl rfl (by kernel_rfl) (by kernel_rfl) (by kernel_rfl) (fun _ _ _ h => h) (Or.inl ⟨by rfl, fun v hv => by have g0 := hv.cell 0; have g1 := hv.cell 1; have g2 := hv.cell 2; have g3 := hv.cell 3; have g4 := hv.cell 4; clear hv; go_simp⟩) hHeld ?_
    simp only [Act.put, List.setIfInBounds_toArray, List.set_cons_zero, List.set_cons_succ]
    refine wpAnyH_ready (rs := [4, 6]) (by kernel_rfl) (by simp) (AllReadyH.cons rfl (fun K hK => ?_) (AllReadyH.cons rfl (fun K hK => ?_) AllReadyH.nil))
    · rw [if_pos (by rfl)]
      refine wp_runOp (v := .slice sp sn sc) (w' := U) 54 rfl (by clear hK; go_simp) ?_
      refine hK.out _ _ G1.out (fun hHeld => ?_)
      clear hK K
      simp only [Act.put, List.setIfInBounds_toArray, List.set_cons_zero, List.set_cons_succ]
      refine wpAnyH_ready (rs := [6]) (by kernel_rfl) (by simp) (AllReadyH.cons rfl (fun K hK => ?_) AllReadyH.nil)
      rw [if_pos (by rfl)]
      refine wp_runOp (v := .slice (some ⟨U.heap.size, 0, none⟩) 1 1) (w' := (U.alloc (.cells #[.int .i64 l.id, .int .i64 0, .int .i64 l.un, .int .i64 v.tg, .int .i64 y.rv] 103))) 56 rfl (by clear hK; go_simp) ?_
      refine hK.out _ _ (G1.out.alloc _) (fun hHeld => ?_)
      clear hK K q7
      simp only [Act.put, List.setIfInBounds_toArray, List.set_cons_zero, List.set_cons_succ]
      have J0 : Hid (Blk (U.alloc (.cells #[.int .i64 l.id, .int .i64 0, .int .i64 l.un, .int .i64 v.tg, .int .i64 y.rv] 103)) g (putAll cur O [.int .i64 b.me, .int .i64 b.rv, .int .i64 b.nx, .int .i64 b.mo, .int .i64 b.bo, .int .i64 b.fr, .slice pb lb cb]) 58) := G0.out.alloc _
      have J1 : Hid (Blk (U.alloc (.cells #[.int .i64 l.id, .int .i64 0, .int .i64 l.un, .int .i64 v.tg, .int .i64 y.rv] 103)) gs #[.int .i64 l.id, .int .i64 0, .int .i64 l.un, .int .i64 v.tg, .int .i64 y.rv] 103) := G1.out.alloc _
      have J2 : Hid (Lo (U.alloc (.cells #[.int .i64 l.id, .int .i64 0, .int .i64 l.un, .int .i64 v.tg, .int .i64 y.rv] 103)) base (.slice sp sn sc) sol) := G2.out.alloc _
      have J3 : Hid (tar.Came (U.alloc (.cells #[.int .i64 l.id, .int .i64 0, .int .i64 l.un, .int .i64 v.tg, .int .i64 y.rv] 103)) pb lb cb b.ds) := G3.out.below ((Below.refl _ _).alloc (Nat.le_refl _) _)
      have J4 : Hid (∀ i, i ≠ g → i < W4.heap.size → (U.alloc (.cells #[.int .i64 l.id, .int .i64 0, .int .i64 l.un, .int .i64 v.tg, .int .i64 y.rv] 103)).heap[i]? = W4.heap[i]?) := fun i hi hl => by rw [← G4.out i hi]; exact ((Below.refl U.heap.size U).alloc (Nat.le_refl _) _).block i (by rw [← G7.out]; exact hl)
      have J5 : Hid ((U.alloc (.cells #[.int .i64 l.id, .int .i64 0, .int .i64 l.un, .int .i64 v.tg, .int .i64 y.rv] 103)).os = w.os ∧ (U.alloc (.cells #[.int .i64 l.id, .int .i64 0, .int .i64 l.un, .int .i64 v.tg, .int .i64 y.rv] 103)).tape = w.tape ∧ (U.alloc (.cells #[.int .i64 l.id, .int .i64 0, .int .i64 l.un, .int .i64 v.tg, .int .i64 y.rv] 103)).output = w.output) := G5.out
      have J6 : Hid (base ≤ (U.alloc (.cells #[.int .i64 l.id, .int .i64 0, .int .i64 l.un, .int .i64 v.tg, .int .i64 y.rv] 103)).heap.size ∧ W4.heap.size ≤ (U.alloc (.cells #[.int .i64 l.id, .int .i64 0, .int .i64 l.un, .int .i64 v.tg, .int .i64 y.rv] 103)).heap.size) := by show _ ∧ _; have h1 := G6.out; have h2 := G7.out; simp; omega
      have J8 : Hid (Blk (U.alloc (.cells #[.int .i64 l.id, .int .i64 0, .int .i64 l.un, .int .i64 v.tg, .int .i64 y.rv] 103)) U.heap.size #[.int .i64 l.id, .int .i64 0, .int .i64 l.un, .int .i64 v.tg, .int .i64 y.rv] 103) := Blk.new _ _ _
      clear G0 G1 G2 G3 G4 G5 G6 G7
      generalize U.heap.size = gn at *
      generalize (U.alloc (.cells #[.int .i64 l.id, .int .i64 0, .int .i64 l.un, .int .i64 v.tg, .int .i64 y.rv] 103)) = U2 at *
      refine wpAnyH_ready (rs := [7]) (by kernel_rfl) (by simp) (AllReadyH.cons rfl (fun K hK => ?_) AllReadyH.nil)
      rw [if_pos (by rfl)]
      refine step_sold 57 rfl _ _ rfl base gn _ sol (⟨l.id, 0, l.un, v.tg, y.rv⟩ : So) rfl rfl J2.out J8.out (by have := HSL.out; omega) J6.out.1 ?_
      intro v3 w9 h3 hg3 ho3
      obtain ⟨p3, c3, rfl, _, _, _⟩ := h3.row
      have L0 : Hid (Blk w9 g (putAll cur O [.int .i64 b.me, .int .i64 b.rv, .int .i64 b.nx, .int .i64 b.mo, .int .i64 b.bo, .int .i64 b.fr, .slice pb lb cb]) 58) := blk_kept J0.out hg3 (fun q => (HOI.out g q.symm).2.2 rfl)
      have L1 : Hid (Blk w9 gs #[.int .i64 l.id, .int .i64 0, .int .i64 l.un, .int .i64 v.tg, .int .i64 y.rv] 103) := blk_kept J1.out hg3 (fun q => by have := (HOI.out gs q.symm).1; omega)
      have L2 : Hid (Lo w9 base (.slice p3 (sol ++ [(⟨l.id, 0, l.un, v.tg, y.rv⟩ : So)]).length c3) (sol ++ [(⟨l.id, 0, l.un, v.tg, y.rv⟩ : So)])) := h3
      have L3 : Hid (tar.Came w9 pb lb cb b.ds) := came_grown J3.out hg3 (fun hn p hp q => by have h1 := (HFN.out hn p hp).1; have h2 := (HOI.out _ q.symm).1; omega)
      have L4 : Hid (∀ i, i ≠ g → (Value.slice sp sn sc).ownBlock ≠ some i → i < w.heap.size → w9.heap[i]? = w.heap[i]?) := fun i h1 h2 h3 => by rw [hg3.block i (by have := J6.out; have := HX5.out.size; omega) (fun q => h2 q.symm), J4.out i h1 (by have := HX5.out.size; omega), HX5.out.block i h3]
      have L5 : Hid (w9.os = w.os ∧ w9.tape = w.tape ∧ w9.output = w.output) := ⟨hg3.os.trans J5.out.1, hg3.tape.trans J5.out.2.1, hg3.output.trans J5.out.2.2⟩
      have L6 : Hid (w.heap.size ≤ U2.heap.size ∧ U2.heap.size ≤ w9.heap.size) := ⟨by have := J6.out; have := HX5.out.size; omega, hg3.size⟩
      have L7 : Hid ((Value.slice p3 (sol ++ [(⟨l.id, 0, l.un, v.tg, y.rv⟩ : So)]).length c3).ownBlock = (Value.slice sp sn sc).ownBlock ∨ (Value.slice p3 (sol ++ [(⟨l.id, 0, l.un, v.tg, y.rv⟩ : So)]).length c3).ownBlock = some U2.heap.size) := ho3
      have LFU : Hid (0 < lb → ∀ p, pb = some p → p.block < U2.heap.size) := came_lt J3.out
      refine hK.out _ _ L1.out (fun hHeld => ?_)
      clear hK K h3 hg3 ho3 J0 J1 J2 J3 J4 J5 J6 J8
      simp only [Act.put, List.setIfInBounds_toArray, List.set_cons_zero, List.set_cons_succ]
      generalize (sol ++ [(⟨l.id, 0, l.un, v.tg, y.rv⟩ : So)]).length = n3 at *
      refine take_at 8 58 (.pointer (some ⟨g, O, none⟩)) _ rfl rfl (by kernel_rfl) (by kernel_rfl) (by kernel_rfl) (fun _ _ _ h => h) (Or.inl ⟨by rfl, fun v hv => by skip; clear hv; go_simp⟩) hHeld ?_
      simp only [Act.put, List.setIfInBounds_toArray, List.set_cons_zero, List.set_cons_succ]
      refine take_at 9 59 (.pointer (some ⟨g, O + 7, none⟩)) _ rfl rfl (by kernel_rfl) (by kernel_rfl) (by kernel_rfl) (fun _ _ _ h => h) (Or.inl ⟨by rfl, fun v hv => by skip; clear hv; go_simp⟩) hHeld ?_
      simp only [Act.put, List.setIfInBounds_toArray, List.set_cons_zero, List.set_cons_succ]
      refine wpAnyH_ready (rs := [10]) (by kernel_rfl) (by simp) (AllReadyH.cons rfl (fun K hK => ?_) AllReadyH.nil)
      rw [if_pos (by rfl)]
      refine acc.wp_letOp1 56 _ _ rfl g (O + 7) rfl (.slice p3 n3 c3) rfl rfl (by kernel_rfl) rfl (putAll cur O [.int .i64 b.me, .int .i64 b.rv, .int .i64 b.nx, .int .i64 b.mo, .int .i64 b.bo, .int .i64 b.fr, .slice pb lb cb]) 58 L0.out (by rw [putAll_size]; have := HCS.out; omega) rfl ?_
      intro WF hU
      have M1 : Hid (Blk WF gs #[.int .i64 l.id, .int .i64 0, .int .i64 l.un, .int .i64 v.tg, .int .i64 y.rv] 103) := hU.keep L1.out (by omega)
      have MF : Hid (WPost w0 base gW B t pt lt ct (HapR t bk k v) w (.returned (.tuple #[])) WF) := by
        have hb := hU.bel 0 w9 (Nat.zero_le _) (Below.refl _ _)
        have hO : ∀ i, i < w.heap.size → i ≠ g → (Value.slice sp sn sc).ownBlock ≠ some i → WF.heap[i]? = w.heap[i]? := fun i h1 h2 h3 => by rw [hU.oth i h2]; exact L4.out i h2 h3 h1
        have hos : WF.os = w.os ∧ WF.tape = w.tape ∧ WF.output = w.output := ⟨hb.os.trans L5.out.1, hb.tape.trans L5.out.2.1, hb.output.trans L5.out.2.2⟩
        have hsz : w.heap.size ≤ WF.heap.size := by rw [hU.size]; exact Nat.le_trans L6.out.1 L6.out.2
        have hso : (⟨l.id, 0, l.un, v.tg, y.rv⟩ : So) = soldOf ⟨y, sol⟩ v := by unfold soldOf; rw [if_neg HK4.out]; simp only; rw [HSI.out.1, HSI.out.2]
        have hh : HapIs t ⟨y, sol⟩ v ⟨b, sol ++ [soldOf ⟨y, sol⟩ v]⟩ 0 := .inr ⟨HN5.out, b, l, 0, HI.out, .inr (.inr ⟨rfl, HLB.out, rfl, rfl⟩)⟩
        have hw := hap_wf hh HMA.out
        refine ⟨⟨hos.1, hos.2.1, hos.2.2, hsz, fun i h1 _ _ => hO i (by have := HSZ.out; omega) (by have := HBG.out; omega) (fun q => by have := (HOI.out i q).2.1; omega)⟩, .inl ⟨.slice (some ⟨g, 0, none⟩) n cap, xs.set k ⟨b.me, b.rv, b.nx, b.mo, b.bo, b.fr, pb, lb, cb, p3, n3, c3⟩, bk.set k ⟨b, sol ++ [soldOf ⟨y, sol⟩ v]⟩, rfl, ⟨⟨b, sol ++ [soldOf ⟨y, sol⟩ v]⟩, by rw [HC.out]; exact hh, fun _ => rfl⟩, fun hsm => ?_⟩⟩
        refine put_wr HR.out HKL.out HX.out HCB.out hO hsz hos (x' := ⟨b.me, b.rv, b.nx, b.mo, b.bo, b.fr, pb, lb, cb, p3, n3, c3⟩) ⟨⟨rfl, rfl, rfl, rfl, rfl, rfl⟩, ⟨acc_upd L3.out hU (fun hn p hp q => by have := (HFN.out hn p hp).1; omega), fun hn p hp => by have := (HFN.out hn p hp).1; have := HSZ.out; omega⟩, ?_⟩ hw.1 (by rw [HC.out]; exact hw.2) ?_ ?_ ?_ ?_ hsm
        · refine lo_upd (by rw [← hso]; exact L2.out) hU (fun i hi q => ?_)
          rcases L7.out with e1 | e1
          · exact (HOI.out i (e1 ▸ hi)).2.2 q
          · have e2 : some i = some U2.heap.size := hi.symm.trans e1
            injection e2 with e2; have := L6.out; omega
        · intro i hi
          rcases L7.out with e1 | e1
          · exact .inl (e1 ▸ hi)
          · right; have e2 : some i = some U2.heap.size := hi.symm.trans e1; injection e2 with e2; have := L6.out; omega
        · intro hn p hp; have := (HFN.out hn p hp).1; omega
        · intro i hi hn p hp q
          rcases L7.out with e1 | e1
          · have h1 := (HOI.out i (e1 ▸ hi)).1; have h2 := (HFN.out hn p hp).1; omega
          · have e2 : some i = some U2.heap.size := hi.symm.trans e1
            injection e2 with e2; have := LFU.out hn p hp; omega
        · have := hU.blk
          rw [show O + 7 = O + ([.int .i64 b.me, .int .i64 b.rv, .int .i64 b.nx, .int .i64 b.mo, .int .i64 b.bo, .int .i64 b.fr, .slice pb lb cb] : List Value).length from rfl, putAll_more, ← HO.out] at this
          exact this
      refine hK.out _ _ M1.out (fun hHeld => ?_)
      clear hK K hU
      refine wpAnyH_done (by kernel_rfl) ?_ _
      clear hHeld
      go_wp2_with fail
      go_end0
      exact MF.out
    · rw [if_pos (by rfl)]
      refine wp_runOp (v := .slice (some ⟨U.heap.size, 0, none⟩) 1 1) (w' := (U.alloc (.cells #[.int .i64 l.id, .int .i64 0, .int .i64 l.un, .int .i64 v.tg, .int .i64 y.rv] 103))) 56 rfl (by clear hK; go_simp) ?_
      refine hK.out _ _ (G1.out.alloc _) (fun hHeld => ?_)
      clear hK K
      simp only [Act.put, List.setIfInBounds_toArray, List.set_cons_zero, List.set_cons_succ]
      have q8 : (U.alloc (.cells #[.int .i64 l.id, .int .i64 0, .int .i64 l.un, .int .i64 v.tg, .int .i64 y.rv] 103)).cell? ⟨g, O + 7, none⟩ = some (.slice sp sn sc) := (((Below.refl U.heap.size U).alloc (Nat.le_refl _) _).cell (p := ⟨g, O + 7, none⟩) G0.out.lt).trans q7
      clear q7
      refine wpAnyH_ready (rs := [4]) (by kernel_rfl) (by simp) (AllReadyH.cons rfl (fun K hK => ?_) AllReadyH.nil)
      rw [if_pos (by rfl)]
      refine wp_runOp (v := .slice sp sn sc) (w' := (U.alloc (.cells #[.int .i64 l.id, .int .i64 0, .int .i64 l.un, .int .i64 v.tg, .int .i64 y.rv] 103))) 54 rfl (by clear hK; go_simp) ?_
      refine hK.out _ _ (G1.out.alloc _) (fun hHeld => ?_)
      clear hK K q8
      simp only [Act.put, List.setIfInBounds_toArray, List.set_cons_zero, List.set_cons_succ]
      have J0 : Hid (Blk (U.alloc (.cells #[.int .i64 l.id, .int .i64 0, .int .i64 l.un, .int .i64 v.tg, .int .i64 y.rv] 103)) g (putAll cur O [.int .i64 b.me, .int .i64 b.rv, .int .i64 b.nx, .int .i64 b.mo, .int .i64 b.bo, .int .i64 b.fr, .slice pb lb cb]) 58) := G0.out.alloc _
      have J1 : Hid (Blk (U.alloc (.cells #[.int .i64 l.id, .int .i64 0, .int .i64 l.un, .int .i64 v.tg, .int .i64 y.rv] 103)) gs #[.int .i64 l.id, .int .i64 0, .int .i64 l.un, .int .i64 v.tg, .int .i64 y.rv] 103) := G1.out.alloc _
      have J2 : Hid (Lo (U.alloc (.cells #[.int .i64 l.id, .int .i64 0, .int .i64 l.un, .int .i64 v.tg, .int .i64 y.rv] 103)) base (.slice sp sn sc) sol) := G2.out.alloc _
      have J3 : Hid (tar.Came (U.alloc (.cells #[.int .i64 l.id, .int .i64 0, .int .i64 l.un, .int .i64 v.tg, .int .i64 y.rv] 103)) pb lb cb b.ds) := G3.out.below ((Below.refl _ _).alloc (Nat.le_refl _) _)
      have J4 : Hid (∀ i, i ≠ g → i < W4.heap.size → (U.alloc (.cells #[.int .i64 l.id, .int .i64 0, .int .i64 l.un, .int .i64 v.tg, .int .i64 y.rv] 103)).heap[i]? = W4.heap[i]?) := fun i hi hl => by rw [← G4.out i hi]; exact ((Below.refl U.heap.size U).alloc (Nat.le_refl _) _).block i (by rw [← G7.out]; exact hl)
      have J5 : Hid ((U.alloc (.cells #[.int .i64 l.id, .int .i64 0, .int .i64 l.un, .int .i64 v.tg, .int .i64 y.rv] 103)).os = w.os ∧ (U.alloc (.cells #[.int .i64 l.id, .int .i64 0, .int .i64 l.un, .int .i64 v.tg, .int .i64 y.rv] 103)).tape = w.tape ∧ (U.alloc (.cells #[.int .i64 l.id, .int .i64 0, .int .i64 l.un, .int .i64 v.tg, .int .i64 y.rv] 103)).output = w.output) := G5.out
      have J6 : Hid (base ≤ (U.alloc (.cells #[.int .i64 l.id, .int .i64 0, .int .i64 l.un, .int .i64 v.tg, .int .i64 y.rv] 103)).heap.size ∧ W4.heap.size ≤ (U.alloc (.cells #[.int .i64 l.id, .int .i64 0, .int .i64 l.un, .int .i64 v.tg, .int .i64 y.rv] 103)).heap.size) := by show _ ∧ _; have h1 := G6.out; have h2 := G7.out; simp; omega
      have J8 : Hid (Blk (U.alloc (.cells #[.int .i64 l.id, .int .i64 0, .int .i64 l.un, .int .i64 v.tg, .int .i64 y.rv] 103)) U.heap.size #[.int .i64 l.id, .int .i64 0, .int .i64 l.un, .int .i64 v.tg, .int .i64 y.rv] 103) := Blk.new _ _ _
      clear G0 G1 G2 G3 G4 G5 G6 G7
      generalize U.heap.size = gn at *
      generalize (U.alloc (.cells #[.int .i64 l.id, .int .i64 0, .int .i64 l.un, .int .i64 v.tg, .int .i64 y.rv] 103)) = U2 at *
      refine wpAnyH_ready (rs := [7]) (by kernel_rfl) (by simp) (AllReadyH.cons rfl (fun K hK => ?_) AllReadyH.nil)
      rw [if_pos (by rfl)]
      refine step_sold 57 rfl _ _ rfl base gn _ sol (⟨l.id, 0, l.un, v.tg, y.rv⟩ : So) rfl rfl J2.out J8.out (by have := HSL.out; omega) J6.out.1 ?_
      intro v3 w9 h3 hg3 ho3
      obtain ⟨p3, c3, rfl, _, _, _⟩ := h3.row
      have L0 : Hid (Blk w9 g (putAll cur O [.int .i64 b.me, .int .i64 b.rv, .int .i64 b.nx, .int .i64 b.mo, .int .i64 b.bo, .int .i64 b.fr, .slice pb lb cb]) 58) := blk_kept J0.out hg3 (fun q => (HOI.out g q.symm).2.2 rfl)
      have L1 : Hid (Blk w9 gs #[.int .i64 l.id, .int .i64 0, .int .i64 l.un, .int .i64 v.tg, .int .i64 y.rv] 103) := blk_kept J1.out hg3 (fun q => by have := (HOI.out gs q.symm).1; omega)
      have L2 : Hid (Lo w9 base (.slice p3 (sol ++ [(⟨l.id, 0, l.un, v.tg, y.rv⟩ : So)]).length c3) (sol ++ [(⟨l.id, 0, l.un, v.tg, y.rv⟩ : So)])) := h3
      have L3 : Hid (tar.Came w9 pb lb cb b.ds) := came_grown J3.out hg3 (fun hn p hp q => by have h1 := (HFN.out hn p hp).1; have h2 := (HOI.out _ q.symm).1; omega)
      have L4 : Hid (∀ i, i ≠ g → (Value.slice sp sn sc).ownBlock ≠ some i → i < w.heap.size → w9.heap[i]? = w.heap[i]?) := fun i h1 h2 h3 => by rw [hg3.block i (by have := J6.out; have := HX5.out.size; omega) (fun q => h2 q.symm), J4.out i h1 (by have := HX5.out.size; omega), HX5.out.block i h3]
      have L5 : Hid (w9.os = w.os ∧ w9.tape = w.tape ∧ w9.output = w.output) := ⟨hg3.os.trans J5.out.1, hg3.tape.trans J5.out.2.1, hg3.output.trans J5.out.2.2⟩
      have L6 : Hid (w.heap.size ≤ U2.heap.size ∧ U2.heap.size ≤ w9.heap.size) := ⟨by have := J6.out; have := HX5.out.size; omega, hg3.size⟩
      have L7 : Hid ((Value.slice p3 (sol ++ [(⟨l.id, 0, l.un, v.tg, y.rv⟩ : So)]).length c3).ownBlock = (Value.slice sp sn sc).ownBlock ∨ (Value.slice p3 (sol ++ [(⟨l.id, 0, l.un, v.tg, y.rv⟩ : So)]).length c3).ownBlock = some U2.heap.size) := ho3
      have LFU : Hid (0 < lb → ∀ p, pb = some p → p.block < U2.heap.size) := came_lt J3.out
      refine hK.out _ _ L1.out (fun hHeld => ?_)
      clear hK K h3 hg3 ho3 J0 J1 J2 J3 J4 J5 J6 J8
      simp only [Act.put, List.setIfInBounds_toArray, List.set_cons_zero, List.set_cons_succ]
      generalize (sol ++ [(⟨l.id, 0, l.un, v.tg, y.rv⟩ : So)]).length = n3 at *
      refine take_at 8 58 (.pointer (some ⟨g, O, none⟩)) _ rfl rfl (by kernel_rfl) (by kernel_rfl) (by kernel_rfl) (fun _ _ _ h => h) (Or.inl ⟨by rfl, fun v hv => by skip; clear hv; go_simp⟩) hHeld ?_
      simp only [Act.put, List.setIfInBounds_toArray, List.set_cons_zero, List.set_cons_succ]
      refine take_at 9 59 (.pointer (some ⟨g, O + 7, none⟩)) _ rfl rfl (by kernel_rfl) (by kernel_rfl) (by kernel_rfl) (fun _ _ _ h => h) (Or.inl ⟨by rfl, fun v hv => by skip; clear hv; go_simp⟩) hHeld ?_
      simp only [Act.put, List.setIfInBounds_toArray, List.set_cons_zero, List.set_cons_succ]
      refine wpAnyH_ready (rs := [10]) (by kernel_rfl) (by simp) (AllReadyH.cons rfl (fun K hK => ?_) AllReadyH.nil)
      rw [if_pos (by rfl)]
      refine acc.wp_letOp1 56 _ _ rfl g (O + 7) rfl (.slice p3 n3 c3) rfl rfl (by kernel_rfl) rfl (putAll cur O [.int .i64 b.me, .int .i64 b.rv, .int .i64 b.nx, .int .i64 b.mo, .int .i64 b.bo, .int .i64 b.fr, .slice pb lb cb]) 58 L0.out (by rw [putAll_size]; have := HCS.out; omega) rfl ?_
      intro WF hU
      have M1 : Hid (Blk WF gs #[.int .i64 l.id, .int .i64 0, .int .i64 l.un, .int .i64 v.tg, .int .i64 y.rv] 103) := hU.keep L1.out (by omega)
      have MF : Hid (WPost w0 base gW B t pt lt ct (HapR t bk k v) w (.returned (.tuple #[])) WF) := by
        have hb := hU.bel 0 w9 (Nat.zero_le _) (Below.refl _ _)
        have hO : ∀ i, i < w.heap.size → i ≠ g → (Value.slice sp sn sc).ownBlock ≠ some i → WF.heap[i]? = w.heap[i]? := fun i h1 h2 h3 => by rw [hU.oth i h2]; exact L4.out i h2 h3 h1
        have hos : WF.os = w.os ∧ WF.tape = w.tape ∧ WF.output = w.output := ⟨hb.os.trans L5.out.1, hb.tape.trans L5.out.2.1, hb.output.trans L5.out.2.2⟩
        have hsz : w.heap.size ≤ WF.heap.size := by rw [hU.size]; exact Nat.le_trans L6.out.1 L6.out.2
        have hso : (⟨l.id, 0, l.un, v.tg, y.rv⟩ : So) = soldOf ⟨y, sol⟩ v := by unfold soldOf; rw [if_neg HK4.out]; simp only; rw [HSI.out.1, HSI.out.2]
        have hh : HapIs t ⟨y, sol⟩ v ⟨b, sol ++ [soldOf ⟨y, sol⟩ v]⟩ 0 := .inr ⟨HN5.out, b, l, 0, HI.out, .inr (.inr ⟨rfl, HLB.out, rfl, rfl⟩)⟩
        have hw := hap_wf hh HMA.out
        refine ⟨⟨hos.1, hos.2.1, hos.2.2, hsz, fun i h1 _ _ => hO i (by have := HSZ.out; omega) (by have := HBG.out; omega) (fun q => by have := (HOI.out i q).2.1; omega)⟩, .inl ⟨.slice (some ⟨g, 0, none⟩) n cap, xs.set k ⟨b.me, b.rv, b.nx, b.mo, b.bo, b.fr, pb, lb, cb, p3, n3, c3⟩, bk.set k ⟨b, sol ++ [soldOf ⟨y, sol⟩ v]⟩, rfl, ⟨⟨b, sol ++ [soldOf ⟨y, sol⟩ v]⟩, by rw [HC.out]; exact hh, fun _ => rfl⟩, fun hsm => ?_⟩⟩
        refine put_wr HR.out HKL.out HX.out HCB.out hO hsz hos (x' := ⟨b.me, b.rv, b.nx, b.mo, b.bo, b.fr, pb, lb, cb, p3, n3, c3⟩) ⟨⟨rfl, rfl, rfl, rfl, rfl, rfl⟩, ⟨acc_upd L3.out hU (fun hn p hp q => by have := (HFN.out hn p hp).1; omega), fun hn p hp => by have := (HFN.out hn p hp).1; have := HSZ.out; omega⟩, ?_⟩ hw.1 (by rw [HC.out]; exact hw.2) ?_ ?_ ?_ ?_ hsm
        · refine lo_upd (by rw [← hso]; exact L2.out) hU (fun i hi q => ?_)
          rcases L7.out with e1 | e1
          · exact (HOI.out i (e1 ▸ hi)).2.2 q
          · have e2 : some i = some U2.heap.size := hi.symm.trans e1
            injection e2 with e2; have := L6.out; omega
        · intro i hi
          rcases L7.out with e1 | e1
          · exact .inl (e1 ▸ hi)
          · right; have e2 : some i = some U2.heap.size := hi.symm.trans e1; injection e2 with e2; have := L6.out; omega
        · intro hn p hp; have := (HFN.out hn p hp).1; omega
        · intro i hi hn p hp q
          rcases L7.out with e1 | e1
          · have h1 := (HOI.out i (e1 ▸ hi)).1; have h2 := (HFN.out hn p hp).1; omega
          · have e2 : some i = some U2.heap.size := hi.symm.trans e1
            injection e2 with e2; have := LFU.out hn p hp; omega
        · have := hU.blk
          rw [show O + 7 = O + ([.int .i64 b.me, .int .i64 b.rv, .int .i64 b.nx, .int .i64 b.mo, .int .i64 b.bo, .int .i64 b.fr, .slice pb lb cb] : List Value).length from rfl, putAll_more, ← HO.out] at this
          exact this
      refine hK.out _ _ M1.out (fun hHeld => ?_)
      clear hK K hU
      refine wpAnyH_done (by kernel_rfl) ?_ _
      clear hHeld
      go_wp2_with fail
      go_end0
      exact MF.out
  have q4 : (v.kd == 4) = true := by simpa using k4
  have HK4 : Hid (v.kd = 4) := k4
  clear k4
  go_wp2_with fail
  clear c0 q4
  refine wp_region_held_drew (S := fun u => Blk u gb #[.int .i64 b.me, .int .i64 b.rv, .int .i64 b.nx, .int .i64 b.mo, .int .i64 b.bo, .int .i64 b.fr, .slice pb lb cb] 55) (by kernel_rfl) (show _ from Blk.drew H5be.out 1) (fun hHeld => ?_)
  have H6v : Hid (Blk W4.drew (w.heap.size) #[.int .i64 v.kd, .int .i64 v.me, .int .i64 v.mo, .int .i64 v.id, .int .i64 v.te, .int .i64 v.de, .int .i64 v.fe, .int .i64 v.pr, .int .i64 v.ch, .int .i64 v.un, .int .i64 v.tg, .int .i64 v.ow, .int .i64 v.bp] 27) := H5v.out
  have H6c : Hid (Blk W4.drew (g) cur 58) := H5c.out
  have H6a : Hid (Blk W4.drew (ga) #[.int .i64 y.me, .int .i64 y.rv, .int .i64 y.nx, .int .i64 y.mo, .int .i64 y.bo, .int .i64 y.fr, .slice dp dn dc] 55) := H5a.out
  have H6be : Hid (Blk W4.drew (gb) #[.int .i64 b.me, .int .i64 b.rv, .int .i64 b.nx, .int .i64 b.mo, .int .i64 b.bo, .int .i64 b.fr, .slice pb lb cb] 55) := H5be.out
  have H6bi : Hid (Blk W4.drew (gb + 1) #[.int .i64 l.id, .int .i64 l.te, .int .i64 l.de, .int .i64 l.fe, .int .i64 l.pr, .int .i64 l.ch, .int .i64 l.un] 23) := H5bi.out
  have H6so : Hid (Blk W4.drew (gs) #[.int .i64 l.id, .int .i64 0, .int .i64 l.un, .int .i64 v.tg, .int .i64 y.rv] 103) := H5so.out
  have H6B : Hid (Below w.heap.size w W4.drew) := H5B.out.drew
  have HF5 : Hid (deb.Fresh W4.drew W1.heap.size pb lb cb b.ds) := fresh_drew HF4.out
  have hl5 : gs < W4.drew.heap.size := hlW4
  clear HF4 H5v H5c H5a H5be H5bi H5so H5B
  generalize W4.drew = U8 at *
  refine take_at 0 42 (.pointer (some ⟨gb, 1, none⟩)) _ rfl rfl (by kernel_rfl) (by kernel_rfl) (by kernel_rfl) (fun _ _ _ h => h) (Or.inl ⟨by rfl, fun v hv => by skip; clear hv; go_simp⟩) hHeld ?_
  simp only [Act.put, List.setIfInBounds_toArray, List.set_cons_zero, List.set_cons_succ]
  refine take_at 1 43 (.int .i64 b.rv) _ rfl rfl (by kernel_rfl) (by kernel_rfl) (by kernel_rfl) (fun _ _ _ h => h) (Or.inl ⟨by rfl, fun v hv => by have g0 := hv.cell 1; clear hv; go_simp⟩) hHeld ?_
  simp only [Act.put, List.setIfInBounds_toArray, List.set_cons_zero, List.set_cons_succ]
  refine take_at 2 44 (.pointer (some ⟨gs, 1, none⟩)) _ rfl rfl (by kernel_rfl) (by kernel_rfl) (by kernel_rfl) (fun _ _ _ h => h) (Or.inl ⟨by rfl, fun v hv => by skip; clear hv; go_simp⟩) hHeld ?_
  simp only [Act.put, List.setIfInBounds_toArray, List.set_cons_zero, List.set_cons_succ]
  refine wpAnyH_ready (rs := [3]) (by kernel_rfl) (by simp) (AllReadyH.cons rfl (fun K hK => ?_) AllReadyH.nil)
  rw [if_pos (by rfl)]
  refine acc.wp_letOp1 3 _ _ rfl gs 1 rfl (.int .i64 2) rfl rfl (by kernel_rfl) rfl #[.int .i64 l.id, .int .i64 0, .int .i64 l.un, .int .i64 v.tg, .int .i64 y.rv] 103 H6so.out (by simp) rfl ?_
  intro V3 hU
  have H7v : Hid (Blk V3 (w.heap.size) #[.int .i64 v.kd, .int .i64 v.me, .int .i64 v.mo, .int .i64 v.id, .int .i64 v.te, .int .i64 v.de, .int .i64 v.fe, .int .i64 v.pr, .int .i64 v.ch, .int .i64 v.un, .int .i64 v.tg, .int .i64 v.ow, .int .i64 v.bp] 27) := hU.keep H6v.out (by omega)
  have H7c : Hid (Blk V3 (g) cur 58) := hU.keep H6c.out (by omega)
  have H7a : Hid (Blk V3 (ga) #[.int .i64 y.me, .int .i64 y.rv, .int .i64 y.nx, .int .i64 y.mo, .int .i64 y.bo, .int .i64 y.fr, .slice dp dn dc] 55) := hU.keep H6a.out (by omega)
  have H7be : Hid (Blk V3 (gb) #[.int .i64 b.me, .int .i64 b.rv, .int .i64 b.nx, .int .i64 b.mo, .int .i64 b.bo, .int .i64 b.fr, .slice pb lb cb] 55) := hU.keep H6be.out (by omega)
  have H7bi : Hid (Blk V3 (gb + 1) #[.int .i64 l.id, .int .i64 l.te, .int .i64 l.de, .int .i64 l.fe, .int .i64 l.pr, .int .i64 l.ch, .int .i64 l.un] 23) := hU.keep H6bi.out (by omega)
  have H7so : Hid (Blk V3 (gs) #[.int .i64 l.id, .int .i64 2, .int .i64 l.un, .int .i64 v.tg, .int .i64 y.rv] 103) := hU.blk
  have H7B : Hid (Below w.heap.size w V3) := hU.bel _ _ (by omega) H6B.out
  clear H6v H6c H6a H6be H6bi H6so H6B
  have HF6 : Hid (deb.Fresh V3 W1.heap.size pb lb cb b.ds) := fresh_updN HF5.out hU (fun hn p hp => by have := HFU.out hn p hp; omega)
  have hl6 : gs < V3.heap.size := by rw [hU.size]; exact hl5
  clear hU
  refine hK.out _ _ H7be.out (fun hHeld => ?_)
  clear hK K
  refine take_at 4 45 (.pointer (some ⟨gs, 2, none⟩)) _ rfl rfl (by kernel_rfl) (by kernel_rfl) (by kernel_rfl) (fun _ _ _ h => h) (Or.inl ⟨by rfl, fun v hv => by skip; clear hv; go_simp⟩) hHeld ?_
  simp only [Act.put, List.setIfInBounds_toArray, List.set_cons_zero, List.set_cons_succ]
  refine wpAnyH_ready (rs := [5]) (by kernel_rfl) (by simp) (AllReadyH.cons rfl (fun K hK => ?_) AllReadyH.nil)
  rw [if_pos (by rfl)]
  refine acc.wp_letOp1 3 _ _ rfl gs 2 rfl (.int .i64 b.rv) rfl rfl (by kernel_rfl) rfl #[.int .i64 l.id, .int .i64 2, .int .i64 l.un, .int .i64 v.tg, .int .i64 y.rv] 103 H7so.out (by simp) rfl ?_
  intro V5 hU
  have H8v : Hid (Blk V5 (w.heap.size) #[.int .i64 v.kd, .int .i64 v.me, .int .i64 v.mo, .int .i64 v.id, .int .i64 v.te, .int .i64 v.de, .int .i64 v.fe, .int .i64 v.pr, .int .i64 v.ch, .int .i64 v.un, .int .i64 v.tg, .int .i64 v.ow, .int .i64 v.bp] 27) := hU.keep H7v.out (by omega)
  have H8c : Hid (Blk V5 (g) cur 58) := hU.keep H7c.out (by omega)
  have H8a : Hid (Blk V5 (ga) #[.int .i64 y.me, .int .i64 y.rv, .int .i64 y.nx, .int .i64 y.mo, .int .i64 y.bo, .int .i64 y.fr, .slice dp dn dc] 55) := hU.keep H7a.out (by omega)
  have H8be : Hid (Blk V5 (gb) #[.int .i64 b.me, .int .i64 b.rv, .int .i64 b.nx, .int .i64 b.mo, .int .i64 b.bo, .int .i64 b.fr, .slice pb lb cb] 55) := hU.keep H7be.out (by omega)
  have H8bi : Hid (Blk V5 (gb + 1) #[.int .i64 l.id, .int .i64 l.te, .int .i64 l.de, .int .i64 l.fe, .int .i64 l.pr, .int .i64 l.ch, .int .i64 l.un] 23) := hU.keep H7bi.out (by omega)
  have H8so : Hid (Blk V5 (gs) #[.int .i64 l.id, .int .i64 2, .int .i64 b.rv, .int .i64 v.tg, .int .i64 y.rv] 103) := hU.blk
  have H8B : Hid (Below w.heap.size w V5) := hU.bel _ _ (by omega) H7B.out
  clear H7v H7c H7a H7be H7bi H7so H7B
  have HF8 : Hid (deb.Fresh V5 W1.heap.size pb lb cb b.ds) := fresh_updN HF6.out hU (fun hn p hp => by have := HFU.out hn p hp; omega)
  have hl8 : gs < V5.heap.size := by rw [hU.size]; exact hl6
  clear hU
  refine hK.out _ _ H8be.out (fun hHeld => ?_)
  clear hK K
  refine wpAnyH_done (by kernel_rfl) ?_ _
  clear hHeld
  have HF4x : Hid (deb.Fresh V5 W1.heap.size pb lb cb b.ds) := HF8.out
  clear HF5 HF6 HF8
  have HRV : Hid (b.rv = y.rv + 1) := rekey_rv (by rcases HI.out with ⟨q, _⟩ | ⟨q, _⟩ | ⟨_, q⟩; exact absurd (q.symm.trans HK4.out) (by decide); exact absurd (q.symm.trans HK4.out) (by decide); exact q)
  go_wp2_with (first
    | (refine wp_let rfl 55 _ _ rfl g O rfl (.agg #[.int .i64 b.me, .int .i64 b.rv, .int .i64 b.nx, .int .i64 b.mo, .int .i64 b.bo, .int .i64 b.fr, .slice pb lb cb]) rfl #[.int .i64 b.me, .int .i64 b.rv, .int .i64 b.nx, .int .i64 b.mo, .int .i64 b.bo, .int .i64 b.fr, .slice pb lb cb] rfl (by kernel_rfl) (by simp [Value.oneCell']) cur 58 H8c.out (by have := HCS.out; simp; omega) (putAll cur O [.int .i64 b.me, .int .i64 b.rv, .int .i64 b.nx, .int .i64 b.mo, .int .i64 b.bo, .int .i64 b.fr, .slice pb lb cb]) rfl ?_)
    | (refine wp_whole rfl 27 _ rfl (w.heap.size) rfl 27 #[.int .i64 v.kd, .int .i64 v.me, .int .i64 v.mo, .int .i64 v.id, .int .i64 v.te, .int .i64 v.de, .int .i64 v.fe, .int .i64 v.pr, .int .i64 v.ch, .int .i64 v.un, .int .i64 v.tg, .int .i64 v.ow, .int .i64 v.bp] _ H8v.out Try.underlying27 rfl (by kernel_rfl) ?_)
    | (refine wp_whole rfl 58 _ rfl (g) rfl 58 cur _ H8c.out Try.underlying58 rfl (by kernel_rfl) ?_)
    | (refine wp_whole rfl 55 _ rfl (ga) rfl 55 #[.int .i64 y.me, .int .i64 y.rv, .int .i64 y.nx, .int .i64 y.mo, .int .i64 y.bo, .int .i64 y.fr, .slice dp dn dc] _ H8a.out Try.underlying55 rfl (by kernel_rfl) ?_)
    | (refine wp_whole rfl 55 _ rfl (gb) rfl 55 #[.int .i64 b.me, .int .i64 b.rv, .int .i64 b.nx, .int .i64 b.mo, .int .i64 b.bo, .int .i64 b.fr, .slice pb lb cb] _ H8be.out Try.underlying55 rfl (by kernel_rfl) ?_)
    | (refine wp_whole rfl 23 _ rfl (gb + 1) rfl 23 #[.int .i64 l.id, .int .i64 l.te, .int .i64 l.de, .int .i64 l.fe, .int .i64 l.pr, .int .i64 l.ch, .int .i64 l.un] _ H8bi.out Try.underlying23 rfl (by kernel_rfl) ?_)
    | (refine wp_whole rfl 103 _ rfl (gs) rfl 103 #[.int .i64 l.id, .int .i64 2, .int .i64 b.rv, .int .i64 v.tg, .int .i64 y.rv] _ H8so.out Try.underlying103 rfl (by kernel_rfl) ?_)
    | fail)
  intro W5 hU
  have HU5 : Hid (Upd V5 W5 g (putAll cur O [.int .i64 b.me, .int .i64 b.rv, .int .i64 b.nx, .int .i64 b.mo, .int .i64 b.bo, .int .i64 b.fr, .slice pb lb cb]) 58) := hU
  have H5c : Hid (Blk W5 g (putAll cur O [.int .i64 b.me, .int .i64 b.rv, .int .i64 b.nx, .int .i64 b.mo, .int .i64 b.bo, .int .i64 b.fr, .slice pb lb cb]) 58) := hU.blk
  have H5so : Hid (Blk W5 gs #[.int .i64 l.id, .int .i64 2, .int .i64 b.rv, .int .i64 v.tg, .int .i64 y.rv] 103) := hU.keep H8so.out (by omega)
  have hs5 : W5.heap.size = V5.heap.size := hU.size
  have HX5 : Hid (Below w.heap.size w V5) := H8B.out
  have H5l : Hid (Lo W5 base (.slice sp sn sc) sol) := lo_upd (HH.out.so.next HX5.out) hU (fun i hi => (HOI.out i hi).2.2)
  have H5f : Hid (tar.Came W5 pb lb cb b.ds) := acc_upd HF4x.out.came hU (fun hn p hp => by have := HF4x.out.new hn p hp; omega)
  have HFN : Hid (0 < lb → ∀ p, pb = some p → W1.heap.size ≤ p.block ∧ p.block < gb) := fun hn p hp => ⟨HF4x.out.new hn p hp, HFU.out hn p hp⟩
  have HS5 : Hid (base ≤ W5.heap.size) := by show _ ≤ _; rw [hs5]; exact Nat.le_trans HSZ.out HX5.out.size
  have HSS : Hid (V5.heap.size = W5.heap.size) := hs5.symm
  clear hU
  go_wp2_with fail
  refine wp_region_held_drew (S := fun u => Blk u gs #[.int .i64 l.id, .int .i64 2, .int .i64 b.rv, .int .i64 v.tg, .int .i64 y.rv] 103) (by kernel_rfl) (show _ from Blk.drew H5so.out 1) (fun hHeld => ?_)
  have q7 : W5.drew.cell? ⟨g, O + 7, none⟩ = some (.slice sp sn sc) := by
    rw [show W5.drew.cell? ⟨g, O + 7, none⟩ = W5.cell? ⟨g, O + 7, none⟩ from rfl, H5c.out.cell (O + 7), putAll_get _ _ _ _ (by have := HCS.out; simp; omega), if_neg (by simp only [List.length_cons, List.length_nil]; omega)]
    exact HC7.out
  have G0 : Hid (Blk W5.drew g (putAll cur O [.int .i64 b.me, .int .i64 b.rv, .int .i64 b.nx, .int .i64 b.mo, .int .i64 b.bo, .int .i64 b.fr, .slice pb lb cb]) 58) := H5c.out
  have G1 : Hid (Blk W5.drew gs #[.int .i64 l.id, .int .i64 2, .int .i64 b.rv, .int .i64 v.tg, .int .i64 y.rv] 103) := H5so.out
  have G2 : Hid (Lo W5.drew base (.slice sp sn sc) sol) := H5l.out.next (Below.refl _ _).drew
  have G3 : Hid (tar.Came W5.drew pb lb cb b.ds) := H5f.out.below (Below.refl _ _).drew
  have G4 : Hid (∀ i, i ≠ g → W5.drew.heap[i]? = V5.heap[i]?) := fun i hi => HU5.out.oth i hi
  have G5 : Hid (W5.drew.os = w.os ∧ W5.drew.tape = w.tape ∧ W5.drew.output = w.output) := by have hb := (HU5.out.bel 0 w (Nat.zero_le _) (HX5.out.mono (Nat.zero_le _))); exact ⟨hb.os, hb.tape, hb.output⟩
  have G6 : Hid (base ≤ W5.drew.heap.size) := HS5.out
  have G7 : Hid (V5.heap.size = W5.drew.heap.size) := HSS.out
  clear H5c H5so H5l H5f HU5 HS5 HSS hs5
  generalize W5.drew = U at *
  refine take_at 0 50 (.pointer (some ⟨g, O, none⟩)) _ rfl rfl (by kernel_rfl) (by kernel_rfl) (by kernel_rfl) (fun _ _ _ h => h) (Or.inl ⟨by rfl, fun v hv => by skip; clear hv; go_simp⟩) hHeld ?_
  simp only [Act.put, List.setIfInBounds_toArray, List.set_cons_zero, List.set_cons_succ]
  refine take_at 1 51 (.pointer (some ⟨g, O, none⟩)) _ rfl rfl (by kernel_rfl) (by kernel_rfl) (by kernel_rfl) (fun _ _ _ h => h) (Or.inl ⟨by rfl, fun v hv => by skip; clear hv; go_simp⟩) hHeld ?_
  simp only [Act.put, List.setIfInBounds_toArray, List.set_cons_zero, List.set_cons_succ]
  refine take_at 2 52 (.pointer (some ⟨g, O, none⟩)) _ rfl rfl (by kernel_rfl) (by kernel_rfl) (by kernel_rfl) (fun _ _ _ h => h) (Or.inl ⟨by rfl, fun v hv => by skip; clear hv; go_simp⟩) hHeld ?_
  simp only [Act.put, List.setIfInBounds_toArray, List.set_cons_zero, List.set_cons_succ]
  refine take_at 3 53 (.pointer (some ⟨g, O + 7, none⟩)) _ rfl rfl (by kernel_rfl) (by kernel_rfl) (by kernel_rfl) (fun _ _ _ h => h) (Or.inl ⟨by rfl, fun v hv => by skip; clear hv; go_simp⟩) hHeld ?_
  simp only [Act.put, List.setIfInBounds_toArray, List.set_cons_zero, List.set_cons_succ]
  refine take_at 5 55 (.agg #[.int .i64 l.id, .int .i64 2, .int .i64 b.rv, .int .i64 v.tg, .int .i64 y.rv]) _ rfl rfl (by kernel_rfl) (by kernel_rfl) (by kernel_rfl) (fun _ _ _ h => h) (Or.inl ⟨by rfl, fun v hv => by have g0 := hv.cell 0; have g1 := hv.cell 1; have g2 := hv.cell 2; have g3 := hv.cell 3; have g4 := hv.cell 4; clear hv; go_simp⟩) hHeld ?_
  simp only [Act.put, List.setIfInBounds_toArray, List.set_cons_zero, List.set_cons_succ]
  refine wpAnyH_ready (rs := [4, 6]) (by kernel_rfl) (by simp) (AllReadyH.cons rfl (fun K hK => ?_) (AllReadyH.cons rfl (fun K hK => ?_) AllReadyH.nil))
  · rw [if_pos (by rfl)]
    refine wp_runOp (v := .slice sp sn sc) (w' := U) 54 rfl (by clear hK; go_simp) ?_
    refine hK.out _ _ G1.out (fun hHeld => ?_)
    clear hK K
    simp only [Act.put, List.setIfInBounds_toArray, List.set_cons_zero, List.set_cons_succ]
    refine wpAnyH_ready (rs := [6]) (by kernel_rfl) (by simp) (AllReadyH.cons rfl (fun K hK => ?_) AllReadyH.nil)
    rw [if_pos (by rfl)]
    refine wp_runOp (v := .slice (some ⟨U.heap.size, 0, none⟩) 1 1) (w' := (U.alloc (.cells #[.int .i64 l.id, .int .i64 2, .int .i64 b.rv, .int .i64 v.tg, .int .i64 y.rv] 103))) 56 rfl (by clear hK; go_simp) ?_
    refine hK.out _ _ (G1.out.alloc _) (fun hHeld => ?_)
    clear hK K q7
    simp only [Act.put, List.setIfInBounds_toArray, List.set_cons_zero, List.set_cons_succ]
    have J0 : Hid (Blk (U.alloc (.cells #[.int .i64 l.id, .int .i64 2, .int .i64 b.rv, .int .i64 v.tg, .int .i64 y.rv] 103)) g (putAll cur O [.int .i64 b.me, .int .i64 b.rv, .int .i64 b.nx, .int .i64 b.mo, .int .i64 b.bo, .int .i64 b.fr, .slice pb lb cb]) 58) := G0.out.alloc _
    have J1 : Hid (Blk (U.alloc (.cells #[.int .i64 l.id, .int .i64 2, .int .i64 b.rv, .int .i64 v.tg, .int .i64 y.rv] 103)) gs #[.int .i64 l.id, .int .i64 2, .int .i64 b.rv, .int .i64 v.tg, .int .i64 y.rv] 103) := G1.out.alloc _
    have J2 : Hid (Lo (U.alloc (.cells #[.int .i64 l.id, .int .i64 2, .int .i64 b.rv, .int .i64 v.tg, .int .i64 y.rv] 103)) base (.slice sp sn sc) sol) := G2.out.alloc _
    have J3 : Hid (tar.Came (U.alloc (.cells #[.int .i64 l.id, .int .i64 2, .int .i64 b.rv, .int .i64 v.tg, .int .i64 y.rv] 103)) pb lb cb b.ds) := G3.out.below ((Below.refl _ _).alloc (Nat.le_refl _) _)
    have J4 : Hid (∀ i, i ≠ g → i < V5.heap.size → (U.alloc (.cells #[.int .i64 l.id, .int .i64 2, .int .i64 b.rv, .int .i64 v.tg, .int .i64 y.rv] 103)).heap[i]? = V5.heap[i]?) := fun i hi hl => by rw [← G4.out i hi]; exact ((Below.refl U.heap.size U).alloc (Nat.le_refl _) _).block i (by rw [← G7.out]; exact hl)
    have J5 : Hid ((U.alloc (.cells #[.int .i64 l.id, .int .i64 2, .int .i64 b.rv, .int .i64 v.tg, .int .i64 y.rv] 103)).os = w.os ∧ (U.alloc (.cells #[.int .i64 l.id, .int .i64 2, .int .i64 b.rv, .int .i64 v.tg, .int .i64 y.rv] 103)).tape = w.tape ∧ (U.alloc (.cells #[.int .i64 l.id, .int .i64 2, .int .i64 b.rv, .int .i64 v.tg, .int .i64 y.rv] 103)).output = w.output) := G5.out
    have J6 : Hid (base ≤ (U.alloc (.cells #[.int .i64 l.id, .int .i64 2, .int .i64 b.rv, .int .i64 v.tg, .int .i64 y.rv] 103)).heap.size ∧ V5.heap.size ≤ (U.alloc (.cells #[.int .i64 l.id, .int .i64 2, .int .i64 b.rv, .int .i64 v.tg, .int .i64 y.rv] 103)).heap.size) := by show _ ∧ _; have h1 := G6.out; have h2 := G7.out; simp; omega
    have J8 : Hid (Blk (U.alloc (.cells #[.int .i64 l.id, .int .i64 2, .int .i64 b.rv, .int .i64 v.tg, .int .i64 y.rv] 103)) U.heap.size #[.int .i64 l.id, .int .i64 2, .int .i64 b.rv, .int .i64 v.tg, .int .i64 y.rv] 103) := Blk.new _ _ _
    clear G0 G1 G2 G3 G4 G5 G6 G7
    generalize U.heap.size = gn at *
    generalize (U.alloc (.cells #[.int .i64 l.id, .int .i64 2, .int .i64 b.rv, .int .i64 v.tg, .int .i64 y.rv] 103)) = U2 at *
    refine wpAnyH_ready (rs := [7]) (by kernel_rfl) (by simp) (AllReadyH.cons rfl (fun K hK => ?_) AllReadyH.nil)
    rw [if_pos (by rfl)]
    refine step_sold 57 rfl _ _ rfl base gn _ sol (⟨l.id, 2, b.rv, v.tg, y.rv⟩ : So) rfl rfl J2.out J8.out (by have := HSL.out; omega) J6.out.1 ?_
    intro v3 w9 h3 hg3 ho3
    obtain ⟨p3, c3, rfl, _, _, _⟩ := h3.row
    have L0 : Hid (Blk w9 g (putAll cur O [.int .i64 b.me, .int .i64 b.rv, .int .i64 b.nx, .int .i64 b.mo, .int .i64 b.bo, .int .i64 b.fr, .slice pb lb cb]) 58) := blk_kept J0.out hg3 (fun q => (HOI.out g q.symm).2.2 rfl)
    have L1 : Hid (Blk w9 gs #[.int .i64 l.id, .int .i64 2, .int .i64 b.rv, .int .i64 v.tg, .int .i64 y.rv] 103) := blk_kept J1.out hg3 (fun q => by have := (HOI.out gs q.symm).1; omega)
    have L2 : Hid (Lo w9 base (.slice p3 (sol ++ [(⟨l.id, 2, b.rv, v.tg, y.rv⟩ : So)]).length c3) (sol ++ [(⟨l.id, 2, b.rv, v.tg, y.rv⟩ : So)])) := h3
    have L3 : Hid (tar.Came w9 pb lb cb b.ds) := came_grown J3.out hg3 (fun hn p hp q => by have h1 := (HFN.out hn p hp).1; have h2 := (HOI.out _ q.symm).1; omega)
    have L4 : Hid (∀ i, i ≠ g → (Value.slice sp sn sc).ownBlock ≠ some i → i < w.heap.size → w9.heap[i]? = w.heap[i]?) := fun i h1 h2 h3 => by rw [hg3.block i (by have := J6.out; have := HX5.out.size; omega) (fun q => h2 q.symm), J4.out i h1 (by have := HX5.out.size; omega), HX5.out.block i h3]
    have L5 : Hid (w9.os = w.os ∧ w9.tape = w.tape ∧ w9.output = w.output) := ⟨hg3.os.trans J5.out.1, hg3.tape.trans J5.out.2.1, hg3.output.trans J5.out.2.2⟩
    have L6 : Hid (w.heap.size ≤ U2.heap.size ∧ U2.heap.size ≤ w9.heap.size) := ⟨by have := J6.out; have := HX5.out.size; omega, hg3.size⟩
    have L7 : Hid ((Value.slice p3 (sol ++ [(⟨l.id, 2, b.rv, v.tg, y.rv⟩ : So)]).length c3).ownBlock = (Value.slice sp sn sc).ownBlock ∨ (Value.slice p3 (sol ++ [(⟨l.id, 2, b.rv, v.tg, y.rv⟩ : So)]).length c3).ownBlock = some U2.heap.size) := ho3
    have LFU : Hid (0 < lb → ∀ p, pb = some p → p.block < U2.heap.size) := came_lt J3.out
    refine hK.out _ _ L1.out (fun hHeld => ?_)
    clear hK K h3 hg3 ho3 J0 J1 J2 J3 J4 J5 J6 J8
    simp only [Act.put, List.setIfInBounds_toArray, List.set_cons_zero, List.set_cons_succ]
    generalize (sol ++ [(⟨l.id, 2, b.rv, v.tg, y.rv⟩ : So)]).length = n3 at *
    refine take_at 8 58 (.pointer (some ⟨g, O, none⟩)) _ rfl rfl (by kernel_rfl) (by kernel_rfl) (by kernel_rfl) (fun _ _ _ h => h) (Or.inl ⟨by rfl, fun v hv => by skip; clear hv; go_simp⟩) hHeld ?_
    simp only [Act.put, List.setIfInBounds_toArray, List.set_cons_zero, List.set_cons_succ]
    refine take_at 9 59 (.pointer (some ⟨g, O + 7, none⟩)) _ rfl rfl (by kernel_rfl) (by kernel_rfl) (by kernel_rfl) (fun _ _ _ h => h) (Or.inl ⟨by rfl, fun v hv => by skip; clear hv; go_simp⟩) hHeld ?_
    simp only [Act.put, List.setIfInBounds_toArray, List.set_cons_zero, List.set_cons_succ]
    refine wpAnyH_ready (rs := [10]) (by kernel_rfl) (by simp) (AllReadyH.cons rfl (fun K hK => ?_) AllReadyH.nil)
    rw [if_pos (by rfl)]
    refine acc.wp_letOp1 56 _ _ rfl g (O + 7) rfl (.slice p3 n3 c3) rfl rfl (by kernel_rfl) rfl (putAll cur O [.int .i64 b.me, .int .i64 b.rv, .int .i64 b.nx, .int .i64 b.mo, .int .i64 b.bo, .int .i64 b.fr, .slice pb lb cb]) 58 L0.out (by rw [putAll_size]; have := HCS.out; omega) rfl ?_
    intro WF hU
    have M1 : Hid (Blk WF gs #[.int .i64 l.id, .int .i64 2, .int .i64 b.rv, .int .i64 v.tg, .int .i64 y.rv] 103) := hU.keep L1.out (by omega)
    have MF : Hid (WPost w0 base gW B t pt lt ct (HapR t bk k v) w (.returned (.tuple #[])) WF) := by
      have hb := hU.bel 0 w9 (Nat.zero_le _) (Below.refl _ _)
      have hO : ∀ i, i < w.heap.size → i ≠ g → (Value.slice sp sn sc).ownBlock ≠ some i → WF.heap[i]? = w.heap[i]? := fun i h1 h2 h3 => by rw [hU.oth i h2]; exact L4.out i h2 h3 h1
      have hos : WF.os = w.os ∧ WF.tape = w.tape ∧ WF.output = w.output := ⟨hb.os.trans L5.out.1, hb.tape.trans L5.out.2.1, hb.output.trans L5.out.2.2⟩
      have hsz : w.heap.size ≤ WF.heap.size := by rw [hU.size]; exact Nat.le_trans L6.out.1 L6.out.2
      have hso : (⟨l.id, 2, b.rv, v.tg, y.rv⟩ : So) = soldOf ⟨y, sol⟩ v := by unfold soldOf; rw [if_pos HK4.out, HSI.out.1, HRV.out]
      have hh : HapIs t ⟨y, sol⟩ v ⟨b, sol ++ [soldOf ⟨y, sol⟩ v]⟩ 0 := .inr ⟨HN5.out, b, l, 0, HI.out, .inr (.inr ⟨rfl, HLB.out, rfl, rfl⟩)⟩
      have hw := hap_wf hh HMA.out
      refine ⟨⟨hos.1, hos.2.1, hos.2.2, hsz, fun i h1 _ _ => hO i (by have := HSZ.out; omega) (by have := HBG.out; omega) (fun q => by have := (HOI.out i q).2.1; omega)⟩, .inl ⟨.slice (some ⟨g, 0, none⟩) n cap, xs.set k ⟨b.me, b.rv, b.nx, b.mo, b.bo, b.fr, pb, lb, cb, p3, n3, c3⟩, bk.set k ⟨b, sol ++ [soldOf ⟨y, sol⟩ v]⟩, rfl, ⟨⟨b, sol ++ [soldOf ⟨y, sol⟩ v]⟩, by rw [HC.out]; exact hh, fun _ => rfl⟩, fun hsm => ?_⟩⟩
      refine put_wr HR.out HKL.out HX.out HCB.out hO hsz hos (x' := ⟨b.me, b.rv, b.nx, b.mo, b.bo, b.fr, pb, lb, cb, p3, n3, c3⟩) ⟨⟨rfl, rfl, rfl, rfl, rfl, rfl⟩, ⟨acc_upd L3.out hU (fun hn p hp q => by have := (HFN.out hn p hp).1; omega), fun hn p hp => by have := (HFN.out hn p hp).1; have := HSZ.out; omega⟩, ?_⟩ hw.1 (by rw [HC.out]; exact hw.2) ?_ ?_ ?_ ?_ hsm
      · refine lo_upd (by rw [← hso]; exact L2.out) hU (fun i hi q => ?_)
        rcases L7.out with e1 | e1
        · exact (HOI.out i (e1 ▸ hi)).2.2 q
        · have e2 : some i = some U2.heap.size := hi.symm.trans e1
          injection e2 with e2; have := L6.out; omega
      · intro i hi
        rcases L7.out with e1 | e1
        · exact .inl (e1 ▸ hi)
        · right; have e2 : some i = some U2.heap.size := hi.symm.trans e1; injection e2 with e2; have := L6.out; omega
      · intro hn p hp; have := (HFN.out hn p hp).1; omega
      · intro i hi hn p hp q
        rcases L7.out with e1 | e1
        · have h1 := (HOI.out i (e1 ▸ hi)).1; have h2 := (HFN.out hn p hp).1; omega
        · have e2 : some i = some U2.heap.size := hi.symm.trans e1
          injection e2 with e2; have := LFU.out hn p hp; omega
      · have := hU.blk
        rw [show O + 7 = O + ([.int .i64 b.me, .int .i64 b.rv, .int .i64 b.nx, .int .i64 b.mo, .int .i64 b.bo, .int .i64 b.fr, .slice pb lb cb] : List Value).length from rfl, putAll_more, ← HO.out] at this
        exact this
    refine hK.out _ _ M1.out (fun hHeld => ?_)
    clear hK K hU
    refine wpAnyH_done (by kernel_rfl) ?_ _
    clear hHeld
    go_wp2_with fail
    go_end0
    exact MF.out
  · rw [if_pos (by rfl)]
    refine wp_runOp (v := .slice (some ⟨U.heap.size, 0, none⟩) 1 1) (w' := (U.alloc (.cells #[.int .i64 l.id, .int .i64 2, .int .i64 b.rv, .int .i64 v.tg, .int .i64 y.rv] 103))) 56 rfl (by clear hK; go_simp) ?_
    refine hK.out _ _ (G1.out.alloc _) (fun hHeld => ?_)
    clear hK K
    simp only [Act.put, List.setIfInBounds_toArray, List.set_cons_zero, List.set_cons_succ]
    have q8 : (U.alloc (.cells #[.int .i64 l.id, .int .i64 2, .int .i64 b.rv, .int .i64 v.tg, .int .i64 y.rv] 103)).cell? ⟨g, O + 7, none⟩ = some (.slice sp sn sc) := (((Below.refl U.heap.size U).alloc (Nat.le_refl _) _).cell (p := ⟨g, O + 7, none⟩) G0.out.lt).trans q7
    clear q7
    refine wpAnyH_ready (rs := [4]) (by kernel_rfl) (by simp) (AllReadyH.cons rfl (fun K hK => ?_) AllReadyH.nil)
    rw [if_pos (by rfl)]
    refine wp_runOp (v := .slice sp sn sc) (w' := (U.alloc (.cells #[.int .i64 l.id, .int .i64 2, .int .i64 b.rv, .int .i64 v.tg, .int .i64 y.rv] 103))) 54 rfl (by clear hK; go_simp) ?_
    refine hK.out _ _ (G1.out.alloc _) (fun hHeld => ?_)
    clear hK K q8
    simp only [Act.put, List.setIfInBounds_toArray, List.set_cons_zero, List.set_cons_succ]
    have J0 : Hid (Blk (U.alloc (.cells #[.int .i64 l.id, .int .i64 2, .int .i64 b.rv, .int .i64 v.tg, .int .i64 y.rv] 103)) g (putAll cur O [.int .i64 b.me, .int .i64 b.rv, .int .i64 b.nx, .int .i64 b.mo, .int .i64 b.bo, .int .i64 b.fr, .slice pb lb cb]) 58) := G0.out.alloc _
    have J1 : Hid (Blk (U.alloc (.cells #[.int .i64 l.id, .int .i64 2, .int .i64 b.rv, .int .i64 v.tg, .int .i64 y.rv] 103)) gs #[.int .i64 l.id, .int .i64 2, .int .i64 b.rv, .int .i64 v.tg, .int .i64 y.rv] 103) := G1.out.alloc _
    have J2 : Hid (Lo (U.alloc (.cells #[.int .i64 l.id, .int .i64 2, .int .i64 b.rv, .int .i64 v.tg, .int .i64 y.rv] 103)) base (.slice sp sn sc) sol) := G2.out.alloc _
    have J3 : Hid (tar.Came (U.alloc (.cells #[.int .i64 l.id, .int .i64 2, .int .i64 b.rv, .int .i64 v.tg, .int .i64 y.rv] 103)) pb lb cb b.ds) := G3.out.below ((Below.refl _ _).alloc (Nat.le_refl _) _)
    have J4 : Hid (∀ i, i ≠ g → i < V5.heap.size → (U.alloc (.cells #[.int .i64 l.id, .int .i64 2, .int .i64 b.rv, .int .i64 v.tg, .int .i64 y.rv] 103)).heap[i]? = V5.heap[i]?) := fun i hi hl => by rw [← G4.out i hi]; exact ((Below.refl U.heap.size U).alloc (Nat.le_refl _) _).block i (by rw [← G7.out]; exact hl)
    have J5 : Hid ((U.alloc (.cells #[.int .i64 l.id, .int .i64 2, .int .i64 b.rv, .int .i64 v.tg, .int .i64 y.rv] 103)).os = w.os ∧ (U.alloc (.cells #[.int .i64 l.id, .int .i64 2, .int .i64 b.rv, .int .i64 v.tg, .int .i64 y.rv] 103)).tape = w.tape ∧ (U.alloc (.cells #[.int .i64 l.id, .int .i64 2, .int .i64 b.rv, .int .i64 v.tg, .int .i64 y.rv] 103)).output = w.output) := G5.out
    have J6 : Hid (base ≤ (U.alloc (.cells #[.int .i64 l.id, .int .i64 2, .int .i64 b.rv, .int .i64 v.tg, .int .i64 y.rv] 103)).heap.size ∧ V5.heap.size ≤ (U.alloc (.cells #[.int .i64 l.id, .int .i64 2, .int .i64 b.rv, .int .i64 v.tg, .int .i64 y.rv] 103)).heap.size) := by show _ ∧ _; have h1 := G6.out; have h2 := G7.out; simp; omega
    have J8 : Hid (Blk (U.alloc (.cells #[.int .i64 l.id, .int .i64 2, .int .i64 b.rv, .int .i64 v.tg, .int .i64 y.rv] 103)) U.heap.size #[.int .i64 l.id, .int .i64 2, .int .i64 b.rv, .int .i64 v.tg, .int .i64 y.rv] 103) := Blk.new _ _ _
    clear G0 G1 G2 G3 G4 G5 G6 G7
    generalize U.heap.size = gn at *
    generalize (U.alloc (.cells #[.int .i64 l.id, .int .i64 2, .int .i64 b.rv, .int .i64 v.tg, .int .i64 y.rv] 103)) = U2 at *
    refine wpAnyH_ready (rs := [7]) (by kernel_rfl) (by simp) (AllReadyH.cons rfl (fun K hK => ?_) AllReadyH.nil)
    rw [if_pos (by rfl)]
    refine step_sold 57 rfl _ _ rfl base gn _ sol (⟨l.id, 2, b.rv, v.tg, y.rv⟩ : So) rfl rfl J2.out J8.out (by have := HSL.out; omega) J6.out.1 ?_
    intro v3 w9 h3 hg3 ho3
    obtain ⟨p3, c3, rfl, _, _, _⟩ := h3.row
    have L0 : Hid (Blk w9 g (putAll cur O [.int .i64 b.me, .int .i64 b.rv, .int .i64 b.nx, .int .i64 b.mo, .int .i64 b.bo, .int .i64 b.fr, .slice pb lb cb]) 58) := blk_kept J0.out hg3 (fun q => (HOI.out g q.symm).2.2 rfl)
    have L1 : Hid (Blk w9 gs #[.int .i64 l.id, .int .i64 2, .int .i64 b.rv, .int .i64 v.tg, .int .i64 y.rv] 103) := blk_kept J1.out hg3 (fun q => by have := (HOI.out gs q.symm).1; omega)
    have L2 : Hid (Lo w9 base (.slice p3 (sol ++ [(⟨l.id, 2, b.rv, v.tg, y.rv⟩ : So)]).length c3) (sol ++ [(⟨l.id, 2, b.rv, v.tg, y.rv⟩ : So)])) := h3
    have L3 : Hid (tar.Came w9 pb lb cb b.ds) := came_grown J3.out hg3 (fun hn p hp q => by have h1 := (HFN.out hn p hp).1; have h2 := (HOI.out _ q.symm).1; omega)
    have L4 : Hid (∀ i, i ≠ g → (Value.slice sp sn sc).ownBlock ≠ some i → i < w.heap.size → w9.heap[i]? = w.heap[i]?) := fun i h1 h2 h3 => by rw [hg3.block i (by have := J6.out; have := HX5.out.size; omega) (fun q => h2 q.symm), J4.out i h1 (by have := HX5.out.size; omega), HX5.out.block i h3]
    have L5 : Hid (w9.os = w.os ∧ w9.tape = w.tape ∧ w9.output = w.output) := ⟨hg3.os.trans J5.out.1, hg3.tape.trans J5.out.2.1, hg3.output.trans J5.out.2.2⟩
    have L6 : Hid (w.heap.size ≤ U2.heap.size ∧ U2.heap.size ≤ w9.heap.size) := ⟨by have := J6.out; have := HX5.out.size; omega, hg3.size⟩
    have L7 : Hid ((Value.slice p3 (sol ++ [(⟨l.id, 2, b.rv, v.tg, y.rv⟩ : So)]).length c3).ownBlock = (Value.slice sp sn sc).ownBlock ∨ (Value.slice p3 (sol ++ [(⟨l.id, 2, b.rv, v.tg, y.rv⟩ : So)]).length c3).ownBlock = some U2.heap.size) := ho3
    have LFU : Hid (0 < lb → ∀ p, pb = some p → p.block < U2.heap.size) := came_lt J3.out
    refine hK.out _ _ L1.out (fun hHeld => ?_)
    clear hK K h3 hg3 ho3 J0 J1 J2 J3 J4 J5 J6 J8
    simp only [Act.put, List.setIfInBounds_toArray, List.set_cons_zero, List.set_cons_succ]
    generalize (sol ++ [(⟨l.id, 2, b.rv, v.tg, y.rv⟩ : So)]).length = n3 at *
    refine take_at 8 58 (.pointer (some ⟨g, O, none⟩)) _ rfl rfl (by kernel_rfl) (by kernel_rfl) (by kernel_rfl) (fun _ _ _ h => h) (Or.inl ⟨by rfl, fun v hv => by skip; clear hv; go_simp⟩) hHeld ?_
    simp only [Act.put, List.setIfInBounds_toArray, List.set_cons_zero, List.set_cons_succ]
    refine take_at 9 59 (.pointer (some ⟨g, O + 7, none⟩)) _ rfl rfl (by kernel_rfl) (by kernel_rfl) (by kernel_rfl) (fun _ _ _ h => h) (Or.inl ⟨by rfl, fun v hv => by skip; clear hv; go_simp⟩) hHeld ?_
    simp only [Act.put, List.setIfInBounds_toArray, List.set_cons_zero, List.set_cons_succ]
    refine wpAnyH_ready (rs := [10]) (by kernel_rfl) (by simp) (AllReadyH.cons rfl (fun K hK => ?_) AllReadyH.nil)
    rw [if_pos (by rfl)]
    refine acc.wp_letOp1 56 _ _ rfl g (O + 7) rfl (.slice p3 n3 c3) rfl rfl (by kernel_rfl) rfl (putAll cur O [.int .i64 b.me, .int .i64 b.rv, .int .i64 b.nx, .int .i64 b.mo, .int .i64 b.bo, .int .i64 b.fr, .slice pb lb cb]) 58 L0.out (by rw [putAll_size]; have := HCS.out; omega) rfl ?_
    intro WF hU
    have M1 : Hid (Blk WF gs #[.int .i64 l.id, .int .i64 2, .int .i64 b.rv, .int .i64 v.tg, .int .i64 y.rv] 103) := hU.keep L1.out (by omega)
    have MF : Hid (WPost w0 base gW B t pt lt ct (HapR t bk k v) w (.returned (.tuple #[])) WF) := by
      have hb := hU.bel 0 w9 (Nat.zero_le _) (Below.refl _ _)
      have hO : ∀ i, i < w.heap.size → i ≠ g → (Value.slice sp sn sc).ownBlock ≠ some i → WF.heap[i]? = w.heap[i]? := fun i h1 h2 h3 => by rw [hU.oth i h2]; exact L4.out i h2 h3 h1
      have hos : WF.os = w.os ∧ WF.tape = w.tape ∧ WF.output = w.output := ⟨hb.os.trans L5.out.1, hb.tape.trans L5.out.2.1, hb.output.trans L5.out.2.2⟩
      have hsz : w.heap.size ≤ WF.heap.size := by rw [hU.size]; exact Nat.le_trans L6.out.1 L6.out.2
      have hso : (⟨l.id, 2, b.rv, v.tg, y.rv⟩ : So) = soldOf ⟨y, sol⟩ v := by unfold soldOf; rw [if_pos HK4.out, HSI.out.1, HRV.out]
      have hh : HapIs t ⟨y, sol⟩ v ⟨b, sol ++ [soldOf ⟨y, sol⟩ v]⟩ 0 := .inr ⟨HN5.out, b, l, 0, HI.out, .inr (.inr ⟨rfl, HLB.out, rfl, rfl⟩)⟩
      have hw := hap_wf hh HMA.out
      refine ⟨⟨hos.1, hos.2.1, hos.2.2, hsz, fun i h1 _ _ => hO i (by have := HSZ.out; omega) (by have := HBG.out; omega) (fun q => by have := (HOI.out i q).2.1; omega)⟩, .inl ⟨.slice (some ⟨g, 0, none⟩) n cap, xs.set k ⟨b.me, b.rv, b.nx, b.mo, b.bo, b.fr, pb, lb, cb, p3, n3, c3⟩, bk.set k ⟨b, sol ++ [soldOf ⟨y, sol⟩ v]⟩, rfl, ⟨⟨b, sol ++ [soldOf ⟨y, sol⟩ v]⟩, by rw [HC.out]; exact hh, fun _ => rfl⟩, fun hsm => ?_⟩⟩
      refine put_wr HR.out HKL.out HX.out HCB.out hO hsz hos (x' := ⟨b.me, b.rv, b.nx, b.mo, b.bo, b.fr, pb, lb, cb, p3, n3, c3⟩) ⟨⟨rfl, rfl, rfl, rfl, rfl, rfl⟩, ⟨acc_upd L3.out hU (fun hn p hp q => by have := (HFN.out hn p hp).1; omega), fun hn p hp => by have := (HFN.out hn p hp).1; have := HSZ.out; omega⟩, ?_⟩ hw.1 (by rw [HC.out]; exact hw.2) ?_ ?_ ?_ ?_ hsm
      · refine lo_upd (by rw [← hso]; exact L2.out) hU (fun i hi q => ?_)
        rcases L7.out with e1 | e1
        · exact (HOI.out i (e1 ▸ hi)).2.2 q
        · have e2 : some i = some U2.heap.size := hi.symm.trans e1
          injection e2 with e2; have := L6.out; omega
      · intro i hi
        rcases L7.out with e1 | e1
        · exact .inl (e1 ▸ hi)
        · right; have e2 : some i = some U2.heap.size := hi.symm.trans e1; injection e2 with e2; have := L6.out; omega
      · intro hn p hp; have := (HFN.out hn p hp).1; omega
      · intro i hi hn p hp q
        rcases L7.out with e1 | e1
        · have h1 := (HOI.out i (e1 ▸ hi)).1; have h2 := (HFN.out hn p hp).1; omega
        · have e2 : some i = some U2.heap.size := hi.symm.trans e1
          injection e2 with e2; have := LFU.out hn p hp; omega
      · have := hU.blk
        rw [show O + 7 = O + ([.int .i64 b.me, .int .i64 b.rv, .int .i64 b.nx, .int .i64 b.mo, .int .i64 b.bo, .int .i64 b.fr, .slice pb lb cb] : List Value).length from rfl, putAll_more, ← HO.out] at this
        exact this
    refine hK.out _ _ M1.out (fun hHeld => ?_)
    clear hK K hU
    refine wpAnyH_done (by kernel_rfl) ?_ _
    clear hHeld
    go_wp2_with fail
    go_end0
    exact MF.out

end Go.Proofs.Ytfhlokjpdkmdjaa.book

/- Lie numbers within their bounds, in the program. -/
namespace Go.Proofs.Ytfhlokjpdkmdjaa.bki
open Go.RowKit

/-- The slice a, len, cap reads as the numbers zs: its elements alone. -/
def Row (w : World) (a : Option Addr) (len : Nat) (zs : List Int) : Prop :=
  zs.length = len ∧ (len = 0 ∨ ∃ b off, a = some ⟨b, off, none⟩ ∧ ∀ i, i < len → w.cell? ⟨b, off + i, none⟩ = some (.int .i64 (zs.getD i 0)))

def okAll (lo hi : Int) (l : List Int) : Bool := l.all fun n => decide (lo ≤ n) && decide (n ≤ hi)

theorem okAll_step (lo hi : Int) (zs : List Int) (k : Nat) (hk : k < zs.length) (h : okAll lo hi (zs.take k) = true) (h1 : lo ≤ zs.getD k 0) (h2 : zs.getD k 0 ≤ hi) : okAll lo hi (zs.take (k + 1)) = true := by
  unfold okAll at *
  rw [List.take_add_one, List.all_append, h]
  simp only [List.getD, List.getElem?_eq_getElem hk, Option.getD] at h1 h2 ⊢
  simp [h1, h2]

theorem okAll_no (lo hi : Int) (zs : List Int) (k : Nat) (hk : k < zs.length) (h : zs.getD k 0 < lo ∨ hi < zs.getD k 0) : okAll lo hi zs = false := by
  unfold okAll
  rw [List.all_eq_false]
  refine ⟨zs[k], List.getElem_mem hk, ?_⟩
  simp only [List.getD, List.getElem?_eq_getElem hk, Option.getD] at h
  simp; omega

theorem ret_bool {a b : Bool} (h : a = b) : Ending.returned (.bool a) = .returned (.bool b) := by rw [h]

set_option maxHeartbeats 400000 in
theorem within_any (lo hi : Int) (a : Option Addr) (len cap : Nat) (zs : List Int) (w : World) (hr : Row w a len zs) (hl : len ≤ maxLen) :
    Calls Try.prog 43 #[.int .i64 lo, .int .i64 hi, .slice a len cap] w fun e w' => e = .returned (.bool (okAll lo hi zs)) ∧ w' = w := by
  unfold maxLen at hl
  obtain ⟨hz, hr⟩ := hr
  go_enter Try.func43, Try.ntmps43
  go_wp2
  go_loop [11] (fun i => ∃ k : Nat, k ≤ len ∧ i = .int .i64 k ∧ okAll lo hi (zs.take k) = true) (fun i => len - (intOf i).toNat)
  case atStart => exact ⟨0, Nat.zero_le _, rfl, rfl⟩
  case round =>
    obtain ⟨k, hk, rfl, hok⟩ := hrel
    have HK : Hid (okAll lo hi (zs.take k) = true) := hok
    clear hok
    by_cases hlt : k < len
    · rcases hr with h0 | ⟨b, off, rfl, hc⟩
      · omega
      have hcell := hc k hlt
      clear hc
      generalize hzk : zs.getD k 0 = z at hcell
      have HZ : Hid (zs.getD k 0 = z) := hzk
      clear hzk
      by_cases h1 : z < lo
      · go_wp2
        go_ret
        exact ⟨ret_bool (okAll_no lo hi zs k (by omega) (.inl (by rw [HZ.out]; exact h1))).symm, rfl⟩
      · by_cases h2 : hi < z
        · go_wp2
          go_ret
          exact ⟨ret_bool (okAll_no lo hi zs k (by omega) (.inr (by rw [HZ.out]; exact h2))).symm, rfl⟩
        · go_wp2
          go_round
          case rel => exact ⟨k + 1, by omega, by go_num, okAll_step lo hi zs k (by omega) HK.out (by rw [HZ.out]; omega) (by rw [HZ.out]; omega)⟩
          case measure => simp [intOf]; omega
    · go_wp2
      go_ret
      refine ⟨ret_bool ?_, rfl⟩
      have := HK.out
      rw [List.take_of_length_le (by omega)] at this
      exact this.symm

theorem row_one (w : World) (z : Int) (t : TypeId) : Row (w.alloc (.cells #[.int .i64 z] t)) (some ⟨w.heap.size, 0, none⟩) 1 [z] := by
  refine ⟨rfl, .inr ⟨_, _, rfl, fun i hi => ?_⟩⟩
  obtain rfl : i = 0 := by omega
  simp

theorem okAll_yes {lo hi z : Int} (h1 : lo ≤ z) (h2 : z ≤ hi) : okAll lo hi [z] = true := by simp [okAll, h1, h2]
theorem okAll_not {lo hi z : Int} (h : z < lo ∨ hi < z) : okAll lo hi [z] = false := by simp [okAll]; omega

/-- One number alone, laid in a new block: it lies within the bounds. -/
theorem within_one_yes (lo hi z : Int) (w : World) (b : Nat) (hb : b = w.heap.size) (h1 : lo ≤ z) (h2 : z ≤ hi) :
    Calls Try.prog 43 #[.int .i64 lo, .int .i64 hi, .slice (some ⟨b, 0, none⟩) 1 1] (w.alloc (.cells #[.int .i64 z] 3)) fun e w' => e = .returned (.bool true) ∧ w' = w.alloc (.cells #[.int .i64 z] 3) := by
  have h := within_any lo hi _ 1 1 [z] _ (row_one w z 3) (by decide)
  rw [okAll_yes h1 h2] at h
  rw [hb]
  exact h

theorem within_one_no (lo hi z : Int) (w : World) (b : Nat) (hb : b = w.heap.size) (h0 : z < lo ∨ hi < z) :
    Calls Try.prog 43 #[.int .i64 lo, .int .i64 hi, .slice (some ⟨b, 0, none⟩) 1 1] (w.alloc (.cells #[.int .i64 z] 3)) fun e w' => e = .returned (.bool false) ∧ w' = w.alloc (.cells #[.int .i64 z] 3) := by
  have h := within_any lo hi _ 1 1 [z] _ (row_one w z 3) (by decide)
  rw [okAll_not h0] at h
  rw [hb]
  exact h

theorem bel1 (w : World) (o : Obj) : Below w.heap.size w (w.alloc o) := (Below.refl _ _).alloc (Nat.le_refl _) _
theorem bel2 (w : World) (o o' : Obj) : Below w.heap.size w ((w.alloc o).alloc o') := (bel1 w o).alloc (by simp) _

theorem row_five (w : World) (a b c d e : Int) (t : TypeId) : Row (w.alloc (.cells #[.int .i64 a, .int .i64 b, .int .i64 c, .int .i64 d, .int .i64 e] t)) (some ⟨w.heap.size, 0, none⟩) 5 [a, b, c, d, e] := by
  refine ⟨rfl, .inr ⟨_, _, rfl, fun i hi => ?_⟩⟩
  match i, hi with
  | 0, _ => simp
  | 1, _ => simp
  | 2, _ => simp
  | 3, _ => simp
  | 4, _ => simp
/-- One number alone. -/
theorem within_one (lo hi z : Int) (w : World) (b : Nat) (hb : b = w.heap.size) :
    Calls Try.prog 43 #[.int .i64 lo, .int .i64 hi, .slice (some ⟨b, 0, none⟩) 1 1] (w.alloc (.cells #[.int .i64 z] 3)) fun e w' => e = .returned (.bool (decide (lo ≤ z ∧ z ≤ hi))) ∧ w' = w.alloc (.cells #[.int .i64 z] 3) := by
  have h := within_any lo hi _ 1 1 [z] _ (row_one w z 3) (by decide)
  have e : okAll lo hi [z] = decide (lo ≤ z ∧ z ≤ hi) := by simp [okAll]
  rw [e] at h
  rw [hb]
  exact h

theorem row_four (w : World) (a b c d : Int) (t : TypeId) : Row (w.alloc (.cells #[.int .i64 a, .int .i64 b, .int .i64 c, .int .i64 d] t)) (some ⟨w.heap.size, 0, none⟩) 4 [a, b, c, d] := by
  refine ⟨rfl, .inr ⟨_, _, rfl, fun i hi => ?_⟩⟩
  match i, hi with
  | 0, _ => simp
  | 1, _ => simp
  | 2, _ => simp
  | 3, _ => simp

end Go.Proofs.Ytfhlokjpdkmdjaa.bki

/- Which events may be: plain facts for the program. -/
namespace Go.Proofs.Ytfhlokjpdkmdjaa.book
open Go.RowKit
set_option maxRecDepth 100000
set_option linter.unusedVariables false
set_option linter.unusedSimpArgs false

/-- What is left of an event, when what its kind has is taken away. -/
def leftE (v : Ev) : Ev := if v.kd = 2 then ⟨0, 0, 0, 0, 0, 0, 0, 0, 0, 0, 0, v.ow, v.bp⟩ else if v.kd = 3 then ⟨0, 0, 0, 0, v.te, v.de, v.fe, v.pr, v.ch, 0, 0, v.ow, v.bp⟩ else if v.kd = 4 then ⟨0, 0, v.mo, 0, v.te, v.de, v.fe, v.pr, v.ch, v.un, 0, v.ow, v.bp⟩ else if v.kd = 5 then ⟨0, 0, v.mo, v.id, v.te, v.de, v.fe, v.pr, v.ch, v.un, v.tg, 0, 0⟩ else ⟨0, 0, v.mo, v.id, v.te, v.de, v.fe, v.pr, v.ch, v.un, v.tg, v.ow, v.bp⟩
def Numd (id tg : Int) : Prop := (1 ≤ id ∧ id ≤ 1048575) ∧ 0 ≤ tg ∧ tg ≤ 65535
def Unt (un : Int) : Prop := 1 ≤ un ∧ un ≤ 2097151
def Mon (mo : Int) : Prop := 0 ≤ mo ∧ mo ≤ 2399
def Mony (te de fe pr ch : Int) : Prop := (1 ≤ te ∧ te ≤ 100000000) ∧ ((0 ≤ de ∧ de ≤ 100000000) ∧ (0 ≤ fe ∧ fe ≤ 100000000) ∧ (0 ≤ pr ∧ pr ≤ 100000000) ∧ 0 ≤ ch ∧ ch ≤ 100000000) ∧ de + fe + pr + ch = te
def Dbt (ow bp : Int) : Prop := (1 ≤ ow ∧ ow ≤ 1000000000) ∧ 0 ≤ bp ∧ bp ≤ 10000
def KindR (v : Ev) : Prop := v.kd = 1 ∨ (v.kd = 2 ∧ Mon v.mo ∧ Numd v.id v.tg ∧ Unt v.un ∧ Mony v.te v.de v.fe v.pr v.ch) ∨ (v.kd = 3 ∧ Mon v.mo ∧ Numd v.id v.tg ∧ Unt v.un) ∨ (v.kd = 4 ∧ Numd v.id v.tg) ∨ (v.kd = 5 ∧ Dbt v.ow v.bp)
set_option maxHeartbeats 2000000 in
theorem may_iff (v : Ev) : EMay v ↔ (0 ≤ v.me ∧ v.me ≤ 49) ∧ KindR v ∧ leftE v = ev0 := by
  obtain ⟨kd, me, mo, id, te, de, fe, pr, ch, un, tg, ow, bp⟩ := v
  unfold EMay KindR leftE ev0 Numd Unt Mon Mony Dbt
  simp only
  by_cases h1 : kd = 1
  · subst h1; simp
  by_cases h2 : kd = 2
  · subst h2; simp; intro _ _; constructor <;> intro h <;> omega
  by_cases h3 : kd = 3
  · subst h3; simp; intro _ _; constructor <;> intro h <;> omega
  by_cases h4 : kd = 4
  · subst h4; simp; intro _ _; constructor <;> intro h <;> omega
  by_cases h5 : kd = 5
  · subst h5; simp; intro _ _; constructor <;> intro h <;> omega
  constructor
  · rintro ⟨_, h | h | h⟩
    · exact absurd h.1 h1
    · exact absurd h.1 h5
    · have := h.1; omega
  · rintro ⟨_, h | h | h | h | h, _⟩
    · exact absurd h h1
    · exact absurd h.1 h2
    · exact absurd h.1 h3
    · exact absurd h.1 h4
    · exact absurd h.1 h5
theorem kind_2 {v : Ev} (h : v.kd = 2) : KindR v ↔ Mon v.mo ∧ Numd v.id v.tg ∧ Unt v.un ∧ Mony v.te v.de v.fe v.pr v.ch := by simp [KindR, h]
theorem kind_3 {v : Ev} (h : v.kd = 3) : KindR v ↔ Mon v.mo ∧ Numd v.id v.tg ∧ Unt v.un := by simp [KindR, h]
theorem kind_4 {v : Ev} (h : v.kd = 4) : KindR v ↔ Numd v.id v.tg := by simp [KindR, h]
theorem kind_5 {v : Ev} (h : v.kd = 5) : KindR v ↔ Dbt v.ow v.bp := by simp [KindR, h]
/-- A question that is answered. -/
def YN (w : World) (P : Prop) (e : Ending) (w' : World) : Prop := ∃ B, e = .returned (.bool B) ∧ (B = true ↔ P) ∧ Below w.heap.size w w'
theorem YN.yes {w w' : World} {P : Prop} (h : P) (hb : Below w.heap.size w w') : YN w P (.returned (.bool true)) w' := ⟨true, rfl, ⟨fun _ => h, fun _ => rfl⟩, hb⟩
theorem YN.no {w w' : World} {P : Prop} (h : ¬ P) (hb : Below w.heap.size w w') : YN w P (.returned (.bool false)) w' := ⟨false, rfl, ⟨fun q => (by cases q), fun q => absurd q h⟩, hb⟩

end Go.Proofs.Ytfhlokjpdkmdjaa.book

/- Are the numbers of an event as told? In the program. -/
namespace Go.Proofs.Ytfhlokjpdkmdjaa.book
open Go.RowKit
set_option maxRecDepth 100000
set_option linter.unusedVariables false
set_option linter.unusedSimpArgs false

set_option maxHeartbeats 4000000 in
theorem bnum (kd me mo id te de fe pr ch un tg ow bp : Int) (w : World) : Calls Try.prog 60 #[.agg #[.int .i64 kd, .int .i64 me, .int .i64 mo, .int .i64 id, .int .i64 te, .int .i64 de, .int .i64 fe, .int .i64 pr, .int .i64 ch, .int .i64 un, .int .i64 tg, .int .i64 ow, .int .i64 bp]] w fun e w' => YN w (Numd id tg) e w' := by
  have HX0 : Hid (Blk (w.alloc (.cells #[.int .i64 kd, .int .i64 me, .int .i64 mo, .int .i64 id, .int .i64 te, .int .i64 de, .int .i64 fe, .int .i64 pr, .int .i64 ch, .int .i64 un, .int .i64 tg, .int .i64 ow, .int .i64 bp] 27)) w.heap.size #[.int .i64 kd, .int .i64 me, .int .i64 mo, .int .i64 id, .int .i64 te, .int .i64 de, .int .i64 fe, .int .i64 pr, .int .i64 ch, .int .i64 un, .int .i64 tg, .int .i64 ow, .int .i64 bp] 27) := Blk.new _ _ _
  have HB0 : Hid (Below w.heap.size w (w.alloc (.cells #[.int .i64 kd, .int .i64 me, .int .i64 mo, .int .i64 id, .int .i64 te, .int .i64 de, .int .i64 fe, .int .i64 pr, .int .i64 ch, .int .i64 un, .int .i64 tg, .int .i64 ow, .int .i64 bp] 27))) := (Below.refl _ _).alloc (Nat.le_refl _) _
  generalize hWW : (w.alloc (.cells #[.int .i64 kd, .int .i64 me, .int .i64 mo, .int .i64 id, .int .i64 te, .int .i64 de, .int .i64 fe, .int .i64 pr, .int .i64 ch, .int .i64 un, .int .i64 tg, .int .i64 ow, .int .i64 bp] 27)) = W0 at *
  have HWW : Hid ((w.alloc (.cells #[.int .i64 kd, .int .i64 me, .int .i64 mo, .int .i64 id, .int .i64 te, .int .i64 de, .int .i64 fe, .int .i64 pr, .int .i64 ch, .int .i64 un, .int .i64 tg, .int .i64 ow, .int .i64 bp] 27)) = W0) := hWW
  clear hWW
  go_enter Try.func60, Try.ntmps60
  go_upto_region 1 with fail
  rw [HWW.out]
  clear HWW
  have c0 : W0.cell? ⟨w.heap.size, 0, none⟩ = some (.int .i64 kd) := HX0.out.cell 0
  have c1 : W0.cell? ⟨w.heap.size, 1, none⟩ = some (.int .i64 me) := HX0.out.cell 1
  have c2 : W0.cell? ⟨w.heap.size, 2, none⟩ = some (.int .i64 mo) := HX0.out.cell 2
  have c3 : W0.cell? ⟨w.heap.size, 3, none⟩ = some (.int .i64 id) := HX0.out.cell 3
  have c4 : W0.cell? ⟨w.heap.size, 4, none⟩ = some (.int .i64 te) := HX0.out.cell 4
  have c5 : W0.cell? ⟨w.heap.size, 5, none⟩ = some (.int .i64 de) := HX0.out.cell 5
  have c6 : W0.cell? ⟨w.heap.size, 6, none⟩ = some (.int .i64 fe) := HX0.out.cell 6
  have c7 : W0.cell? ⟨w.heap.size, 7, none⟩ = some (.int .i64 pr) := HX0.out.cell 7
  have c8 : W0.cell? ⟨w.heap.size, 8, none⟩ = some (.int .i64 ch) := HX0.out.cell 8
  have c9 : W0.cell? ⟨w.heap.size, 9, none⟩ = some (.int .i64 un) := HX0.out.cell 9
  have c10 : W0.cell? ⟨w.heap.size, 10, none⟩ = some (.int .i64 tg) := HX0.out.cell 10
  have c11 : W0.cell? ⟨w.heap.size, 11, none⟩ = some (.int .i64 ow) := HX0.out.cell 11
  have c12 : W0.cell? ⟨w.heap.size, 12, none⟩ = some (.int .i64 bp) := HX0.out.cell 12
  have HW0 : Hid (Calls Try.prog 43 #[.int .i64 1, .int .i64 1048575, .slice (some ⟨W0.heap.size, 0, none⟩) 1 1] (W0.alloc (.cells #[.int .i64 id] 3)) fun e w' => e = .returned (.bool (decide (1 ≤ id ∧ id ≤ 1048575))) ∧ w' = (W0.alloc (.cells #[.int .i64 id] 3))) := bki.within_one 1 1048575 id W0 _ rfl
  have HB1 : Hid (Below w.heap.size w (W0.alloc (.cells #[.int .i64 id] 3))) := HB0.out.alloc HB0.out.size _
  have HX1 : Hid (Blk (W0.alloc (.cells #[.int .i64 id] 3)) w.heap.size #[.int .i64 kd, .int .i64 me, .int .i64 mo, .int .i64 id, .int .i64 te, .int .i64 de, .int .i64 fe, .int .i64 pr, .int .i64 ch, .int .i64 un, .int .i64 tg, .int .i64 ow, .int .i64 bp] 27) := HX0.out.alloc _
  by_cases h0 : 1 ≤ id ∧ id ≤ 1048575
  case neg =>
    rw [decide_eq_false h0] at HW0
    go_wp2_with fail
    refine HW0.out.mono ?_
    rintro e W ⟨rfl, hw⟩
    subst hw
    clear HW0
    go_wp2_with fail
    go_ret
    exact YN.no (fun q => h0 q.1) HB1.out
  rw [decide_eq_true h0] at HW0
  go_wp2_with fail
  refine HW0.out.mono ?_
  rintro e W ⟨rfl, hw⟩
  subst hw
  clear HW0 HB0 HX0
  clear c0 c1 c2 c3 c4 c5 c6 c7 c8 c9 c10 c11 c12
  generalize (W0.alloc (.cells #[.int .i64 id] 3)) = W1 at *
  have c0 : W1.cell? ⟨w.heap.size, 0, none⟩ = some (.int .i64 kd) := HX1.out.cell 0
  have c1 : W1.cell? ⟨w.heap.size, 1, none⟩ = some (.int .i64 me) := HX1.out.cell 1
  have c2 : W1.cell? ⟨w.heap.size, 2, none⟩ = some (.int .i64 mo) := HX1.out.cell 2
  have c3 : W1.cell? ⟨w.heap.size, 3, none⟩ = some (.int .i64 id) := HX1.out.cell 3
  have c4 : W1.cell? ⟨w.heap.size, 4, none⟩ = some (.int .i64 te) := HX1.out.cell 4
  have c5 : W1.cell? ⟨w.heap.size, 5, none⟩ = some (.int .i64 de) := HX1.out.cell 5
  have c6 : W1.cell? ⟨w.heap.size, 6, none⟩ = some (.int .i64 fe) := HX1.out.cell 6
  have c7 : W1.cell? ⟨w.heap.size, 7, none⟩ = some (.int .i64 pr) := HX1.out.cell 7
  have c8 : W1.cell? ⟨w.heap.size, 8, none⟩ = some (.int .i64 ch) := HX1.out.cell 8
  have c9 : W1.cell? ⟨w.heap.size, 9, none⟩ = some (.int .i64 un) := HX1.out.cell 9
  have c10 : W1.cell? ⟨w.heap.size, 10, none⟩ = some (.int .i64 tg) := HX1.out.cell 10
  have c11 : W1.cell? ⟨w.heap.size, 11, none⟩ = some (.int .i64 ow) := HX1.out.cell 11
  have c12 : W1.cell? ⟨w.heap.size, 12, none⟩ = some (.int .i64 bp) := HX1.out.cell 12
  have HW1 : Hid (Calls Try.prog 43 #[.int .i64 0, .int .i64 65535, .slice (some ⟨W1.heap.size, 0, none⟩) 1 1] (W1.alloc (.cells #[.int .i64 tg] 3)) fun e w' => e = .returned (.bool (decide (0 ≤ tg ∧ tg ≤ 65535))) ∧ w' = (W1.alloc (.cells #[.int .i64 tg] 3))) := bki.within_one 0 65535 tg W1 _ rfl
  have HB2 : Hid (Below w.heap.size w (W1.alloc (.cells #[.int .i64 tg] 3))) := HB1.out.alloc HB1.out.size _
  have HX2 : Hid (Blk (W1.alloc (.cells #[.int .i64 tg] 3)) w.heap.size #[.int .i64 kd, .int .i64 me, .int .i64 mo, .int .i64 id, .int .i64 te, .int .i64 de, .int .i64 fe, .int .i64 pr, .int .i64 ch, .int .i64 un, .int .i64 tg, .int .i64 ow, .int .i64 bp] 27) := HX1.out.alloc _
  by_cases h1 : 0 ≤ tg ∧ tg ≤ 65535
  case neg =>
    rw [decide_eq_false h1] at HW1
    go_wp2_with fail
    refine HW1.out.mono ?_
    rintro e W ⟨rfl, hw⟩
    subst hw
    clear HW1
    go_wp2_with fail
    go_ret
    exact YN.no (fun q => h1 q.2) HB2.out
  rw [decide_eq_true h1] at HW1
  go_wp2_with fail
  refine HW1.out.mono ?_
  rintro e W ⟨rfl, hw⟩
  subst hw
  clear HW1 HB1 HX1
  clear c0 c1 c2 c3 c4 c5 c6 c7 c8 c9 c10 c11 c12
  generalize (W1.alloc (.cells #[.int .i64 tg] 3)) = W2 at *
  have c0 : W2.cell? ⟨w.heap.size, 0, none⟩ = some (.int .i64 kd) := HX2.out.cell 0
  have c1 : W2.cell? ⟨w.heap.size, 1, none⟩ = some (.int .i64 me) := HX2.out.cell 1
  have c2 : W2.cell? ⟨w.heap.size, 2, none⟩ = some (.int .i64 mo) := HX2.out.cell 2
  have c3 : W2.cell? ⟨w.heap.size, 3, none⟩ = some (.int .i64 id) := HX2.out.cell 3
  have c4 : W2.cell? ⟨w.heap.size, 4, none⟩ = some (.int .i64 te) := HX2.out.cell 4
  have c5 : W2.cell? ⟨w.heap.size, 5, none⟩ = some (.int .i64 de) := HX2.out.cell 5
  have c6 : W2.cell? ⟨w.heap.size, 6, none⟩ = some (.int .i64 fe) := HX2.out.cell 6
  have c7 : W2.cell? ⟨w.heap.size, 7, none⟩ = some (.int .i64 pr) := HX2.out.cell 7
  have c8 : W2.cell? ⟨w.heap.size, 8, none⟩ = some (.int .i64 ch) := HX2.out.cell 8
  have c9 : W2.cell? ⟨w.heap.size, 9, none⟩ = some (.int .i64 un) := HX2.out.cell 9
  have c10 : W2.cell? ⟨w.heap.size, 10, none⟩ = some (.int .i64 tg) := HX2.out.cell 10
  have c11 : W2.cell? ⟨w.heap.size, 11, none⟩ = some (.int .i64 ow) := HX2.out.cell 11
  have c12 : W2.cell? ⟨w.heap.size, 12, none⟩ = some (.int .i64 bp) := HX2.out.cell 12
  go_wp2_with fail
  go_ret
  exact YN.yes (⟨h0, h1⟩) HB2.out
set_option maxHeartbeats 4000000 in
theorem bunt (kd me mo id te de fe pr ch un tg ow bp : Int) (w : World) : Calls Try.prog 61 #[.agg #[.int .i64 kd, .int .i64 me, .int .i64 mo, .int .i64 id, .int .i64 te, .int .i64 de, .int .i64 fe, .int .i64 pr, .int .i64 ch, .int .i64 un, .int .i64 tg, .int .i64 ow, .int .i64 bp]] w fun e w' => YN w (Unt un) e w' := by
  have HX0 : Hid (Blk (w.alloc (.cells #[.int .i64 kd, .int .i64 me, .int .i64 mo, .int .i64 id, .int .i64 te, .int .i64 de, .int .i64 fe, .int .i64 pr, .int .i64 ch, .int .i64 un, .int .i64 tg, .int .i64 ow, .int .i64 bp] 27)) w.heap.size #[.int .i64 kd, .int .i64 me, .int .i64 mo, .int .i64 id, .int .i64 te, .int .i64 de, .int .i64 fe, .int .i64 pr, .int .i64 ch, .int .i64 un, .int .i64 tg, .int .i64 ow, .int .i64 bp] 27) := Blk.new _ _ _
  have HB0 : Hid (Below w.heap.size w (w.alloc (.cells #[.int .i64 kd, .int .i64 me, .int .i64 mo, .int .i64 id, .int .i64 te, .int .i64 de, .int .i64 fe, .int .i64 pr, .int .i64 ch, .int .i64 un, .int .i64 tg, .int .i64 ow, .int .i64 bp] 27))) := (Below.refl _ _).alloc (Nat.le_refl _) _
  generalize hWW : (w.alloc (.cells #[.int .i64 kd, .int .i64 me, .int .i64 mo, .int .i64 id, .int .i64 te, .int .i64 de, .int .i64 fe, .int .i64 pr, .int .i64 ch, .int .i64 un, .int .i64 tg, .int .i64 ow, .int .i64 bp] 27)) = W0 at *
  have HWW : Hid ((w.alloc (.cells #[.int .i64 kd, .int .i64 me, .int .i64 mo, .int .i64 id, .int .i64 te, .int .i64 de, .int .i64 fe, .int .i64 pr, .int .i64 ch, .int .i64 un, .int .i64 tg, .int .i64 ow, .int .i64 bp] 27)) = W0) := hWW
  clear hWW
  go_enter Try.func61, Try.ntmps61
  go_upto_region 1 with fail
  rw [HWW.out]
  clear HWW
  have c0 : W0.cell? ⟨w.heap.size, 0, none⟩ = some (.int .i64 kd) := HX0.out.cell 0
  have c1 : W0.cell? ⟨w.heap.size, 1, none⟩ = some (.int .i64 me) := HX0.out.cell 1
  have c2 : W0.cell? ⟨w.heap.size, 2, none⟩ = some (.int .i64 mo) := HX0.out.cell 2
  have c3 : W0.cell? ⟨w.heap.size, 3, none⟩ = some (.int .i64 id) := HX0.out.cell 3
  have c4 : W0.cell? ⟨w.heap.size, 4, none⟩ = some (.int .i64 te) := HX0.out.cell 4
  have c5 : W0.cell? ⟨w.heap.size, 5, none⟩ = some (.int .i64 de) := HX0.out.cell 5
  have c6 : W0.cell? ⟨w.heap.size, 6, none⟩ = some (.int .i64 fe) := HX0.out.cell 6
  have c7 : W0.cell? ⟨w.heap.size, 7, none⟩ = some (.int .i64 pr) := HX0.out.cell 7
  have c8 : W0.cell? ⟨w.heap.size, 8, none⟩ = some (.int .i64 ch) := HX0.out.cell 8
  have c9 : W0.cell? ⟨w.heap.size, 9, none⟩ = some (.int .i64 un) := HX0.out.cell 9
  have c10 : W0.cell? ⟨w.heap.size, 10, none⟩ = some (.int .i64 tg) := HX0.out.cell 10
  have c11 : W0.cell? ⟨w.heap.size, 11, none⟩ = some (.int .i64 ow) := HX0.out.cell 11
  have c12 : W0.cell? ⟨w.heap.size, 12, none⟩ = some (.int .i64 bp) := HX0.out.cell 12
  have HW0 : Hid (Calls Try.prog 43 #[.int .i64 1, .int .i64 2097151, .slice (some ⟨W0.heap.size, 0, none⟩) 1 1] (W0.alloc (.cells #[.int .i64 un] 3)) fun e w' => e = .returned (.bool (decide (1 ≤ un ∧ un ≤ 2097151))) ∧ w' = (W0.alloc (.cells #[.int .i64 un] 3))) := bki.within_one 1 2097151 un W0 _ rfl
  have HB1 : Hid (Below w.heap.size w (W0.alloc (.cells #[.int .i64 un] 3))) := HB0.out.alloc HB0.out.size _
  have HX1 : Hid (Blk (W0.alloc (.cells #[.int .i64 un] 3)) w.heap.size #[.int .i64 kd, .int .i64 me, .int .i64 mo, .int .i64 id, .int .i64 te, .int .i64 de, .int .i64 fe, .int .i64 pr, .int .i64 ch, .int .i64 un, .int .i64 tg, .int .i64 ow, .int .i64 bp] 27) := HX0.out.alloc _
  by_cases h0 : 1 ≤ un ∧ un ≤ 2097151
  case neg =>
    rw [decide_eq_false h0] at HW0
    go_wp2_with fail
    refine HW0.out.mono ?_
    rintro e W ⟨rfl, hw⟩
    subst hw
    clear HW0
    go_wp2_with fail
    go_ret
    exact YN.no (fun q => h0 q) HB1.out
  rw [decide_eq_true h0] at HW0
  go_wp2_with fail
  refine HW0.out.mono ?_
  rintro e W ⟨rfl, hw⟩
  subst hw
  clear HW0 HB0 HX0
  clear c0 c1 c2 c3 c4 c5 c6 c7 c8 c9 c10 c11 c12
  generalize (W0.alloc (.cells #[.int .i64 un] 3)) = W1 at *
  have c0 : W1.cell? ⟨w.heap.size, 0, none⟩ = some (.int .i64 kd) := HX1.out.cell 0
  have c1 : W1.cell? ⟨w.heap.size, 1, none⟩ = some (.int .i64 me) := HX1.out.cell 1
  have c2 : W1.cell? ⟨w.heap.size, 2, none⟩ = some (.int .i64 mo) := HX1.out.cell 2
  have c3 : W1.cell? ⟨w.heap.size, 3, none⟩ = some (.int .i64 id) := HX1.out.cell 3
  have c4 : W1.cell? ⟨w.heap.size, 4, none⟩ = some (.int .i64 te) := HX1.out.cell 4
  have c5 : W1.cell? ⟨w.heap.size, 5, none⟩ = some (.int .i64 de) := HX1.out.cell 5
  have c6 : W1.cell? ⟨w.heap.size, 6, none⟩ = some (.int .i64 fe) := HX1.out.cell 6
  have c7 : W1.cell? ⟨w.heap.size, 7, none⟩ = some (.int .i64 pr) := HX1.out.cell 7
  have c8 : W1.cell? ⟨w.heap.size, 8, none⟩ = some (.int .i64 ch) := HX1.out.cell 8
  have c9 : W1.cell? ⟨w.heap.size, 9, none⟩ = some (.int .i64 un) := HX1.out.cell 9
  have c10 : W1.cell? ⟨w.heap.size, 10, none⟩ = some (.int .i64 tg) := HX1.out.cell 10
  have c11 : W1.cell? ⟨w.heap.size, 11, none⟩ = some (.int .i64 ow) := HX1.out.cell 11
  have c12 : W1.cell? ⟨w.heap.size, 12, none⟩ = some (.int .i64 bp) := HX1.out.cell 12
  go_wp2_with fail
  go_ret
  exact YN.yes (h0) HB1.out
set_option maxHeartbeats 4000000 in
theorem bmony (id te de fe pr ch un : Int) (w : World) : Calls Try.prog 62 #[.agg #[.int .i64 id, .int .i64 te, .int .i64 de, .int .i64 fe, .int .i64 pr, .int .i64 ch, .int .i64 un]] w fun e w' => YN w (Mony te de fe pr ch) e w' := by
  have HX0 : Hid (Blk (w.alloc (.cells #[.int .i64 id, .int .i64 te, .int .i64 de, .int .i64 fe, .int .i64 pr, .int .i64 ch, .int .i64 un] 23)) w.heap.size #[.int .i64 id, .int .i64 te, .int .i64 de, .int .i64 fe, .int .i64 pr, .int .i64 ch, .int .i64 un] 23) := Blk.new _ _ _
  have HB0 : Hid (Below w.heap.size w (w.alloc (.cells #[.int .i64 id, .int .i64 te, .int .i64 de, .int .i64 fe, .int .i64 pr, .int .i64 ch, .int .i64 un] 23))) := (Below.refl _ _).alloc (Nat.le_refl _) _
  generalize hWW : (w.alloc (.cells #[.int .i64 id, .int .i64 te, .int .i64 de, .int .i64 fe, .int .i64 pr, .int .i64 ch, .int .i64 un] 23)) = W0 at *
  have HWW : Hid ((w.alloc (.cells #[.int .i64 id, .int .i64 te, .int .i64 de, .int .i64 fe, .int .i64 pr, .int .i64 ch, .int .i64 un] 23)) = W0) := hWW
  clear hWW
  go_enter Try.func62, Try.ntmps62
  go_upto_region 1 with fail
  rw [HWW.out]
  clear HWW
  have c0 : W0.cell? ⟨w.heap.size, 0, none⟩ = some (.int .i64 id) := HX0.out.cell 0
  have c1 : W0.cell? ⟨w.heap.size, 1, none⟩ = some (.int .i64 te) := HX0.out.cell 1
  have c2 : W0.cell? ⟨w.heap.size, 2, none⟩ = some (.int .i64 de) := HX0.out.cell 2
  have c3 : W0.cell? ⟨w.heap.size, 3, none⟩ = some (.int .i64 fe) := HX0.out.cell 3
  have c4 : W0.cell? ⟨w.heap.size, 4, none⟩ = some (.int .i64 pr) := HX0.out.cell 4
  have c5 : W0.cell? ⟨w.heap.size, 5, none⟩ = some (.int .i64 ch) := HX0.out.cell 5
  have c6 : W0.cell? ⟨w.heap.size, 6, none⟩ = some (.int .i64 un) := HX0.out.cell 6
  have HW0 : Hid (Calls Try.prog 43 #[.int .i64 1, .int .i64 100000000, .slice (some ⟨W0.heap.size, 0, none⟩) 1 1] (W0.alloc (.cells #[.int .i64 te] 3)) fun e w' => e = .returned (.bool (decide (1 ≤ te ∧ te ≤ 100000000))) ∧ w' = (W0.alloc (.cells #[.int .i64 te] 3))) := bki.within_one 1 100000000 te W0 _ rfl
  have HB1 : Hid (Below w.heap.size w (W0.alloc (.cells #[.int .i64 te] 3))) := HB0.out.alloc HB0.out.size _
  have HX1 : Hid (Blk (W0.alloc (.cells #[.int .i64 te] 3)) w.heap.size #[.int .i64 id, .int .i64 te, .int .i64 de, .int .i64 fe, .int .i64 pr, .int .i64 ch, .int .i64 un] 23) := HX0.out.alloc _
  by_cases h0 : 1 ≤ te ∧ te ≤ 100000000
  case neg =>
    rw [decide_eq_false h0] at HW0
    go_wp2_with fail
    refine HW0.out.mono ?_
    rintro e W ⟨rfl, hw⟩
    subst hw
    clear HW0
    go_wp2_with fail
    go_ret
    exact YN.no (fun q => h0 q.1) HB1.out
  rw [decide_eq_true h0] at HW0
  go_wp2_with fail
  refine HW0.out.mono ?_
  rintro e W ⟨rfl, hw⟩
  subst hw
  clear HW0 HB0 HX0
  clear c0 c1 c2 c3 c4 c5 c6
  generalize (W0.alloc (.cells #[.int .i64 te] 3)) = W1 at *
  have c0 : W1.cell? ⟨w.heap.size, 0, none⟩ = some (.int .i64 id) := HX1.out.cell 0
  have c1 : W1.cell? ⟨w.heap.size, 1, none⟩ = some (.int .i64 te) := HX1.out.cell 1
  have c2 : W1.cell? ⟨w.heap.size, 2, none⟩ = some (.int .i64 de) := HX1.out.cell 2
  have c3 : W1.cell? ⟨w.heap.size, 3, none⟩ = some (.int .i64 fe) := HX1.out.cell 3
  have c4 : W1.cell? ⟨w.heap.size, 4, none⟩ = some (.int .i64 pr) := HX1.out.cell 4
  have c5 : W1.cell? ⟨w.heap.size, 5, none⟩ = some (.int .i64 ch) := HX1.out.cell 5
  have c6 : W1.cell? ⟨w.heap.size, 6, none⟩ = some (.int .i64 un) := HX1.out.cell 6
  have HW1 : Hid (Calls Try.prog 43 #[.int .i64 0, .int .i64 100000000, .slice (some ⟨W1.heap.size, 0, none⟩) 4 4] (W1.alloc (.cells #[.int .i64 de, .int .i64 fe, .int .i64 pr, .int .i64 ch] 3)) fun e w' => e = .returned (.bool (bki.okAll 0 100000000 [de, fe, pr, ch])) ∧ w' = (W1.alloc (.cells #[.int .i64 de, .int .i64 fe, .int .i64 pr, .int .i64 ch] 3))) := bki.within_any 0 100000000 _ 4 4 [de, fe, pr, ch] _ (bki.row_four W1 de fe pr ch 3) (by decide)
  have HB2 : Hid (Below w.heap.size w (W1.alloc (.cells #[.int .i64 de, .int .i64 fe, .int .i64 pr, .int .i64 ch] 3))) := HB1.out.alloc HB1.out.size _
  have HX2 : Hid (Blk (W1.alloc (.cells #[.int .i64 de, .int .i64 fe, .int .i64 pr, .int .i64 ch] 3)) w.heap.size #[.int .i64 id, .int .i64 te, .int .i64 de, .int .i64 fe, .int .i64 pr, .int .i64 ch, .int .i64 un] 23) := HX1.out.alloc _
  by_cases h1 : bki.okAll 0 100000000 [de, fe, pr, ch] = true
  case neg =>
    rw [show bki.okAll 0 100000000 [de, fe, pr, ch] = false by simpa using h1] at HW1
    go_wp2_with fail
    refine HW1.out.mono ?_
    rintro e W ⟨rfl, hw⟩
    subst hw
    clear HW1
    go_wp2_with fail
    go_ret
    exact YN.no (fun q => h1 (by simpa [bki.okAll] using q.2.1)) HB2.out
  rw [h1] at HW1
  go_wp2_with fail
  refine HW1.out.mono ?_
  rintro e W ⟨rfl, hw⟩
  subst hw
  clear HW1 HB1 HX1
  clear c0 c1 c2 c3 c4 c5 c6
  generalize (W1.alloc (.cells #[.int .i64 de, .int .i64 fe, .int .i64 pr, .int .i64 ch] 3)) = W2 at *
  have c0 : W2.cell? ⟨w.heap.size, 0, none⟩ = some (.int .i64 id) := HX2.out.cell 0
  have c1 : W2.cell? ⟨w.heap.size, 1, none⟩ = some (.int .i64 te) := HX2.out.cell 1
  have c2 : W2.cell? ⟨w.heap.size, 2, none⟩ = some (.int .i64 de) := HX2.out.cell 2
  have c3 : W2.cell? ⟨w.heap.size, 3, none⟩ = some (.int .i64 fe) := HX2.out.cell 3
  have c4 : W2.cell? ⟨w.heap.size, 4, none⟩ = some (.int .i64 pr) := HX2.out.cell 4
  have c5 : W2.cell? ⟨w.heap.size, 5, none⟩ = some (.int .i64 ch) := HX2.out.cell 5
  have c6 : W2.cell? ⟨w.heap.size, 6, none⟩ = some (.int .i64 un) := HX2.out.cell 6
  have hh : (0 ≤ de ∧ de ≤ 100000000) ∧ (0 ≤ fe ∧ fe ≤ 100000000) ∧ (0 ≤ pr ∧ pr ≤ 100000000) ∧ 0 ≤ ch ∧ ch ≤ 100000000 := by simpa [bki.okAll] using h1
  have e1 : IntKind.i64.wrap (de + fe) = de + fe := by rw [IntKind.wrap_i64]; omega
  have e2 : IntKind.i64.wrap (de + fe + pr) = de + fe + pr := by rw [IntKind.wrap_i64]; omega
  have e3 : IntKind.i64.wrap (de + fe + pr + ch) = de + fe + pr + ch := by rw [IntKind.wrap_i64]; omega
  have HH : Hid ((0 ≤ de ∧ de ≤ 100000000) ∧ (0 ≤ fe ∧ fe ≤ 100000000) ∧ (0 ≤ pr ∧ pr ≤ 100000000) ∧ 0 ≤ ch ∧ ch ≤ 100000000) := hh
  have H0 : Hid (1 ≤ te ∧ te ≤ 100000000) := h0
  clear hh h1 h0
  by_cases h2 : de + fe + pr + ch = te
  · have hq : ((de + fe + pr + ch) == te) = true := by simpa using h2
    have H2 : Hid (de + fe + pr + ch = te) := h2
    clear h2
    go_wp2_with fail
    go_ret
    exact YN.yes ⟨H0.out, HH.out, H2.out⟩ HB2.out
  · have hq : ((de + fe + pr + ch) == te) = false := by simpa using h2
    have H2 : Hid (¬ de + fe + pr + ch = te) := h2
    clear h2
    go_wp2_with fail
    go_ret
    exact YN.no (fun q => H2.out q.2.2) HB2.out

end Go.Proofs.Ytfhlokjpdkmdjaa.book

/- Is the kind of an event one of those that are? In the program. -/
namespace Go.Proofs.Ytfhlokjpdkmdjaa.book
open Go.RowKit
set_option maxRecDepth 100000
set_option linter.unusedVariables false
set_option linter.unusedSimpArgs false

set_option maxHeartbeats 4000000 in
theorem bkind (kd me mo id te de fe pr ch un tg ow bp : Int) (w : World) : Calls Try.prog 44 #[.agg #[.int .i64 kd, .int .i64 me, .int .i64 mo, .int .i64 id, .int .i64 te, .int .i64 de, .int .i64 fe, .int .i64 pr, .int .i64 ch, .int .i64 un, .int .i64 tg, .int .i64 ow, .int .i64 bp]] w fun e w' => YN w (KindR ⟨kd, me, mo, id, te, de, fe, pr, ch, un, tg, ow, bp⟩) e w' := by
  have HX0 : Hid (Blk (w.alloc (.cells #[.int .i64 kd, .int .i64 me, .int .i64 mo, .int .i64 id, .int .i64 te, .int .i64 de, .int .i64 fe, .int .i64 pr, .int .i64 ch, .int .i64 un, .int .i64 tg, .int .i64 ow, .int .i64 bp] 27)) w.heap.size #[.int .i64 kd, .int .i64 me, .int .i64 mo, .int .i64 id, .int .i64 te, .int .i64 de, .int .i64 fe, .int .i64 pr, .int .i64 ch, .int .i64 un, .int .i64 tg, .int .i64 ow, .int .i64 bp] 27) := Blk.new _ _ _
  have HB0 : Hid (Below w.heap.size w (w.alloc (.cells #[.int .i64 kd, .int .i64 me, .int .i64 mo, .int .i64 id, .int .i64 te, .int .i64 de, .int .i64 fe, .int .i64 pr, .int .i64 ch, .int .i64 un, .int .i64 tg, .int .i64 ow, .int .i64 bp] 27))) := (Below.refl _ _).alloc (Nat.le_refl _) _
  generalize hWW : (w.alloc (.cells #[.int .i64 kd, .int .i64 me, .int .i64 mo, .int .i64 id, .int .i64 te, .int .i64 de, .int .i64 fe, .int .i64 pr, .int .i64 ch, .int .i64 un, .int .i64 tg, .int .i64 ow, .int .i64 bp] 27)) = W0 at *
  have HWW : Hid ((w.alloc (.cells #[.int .i64 kd, .int .i64 me, .int .i64 mo, .int .i64 id, .int .i64 te, .int .i64 de, .int .i64 fe, .int .i64 pr, .int .i64 ch, .int .i64 un, .int .i64 tg, .int .i64 ow, .int .i64 bp] 27)) = W0) := hWW
  clear hWW
  go_enter Try.func44, Try.ntmps44
  go_upto_region 1 with fail
  rw [HWW.out]
  clear HWW
  have c0 : W0.cell? ⟨w.heap.size, 0, none⟩ = some (.int .i64 kd) := HX0.out.cell 0
  have c1 : W0.cell? ⟨w.heap.size, 1, none⟩ = some (.int .i64 me) := HX0.out.cell 1
  have c2 : W0.cell? ⟨w.heap.size, 2, none⟩ = some (.int .i64 mo) := HX0.out.cell 2
  have c3 : W0.cell? ⟨w.heap.size, 3, none⟩ = some (.int .i64 id) := HX0.out.cell 3
  have c4 : W0.cell? ⟨w.heap.size, 4, none⟩ = some (.int .i64 te) := HX0.out.cell 4
  have c5 : W0.cell? ⟨w.heap.size, 5, none⟩ = some (.int .i64 de) := HX0.out.cell 5
  have c6 : W0.cell? ⟨w.heap.size, 6, none⟩ = some (.int .i64 fe) := HX0.out.cell 6
  have c7 : W0.cell? ⟨w.heap.size, 7, none⟩ = some (.int .i64 pr) := HX0.out.cell 7
  have c8 : W0.cell? ⟨w.heap.size, 8, none⟩ = some (.int .i64 ch) := HX0.out.cell 8
  have c9 : W0.cell? ⟨w.heap.size, 9, none⟩ = some (.int .i64 un) := HX0.out.cell 9
  have c10 : W0.cell? ⟨w.heap.size, 10, none⟩ = some (.int .i64 tg) := HX0.out.cell 10
  have c11 : W0.cell? ⟨w.heap.size, 11, none⟩ = some (.int .i64 ow) := HX0.out.cell 11
  have c12 : W0.cell? ⟨w.heap.size, 12, none⟩ = some (.int .i64 bp) := HX0.out.cell 12
  by_cases k1 : kd = 1
  case pos =>
    have q1 : (kd == 1) = true := by simpa using k1
    have HK : Hid (kd = 1) := k1
    clear k1
    go_wp2_with fail
    go_ret
    exact YN.yes (Or.inl HK.out) HB0.out
  have q1 : (kd == 1) = false := by simpa using k1
  by_cases k2 : kd = 2
  case pos =>
    have q2 : (kd == 2) = true := by simpa using k2
    have HK : Hid (kd = 2) := k2
    clear k1 k2
    have HW0 : Hid (Calls Try.prog 43 #[.int .i64 0, .int .i64 2399, .slice (some ⟨W0.heap.size, 0, none⟩) 1 1] (W0.alloc (.cells #[.int .i64 mo] 3)) fun e w' => e = .returned (.bool (decide (0 ≤ mo ∧ mo ≤ 2399))) ∧ w' = (W0.alloc (.cells #[.int .i64 mo] 3))) := bki.within_one 0 2399 mo W0 _ rfl
    have HB1 : Hid (Below w.heap.size w (W0.alloc (.cells #[.int .i64 mo] 3))) := HB0.out.alloc HB0.out.size _
    have HX1 : Hid (Blk (W0.alloc (.cells #[.int .i64 mo] 3)) w.heap.size #[.int .i64 kd, .int .i64 me, .int .i64 mo, .int .i64 id, .int .i64 te, .int .i64 de, .int .i64 fe, .int .i64 pr, .int .i64 ch, .int .i64 un, .int .i64 tg, .int .i64 ow, .int .i64 bp] 27) := HX0.out.alloc _
    by_cases h0 : 0 ≤ mo ∧ mo ≤ 2399
    case neg =>
      rw [decide_eq_false h0] at HW0
      go_wp2_with fail
      refine HW0.out.mono ?_
      rintro e W ⟨rfl, hw⟩
      subst hw
      clear HW0
      go_wp2_with fail
      go_ret
      exact YN.no (fun q => (fun q => h0 q.1) ((kind_2 (v := ⟨kd, me, mo, id, te, de, fe, pr, ch, un, tg, ow, bp⟩) HK.out).1 q)) HB1.out
    rw [decide_eq_true h0] at HW0
    go_wp2_with fail
    refine HW0.out.mono ?_
    rintro e W ⟨rfl, hw⟩
    subst hw
    clear HW0 HB0 HX0
    clear c0 c1 c2 c3 c4 c5 c6 c7 c8 c9 c10 c11 c12
    generalize (W0.alloc (.cells #[.int .i64 mo] 3)) = W1 at *
    have c0 : W1.cell? ⟨w.heap.size, 0, none⟩ = some (.int .i64 kd) := HX1.out.cell 0
    have c1 : W1.cell? ⟨w.heap.size, 1, none⟩ = some (.int .i64 me) := HX1.out.cell 1
    have c2 : W1.cell? ⟨w.heap.size, 2, none⟩ = some (.int .i64 mo) := HX1.out.cell 2
    have c3 : W1.cell? ⟨w.heap.size, 3, none⟩ = some (.int .i64 id) := HX1.out.cell 3
    have c4 : W1.cell? ⟨w.heap.size, 4, none⟩ = some (.int .i64 te) := HX1.out.cell 4
    have c5 : W1.cell? ⟨w.heap.size, 5, none⟩ = some (.int .i64 de) := HX1.out.cell 5
    have c6 : W1.cell? ⟨w.heap.size, 6, none⟩ = some (.int .i64 fe) := HX1.out.cell 6
    have c7 : W1.cell? ⟨w.heap.size, 7, none⟩ = some (.int .i64 pr) := HX1.out.cell 7
    have c8 : W1.cell? ⟨w.heap.size, 8, none⟩ = some (.int .i64 ch) := HX1.out.cell 8
    have c9 : W1.cell? ⟨w.heap.size, 9, none⟩ = some (.int .i64 un) := HX1.out.cell 9
    have c10 : W1.cell? ⟨w.heap.size, 10, none⟩ = some (.int .i64 tg) := HX1.out.cell 10
    have c11 : W1.cell? ⟨w.heap.size, 11, none⟩ = some (.int .i64 ow) := HX1.out.cell 11
    have c12 : W1.cell? ⟨w.heap.size, 12, none⟩ = some (.int .i64 bp) := HX1.out.cell 12
    have HC1 : Hid (∀ W, Calls Try.prog 60 #[.agg #[.int .i64 kd, .int .i64 me, .int .i64 mo, .int .i64 id, .int .i64 te, .int .i64 de, .int .i64 fe, .int .i64 pr, .int .i64 ch, .int .i64 un, .int .i64 tg, .int .i64 ow, .int .i64 bp]] W fun e w' => YN W (Numd id tg) e w') := fun W => bnum kd me mo id te de fe pr ch un tg ow bp W
    go_wp2_with fail
    refine (HC1.out _).mono ?_
    rintro e W2 ⟨B, rfl, hB, hb⟩
    have HB2 : Hid (Below w.heap.size w W2) := bel_step HB1.out hb
    have HX2 : Hid (Blk W2 w.heap.size #[.int .i64 kd, .int .i64 me, .int .i64 mo, .int .i64 id, .int .i64 te, .int .i64 de, .int .i64 fe, .int .i64 pr, .int .i64 ch, .int .i64 un, .int .i64 tg, .int .i64 ow, .int .i64 bp] 27) := HX1.out.next hb
    clear hb HC1 HB1 HX1
    clear c0 c1 c2 c3 c4 c5 c6 c7 c8 c9 c10 c11 c12
    have c0 : W2.cell? ⟨w.heap.size, 0, none⟩ = some (.int .i64 kd) := HX2.out.cell 0
    have c1 : W2.cell? ⟨w.heap.size, 1, none⟩ = some (.int .i64 me) := HX2.out.cell 1
    have c2 : W2.cell? ⟨w.heap.size, 2, none⟩ = some (.int .i64 mo) := HX2.out.cell 2
    have c3 : W2.cell? ⟨w.heap.size, 3, none⟩ = some (.int .i64 id) := HX2.out.cell 3
    have c4 : W2.cell? ⟨w.heap.size, 4, none⟩ = some (.int .i64 te) := HX2.out.cell 4
    have c5 : W2.cell? ⟨w.heap.size, 5, none⟩ = some (.int .i64 de) := HX2.out.cell 5
    have c6 : W2.cell? ⟨w.heap.size, 6, none⟩ = some (.int .i64 fe) := HX2.out.cell 6
    have c7 : W2.cell? ⟨w.heap.size, 7, none⟩ = some (.int .i64 pr) := HX2.out.cell 7
    have c8 : W2.cell? ⟨w.heap.size, 8, none⟩ = some (.int .i64 ch) := HX2.out.cell 8
    have c9 : W2.cell? ⟨w.heap.size, 9, none⟩ = some (.int .i64 un) := HX2.out.cell 9
    have c10 : W2.cell? ⟨w.heap.size, 10, none⟩ = some (.int .i64 tg) := HX2.out.cell 10
    have c11 : W2.cell? ⟨w.heap.size, 11, none⟩ = some (.int .i64 ow) := HX2.out.cell 11
    have c12 : W2.cell? ⟨w.heap.size, 12, none⟩ = some (.int .i64 bp) := HX2.out.cell 12
    cases B
    case false =>
      have HQ : Hid (¬ (Numd id tg)) := fun q => absurd (hB.2 q) (by decide)
      clear hB
      go_wp2_with fail
      go_ret
      exact YN.no (fun q => (fun q => HQ.out q.2.1) ((kind_2 (v := ⟨kd, me, mo, id, te, de, fe, pr, ch, un, tg, ow, bp⟩) HK.out).1 q)) HB2.out
    have H1 : Hid (Numd id tg) := hB.1 rfl
    clear hB
    have HC2 : Hid (∀ W, Calls Try.prog 61 #[.agg #[.int .i64 kd, .int .i64 me, .int .i64 mo, .int .i64 id, .int .i64 te, .int .i64 de, .int .i64 fe, .int .i64 pr, .int .i64 ch, .int .i64 un, .int .i64 tg, .int .i64 ow, .int .i64 bp]] W fun e w' => YN W (Unt un) e w') := fun W => bunt kd me mo id te de fe pr ch un tg ow bp W
    go_wp2_with fail
    refine (HC2.out _).mono ?_
    rintro e W3 ⟨B, rfl, hB, hb⟩
    have HB3 : Hid (Below w.heap.size w W3) := bel_step HB2.out hb
    have HX3 : Hid (Blk W3 w.heap.size #[.int .i64 kd, .int .i64 me, .int .i64 mo, .int .i64 id, .int .i64 te, .int .i64 de, .int .i64 fe, .int .i64 pr, .int .i64 ch, .int .i64 un, .int .i64 tg, .int .i64 ow, .int .i64 bp] 27) := HX2.out.next hb
    clear hb HC2 HB2 HX2
    clear c0 c1 c2 c3 c4 c5 c6 c7 c8 c9 c10 c11 c12
    have c0 : W3.cell? ⟨w.heap.size, 0, none⟩ = some (.int .i64 kd) := HX3.out.cell 0
    have c1 : W3.cell? ⟨w.heap.size, 1, none⟩ = some (.int .i64 me) := HX3.out.cell 1
    have c2 : W3.cell? ⟨w.heap.size, 2, none⟩ = some (.int .i64 mo) := HX3.out.cell 2
    have c3 : W3.cell? ⟨w.heap.size, 3, none⟩ = some (.int .i64 id) := HX3.out.cell 3
    have c4 : W3.cell? ⟨w.heap.size, 4, none⟩ = some (.int .i64 te) := HX3.out.cell 4
    have c5 : W3.cell? ⟨w.heap.size, 5, none⟩ = some (.int .i64 de) := HX3.out.cell 5
    have c6 : W3.cell? ⟨w.heap.size, 6, none⟩ = some (.int .i64 fe) := HX3.out.cell 6
    have c7 : W3.cell? ⟨w.heap.size, 7, none⟩ = some (.int .i64 pr) := HX3.out.cell 7
    have c8 : W3.cell? ⟨w.heap.size, 8, none⟩ = some (.int .i64 ch) := HX3.out.cell 8
    have c9 : W3.cell? ⟨w.heap.size, 9, none⟩ = some (.int .i64 un) := HX3.out.cell 9
    have c10 : W3.cell? ⟨w.heap.size, 10, none⟩ = some (.int .i64 tg) := HX3.out.cell 10
    have c11 : W3.cell? ⟨w.heap.size, 11, none⟩ = some (.int .i64 ow) := HX3.out.cell 11
    have c12 : W3.cell? ⟨w.heap.size, 12, none⟩ = some (.int .i64 bp) := HX3.out.cell 12
    cases B
    case false =>
      have HQ : Hid (¬ (Unt un)) := fun q => absurd (hB.2 q) (by decide)
      clear hB
      go_wp2_with fail
      go_ret
      exact YN.no (fun q => (fun q => HQ.out q.2.2.1) ((kind_2 (v := ⟨kd, me, mo, id, te, de, fe, pr, ch, un, tg, ow, bp⟩) HK.out).1 q)) HB3.out
    have H2 : Hid (Unt un) := hB.1 rfl
    clear hB
    have HC3 : Hid (∀ W, Calls Try.prog 62 #[.agg #[.int .i64 id, .int .i64 te, .int .i64 de, .int .i64 fe, .int .i64 pr, .int .i64 ch, .int .i64 un]] W fun e w' => YN W (Mony te de fe pr ch) e w') := fun W => bmony id te de fe pr ch un W
    go_wp2_with fail
    refine (HC3.out _).mono ?_
    rintro e W4 ⟨B, rfl, hB, hb⟩
    have HB4 : Hid (Below w.heap.size w W4) := bel_step HB3.out hb
    have HX4 : Hid (Blk W4 w.heap.size #[.int .i64 kd, .int .i64 me, .int .i64 mo, .int .i64 id, .int .i64 te, .int .i64 de, .int .i64 fe, .int .i64 pr, .int .i64 ch, .int .i64 un, .int .i64 tg, .int .i64 ow, .int .i64 bp] 27) := HX3.out.next hb
    clear hb HC3 HB3 HX3
    clear c0 c1 c2 c3 c4 c5 c6 c7 c8 c9 c10 c11 c12
    have c0 : W4.cell? ⟨w.heap.size, 0, none⟩ = some (.int .i64 kd) := HX4.out.cell 0
    have c1 : W4.cell? ⟨w.heap.size, 1, none⟩ = some (.int .i64 me) := HX4.out.cell 1
    have c2 : W4.cell? ⟨w.heap.size, 2, none⟩ = some (.int .i64 mo) := HX4.out.cell 2
    have c3 : W4.cell? ⟨w.heap.size, 3, none⟩ = some (.int .i64 id) := HX4.out.cell 3
    have c4 : W4.cell? ⟨w.heap.size, 4, none⟩ = some (.int .i64 te) := HX4.out.cell 4
    have c5 : W4.cell? ⟨w.heap.size, 5, none⟩ = some (.int .i64 de) := HX4.out.cell 5
    have c6 : W4.cell? ⟨w.heap.size, 6, none⟩ = some (.int .i64 fe) := HX4.out.cell 6
    have c7 : W4.cell? ⟨w.heap.size, 7, none⟩ = some (.int .i64 pr) := HX4.out.cell 7
    have c8 : W4.cell? ⟨w.heap.size, 8, none⟩ = some (.int .i64 ch) := HX4.out.cell 8
    have c9 : W4.cell? ⟨w.heap.size, 9, none⟩ = some (.int .i64 un) := HX4.out.cell 9
    have c10 : W4.cell? ⟨w.heap.size, 10, none⟩ = some (.int .i64 tg) := HX4.out.cell 10
    have c11 : W4.cell? ⟨w.heap.size, 11, none⟩ = some (.int .i64 ow) := HX4.out.cell 11
    have c12 : W4.cell? ⟨w.heap.size, 12, none⟩ = some (.int .i64 bp) := HX4.out.cell 12
    cases B
    case false =>
      have HQ : Hid (¬ (Mony te de fe pr ch)) := fun q => absurd (hB.2 q) (by decide)
      clear hB
      go_wp2_with fail
      go_ret
      exact YN.no (fun q => (fun q => HQ.out q.2.2.2) ((kind_2 (v := ⟨kd, me, mo, id, te, de, fe, pr, ch, un, tg, ow, bp⟩) HK.out).1 q)) HB4.out
    have H3 : Hid (Mony te de fe pr ch) := hB.1 rfl
    clear hB
    go_wp2_with fail
    go_ret
    exact YN.yes ((kind_2 (v := ⟨kd, me, mo, id, te, de, fe, pr, ch, un, tg, ow, bp⟩) HK.out).2 ⟨h0, H1.out, H2.out, H3.out⟩) HB4.out
  have q2 : (kd == 2) = false := by simpa using k2
  by_cases k3 : kd = 3
  case pos =>
    have q3 : (kd == 3) = true := by simpa using k3
    have HK : Hid (kd = 3) := k3
    clear k1 k2 k3
    have HW0 : Hid (Calls Try.prog 43 #[.int .i64 0, .int .i64 2399, .slice (some ⟨W0.heap.size, 0, none⟩) 1 1] (W0.alloc (.cells #[.int .i64 mo] 3)) fun e w' => e = .returned (.bool (decide (0 ≤ mo ∧ mo ≤ 2399))) ∧ w' = (W0.alloc (.cells #[.int .i64 mo] 3))) := bki.within_one 0 2399 mo W0 _ rfl
    have HB1 : Hid (Below w.heap.size w (W0.alloc (.cells #[.int .i64 mo] 3))) := HB0.out.alloc HB0.out.size _
    have HX1 : Hid (Blk (W0.alloc (.cells #[.int .i64 mo] 3)) w.heap.size #[.int .i64 kd, .int .i64 me, .int .i64 mo, .int .i64 id, .int .i64 te, .int .i64 de, .int .i64 fe, .int .i64 pr, .int .i64 ch, .int .i64 un, .int .i64 tg, .int .i64 ow, .int .i64 bp] 27) := HX0.out.alloc _
    by_cases h0 : 0 ≤ mo ∧ mo ≤ 2399
    case neg =>
      rw [decide_eq_false h0] at HW0
      go_wp2_with fail
      refine HW0.out.mono ?_
      rintro e W ⟨rfl, hw⟩
      subst hw
      clear HW0
      go_wp2_with fail
      go_ret
      exact YN.no (fun q => (fun q => h0 q.1) ((kind_3 (v := ⟨kd, me, mo, id, te, de, fe, pr, ch, un, tg, ow, bp⟩) HK.out).1 q)) HB1.out
    rw [decide_eq_true h0] at HW0
    go_wp2_with fail
    refine HW0.out.mono ?_
    rintro e W ⟨rfl, hw⟩
    subst hw
    clear HW0 HB0 HX0
    clear c0 c1 c2 c3 c4 c5 c6 c7 c8 c9 c10 c11 c12
    generalize (W0.alloc (.cells #[.int .i64 mo] 3)) = W1 at *
    have c0 : W1.cell? ⟨w.heap.size, 0, none⟩ = some (.int .i64 kd) := HX1.out.cell 0
    have c1 : W1.cell? ⟨w.heap.size, 1, none⟩ = some (.int .i64 me) := HX1.out.cell 1
    have c2 : W1.cell? ⟨w.heap.size, 2, none⟩ = some (.int .i64 mo) := HX1.out.cell 2
    have c3 : W1.cell? ⟨w.heap.size, 3, none⟩ = some (.int .i64 id) := HX1.out.cell 3
    have c4 : W1.cell? ⟨w.heap.size, 4, none⟩ = some (.int .i64 te) := HX1.out.cell 4
    have c5 : W1.cell? ⟨w.heap.size, 5, none⟩ = some (.int .i64 de) := HX1.out.cell 5
    have c6 : W1.cell? ⟨w.heap.size, 6, none⟩ = some (.int .i64 fe) := HX1.out.cell 6
    have c7 : W1.cell? ⟨w.heap.size, 7, none⟩ = some (.int .i64 pr) := HX1.out.cell 7
    have c8 : W1.cell? ⟨w.heap.size, 8, none⟩ = some (.int .i64 ch) := HX1.out.cell 8
    have c9 : W1.cell? ⟨w.heap.size, 9, none⟩ = some (.int .i64 un) := HX1.out.cell 9
    have c10 : W1.cell? ⟨w.heap.size, 10, none⟩ = some (.int .i64 tg) := HX1.out.cell 10
    have c11 : W1.cell? ⟨w.heap.size, 11, none⟩ = some (.int .i64 ow) := HX1.out.cell 11
    have c12 : W1.cell? ⟨w.heap.size, 12, none⟩ = some (.int .i64 bp) := HX1.out.cell 12
    have HC1 : Hid (∀ W, Calls Try.prog 60 #[.agg #[.int .i64 kd, .int .i64 me, .int .i64 mo, .int .i64 id, .int .i64 te, .int .i64 de, .int .i64 fe, .int .i64 pr, .int .i64 ch, .int .i64 un, .int .i64 tg, .int .i64 ow, .int .i64 bp]] W fun e w' => YN W (Numd id tg) e w') := fun W => bnum kd me mo id te de fe pr ch un tg ow bp W
    go_wp2_with fail
    refine (HC1.out _).mono ?_
    rintro e W2 ⟨B, rfl, hB, hb⟩
    have HB2 : Hid (Below w.heap.size w W2) := bel_step HB1.out hb
    have HX2 : Hid (Blk W2 w.heap.size #[.int .i64 kd, .int .i64 me, .int .i64 mo, .int .i64 id, .int .i64 te, .int .i64 de, .int .i64 fe, .int .i64 pr, .int .i64 ch, .int .i64 un, .int .i64 tg, .int .i64 ow, .int .i64 bp] 27) := HX1.out.next hb
    clear hb HC1 HB1 HX1
    clear c0 c1 c2 c3 c4 c5 c6 c7 c8 c9 c10 c11 c12
    have c0 : W2.cell? ⟨w.heap.size, 0, none⟩ = some (.int .i64 kd) := HX2.out.cell 0
    have c1 : W2.cell? ⟨w.heap.size, 1, none⟩ = some (.int .i64 me) := HX2.out.cell 1
    have c2 : W2.cell? ⟨w.heap.size, 2, none⟩ = some (.int .i64 mo) := HX2.out.cell 2
    have c3 : W2.cell? ⟨w.heap.size, 3, none⟩ = some (.int .i64 id) := HX2.out.cell 3
    have c4 : W2.cell? ⟨w.heap.size, 4, none⟩ = some (.int .i64 te) := HX2.out.cell 4
    have c5 : W2.cell? ⟨w.heap.size, 5, none⟩ = some (.int .i64 de) := HX2.out.cell 5
    have c6 : W2.cell? ⟨w.heap.size, 6, none⟩ = some (.int .i64 fe) := HX2.out.cell 6
    have c7 : W2.cell? ⟨w.heap.size, 7, none⟩ = some (.int .i64 pr) := HX2.out.cell 7
    have c8 : W2.cell? ⟨w.heap.size, 8, none⟩ = some (.int .i64 ch) := HX2.out.cell 8
    have c9 : W2.cell? ⟨w.heap.size, 9, none⟩ = some (.int .i64 un) := HX2.out.cell 9
    have c10 : W2.cell? ⟨w.heap.size, 10, none⟩ = some (.int .i64 tg) := HX2.out.cell 10
    have c11 : W2.cell? ⟨w.heap.size, 11, none⟩ = some (.int .i64 ow) := HX2.out.cell 11
    have c12 : W2.cell? ⟨w.heap.size, 12, none⟩ = some (.int .i64 bp) := HX2.out.cell 12
    cases B
    case false =>
      have HQ : Hid (¬ (Numd id tg)) := fun q => absurd (hB.2 q) (by decide)
      clear hB
      go_wp2_with fail
      go_ret
      exact YN.no (fun q => (fun q => HQ.out q.2.1) ((kind_3 (v := ⟨kd, me, mo, id, te, de, fe, pr, ch, un, tg, ow, bp⟩) HK.out).1 q)) HB2.out
    have H1 : Hid (Numd id tg) := hB.1 rfl
    clear hB
    have HC2 : Hid (∀ W, Calls Try.prog 61 #[.agg #[.int .i64 kd, .int .i64 me, .int .i64 mo, .int .i64 id, .int .i64 te, .int .i64 de, .int .i64 fe, .int .i64 pr, .int .i64 ch, .int .i64 un, .int .i64 tg, .int .i64 ow, .int .i64 bp]] W fun e w' => YN W (Unt un) e w') := fun W => bunt kd me mo id te de fe pr ch un tg ow bp W
    go_wp2_with fail
    refine (HC2.out _).mono ?_
    rintro e W3 ⟨B, rfl, hB, hb⟩
    have HB3 : Hid (Below w.heap.size w W3) := bel_step HB2.out hb
    have HX3 : Hid (Blk W3 w.heap.size #[.int .i64 kd, .int .i64 me, .int .i64 mo, .int .i64 id, .int .i64 te, .int .i64 de, .int .i64 fe, .int .i64 pr, .int .i64 ch, .int .i64 un, .int .i64 tg, .int .i64 ow, .int .i64 bp] 27) := HX2.out.next hb
    clear hb HC2 HB2 HX2
    clear c0 c1 c2 c3 c4 c5 c6 c7 c8 c9 c10 c11 c12
    have c0 : W3.cell? ⟨w.heap.size, 0, none⟩ = some (.int .i64 kd) := HX3.out.cell 0
    have c1 : W3.cell? ⟨w.heap.size, 1, none⟩ = some (.int .i64 me) := HX3.out.cell 1
    have c2 : W3.cell? ⟨w.heap.size, 2, none⟩ = some (.int .i64 mo) := HX3.out.cell 2
    have c3 : W3.cell? ⟨w.heap.size, 3, none⟩ = some (.int .i64 id) := HX3.out.cell 3
    have c4 : W3.cell? ⟨w.heap.size, 4, none⟩ = some (.int .i64 te) := HX3.out.cell 4
    have c5 : W3.cell? ⟨w.heap.size, 5, none⟩ = some (.int .i64 de) := HX3.out.cell 5
    have c6 : W3.cell? ⟨w.heap.size, 6, none⟩ = some (.int .i64 fe) := HX3.out.cell 6
    have c7 : W3.cell? ⟨w.heap.size, 7, none⟩ = some (.int .i64 pr) := HX3.out.cell 7
    have c8 : W3.cell? ⟨w.heap.size, 8, none⟩ = some (.int .i64 ch) := HX3.out.cell 8
    have c9 : W3.cell? ⟨w.heap.size, 9, none⟩ = some (.int .i64 un) := HX3.out.cell 9
    have c10 : W3.cell? ⟨w.heap.size, 10, none⟩ = some (.int .i64 tg) := HX3.out.cell 10
    have c11 : W3.cell? ⟨w.heap.size, 11, none⟩ = some (.int .i64 ow) := HX3.out.cell 11
    have c12 : W3.cell? ⟨w.heap.size, 12, none⟩ = some (.int .i64 bp) := HX3.out.cell 12
    cases B
    case false =>
      have HQ : Hid (¬ (Unt un)) := fun q => absurd (hB.2 q) (by decide)
      clear hB
      go_wp2_with fail
      go_ret
      exact YN.no (fun q => (fun q => HQ.out q.2.2) ((kind_3 (v := ⟨kd, me, mo, id, te, de, fe, pr, ch, un, tg, ow, bp⟩) HK.out).1 q)) HB3.out
    have H2 : Hid (Unt un) := hB.1 rfl
    clear hB
    go_wp2_with fail
    go_ret
    exact YN.yes ((kind_3 (v := ⟨kd, me, mo, id, te, de, fe, pr, ch, un, tg, ow, bp⟩) HK.out).2 ⟨h0, H1.out, H2.out⟩) HB3.out
  have q3 : (kd == 3) = false := by simpa using k3
  by_cases k4 : kd = 4
  case pos =>
    have q4 : (kd == 4) = true := by simpa using k4
    have HK : Hid (kd = 4) := k4
    clear k1 k2 k3 k4
    have HC0 : Hid (∀ W, Calls Try.prog 60 #[.agg #[.int .i64 kd, .int .i64 me, .int .i64 mo, .int .i64 id, .int .i64 te, .int .i64 de, .int .i64 fe, .int .i64 pr, .int .i64 ch, .int .i64 un, .int .i64 tg, .int .i64 ow, .int .i64 bp]] W fun e w' => YN W (Numd id tg) e w') := fun W => bnum kd me mo id te de fe pr ch un tg ow bp W
    go_wp2_with fail
    refine (HC0.out _).mono ?_
    rintro e W1 ⟨B, rfl, hB, hb⟩
    have HB1 : Hid (Below w.heap.size w W1) := bel_step HB0.out hb
    have HX1 : Hid (Blk W1 w.heap.size #[.int .i64 kd, .int .i64 me, .int .i64 mo, .int .i64 id, .int .i64 te, .int .i64 de, .int .i64 fe, .int .i64 pr, .int .i64 ch, .int .i64 un, .int .i64 tg, .int .i64 ow, .int .i64 bp] 27) := HX0.out.next hb
    clear hb HC0 HB0 HX0
    clear c0 c1 c2 c3 c4 c5 c6 c7 c8 c9 c10 c11 c12
    have c0 : W1.cell? ⟨w.heap.size, 0, none⟩ = some (.int .i64 kd) := HX1.out.cell 0
    have c1 : W1.cell? ⟨w.heap.size, 1, none⟩ = some (.int .i64 me) := HX1.out.cell 1
    have c2 : W1.cell? ⟨w.heap.size, 2, none⟩ = some (.int .i64 mo) := HX1.out.cell 2
    have c3 : W1.cell? ⟨w.heap.size, 3, none⟩ = some (.int .i64 id) := HX1.out.cell 3
    have c4 : W1.cell? ⟨w.heap.size, 4, none⟩ = some (.int .i64 te) := HX1.out.cell 4
    have c5 : W1.cell? ⟨w.heap.size, 5, none⟩ = some (.int .i64 de) := HX1.out.cell 5
    have c6 : W1.cell? ⟨w.heap.size, 6, none⟩ = some (.int .i64 fe) := HX1.out.cell 6
    have c7 : W1.cell? ⟨w.heap.size, 7, none⟩ = some (.int .i64 pr) := HX1.out.cell 7
    have c8 : W1.cell? ⟨w.heap.size, 8, none⟩ = some (.int .i64 ch) := HX1.out.cell 8
    have c9 : W1.cell? ⟨w.heap.size, 9, none⟩ = some (.int .i64 un) := HX1.out.cell 9
    have c10 : W1.cell? ⟨w.heap.size, 10, none⟩ = some (.int .i64 tg) := HX1.out.cell 10
    have c11 : W1.cell? ⟨w.heap.size, 11, none⟩ = some (.int .i64 ow) := HX1.out.cell 11
    have c12 : W1.cell? ⟨w.heap.size, 12, none⟩ = some (.int .i64 bp) := HX1.out.cell 12
    cases B
    case false =>
      have HQ : Hid (¬ (Numd id tg)) := fun q => absurd (hB.2 q) (by decide)
      clear hB
      go_wp2_with fail
      go_ret
      exact YN.no (fun q => (fun q => HQ.out q) ((kind_4 (v := ⟨kd, me, mo, id, te, de, fe, pr, ch, un, tg, ow, bp⟩) HK.out).1 q)) HB1.out
    have H1 : Hid (Numd id tg) := hB.1 rfl
    clear hB
    go_wp2_with fail
    go_ret
    exact YN.yes ((kind_4 (v := ⟨kd, me, mo, id, te, de, fe, pr, ch, un, tg, ow, bp⟩) HK.out).2 H1.out) HB1.out
  have q4 : (kd == 4) = false := by simpa using k4
  by_cases k5 : kd = 5
  case pos =>
    have q5 : (kd == 5) = true := by simpa using k5
    have HK : Hid (kd = 5) := k5
    clear k1 k2 k3 k4 k5
    have HW0 : Hid (Calls Try.prog 43 #[.int .i64 1, .int .i64 1000000000, .slice (some ⟨W0.heap.size, 0, none⟩) 1 1] (W0.alloc (.cells #[.int .i64 ow] 3)) fun e w' => e = .returned (.bool (decide (1 ≤ ow ∧ ow ≤ 1000000000))) ∧ w' = (W0.alloc (.cells #[.int .i64 ow] 3))) := bki.within_one 1 1000000000 ow W0 _ rfl
    have HB1 : Hid (Below w.heap.size w (W0.alloc (.cells #[.int .i64 ow] 3))) := HB0.out.alloc HB0.out.size _
    have HX1 : Hid (Blk (W0.alloc (.cells #[.int .i64 ow] 3)) w.heap.size #[.int .i64 kd, .int .i64 me, .int .i64 mo, .int .i64 id, .int .i64 te, .int .i64 de, .int .i64 fe, .int .i64 pr, .int .i64 ch, .int .i64 un, .int .i64 tg, .int .i64 ow, .int .i64 bp] 27) := HX0.out.alloc _
    by_cases h0 : 1 ≤ ow ∧ ow ≤ 1000000000
    case neg =>
      rw [decide_eq_false h0] at HW0
      go_wp2_with fail
      refine HW0.out.mono ?_
      rintro e W ⟨rfl, hw⟩
      subst hw
      clear HW0
      go_wp2_with fail
      go_ret
      exact YN.no (fun q => (fun q => h0 q.1) ((kind_5 (v := ⟨kd, me, mo, id, te, de, fe, pr, ch, un, tg, ow, bp⟩) HK.out).1 q)) HB1.out
    rw [decide_eq_true h0] at HW0
    go_wp2_with fail
    refine HW0.out.mono ?_
    rintro e W ⟨rfl, hw⟩
    subst hw
    clear HW0 HB0 HX0
    clear c0 c1 c2 c3 c4 c5 c6 c7 c8 c9 c10 c11 c12
    generalize (W0.alloc (.cells #[.int .i64 ow] 3)) = W1 at *
    have c0 : W1.cell? ⟨w.heap.size, 0, none⟩ = some (.int .i64 kd) := HX1.out.cell 0
    have c1 : W1.cell? ⟨w.heap.size, 1, none⟩ = some (.int .i64 me) := HX1.out.cell 1
    have c2 : W1.cell? ⟨w.heap.size, 2, none⟩ = some (.int .i64 mo) := HX1.out.cell 2
    have c3 : W1.cell? ⟨w.heap.size, 3, none⟩ = some (.int .i64 id) := HX1.out.cell 3
    have c4 : W1.cell? ⟨w.heap.size, 4, none⟩ = some (.int .i64 te) := HX1.out.cell 4
    have c5 : W1.cell? ⟨w.heap.size, 5, none⟩ = some (.int .i64 de) := HX1.out.cell 5
    have c6 : W1.cell? ⟨w.heap.size, 6, none⟩ = some (.int .i64 fe) := HX1.out.cell 6
    have c7 : W1.cell? ⟨w.heap.size, 7, none⟩ = some (.int .i64 pr) := HX1.out.cell 7
    have c8 : W1.cell? ⟨w.heap.size, 8, none⟩ = some (.int .i64 ch) := HX1.out.cell 8
    have c9 : W1.cell? ⟨w.heap.size, 9, none⟩ = some (.int .i64 un) := HX1.out.cell 9
    have c10 : W1.cell? ⟨w.heap.size, 10, none⟩ = some (.int .i64 tg) := HX1.out.cell 10
    have c11 : W1.cell? ⟨w.heap.size, 11, none⟩ = some (.int .i64 ow) := HX1.out.cell 11
    have c12 : W1.cell? ⟨w.heap.size, 12, none⟩ = some (.int .i64 bp) := HX1.out.cell 12
    have HW1 : Hid (Calls Try.prog 43 #[.int .i64 0, .int .i64 10000, .slice (some ⟨W1.heap.size, 0, none⟩) 1 1] (W1.alloc (.cells #[.int .i64 bp] 3)) fun e w' => e = .returned (.bool (decide (0 ≤ bp ∧ bp ≤ 10000))) ∧ w' = (W1.alloc (.cells #[.int .i64 bp] 3))) := bki.within_one 0 10000 bp W1 _ rfl
    have HB2 : Hid (Below w.heap.size w (W1.alloc (.cells #[.int .i64 bp] 3))) := HB1.out.alloc HB1.out.size _
    have HX2 : Hid (Blk (W1.alloc (.cells #[.int .i64 bp] 3)) w.heap.size #[.int .i64 kd, .int .i64 me, .int .i64 mo, .int .i64 id, .int .i64 te, .int .i64 de, .int .i64 fe, .int .i64 pr, .int .i64 ch, .int .i64 un, .int .i64 tg, .int .i64 ow, .int .i64 bp] 27) := HX1.out.alloc _
    by_cases h1 : 0 ≤ bp ∧ bp ≤ 10000
    case neg =>
      rw [decide_eq_false h1] at HW1
      go_wp2_with fail
      refine HW1.out.mono ?_
      rintro e W ⟨rfl, hw⟩
      subst hw
      clear HW1
      go_wp2_with fail
      go_ret
      exact YN.no (fun q => (fun q => h1 q.2) ((kind_5 (v := ⟨kd, me, mo, id, te, de, fe, pr, ch, un, tg, ow, bp⟩) HK.out).1 q)) HB2.out
    rw [decide_eq_true h1] at HW1
    go_wp2_with fail
    refine HW1.out.mono ?_
    rintro e W ⟨rfl, hw⟩
    subst hw
    clear HW1 HB1 HX1
    clear c0 c1 c2 c3 c4 c5 c6 c7 c8 c9 c10 c11 c12
    generalize (W1.alloc (.cells #[.int .i64 bp] 3)) = W2 at *
    have c0 : W2.cell? ⟨w.heap.size, 0, none⟩ = some (.int .i64 kd) := HX2.out.cell 0
    have c1 : W2.cell? ⟨w.heap.size, 1, none⟩ = some (.int .i64 me) := HX2.out.cell 1
    have c2 : W2.cell? ⟨w.heap.size, 2, none⟩ = some (.int .i64 mo) := HX2.out.cell 2
    have c3 : W2.cell? ⟨w.heap.size, 3, none⟩ = some (.int .i64 id) := HX2.out.cell 3
    have c4 : W2.cell? ⟨w.heap.size, 4, none⟩ = some (.int .i64 te) := HX2.out.cell 4
    have c5 : W2.cell? ⟨w.heap.size, 5, none⟩ = some (.int .i64 de) := HX2.out.cell 5
    have c6 : W2.cell? ⟨w.heap.size, 6, none⟩ = some (.int .i64 fe) := HX2.out.cell 6
    have c7 : W2.cell? ⟨w.heap.size, 7, none⟩ = some (.int .i64 pr) := HX2.out.cell 7
    have c8 : W2.cell? ⟨w.heap.size, 8, none⟩ = some (.int .i64 ch) := HX2.out.cell 8
    have c9 : W2.cell? ⟨w.heap.size, 9, none⟩ = some (.int .i64 un) := HX2.out.cell 9
    have c10 : W2.cell? ⟨w.heap.size, 10, none⟩ = some (.int .i64 tg) := HX2.out.cell 10
    have c11 : W2.cell? ⟨w.heap.size, 11, none⟩ = some (.int .i64 ow) := HX2.out.cell 11
    have c12 : W2.cell? ⟨w.heap.size, 12, none⟩ = some (.int .i64 bp) := HX2.out.cell 12
    go_wp2_with fail
    go_ret
    exact YN.yes ((kind_5 (v := ⟨kd, me, mo, id, te, de, fe, pr, ch, un, tg, ow, bp⟩) HK.out).2 ⟨h0, h1⟩) HB2.out
  have q5 : (kd == 5) = false := by simpa using k5
  have HK : Hid (¬ KindR ⟨kd, me, mo, id, te, de, fe, pr, ch, un, tg, ow, bp⟩) := fun q => by
    rcases q with q | q | q | q | q
    · exact k1 q
    · exact k2 q.1
    · exact k3 q.1
    · exact k4 q.1
    · exact k5 q.1
  clear k1 k2 k3 k4 k5
  go_wp2_with fail
  go_ret
  exact YN.no HK.out HB0.out

end Go.Proofs.Ytfhlokjpdkmdjaa.book

/- What is left of an event, in the program. -/
namespace Go.Proofs.Ytfhlokjpdkmdjaa.book
open Go.RowKit
set_option maxRecDepth 100000
set_option linter.unusedVariables false
set_option linter.unusedSimpArgs false

set_option maxHeartbeats 4000000 in
theorem bleft2 (kd me mo id te de fe pr ch un tg ow bp : Int) (w : World) (q2 : (kd == 2) = true) : Calls Try.prog 45 #[.agg #[.int .i64 kd, .int .i64 me, .int .i64 mo, .int .i64 id, .int .i64 te, .int .i64 de, .int .i64 fe, .int .i64 pr, .int .i64 ch, .int .i64 un, .int .i64 tg, .int .i64 ow, .int .i64 bp]] w fun e w' => e = .returned (.agg #[.int .i64 0, .int .i64 0, .int .i64 0, .int .i64 0, .int .i64 0, .int .i64 0, .int .i64 0, .int .i64 0, .int .i64 0, .int .i64 0, .int .i64 0, .int .i64 ow, .int .i64 bp]) ∧ Below w.heap.size w w' := by
  go_enter Try.func45, Try.ntmps45
  go_wp2
  exact bodyPost_ret (v := .agg #[.int .i64 0, .int .i64 0, .int .i64 0, .int .i64 0, .int .i64 0, .int .i64 0, .int .i64 0, .int .i64 0, .int .i64 0, .int .i64 0, .int .i64 0, .int .i64 ow, .int .i64 bp]) (by simp [results, Try.results45, go_sem]) rfl ⟨rfl, bki.bel2 _ _ _⟩
set_option maxHeartbeats 4000000 in
theorem bleft3 (kd me mo id te de fe pr ch un tg ow bp : Int) (w : World) (q2 : (kd == 2) = false) (q3 : (kd == 3) = true) : Calls Try.prog 45 #[.agg #[.int .i64 kd, .int .i64 me, .int .i64 mo, .int .i64 id, .int .i64 te, .int .i64 de, .int .i64 fe, .int .i64 pr, .int .i64 ch, .int .i64 un, .int .i64 tg, .int .i64 ow, .int .i64 bp]] w fun e w' => e = .returned (.agg #[.int .i64 0, .int .i64 0, .int .i64 0, .int .i64 0, .int .i64 te, .int .i64 de, .int .i64 fe, .int .i64 pr, .int .i64 ch, .int .i64 0, .int .i64 0, .int .i64 ow, .int .i64 bp]) ∧ Below w.heap.size w w' := by
  go_enter Try.func45, Try.ntmps45
  go_wp2
  exact bodyPost_ret (v := .agg #[.int .i64 0, .int .i64 0, .int .i64 0, .int .i64 0, .int .i64 te, .int .i64 de, .int .i64 fe, .int .i64 pr, .int .i64 ch, .int .i64 0, .int .i64 0, .int .i64 ow, .int .i64 bp]) (by simp [results, Try.results45, go_sem]) rfl ⟨rfl, bki.bel2 _ _ _⟩
set_option maxHeartbeats 4000000 in
theorem bleft4 (kd me mo id te de fe pr ch un tg ow bp : Int) (w : World) (q2 : (kd == 2) = false) (q3 : (kd == 3) = false) (q4 : (kd == 4) = true) : Calls Try.prog 45 #[.agg #[.int .i64 kd, .int .i64 me, .int .i64 mo, .int .i64 id, .int .i64 te, .int .i64 de, .int .i64 fe, .int .i64 pr, .int .i64 ch, .int .i64 un, .int .i64 tg, .int .i64 ow, .int .i64 bp]] w fun e w' => e = .returned (.agg #[.int .i64 0, .int .i64 0, .int .i64 mo, .int .i64 0, .int .i64 te, .int .i64 de, .int .i64 fe, .int .i64 pr, .int .i64 ch, .int .i64 un, .int .i64 0, .int .i64 ow, .int .i64 bp]) ∧ Below w.heap.size w w' := by
  go_enter Try.func45, Try.ntmps45
  go_wp2
  exact bodyPost_ret (v := .agg #[.int .i64 0, .int .i64 0, .int .i64 mo, .int .i64 0, .int .i64 te, .int .i64 de, .int .i64 fe, .int .i64 pr, .int .i64 ch, .int .i64 un, .int .i64 0, .int .i64 ow, .int .i64 bp]) (by simp [results, Try.results45, go_sem]) rfl ⟨rfl, bki.bel2 _ _ _⟩
set_option maxHeartbeats 4000000 in
theorem bleft5 (kd me mo id te de fe pr ch un tg ow bp : Int) (w : World) (q2 : (kd == 2) = false) (q3 : (kd == 3) = false) (q4 : (kd == 4) = false) (q5 : (kd == 5) = true) : Calls Try.prog 45 #[.agg #[.int .i64 kd, .int .i64 me, .int .i64 mo, .int .i64 id, .int .i64 te, .int .i64 de, .int .i64 fe, .int .i64 pr, .int .i64 ch, .int .i64 un, .int .i64 tg, .int .i64 ow, .int .i64 bp]] w fun e w' => e = .returned (.agg #[.int .i64 0, .int .i64 0, .int .i64 mo, .int .i64 id, .int .i64 te, .int .i64 de, .int .i64 fe, .int .i64 pr, .int .i64 ch, .int .i64 un, .int .i64 tg, .int .i64 0, .int .i64 0]) ∧ Below w.heap.size w w' := by
  go_enter Try.func45, Try.ntmps45
  go_wp2
  exact bodyPost_ret (v := .agg #[.int .i64 0, .int .i64 0, .int .i64 mo, .int .i64 id, .int .i64 te, .int .i64 de, .int .i64 fe, .int .i64 pr, .int .i64 ch, .int .i64 un, .int .i64 tg, .int .i64 0, .int .i64 0]) (by simp [results, Try.results45, go_sem]) rfl ⟨rfl, bki.bel2 _ _ _⟩
set_option maxHeartbeats 4000000 in
theorem bleft0 (kd me mo id te de fe pr ch un tg ow bp : Int) (w : World) (q2 : (kd == 2) = false) (q3 : (kd == 3) = false) (q4 : (kd == 4) = false) (q5 : (kd == 5) = false) : Calls Try.prog 45 #[.agg #[.int .i64 kd, .int .i64 me, .int .i64 mo, .int .i64 id, .int .i64 te, .int .i64 de, .int .i64 fe, .int .i64 pr, .int .i64 ch, .int .i64 un, .int .i64 tg, .int .i64 ow, .int .i64 bp]] w fun e w' => e = .returned (.agg #[.int .i64 0, .int .i64 0, .int .i64 mo, .int .i64 id, .int .i64 te, .int .i64 de, .int .i64 fe, .int .i64 pr, .int .i64 ch, .int .i64 un, .int .i64 tg, .int .i64 ow, .int .i64 bp]) ∧ Below w.heap.size w w' := by
  go_enter Try.func45, Try.ntmps45
  go_wp2
  exact bodyPost_ret (v := .agg #[.int .i64 0, .int .i64 0, .int .i64 mo, .int .i64 id, .int .i64 te, .int .i64 de, .int .i64 fe, .int .i64 pr, .int .i64 ch, .int .i64 un, .int .i64 tg, .int .i64 ow, .int .i64 bp]) (by simp [results, Try.results45, go_sem]) rfl ⟨rfl, bki.bel2 _ _ _⟩
theorem bleft (v : Ev) (w : World) : Calls Try.prog 45 #[v.v] w fun e w' => e = .returned (leftE v).v ∧ Below w.heap.size w w' := by
  obtain ⟨kd, me, mo, id, te, de, fe, pr, ch, un, tg, ow, bp⟩ := v
  unfold leftE Ev.v
  simp only
  by_cases k2 : kd = 2
  · rw [if_pos k2]
    exact bleft2 kd me mo id te de fe pr ch un tg ow bp w (by simpa using k2)
  rw [if_neg k2]
  by_cases k3 : kd = 3
  · rw [if_pos k3]
    exact bleft3 kd me mo id te de fe pr ch un tg ow bp w (by simpa using k2) (by simpa using k3)
  rw [if_neg k3]
  by_cases k4 : kd = 4
  · rw [if_pos k4]
    exact bleft4 kd me mo id te de fe pr ch un tg ow bp w (by simpa using k2) (by simpa using k3) (by simpa using k4)
  rw [if_neg k4]
  by_cases k5 : kd = 5
  · rw [if_pos k5]
    exact bleft5 kd me mo id te de fe pr ch un tg ow bp w (by simpa using k2) (by simpa using k3) (by simpa using k4) (by simpa using k5)
  rw [if_neg k5]
  exact bleft0 kd me mo id te de fe pr ch un tg ow bp w (by simpa using k2) (by simpa using k3) (by simpa using k4) (by simpa using k5)

end Go.Proofs.Ytfhlokjpdkmdjaa.book

/- An event that may be, or it is given up. -/
namespace Go.Proofs.Ytfhlokjpdkmdjaa.book
open Go.RowKit
set_option maxRecDepth 100000
set_option linter.unusedVariables false
set_option linter.unusedSimpArgs false

def MustPost (w : World) (v : Ev) (e : Ending) (w' : World) : Prop := ((EMay v ∧ e = .returned (.tuple #[])) ∨ (¬ EMay v ∧ e = .panicked (thrown 5))) ∧ Below w.heap.size w w'
theorem eqEv_any (a b : Ev) (w : World) : ∃ B, (Op.equalIn 10000 27 (.agg a.cs) (.agg b.cs)).run Try.prog w = .ok B w ∧ (B = true ↔ a = b) := by
  obtain ⟨a0, a1, a2, a3, a4, a5, a6, a7, a8, a9, a10, a11, a12⟩ := a
  obtain ⟨b0, b1, b2, b3, b4, b5, b6, b7, b8, b9, b10, b11, b12⟩ := b
  refine ⟨_, eqEv 9997 a0 a1 a2 a3 a4 a5 a6 a7 a8 a9 a10 a11 a12 b0 b1 b2 b3 b4 b5 b6 b7 b8 b9 b10 b11 b12 w, ?_⟩
  rw [decide_eq_true_iff]
  constructor
  · rintro ⟨rfl, rfl, rfl, rfl, rfl, rfl, rfl, rfl, rfl, rfl, rfl, rfl, rfl⟩; rfl
  · intro h; cases h; exact ⟨rfl, rfl, rfl, rfl, rfl, rfl, rfl, rfl, rfl, rfl, rfl, rfl, rfl⟩
set_option maxHeartbeats 4000000 in
theorem bmust (v : Ev) (w : World) : Calls Try.prog 27 #[.agg #[.int .i64 v.kd, .int .i64 v.me, .int .i64 v.mo, .int .i64 v.id, .int .i64 v.te, .int .i64 v.de, .int .i64 v.fe, .int .i64 v.pr, .int .i64 v.ch, .int .i64 v.un, .int .i64 v.tg, .int .i64 v.ow, .int .i64 v.bp]] w fun e w' => MustPost w v e w' := by
  have HMI : Hid (EMay v ↔ (0 ≤ v.me ∧ v.me ≤ 49) ∧ KindR v ∧ leftE v = ev0) := may_iff v
  have HX0 : Hid (Blk (w.alloc (.cells #[.int .i64 v.kd, .int .i64 v.me, .int .i64 v.mo, .int .i64 v.id, .int .i64 v.te, .int .i64 v.de, .int .i64 v.fe, .int .i64 v.pr, .int .i64 v.ch, .int .i64 v.un, .int .i64 v.tg, .int .i64 v.ow, .int .i64 v.bp] 27)) w.heap.size #[.int .i64 v.kd, .int .i64 v.me, .int .i64 v.mo, .int .i64 v.id, .int .i64 v.te, .int .i64 v.de, .int .i64 v.fe, .int .i64 v.pr, .int .i64 v.ch, .int .i64 v.un, .int .i64 v.tg, .int .i64 v.ow, .int .i64 v.bp] 27) := Blk.new _ _ _
  have HB0 : Hid (Below w.heap.size w (w.alloc (.cells #[.int .i64 v.kd, .int .i64 v.me, .int .i64 v.mo, .int .i64 v.id, .int .i64 v.te, .int .i64 v.de, .int .i64 v.fe, .int .i64 v.pr, .int .i64 v.ch, .int .i64 v.un, .int .i64 v.tg, .int .i64 v.ow, .int .i64 v.bp] 27))) := (Below.refl _ _).alloc (Nat.le_refl _) _
  have HNO : Hid (∀ W, Calls Try.prog 46 #[.int .i64 5] W fun e w' => e = .panicked (thrown 5) ∧ w' = W) := fun W => insist_no 5 (by decide) W
  have HKR : Hid (∀ W, Calls Try.prog 44 #[.agg #[.int .i64 v.kd, .int .i64 v.me, .int .i64 v.mo, .int .i64 v.id, .int .i64 v.te, .int .i64 v.de, .int .i64 v.fe, .int .i64 v.pr, .int .i64 v.ch, .int .i64 v.un, .int .i64 v.tg, .int .i64 v.ow, .int .i64 v.bp]] W fun e w' => YN W (KindR v) e w') := fun W => bkind v.kd v.me v.mo v.id v.te v.de v.fe v.pr v.ch v.un v.tg v.ow v.bp W
  have HLE : Hid (∀ W, Calls Try.prog 45 #[.agg #[.int .i64 v.kd, .int .i64 v.me, .int .i64 v.mo, .int .i64 v.id, .int .i64 v.te, .int .i64 v.de, .int .i64 v.fe, .int .i64 v.pr, .int .i64 v.ch, .int .i64 v.un, .int .i64 v.tg, .int .i64 v.ow, .int .i64 v.bp]] W fun e w' => e = .returned (leftE v).v ∧ Below W.heap.size W w') := fun W => bleft v W
  generalize hWW : (w.alloc (.cells #[.int .i64 v.kd, .int .i64 v.me, .int .i64 v.mo, .int .i64 v.id, .int .i64 v.te, .int .i64 v.de, .int .i64 v.fe, .int .i64 v.pr, .int .i64 v.ch, .int .i64 v.un, .int .i64 v.tg, .int .i64 v.ow, .int .i64 v.bp] 27)) = W0 at *
  have HWW : Hid ((w.alloc (.cells #[.int .i64 v.kd, .int .i64 v.me, .int .i64 v.mo, .int .i64 v.id, .int .i64 v.te, .int .i64 v.de, .int .i64 v.fe, .int .i64 v.pr, .int .i64 v.ch, .int .i64 v.un, .int .i64 v.tg, .int .i64 v.ow, .int .i64 v.bp] 27)) = W0) := hWW
  clear hWW
  go_enter Try.func27, Try.ntmps27
  go_upto_region 1 with fail
  rw [HWW.out]
  clear HWW
  have c0 : W0.cell? ⟨w.heap.size, 0, none⟩ = some (.int .i64 v.kd) := HX0.out.cell 0
  have c1 : W0.cell? ⟨w.heap.size, 1, none⟩ = some (.int .i64 v.me) := HX0.out.cell 1
  have c2 : W0.cell? ⟨w.heap.size, 2, none⟩ = some (.int .i64 v.mo) := HX0.out.cell 2
  have c3 : W0.cell? ⟨w.heap.size, 3, none⟩ = some (.int .i64 v.id) := HX0.out.cell 3
  have c4 : W0.cell? ⟨w.heap.size, 4, none⟩ = some (.int .i64 v.te) := HX0.out.cell 4
  have c5 : W0.cell? ⟨w.heap.size, 5, none⟩ = some (.int .i64 v.de) := HX0.out.cell 5
  have c6 : W0.cell? ⟨w.heap.size, 6, none⟩ = some (.int .i64 v.fe) := HX0.out.cell 6
  have c7 : W0.cell? ⟨w.heap.size, 7, none⟩ = some (.int .i64 v.pr) := HX0.out.cell 7
  have c8 : W0.cell? ⟨w.heap.size, 8, none⟩ = some (.int .i64 v.ch) := HX0.out.cell 8
  have c9 : W0.cell? ⟨w.heap.size, 9, none⟩ = some (.int .i64 v.un) := HX0.out.cell 9
  have c10 : W0.cell? ⟨w.heap.size, 10, none⟩ = some (.int .i64 v.tg) := HX0.out.cell 10
  have c11 : W0.cell? ⟨w.heap.size, 11, none⟩ = some (.int .i64 v.ow) := HX0.out.cell 11
  have c12 : W0.cell? ⟨w.heap.size, 12, none⟩ = some (.int .i64 v.bp) := HX0.out.cell 12
  have HW : Hid (Calls Try.prog 43 #[.int .i64 0, .int .i64 49, .slice (some ⟨W0.heap.size, 0, none⟩) 1 1] (W0.alloc (.cells #[.int .i64 v.me] 3)) fun e w' => e = .returned (.bool (decide (0 ≤ v.me ∧ v.me ≤ 49))) ∧ w' = (W0.alloc (.cells #[.int .i64 v.me] 3))) := bki.within_one 0 49 v.me W0 _ rfl
  have HB1 : Hid (Below w.heap.size w (W0.alloc (.cells #[.int .i64 v.me] 3))) := HB0.out.alloc HB0.out.size _
  have HX1 : Hid (Blk (W0.alloc (.cells #[.int .i64 v.me] 3)) w.heap.size #[.int .i64 v.kd, .int .i64 v.me, .int .i64 v.mo, .int .i64 v.id, .int .i64 v.te, .int .i64 v.de, .int .i64 v.fe, .int .i64 v.pr, .int .i64 v.ch, .int .i64 v.un, .int .i64 v.tg, .int .i64 v.ow, .int .i64 v.bp] 27) := HX0.out.alloc _
  by_cases h0 : 0 ≤ v.me ∧ v.me ≤ 49
  case neg =>
    rw [decide_eq_false h0] at HW
    have HN : Hid (¬ EMay v) := fun q => h0 (HMI.out.1 q).1
    clear h0
    go_wp2_with fail
    refine HW.out.mono ?_
    rintro e W ⟨rfl, hw⟩
    subst hw
    clear HW
    clear HX0 HB0 c0 c1 c2 c3 c4 c5 c6 c7 c8 c9 c10 c11 c12
    generalize (W0.alloc (.cells #[.int .i64 v.me] 3)) = W1 at *
    have c0 : W1.cell? ⟨w.heap.size, 0, none⟩ = some (.int .i64 v.kd) := HX1.out.cell 0
    have c1 : W1.cell? ⟨w.heap.size, 1, none⟩ = some (.int .i64 v.me) := HX1.out.cell 1
    have c2 : W1.cell? ⟨w.heap.size, 2, none⟩ = some (.int .i64 v.mo) := HX1.out.cell 2
    have c3 : W1.cell? ⟨w.heap.size, 3, none⟩ = some (.int .i64 v.id) := HX1.out.cell 3
    have c4 : W1.cell? ⟨w.heap.size, 4, none⟩ = some (.int .i64 v.te) := HX1.out.cell 4
    have c5 : W1.cell? ⟨w.heap.size, 5, none⟩ = some (.int .i64 v.de) := HX1.out.cell 5
    have c6 : W1.cell? ⟨w.heap.size, 6, none⟩ = some (.int .i64 v.fe) := HX1.out.cell 6
    have c7 : W1.cell? ⟨w.heap.size, 7, none⟩ = some (.int .i64 v.pr) := HX1.out.cell 7
    have c8 : W1.cell? ⟨w.heap.size, 8, none⟩ = some (.int .i64 v.ch) := HX1.out.cell 8
    have c9 : W1.cell? ⟨w.heap.size, 9, none⟩ = some (.int .i64 v.un) := HX1.out.cell 9
    have c10 : W1.cell? ⟨w.heap.size, 10, none⟩ = some (.int .i64 v.tg) := HX1.out.cell 10
    have c11 : W1.cell? ⟨w.heap.size, 11, none⟩ = some (.int .i64 v.ow) := HX1.out.cell 11
    have c12 : W1.cell? ⟨w.heap.size, 12, none⟩ = some (.int .i64 v.bp) := HX1.out.cell 12
    go_wp2_with fail
    refine (HNO.out _).mono ?_
    rintro e W9 ⟨rfl, rfl⟩
    exact ⟨rfl, .inr ⟨HN.out, rfl⟩, HB1.out⟩
  rw [decide_eq_true h0] at HW
  have H0 : Hid (0 ≤ v.me ∧ v.me ≤ 49) := h0
  clear h0
  go_wp2_with fail
  refine HW.out.mono ?_
  rintro e W ⟨rfl, hw⟩
  subst hw
  clear HW HX0 HB0
  clear c0 c1 c2 c3 c4 c5 c6 c7 c8 c9 c10 c11 c12
  generalize (W0.alloc (.cells #[.int .i64 v.me] 3)) = W1 at *
  have c0 : W1.cell? ⟨w.heap.size, 0, none⟩ = some (.int .i64 v.kd) := HX1.out.cell 0
  have c1 : W1.cell? ⟨w.heap.size, 1, none⟩ = some (.int .i64 v.me) := HX1.out.cell 1
  have c2 : W1.cell? ⟨w.heap.size, 2, none⟩ = some (.int .i64 v.mo) := HX1.out.cell 2
  have c3 : W1.cell? ⟨w.heap.size, 3, none⟩ = some (.int .i64 v.id) := HX1.out.cell 3
  have c4 : W1.cell? ⟨w.heap.size, 4, none⟩ = some (.int .i64 v.te) := HX1.out.cell 4
  have c5 : W1.cell? ⟨w.heap.size, 5, none⟩ = some (.int .i64 v.de) := HX1.out.cell 5
  have c6 : W1.cell? ⟨w.heap.size, 6, none⟩ = some (.int .i64 v.fe) := HX1.out.cell 6
  have c7 : W1.cell? ⟨w.heap.size, 7, none⟩ = some (.int .i64 v.pr) := HX1.out.cell 7
  have c8 : W1.cell? ⟨w.heap.size, 8, none⟩ = some (.int .i64 v.ch) := HX1.out.cell 8
  have c9 : W1.cell? ⟨w.heap.size, 9, none⟩ = some (.int .i64 v.un) := HX1.out.cell 9
  have c10 : W1.cell? ⟨w.heap.size, 10, none⟩ = some (.int .i64 v.tg) := HX1.out.cell 10
  have c11 : W1.cell? ⟨w.heap.size, 11, none⟩ = some (.int .i64 v.ow) := HX1.out.cell 11
  have c12 : W1.cell? ⟨w.heap.size, 12, none⟩ = some (.int .i64 v.bp) := HX1.out.cell 12
  go_wp2_with fail
  refine (HKR.out _).mono ?_
  rintro e W2 ⟨B, rfl, hB, hb⟩
  have HB2 : Hid (Below w.heap.size w W2) := bel_step HB1.out hb
  have HX2 : Hid (Blk W2 w.heap.size #[.int .i64 v.kd, .int .i64 v.me, .int .i64 v.mo, .int .i64 v.id, .int .i64 v.te, .int .i64 v.de, .int .i64 v.fe, .int .i64 v.pr, .int .i64 v.ch, .int .i64 v.un, .int .i64 v.tg, .int .i64 v.ow, .int .i64 v.bp] 27) := HX1.out.next hb
  clear hb HKR HB1 HX1
  clear c0 c1 c2 c3 c4 c5 c6 c7 c8 c9 c10 c11 c12
  have c0 : W2.cell? ⟨w.heap.size, 0, none⟩ = some (.int .i64 v.kd) := HX2.out.cell 0
  have c1 : W2.cell? ⟨w.heap.size, 1, none⟩ = some (.int .i64 v.me) := HX2.out.cell 1
  have c2 : W2.cell? ⟨w.heap.size, 2, none⟩ = some (.int .i64 v.mo) := HX2.out.cell 2
  have c3 : W2.cell? ⟨w.heap.size, 3, none⟩ = some (.int .i64 v.id) := HX2.out.cell 3
  have c4 : W2.cell? ⟨w.heap.size, 4, none⟩ = some (.int .i64 v.te) := HX2.out.cell 4
  have c5 : W2.cell? ⟨w.heap.size, 5, none⟩ = some (.int .i64 v.de) := HX2.out.cell 5
  have c6 : W2.cell? ⟨w.heap.size, 6, none⟩ = some (.int .i64 v.fe) := HX2.out.cell 6
  have c7 : W2.cell? ⟨w.heap.size, 7, none⟩ = some (.int .i64 v.pr) := HX2.out.cell 7
  have c8 : W2.cell? ⟨w.heap.size, 8, none⟩ = some (.int .i64 v.ch) := HX2.out.cell 8
  have c9 : W2.cell? ⟨w.heap.size, 9, none⟩ = some (.int .i64 v.un) := HX2.out.cell 9
  have c10 : W2.cell? ⟨w.heap.size, 10, none⟩ = some (.int .i64 v.tg) := HX2.out.cell 10
  have c11 : W2.cell? ⟨w.heap.size, 11, none⟩ = some (.int .i64 v.ow) := HX2.out.cell 11
  have c12 : W2.cell? ⟨w.heap.size, 12, none⟩ = some (.int .i64 v.bp) := HX2.out.cell 12
  cases B
  case false =>
    have HN : Hid (¬ EMay v) := fun q => absurd (hB.2 (HMI.out.1 q).2.1) (by decide)
    clear hB
    go_wp2_with fail
    refine (HNO.out _).mono ?_
    rintro e W9 ⟨rfl, rfl⟩
    exact ⟨rfl, .inr ⟨HN.out, rfl⟩, HB2.out⟩
  have HK : Hid (KindR v) := hB.1 rfl
  clear hB
  go_wp2_with fail
  refine (HLE.out _).mono ?_
  rintro e W3 ⟨rfl, hb⟩
  have HB3 : Hid (Below w.heap.size w W3) := bel_step HB2.out hb
  clear hb HLE HB2 HX2
  clear c0 c1 c2 c3 c4 c5 c6 c7 c8 c9 c10 c11 c12
  obtain ⟨B, hB, hBi⟩ := eqEv_any (leftE v) ev0 W3
  have HEQ : Hid ((Op.equalIn 10000 27 (.agg (leftE v).cs) (.agg ev0.cs)).run Try.prog W3 = .ok B W3) := hB
  have HBI : Hid (B = true ↔ leftE v = ev0) := hBi
  clear hB hBi
  unfold Ev.v
  cases B
  case false =>
    have HN : Hid (¬ EMay v) := fun q => absurd (HBI.out.2 (HMI.out.1 q).2.2) (by decide)
    go_wp2_with (first | (refine wp_neE (by rfl) 27 _ _ _ rfl (leftE v).cs ev0.cs rfl rfl (by kernel_rfl) false HEQ.out _ rfl ?_) | fail)
    go_wp2_with fail
    refine (HNO.out _).mono ?_
    rintro e W9 ⟨rfl, rfl⟩
    exact ⟨rfl, .inr ⟨HN.out, rfl⟩, HB3.out⟩
  case true =>
    have HY : Hid (EMay v) := HMI.out.2 ⟨H0.out, HK.out, HBI.out.1 rfl⟩
    go_wp2_with (first | (refine wp_neE (by rfl) 27 _ _ _ rfl (leftE v).cs ev0.cs rfl rfl (by kernel_rfl) true HEQ.out _ rfl ?_) | fail)
    go_end0
    exact ⟨.inl ⟨HY.out, rfl⟩, HB3.out⟩

end Go.Proofs.Ytfhlokjpdkmdjaa.book
