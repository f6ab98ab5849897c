/- An account at work is rolled on. -/
import Derived.Test.YtlolippocnngcacApN
import Derived.Test.YtlolippocnngcacApI
import Derived.Test.YtlolippocnngcacOpAt
import Derived.Test.YtlolippocnngcacDpA
import Derived.WalkKit
import Derived.Deep.DeepCutAuto
import Derived.Test.YtlolippocnngcacProg
namespace Go.Proofs.Ytlolippocnngcac.acc
open Go.Proofs.Ytlolippocnngcac.tar (Du du0 Came RowD Ld PairT)
open Go.RowKit
set_option maxRecDepth 100000
set_option linter.unusedVariables false
set_option linter.unusedSimpArgs false

def RollR (x : Ac) (m : Int) (b0 : Bi) (y : Ac) (b : Bi) (f : Int) : Prop := ((¬ RMay x m ∧ RErr x m f ∧ y = x) ∨ (RMay x m ∧ y = rolled x m ∧ f = 0)) ∧ b = b0
set_option maxHeartbeats 4000000 in
theorem proll (g : Nat) (x : Ac) (b : Bi) (p : Option Addr) (len cap : Nat) (m : Int) (w : World) (hw : Blk w g (wcs x b p len cap) 49) (hd : deb.Fresh w (g + 1) p len cap x.ds) (ha : AMay x) : Calls Try.prog 11 #[.pointer (some ⟨g, 0, none⟩), .int .i64 m] w fun e w' => DPost w g (RollR x m b) e w' := by
  have hgl := hw.lt
  have hmo := ha.2.2.2.2.1
  have HMA : Hid (deb.Mays x.ds) := ha.1
  obtain ⟨me, rv, nx, mo, bo, fr, ds⟩ := x
  obtain ⟨id, te, de, fe, pr, ch, un⟩ := b
  simp only [] at hmo
  have HI : Hid (Blk w g #[.int .i64 me, .int .i64 rv, .int .i64 nx, .int .i64 mo, .int .i64 bo, .int .i64 fr, .slice p len cap, .int .i64 id, .int .i64 te, .int .i64 de, .int .i64 fe, .int .i64 pr, .int .i64 ch, .int .i64 un] 49) := hw
  have HD : Hid (deb.Fresh w (g + 1) p len cap ds) := hd
  have HIM : Hid (∀ W, Calls Try.prog 14 #[.int .i64 0, .int .i64 2399, .int .i64 m] W fun e w' => e = .returned (.bool (decide (0 ≤ m ∧ m ≤ 2399))) ∧ w' = W) := fun W => awithin 0 2399 m W
  have q3 : w.cell? ⟨g, 3, none⟩ = some (.int .i64 mo) := HI.out.cell 3
  clear hw hd ha
  by_cases h1 : 0 ≤ m ∧ m ≤ 2399
  · rw [decide_eq_true h1] at HIM
    by_cases h2 : m < mo
    · have d2 : decide (m < mo) = true := decide_eq_true h2
      have HV : Hid (RollR ⟨me, rv, nx, mo, bo, fr, ds⟩ m ⟨id, te, de, fe, pr, ch, un⟩ ⟨me, rv, nx, mo, bo, fr, ds⟩ ⟨id, te, de, fe, pr, ch, un⟩ 23) := ⟨.inl ⟨fun hh => by have : mo ≤ m := hh.2; omega, .inr ⟨h1, h2, rfl⟩, rfl⟩, rfl⟩
      clear h1 h2 hmo
      go_enter Try.func11, Try.ntmps11
      go_wp2_with fail
      refine (HIM.out _).mono ?_
      rintro e w2 ⟨rfl, hw2⟩
      subst w2
      go_wp2_with fail
      go_ret
      exact ⟨_, _, p, len, cap, 23, rfl, HV.out, HI.out, HD.out, Chg.refl _ _⟩
    · have d2 : decide (m < mo) = false := decide_eq_false h2
      have HRM : Hid (RMay ⟨me, rv, nx, mo, bo, fr, ds⟩ m) := ⟨h1, by show mo ≤ m; omega⟩
      by_cases h3 : mo < m
      · have d3 : decide (mo < m) = true := decide_eq_true h3
        have hwr : IntKind.i64.wrap (m - mo) = m - mo := by rw [IntKind.wrap_i64]; omega
        have HAG : Hid (Calls Try.prog 15 #[.slice p len cap, .int .i64 (m - mo)] w.drew fun e w' => deb.AgePost w.drew ds (m - mo) e w') := deb.kage _ p len cap ds (m - mo) (fresh_drew HD.out).came (tar.wf_mid (by omega) (by omega))
        have HMR : Hid (0 ≤ m - mo ∧ m - mo ≤ 2400) := ⟨by omega, by omega⟩
        have HNE : Hid (¬ m = mo) := by show ¬ _ = _; omega
        clear h1 h2 h3
        go_enter Try.func11, Try.ntmps11
        go_wp2_with fail
        refine (HIM.out _).mono ?_
        rintro e w2 ⟨rfl, hw2⟩
        subst w2
        go_wp2_with fail
        clear HIM d2 d3 q3
        have q6 : w.drew.cell? ⟨g, 6, none⟩ = some (.slice p len cap) := HI.out.cell 6
        refine wp_region_held_drew (S := fun v => v.cell? ⟨g, 3, none⟩ = some (.int .i64 mo)) (by kernel_rfl) (show w.drew.cell? _ = _ from HI.out.cell 3) (fun hHeld => ?_)
        refine take_at 0 26 (.pointer (some ⟨g, 0, none⟩)) _ rfl rfl (by kernel_rfl) (by kernel_rfl) (by kernel_rfl) (fun _ _ _ h => h) (Or.inl ⟨by rfl, fun v hv => by skip; clear hv; go_simp⟩) hHeld ?_
        simp only [Act.put, List.setIfInBounds_toArray, List.set_cons_zero, List.set_cons_succ]
        refine take_at 1 27 (.pointer (some ⟨g, 0, none⟩)) _ rfl rfl (by kernel_rfl) (by kernel_rfl) (by kernel_rfl) (fun _ _ _ h => h) (Or.inl ⟨by rfl, fun v hv => by skip; clear hv; go_simp⟩) hHeld ?_
        simp only [Act.put, List.setIfInBounds_toArray, List.set_cons_zero, List.set_cons_succ]
        refine take_at 2 28 (.pointer (some ⟨g, 0, none⟩)) _ rfl rfl (by kernel_rfl) (by kernel_rfl) (by kernel_rfl) (fun _ _ _ h => h) (Or.inl ⟨by rfl, fun v hv => by skip; clear hv; go_simp⟩) hHeld ?_
        simp only [Act.put, List.setIfInBounds_toArray, List.set_cons_zero, List.set_cons_succ]
        refine take_at 3 29 (.pointer (some ⟨g, 0, none⟩)) _ rfl rfl (by kernel_rfl) (by kernel_rfl) (by kernel_rfl) (fun _ _ _ h => h) (Or.inl ⟨by rfl, fun v hv => by skip; clear hv; go_simp⟩) hHeld ?_
        simp only [Act.put, List.setIfInBounds_toArray, List.set_cons_zero, List.set_cons_succ]
        refine take_at 4 30 (.pointer (some ⟨g, 6, none⟩)) _ rfl rfl (by kernel_rfl) (by kernel_rfl) (by kernel_rfl) (fun _ _ _ h => h) (Or.inl ⟨by rfl, fun v hv => by skip; clear hv; go_simp⟩) hHeld ?_
        simp only [Act.put, List.setIfInBounds_toArray, List.set_cons_zero, List.set_cons_succ]
        refine take_at 6 32 (.int .i64 m) _ rfl rfl (by kernel_rfl) (by kernel_rfl) (by kernel_rfl) (fun _ _ _ h => h) (Or.inl ⟨by rfl, fun v hv => by skip; clear hv; go_simp⟩) hHeld ?_
        simp only [Act.put, List.setIfInBounds_toArray, List.set_cons_zero, List.set_cons_succ]
        refine take_at 7 33 (.pointer (some ⟨g, 0, none⟩)) _ rfl rfl (by kernel_rfl) (by kernel_rfl) (by kernel_rfl) (fun _ _ _ h => h) (Or.inl ⟨by rfl, fun v hv => by skip; clear hv; go_simp⟩) hHeld ?_
        simp only [Act.put, List.setIfInBounds_toArray, List.set_cons_zero, List.set_cons_succ]
        refine take_at 8 34 (.pointer (some ⟨g, 0, none⟩)) _ rfl rfl (by kernel_rfl) (by kernel_rfl) (by kernel_rfl) (fun _ _ _ h => h) (Or.inl ⟨by rfl, fun v hv => by skip; clear hv; go_simp⟩) hHeld ?_
        simp only [Act.put, List.setIfInBounds_toArray, List.set_cons_zero, List.set_cons_succ]
        refine take_at 9 35 (.pointer (some ⟨g, 0, none⟩)) _ rfl rfl (by kernel_rfl) (by kernel_rfl) (by kernel_rfl) (fun _ _ _ h => h) (Or.inl ⟨by rfl, fun v hv => by skip; clear hv; go_simp⟩) hHeld ?_
        simp only [Act.put, List.setIfInBounds_toArray, List.set_cons_zero, List.set_cons_succ]
        refine take_at 10 36 (.pointer (some ⟨g, 3, none⟩)) _ rfl rfl (by kernel_rfl) (by kernel_rfl) (by kernel_rfl) (fun _ _ _ h => h) (Or.inl ⟨by rfl, fun v hv => by skip; clear hv; go_simp⟩) hHeld ?_
        simp only [Act.put, List.setIfInBounds_toArray, List.set_cons_zero, List.set_cons_succ]
        refine take_at 11 37 (.int .i64 mo) _ rfl rfl (by kernel_rfl) (by kernel_rfl) (by kernel_rfl) (fun _ _ _ h => h) (Or.inl ⟨by rfl, fun v hv => by have g0 := hv; clear hv; go_simp⟩) hHeld ?_
        simp only [Act.put, List.setIfInBounds_toArray, List.set_cons_zero, List.set_cons_succ]
        refine take_at 12 38 (.int .i64 (m - mo)) _ rfl rfl (by kernel_rfl) (by kernel_rfl) (by kernel_rfl) (fun _ _ _ h => h) (Or.inl ⟨by rfl, fun v hv => by skip; clear hv; go_simp⟩) hHeld ?_
        simp only [Act.put, List.setIfInBounds_toArray, List.set_cons_zero, List.set_cons_succ]
        refine wpAnyH_ready (rs := [5]) (by kernel_rfl) (by simp) (AllReadyH.cons rfl (fun K hK => ?_) AllReadyH.nil)
        rw [if_pos (by rfl)]
        refine wp_runOp (v := .slice p len cap) (w' := w.drew) 31 rfl (by clear hK; go_simp) ?_
        refine hK.out _ _ (show w.drew.cell? _ = _ from HI.out.cell 3) (fun hHeld => ?_)
        clear hK K q6
        simp only [Act.put, List.setIfInBounds_toArray, List.set_cons_zero, List.set_cons_succ]
        refine wpAnyH_ready (rs := [13]) (by kernel_rfl) (by simp) (AllReadyH.cons rfl (fun K hK => ?_) AllReadyH.nil)
        rw [if_pos (by rfl)]
        refine wp_callOp 39 rfl (by clear hK; go_simp) HAG.out ?_
        rintro e w1 ⟨q, n, c, z, f, rfl, hz, hf, hb1⟩
        obtain ⟨rfl, hz2⟩ := hz.got HMA.out HMR.out
        have HI1 : Hid (Blk w1 g #[.int .i64 me, .int .i64 rv, .int .i64 nx, .int .i64 mo, .int .i64 bo, .int .i64 fr, .slice p len cap, .int .i64 id, .int .i64 te, .int .i64 de, .int .i64 fe, .int .i64 pr, .int .i64 ch, .int .i64 un] 49) := (Blk.drew HI.out 1).next hb1
        have HC1 : Hid (Chg w w1 g) := (Chg.of (bel_drew (Below.refl _ _) 1)).trans (.of hb1)
        have HF1 : Hid (deb.Fresh w1 (g + 1) q n c z) := hf.low (by show g + 1 ≤ w.heap.size; omega)
        have HZ : Hid (z = deb.ageAll ds (m - mo).toNat) := hz2
        refine ⟨_, rfl, hK.out _ _ (HI1.out.cell 3) (fun hHeld => ?_)⟩
        clear hK K hz hf hb1 hz2 HAG HI HD
        simp only [Act.put, List.setIfInBounds_toArray, List.set_cons_zero, List.set_cons_succ]
        refine take_at 14 25 (.tuple #[.slice q n c, .int .i64 0]) _ rfl rfl (by kernel_rfl) (by kernel_rfl) (by kernel_rfl) (fun _ _ _ h => h) (Or.inl ⟨by rfl, fun v hv => by skip; clear hv; go_simp⟩) hHeld ?_
        simp only [Act.put, List.setIfInBounds_toArray, List.set_cons_zero, List.set_cons_succ]
        refine take_at 15 40 (.slice q n c) _ rfl rfl (by kernel_rfl) (by kernel_rfl) (by kernel_rfl) (fun _ _ _ h => h) (Or.inl ⟨by rfl, fun v hv => by skip; clear hv; go_simp⟩) hHeld ?_
        simp only [Act.put, List.setIfInBounds_toArray, List.set_cons_zero, List.set_cons_succ]
        refine take_at 16 41 (.int .i64 0) _ rfl rfl (by kernel_rfl) (by kernel_rfl) (by kernel_rfl) (fun _ _ _ h => h) (Or.inl ⟨by rfl, fun v hv => by skip; clear hv; go_simp⟩) hHeld ?_
        simp only [Act.put, List.setIfInBounds_toArray, List.set_cons_zero, List.set_cons_succ]
        refine take_at 17 42 (.pointer (some ⟨g, 0, none⟩)) _ rfl rfl (by kernel_rfl) (by kernel_rfl) (by kernel_rfl) (fun _ _ _ h => h) (Or.inl ⟨by rfl, fun v hv => by skip; clear hv; go_simp⟩) hHeld ?_
        simp only [Act.put, List.setIfInBounds_toArray, List.set_cons_zero, List.set_cons_succ]
        refine take_at 18 43 (.pointer (some ⟨g, 0, none⟩)) _ rfl rfl (by kernel_rfl) (by kernel_rfl) (by kernel_rfl) (fun _ _ _ h => h) (Or.inl ⟨by rfl, fun v hv => by skip; clear hv; go_simp⟩) hHeld ?_
        simp only [Act.put, List.setIfInBounds_toArray, List.set_cons_zero, List.set_cons_succ]
        refine take_at 19 44 (.pointer (some ⟨g, 6, none⟩)) _ rfl rfl (by kernel_rfl) (by kernel_rfl) (by kernel_rfl) (fun _ _ _ h => h) (Or.inl ⟨by rfl, fun v hv => by skip; clear hv; go_simp⟩) hHeld ?_
        simp only [Act.put, List.setIfInBounds_toArray, List.set_cons_zero, List.set_cons_succ]
        refine wpAnyH_ready (rs := [20]) (by kernel_rfl) (by simp) (AllReadyH.cons rfl (fun K hK => ?_) AllReadyH.nil)
        rw [if_pos (by rfl)]
        refine wp_letOp1 25 _ _ rfl g 6 rfl (.slice q n c) rfl rfl (by kernel_rfl) rfl #[.int .i64 me, .int .i64 rv, .int .i64 nx, .int .i64 mo, .int .i64 bo, .int .i64 fr, .slice p len cap, .int .i64 id, .int .i64 te, .int .i64 de, .int .i64 fe, .int .i64 pr, .int .i64 ch, .int .i64 un] 49 HI1.out (by simp) rfl ?_
        intro W2 hU
        have HI2 : Hid (Blk W2 g #[.int .i64 me, .int .i64 rv, .int .i64 nx, .int .i64 mo, .int .i64 bo, .int .i64 fr, .slice q n c, .int .i64 id, .int .i64 te, .int .i64 de, .int .i64 fe, .int .i64 pr, .int .i64 ch, .int .i64 un] 49) := hU.blk
        have HC2 : Hid (Chg w W2 g) := HC1.out.trans (.upd hU)
        have HF2 : Hid (deb.Fresh W2 (g + 1) q n c z) := fresh_chg HF1.out (.upd hU)
        clear hU HF1 HC1
        refine hK.out _ _ (HI2.out.cell 3) (fun hHeld => ?_)
        clear hK K HI1
        refine wpAnyH_done (by kernel_rfl) ?_ _
        clear hHeld
        go_wp2_with (first | (refine wp_let1 rfl 3 _ _ rfl g 3 rfl .i64 m rfl (by kernel_rfl) #[.int .i64 me, .int .i64 rv, .int .i64 nx, .int .i64 mo, .int .i64 bo, .int .i64 fr, .slice q n c, .int .i64 id, .int .i64 te, .int .i64 de, .int .i64 fe, .int .i64 pr, .int .i64 ch, .int .i64 un] 49 HI2.out (by simp) ?_) | fail)
        intro W3 hU
        have HI3 : Hid (Blk W3 g #[.int .i64 me, .int .i64 rv, .int .i64 nx, .int .i64 m, .int .i64 bo, .int .i64 fr, .slice q n c, .int .i64 id, .int .i64 te, .int .i64 de, .int .i64 fe, .int .i64 pr, .int .i64 ch, .int .i64 un] 49) := hU.blk
        have HC3 : Hid (Chg w W3 g) := HC2.out.trans (.upd hU)
        have HF3 : Hid (deb.Fresh W3 (g + 1) q n c z) := fresh_chg HF2.out (.upd hU)
        clear hU HF2 HC2 HI2
        go_wp2_with (first | (refine wp_let1 rfl 3 _ _ rfl g 4 rfl .i64 0 rfl (by kernel_rfl) #[.int .i64 me, .int .i64 rv, .int .i64 nx, .int .i64 m, .int .i64 bo, .int .i64 fr, .slice q n c, .int .i64 id, .int .i64 te, .int .i64 de, .int .i64 fe, .int .i64 pr, .int .i64 ch, .int .i64 un] 49 HI3.out (by simp) ?_) | fail)
        intro W4 hU
        have HI4 : Hid (Blk W4 g #[.int .i64 me, .int .i64 rv, .int .i64 nx, .int .i64 m, .int .i64 0, .int .i64 fr, .slice q n c, .int .i64 id, .int .i64 te, .int .i64 de, .int .i64 fe, .int .i64 pr, .int .i64 ch, .int .i64 un] 49) := hU.blk
        have HC4 : Hid (Chg w W4 g) := HC3.out.trans (.upd hU)
        have HF4 : Hid (deb.Fresh W4 (g + 1) q n c z) := fresh_chg HF3.out (.upd hU)
        have HV : Hid (RollR ⟨me, rv, nx, mo, bo, fr, ds⟩ m ⟨id, te, de, fe, pr, ch, un⟩ ⟨me, rv, nx, m, 0, fr, z⟩ ⟨id, te, de, fe, pr, ch, un⟩ 0) := ⟨.inr ⟨HRM.out, by unfold rolled; rw [if_neg HNE.out, HZ.out], rfl⟩, rfl⟩
        clear hU HF3 HC3 HI3
        go_wp2_with fail
        go_ret
        exact ⟨⟨me, rv, nx, m, 0, fr, z⟩, _, q, n, c, 0, rfl, HV.out, HI4.out, HF4.out, HC4.out⟩
      · have d3 : decide (mo < m) = false := decide_eq_false h3
        have HV : Hid (RollR ⟨me, rv, nx, mo, bo, fr, ds⟩ m ⟨id, te, de, fe, pr, ch, un⟩ ⟨me, rv, nx, mo, bo, fr, ds⟩ ⟨id, te, de, fe, pr, ch, un⟩ 0) := ⟨.inr ⟨HRM.out, by unfold rolled; rw [if_pos (by show m = mo; omega)], rfl⟩, rfl⟩
        clear h1 h2 h3 hmo
        go_enter Try.func11, Try.ntmps11
        go_wp2_with fail
        refine (HIM.out _).mono ?_
        rintro e w2 ⟨rfl, hw2⟩
        subst w2
        go_wp2_with fail
        go_ret
        exact ⟨_, _, p, len, cap, 0, rfl, HV.out, HI.out, HD.out, Chg.refl _ _⟩
  · rw [decide_eq_false h1] at HIM
    have HV : Hid (RollR ⟨me, rv, nx, mo, bo, fr, ds⟩ m ⟨id, te, de, fe, pr, ch, un⟩ ⟨me, rv, nx, mo, bo, fr, ds⟩ ⟨id, te, de, fe, pr, ch, un⟩ 2) := ⟨.inl ⟨fun hh => h1 hh.1, .inl ⟨h1, rfl⟩, rfl⟩, rfl⟩
    clear h1 hmo q3
    go_enter Try.func11, Try.ntmps11
    go_wp2_with fail
    refine (HIM.out _).mono ?_
    rintro e w2 ⟨rfl, hw2⟩
    subst w2
    go_wp2_with fail
    go_ret
    exact ⟨_, _, p, len, cap, 2, rfl, HV.out, HI.out, HD.out, Chg.refl _ _⟩

end Go.Proofs.Ytlolippocnngcac.acc
