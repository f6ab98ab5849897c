/- A debt more, for an account at work. -/
import Derived.Test.YtlolippocnngcaaApN
import Derived.Test.YtlolippocnngcaaAcGw
import Derived.Test.YtlolippocnngcaaApI
import Derived.Test.YtlolippocnngcaaOpAt
import Derived.Test.YtlolippocnngcaaDbK
import Derived.WalkKit
import Derived.Deep.DeepCutAuto
import Derived.Test.YtlolippocnngcaaProg
namespace Go.Proofs.Ytlolippocnngcaa.acc
open Go.Proofs.Ytlolippocnngcaa.tar (Du du0 Came RowD Ld PairT)
open Go.RowKit
set_option maxRecDepth 100000
set_option linter.unusedVariables false
set_option linter.unusedSimpArgs false

set_option maxHeartbeats 4000000 in
theorem powe (g : Nat) (x : Ac) (p : Option Addr) (len cap : Nat) (q : Du) (w : World) (hw : Blk w g (wcs x bi0 p len cap) 78) (hl : Ld 48 w (g + 1) (.slice p len cap) x.ds) (ha : AMay x) : Calls Try.prog 48 #[.pointer (some ⟨g, 0, none⟩), .agg #[.int .i64 q.a, .int .i64 q.b]] w fun e w' => WPost w g (Or0 (fun y _ f => OweIs x q y f)) e w' := by
  have hgl := hw.lt
  have hdm := ha.1
  have hle : x.ds.length = len := by obtain ⟨a0, c0, hv, _⟩ := hl.row; injection hv with _ h2 _; exact h2.symm
  have HDF : Hid (deb.Fresh w (g + 1) p len cap x.ds) := by
    obtain ⟨a0, c0, hv, hf⟩ := deb.ld_fresh hl hdm
    injection hv with h1 h2 h3
    rw [h1, h2, h3]; exact hf
  have hl8 : len ≤ 8 := by have := hdm.1; omega
  have HM : Hid (AMay x) := ha
  have HI1 : Hid (∀ W, Calls Try.prog 27 #[.int .i64 1, .int .i64 1000000000, .int .i64 q.a] W fun e w' => e = .returned (.bool (decide (1 ≤ q.a ∧ q.a ≤ 1000000000))) ∧ w' = W) := fun W => awithin 1 1000000000 q.a W
  have HI2 : Hid (∀ W, Calls Try.prog 27 #[.int .i64 0, .int .i64 10000, .int .i64 q.b] W fun e w' => e = .returned (.bool (decide (0 ≤ q.b ∧ q.b ≤ 10000))) ∧ w' = W) := fun W => awithin 0 10000 q.b W
  have HOW : Hid (∀ (e : some w.heap.size = (Value.slice p len cap).ownBlock), False) := fun e => by have := (World.ownsRow.lt hl _ e.symm).2; omega
  have H0B : Hid (Below w.heap.size w (w.alloc (.cells #[.int .i64 q.a, .int .i64 q.b] 48))) := (Below.refl w.heap.size w).alloc (by simp) _
  have H0e : Hid (Blk (w.alloc (.cells #[.int .i64 q.a, .int .i64 q.b] 48)) w.heap.size #[.int .i64 q.a, .int .i64 q.b] 48) := Blk.new w _ _
  have H0g : Hid (Blk (w.alloc (.cells #[.int .i64 q.a, .int .i64 q.b] 48)) g #[.int .i64 x.me, .int .i64 x.rv, .int .i64 x.nx, .int .i64 x.mo, .int .i64 x.bo, .int .i64 x.fr, .slice p len cap, .int .i64 0, .int .i64 0, .int .i64 0, .int .i64 0, .int .i64 0, .int .i64 0, .int .i64 0] 78) := hw.alloc _
  have H0L : Hid (Ld 48 (w.alloc (.cells #[.int .i64 q.a, .int .i64 q.b] 48)) (g + 1) (.slice p len cap) x.ds) := hl.alloc _
  have H0F : Hid (deb.Fresh (w.alloc (.cells #[.int .i64 q.a, .int .i64 q.b] 48)) (g + 1) p len cap x.ds) := HDF.out.below H0B.out
  have H0G : Hid (Below g w (w.alloc (.cells #[.int .i64 q.a, .int .i64 q.b] 48))) := H0B.out.mono (by omega)
  have hsz : w.heap.size < (w.alloc (.cells #[.int .i64 q.a, .int .i64 q.b] 48)).heap.size := H0e.out.lt
  clear hw hl ha HDF H0B
  generalize hWW : (w.alloc (.cells #[.int .i64 q.a, .int .i64 q.b] 48)) = W0 at *
  have HWW : Hid ((w.alloc (.cells #[.int .i64 q.a, .int .i64 q.b] 48)) = W0) := hWW
  clear hWW
  have e0 : W0.cell? ⟨w.heap.size, 0, none⟩ = some (.int .i64 q.a) := H0e.out.cell 0
  have e1 : W0.cell? ⟨w.heap.size, 1, none⟩ = some (.int .i64 q.b) := H0e.out.cell 1
  have g6 : W0.cell? ⟨g, 6, none⟩ = some (.slice p len cap) := H0g.out.cell 6
  go_enter Try.func48, Try.ntmps48
  go_upto_region 1 with fail
  rw [HWW.out]
  clear HWW
  by_cases h1 : 1 ≤ q.a ∧ q.a ≤ 1000000000
  · rw [decide_eq_true h1] at HI1
    go_wp2_with fail
    refine (HI1.out _).mono ?_
    rintro e wz ⟨rfl, hwz⟩
    subst wz
    clear HI1
    by_cases h2 : 0 ≤ q.b ∧ q.b ≤ 10000
    · rw [decide_eq_true h2] at HI2
      go_wp2_with fail
      refine (HI2.out _).mono ?_
      rintro e wz ⟨rfl, hwz⟩
      subst wz
      clear HI2
      by_cases h3 : len < 8
      · have d3 : ((len : Int) == 8) = false := by simp; omega
        have HMN : Hid (deb.Mays (x.ds ++ [q])) := ⟨by rw [List.length_append, hle]; show len + 1 ≤ 8; omega, deb.fits_mem fun d hd => by
          rcases List.mem_append.1 hd with hd | hd
          · exact deb.mem_fits hdm.2 d hd
          · have e2 := List.mem_singleton.1 hd
            subst e2
            exact ⟨⟨by omega, h1.2⟩, h2⟩⟩
        have hzl : x.ds.length ≤ 1000000 := by omega
        have HV : Hid (Or0 (fun y _ f => OweIs x q y f) ⟨x.me, x.rv, x.nx, x.mo, x.bo, x.fr, x.ds ++ [q]⟩ bi0 0) := .inr ⟨rfl, .inr (.inr (.inr ⟨HM.out, ⟨h1, h2⟩, by rw [hle]; exact h3, rfl, rfl⟩))⟩
        have HZL : Hid (x.ds.length ≤ 1000000) := hzl
        clear h1 h2 h3 hdm hle hzl
        go_wp2_with fail
        clear e0 e1
        have HED : Hid (Blk W0.drew w.heap.size #[.int .i64 q.a, .int .i64 q.b] 48) := Blk.drew H0e.out 1
        have q6 : W0.drew.cell? ⟨g, 6, none⟩ = some (.slice p len cap) := H0g.out.cell 6
        have HEA : Hid (Blk (W0.alloc (.cells #[.int .i64 q.a, .int .i64 q.b] 48)).drew w.heap.size #[.int .i64 q.a, .int .i64 q.b] 48) := HED.out.alloc _
        have HGA : Hid (Blk (W0.alloc (.cells #[.int .i64 q.a, .int .i64 q.b] 48)).drew g #[.int .i64 x.me, .int .i64 x.rv, .int .i64 x.nx, .int .i64 x.mo, .int .i64 x.bo, .int .i64 x.fr, .slice p len cap, .int .i64 0, .int .i64 0, .int .i64 0, .int .i64 0, .int .i64 0, .int .i64 0, .int .i64 0] 78) := H0g.out.alloc _
        have HLA : Hid (Ld 48 (W0.alloc (.cells #[.int .i64 q.a, .int .i64 q.b] 48)).drew (g + 1) (.slice p len cap) x.ds) := H0L.out.alloc _
        have HCA : Hid ((W0.alloc (.cells #[.int .i64 q.a, .int .i64 q.b] 48)).drew.cell? ⟨W0.heap.size, 0, none⟩ = some (.int .i64 q.a) ∧ (W0.alloc (.cells #[.int .i64 q.a, .int .i64 q.b] 48)).drew.cell? ⟨W0.heap.size, 1, none⟩ = some (.int .i64 q.b)) := ⟨(Blk.new W0 _ _).cell 0, (Blk.new W0 _ _).cell 1⟩
        have HBA : Hid (Below g w (W0.alloc (.cells #[.int .i64 q.a, .int .i64 q.b] 48)).drew) := bel_drew (H0G.out.alloc (by omega) _) 1
        have hsA : W0.heap.size < (W0.alloc (.cells #[.int .i64 q.a, .int .i64 q.b] 48)).drew.heap.size := (Blk.new W0 #[.int .i64 q.a, .int .i64 q.b] 48).lt
        refine wp_region_held_drew (S := fun v => Blk v (w.heap.size) #[.int .i64 q.a, .int .i64 q.b] 48) (by kernel_rfl) HED.out (fun hHeld => ?_)
        refine take_at 0 24 (.pointer (some ⟨g, 0, none⟩)) _ rfl rfl (by kernel_rfl) (by kernel_rfl) (by kernel_rfl) (fun _ _ _ h => h) (Or.inl ⟨by rfl, fun v hv => by skip; clear hv; go_simp⟩) hHeld ?_
        simp only [Act.put, List.setIfInBounds_toArray, List.set_cons_zero, List.set_cons_succ]
        refine take_at 1 25 (.pointer (some ⟨g, 0, none⟩)) _ rfl rfl (by kernel_rfl) (by kernel_rfl) (by kernel_rfl) (fun _ _ _ h => h) (Or.inl ⟨by rfl, fun v hv => by skip; clear hv; go_simp⟩) hHeld ?_
        simp only [Act.put, List.setIfInBounds_toArray, List.set_cons_zero, List.set_cons_succ]
        refine take_at 2 26 (.pointer (some ⟨g, 0, none⟩)) _ rfl rfl (by kernel_rfl) (by kernel_rfl) (by kernel_rfl) (fun _ _ _ h => h) (Or.inl ⟨by rfl, fun v hv => by skip; clear hv; go_simp⟩) hHeld ?_
        simp only [Act.put, List.setIfInBounds_toArray, List.set_cons_zero, List.set_cons_succ]
        refine take_at 3 27 (.pointer (some ⟨g, 0, none⟩)) _ rfl rfl (by kernel_rfl) (by kernel_rfl) (by kernel_rfl) (fun _ _ _ h => h) (Or.inl ⟨by rfl, fun v hv => by skip; clear hv; go_simp⟩) hHeld ?_
        simp only [Act.put, List.setIfInBounds_toArray, List.set_cons_zero, List.set_cons_succ]
        refine take_at 4 28 (.pointer (some ⟨g, 6, none⟩)) _ rfl rfl (by kernel_rfl) (by kernel_rfl) (by kernel_rfl) (fun _ _ _ h => h) (Or.inl ⟨by rfl, fun v hv => by skip; clear hv; go_simp⟩) hHeld ?_
        simp only [Act.put, List.setIfInBounds_toArray, List.set_cons_zero, List.set_cons_succ]
        refine take_at 6 30 (.agg #[.int .i64 q.a, .int .i64 q.b]) _ rfl rfl (by kernel_rfl) (by kernel_rfl) (by kernel_rfl) (fun _ _ _ h => h) (Or.inl ⟨by rfl, fun v hv => by have g0 := hv.cell 0; have g1 := hv.cell 1; clear hv; go_simp⟩) hHeld ?_
        simp only [Act.put, List.setIfInBounds_toArray, List.set_cons_zero, List.set_cons_succ]
        refine wpAnyH_ready (rs := [5, 7]) (by kernel_rfl) (by simp) (AllReadyH.cons rfl (fun K hK => ?_) (AllReadyH.cons rfl (fun K hK => ?_) AllReadyH.nil))
        all_goals rw [if_pos (by rfl)]
        · refine wp_runOp (v := .slice p len cap) (w' := W0.drew) 29 rfl (by clear hK; go_simp) ?_
          refine hK.out _ _ HED.out (fun hHeld => ?_)
          clear hK K q6
          simp only [Act.put, List.setIfInBounds_toArray, List.set_cons_zero, List.set_cons_succ]
          refine wpAnyH_ready (rs := [7]) (by kernel_rfl) (by simp) (AllReadyH.cons rfl (fun K hK => ?_) AllReadyH.nil)
          rw [if_pos (by rfl)]
          refine wp_runOp (v := .slice (some ⟨W0.heap.size, 0, none⟩) 1 1) (w' := (W0.alloc (.cells #[.int .i64 q.a, .int .i64 q.b] 48)).drew) 31 rfl (by clear hK; go_simp) ?_
          refine hK.out _ _ HEA.out (fun hHeld => ?_)
          clear hK K
          simp only [Act.put, List.setIfInBounds_toArray, List.set_cons_zero, List.set_cons_succ]
          generalize (W0.alloc (.cells #[.int .i64 q.a, .int .i64 q.b] 48)).drew = WA at *
          generalize W0.heap.size = hA at *
          refine wpAnyH_ready (rs := [8]) (by kernel_rfl) (by simp) (AllReadyH.cons rfl (fun K hK => ?_) AllReadyH.nil)
          refine tar.step_pair deb.debtT rfl _ _ rfl (g + 1) hA (.slice p len cap) x.ds q rfl rfl HLA.out HCA.out HZL.out (by omega) ?_
          intro v5 w5 h5 hg5
          obtain ⟨p5, c5, hv5, hf5⟩ := deb.ld_fresh h5 HMN.out
          subst hv5
          have H5g : Hid (Blk w5 g #[.int .i64 x.me, .int .i64 x.rv, .int .i64 x.nx, .int .i64 x.mo, .int .i64 x.bo, .int .i64 x.fr, .slice p len cap, .int .i64 0, .int .i64 0, .int .i64 0, .int .i64 0, .int .i64 0, .int .i64 0, .int .i64 0] 78) := grown_blk HGA.out hg5 (tar.own_far HLA.out (by omega))
          have H5e : Hid (Blk w5 w.heap.size #[.int .i64 q.a, .int .i64 q.b] 48) := grown_blk HEA.out hg5 (fun e => HOW.out e)
          have H5B : Hid (Below g w w5) := tar.own_bel HLA.out hg5 HBA.out (by omega) (by omega)
          have H5F : Hid (deb.Fresh w5 (g + 1) p5 (x.ds ++ [q]).length c5 (x.ds ++ [q])) := hf5
          refine hK.out _ _ H5e.out (fun hHeld => ?_)
          clear hK K h5 hg5 hf5 HGA HEA HLA HCA HBA HED
          simp only [Act.put, List.setIfInBounds_toArray, List.set_cons_zero, List.set_cons_succ]
          generalize (x.ds ++ [q]).length = n5 at *
          refine take_at 9 33 (.pointer (some ⟨g, 0, none⟩)) _ rfl rfl (by kernel_rfl) (by kernel_rfl) (by kernel_rfl) (fun _ _ _ h => h) (Or.inl ⟨by rfl, fun v hv => by skip; clear hv; go_simp⟩) hHeld ?_
          simp only [Act.put, List.setIfInBounds_toArray, List.set_cons_zero, List.set_cons_succ]
          refine take_at 10 34 (.pointer (some ⟨g, 0, none⟩)) _ rfl rfl (by kernel_rfl) (by kernel_rfl) (by kernel_rfl) (fun _ _ _ h => h) (Or.inl ⟨by rfl, fun v hv => by skip; clear hv; go_simp⟩) hHeld ?_
          simp only [Act.put, List.setIfInBounds_toArray, List.set_cons_zero, List.set_cons_succ]
          refine take_at 11 35 (.pointer (some ⟨g, 6, none⟩)) _ rfl rfl (by kernel_rfl) (by kernel_rfl) (by kernel_rfl) (fun _ _ _ h => h) (Or.inl ⟨by rfl, fun v hv => by skip; clear hv; go_simp⟩) hHeld ?_
          simp only [Act.put, List.setIfInBounds_toArray, List.set_cons_zero, List.set_cons_succ]
          refine wpAnyH_ready (rs := [12]) (by kernel_rfl) (by simp) (AllReadyH.cons rfl (fun K hK => ?_) AllReadyH.nil)
          rw [if_pos (by rfl)]
          refine wp_letOp1 30 _ _ rfl g 6 rfl (.slice p5 n5 c5) rfl rfl (by kernel_rfl) rfl #[.int .i64 x.me, .int .i64 x.rv, .int .i64 x.nx, .int .i64 x.mo, .int .i64 x.bo, .int .i64 x.fr, .slice p len cap, .int .i64 0, .int .i64 0, .int .i64 0, .int .i64 0, .int .i64 0, .int .i64 0, .int .i64 0] 78 H5g.out (by simp) rfl ?_
          intro W6 hU
          have H6g : Hid (Blk W6 g #[.int .i64 x.me, .int .i64 x.rv, .int .i64 x.nx, .int .i64 x.mo, .int .i64 x.bo, .int .i64 x.fr, .slice p5 n5 c5, .int .i64 0, .int .i64 0, .int .i64 0, .int .i64 0, .int .i64 0, .int .i64 0, .int .i64 0] 78) := hU.blk
          have H6e : Hid (Blk W6 w.heap.size #[.int .i64 q.a, .int .i64 q.b] 48) := hU.keep H5e.out (by omega)
          have H6B : Hid (Below g w W6) := hU.bel _ _ (Nat.le_refl _) H5B.out
          have H6F : Hid (deb.Fresh W6 (g + 1) p5 n5 c5 (x.ds ++ [q])) := fresh_chg H5F.out (.upd hU)
          refine hK.out _ _ H6e.out (fun hHeld => ?_)
          clear hK K hU H5g H5e H5B H5F
          refine wpAnyH_done (by kernel_rfl) ?_ _
          clear hHeld
          go_wp2_with fail
          go_ret
          exact ⟨⟨x.me, x.rv, x.nx, x.mo, x.bo, x.fr, x.ds ++ [q]⟩, bi0, p5, n5, c5, 0, rfl, HV.out, H6g.out, H6F.out, H6B.out⟩
        · refine wp_runOp (v := .slice (some ⟨W0.heap.size, 0, none⟩) 1 1) (w' := (W0.alloc (.cells #[.int .i64 q.a, .int .i64 q.b] 48)).drew) 31 rfl (by clear hK; go_simp) ?_
          refine hK.out _ _ HEA.out (fun hHeld => ?_)
          clear hK K q6
          have q7 : (W0.alloc (.cells #[.int .i64 q.a, .int .i64 q.b] 48)).drew.cell? ⟨g, 6, none⟩ = some (.slice p len cap) := HGA.out.cell 6
          simp only [Act.put, List.setIfInBounds_toArray, List.set_cons_zero, List.set_cons_succ]
          refine wpAnyH_ready (rs := [5]) (by kernel_rfl) (by simp) (AllReadyH.cons rfl (fun K hK => ?_) AllReadyH.nil)
          rw [if_pos (by rfl)]
          refine wp_runOp (v := .slice p len cap) (w' := (W0.alloc (.cells #[.int .i64 q.a, .int .i64 q.b] 48)).drew) 29 rfl (by clear hK; go_simp) ?_
          refine hK.out _ _ HEA.out (fun hHeld => ?_)
          clear hK K q7
          simp only [Act.put, List.setIfInBounds_toArray, List.set_cons_zero, List.set_cons_succ]
          generalize (W0.alloc (.cells #[.int .i64 q.a, .int .i64 q.b] 48)).drew = WA at *
          generalize W0.heap.size = hA at *
          refine wpAnyH_ready (rs := [8]) (by kernel_rfl) (by simp) (AllReadyH.cons rfl (fun K hK => ?_) AllReadyH.nil)
          refine tar.step_pair deb.debtT rfl _ _ rfl (g + 1) hA (.slice p len cap) x.ds q rfl rfl HLA.out HCA.out HZL.out (by omega) ?_
          intro v5 w5 h5 hg5
          obtain ⟨p5, c5, hv5, hf5⟩ := deb.ld_fresh h5 HMN.out
          subst hv5
          have H5g : Hid (Blk w5 g #[.int .i64 x.me, .int .i64 x.rv, .int .i64 x.nx, .int .i64 x.mo, .int .i64 x.bo, .int .i64 x.fr, .slice p len cap, .int .i64 0, .int .i64 0, .int .i64 0, .int .i64 0, .int .i64 0, .int .i64 0, .int .i64 0] 78) := grown_blk HGA.out hg5 (tar.own_far HLA.out (by omega))
          have H5e : Hid (Blk w5 w.heap.size #[.int .i64 q.a, .int .i64 q.b] 48) := grown_blk HEA.out hg5 (fun e => HOW.out e)
          have H5B : Hid (Below g w w5) := tar.own_bel HLA.out hg5 HBA.out (by omega) (by omega)
          have H5F : Hid (deb.Fresh w5 (g + 1) p5 (x.ds ++ [q]).length c5 (x.ds ++ [q])) := hf5
          refine hK.out _ _ H5e.out (fun hHeld => ?_)
          clear hK K h5 hg5 hf5 HGA HEA HLA HCA HBA HED
          simp only [Act.put, List.setIfInBounds_toArray, List.set_cons_zero, List.set_cons_succ]
          generalize (x.ds ++ [q]).length = n5 at *
          refine take_at 9 33 (.pointer (some ⟨g, 0, none⟩)) _ rfl rfl (by kernel_rfl) (by kernel_rfl) (by kernel_rfl) (fun _ _ _ h => h) (Or.inl ⟨by rfl, fun v hv => by skip; clear hv; go_simp⟩) hHeld ?_
          simp only [Act.put, List.setIfInBounds_toArray, List.set_cons_zero, List.set_cons_succ]
          refine take_at 10 34 (.pointer (some ⟨g, 0, none⟩)) _ rfl rfl (by kernel_rfl) (by kernel_rfl) (by kernel_rfl) (fun _ _ _ h => h) (Or.inl ⟨by rfl, fun v hv => by skip; clear hv; go_simp⟩) hHeld ?_
          simp only [Act.put, List.setIfInBounds_toArray, List.set_cons_zero, List.set_cons_succ]
          refine take_at 11 35 (.pointer (some ⟨g, 6, none⟩)) _ rfl rfl (by kernel_rfl) (by kernel_rfl) (by kernel_rfl) (fun _ _ _ h => h) (Or.inl ⟨by rfl, fun v hv => by skip; clear hv; go_simp⟩) hHeld ?_
          simp only [Act.put, List.setIfInBounds_toArray, List.set_cons_zero, List.set_cons_succ]
          refine wpAnyH_ready (rs := [12]) (by kernel_rfl) (by simp) (AllReadyH.cons rfl (fun K hK => ?_) AllReadyH.nil)
          rw [if_pos (by rfl)]
          refine wp_letOp1 30 _ _ rfl g 6 rfl (.slice p5 n5 c5) rfl rfl (by kernel_rfl) rfl #[.int .i64 x.me, .int .i64 x.rv, .int .i64 x.nx, .int .i64 x.mo, .int .i64 x.bo, .int .i64 x.fr, .slice p len cap, .int .i64 0, .int .i64 0, .int .i64 0, .int .i64 0, .int .i64 0, .int .i64 0, .int .i64 0] 78 H5g.out (by simp) rfl ?_
          intro W6 hU
          have H6g : Hid (Blk W6 g #[.int .i64 x.me, .int .i64 x.rv, .int .i64 x.nx, .int .i64 x.mo, .int .i64 x.bo, .int .i64 x.fr, .slice p5 n5 c5, .int .i64 0, .int .i64 0, .int .i64 0, .int .i64 0, .int .i64 0, .int .i64 0, .int .i64 0] 78) := hU.blk
          have H6e : Hid (Blk W6 w.heap.size #[.int .i64 q.a, .int .i64 q.b] 48) := hU.keep H5e.out (by omega)
          have H6B : Hid (Below g w W6) := hU.bel _ _ (Nat.le_refl _) H5B.out
          have H6F : Hid (deb.Fresh W6 (g + 1) p5 n5 c5 (x.ds ++ [q])) := fresh_chg H5F.out (.upd hU)
          refine hK.out _ _ H6e.out (fun hHeld => ?_)
          clear hK K hU H5g H5e H5B H5F
          refine wpAnyH_done (by kernel_rfl) ?_ _
          clear hHeld
          go_wp2_with fail
          go_ret
          exact ⟨⟨x.me, x.rv, x.nx, x.mo, x.bo, x.fr, x.ds ++ [q]⟩, bi0, p5, n5, c5, 0, rfl, HV.out, H6g.out, H6F.out, H6B.out⟩
      · have d3 : ((len : Int) == 8) = true := by simp; omega
        have HV : Hid (Or0 (fun y _ f => OweIs x q y f) x bi0 16) := .inl ⟨by decide, .inr (.inr (.inl ⟨HM.out, ⟨h1, h2⟩, by rw [hle]; exact h3, rfl, rfl⟩))⟩
        clear h1 h2 h3
        go_wp2_with fail
        go_ret
        exact ⟨x, bi0, p, len, cap, 16, rfl, HV.out, H0g.out, H0F.out, H0G.out⟩
    · rw [decide_eq_false h2] at HI2
      have HV : Hid (Or0 (fun y _ f => OweIs x q y f) x bi0 2) := .inl ⟨by decide, .inr (.inl ⟨HM.out, fun hh => h2 hh.2, rfl, rfl⟩)⟩
      clear h2
      go_wp2_with fail
      refine (HI2.out _).mono ?_
      rintro e wz ⟨rfl, hwz⟩
      subst wz
      go_wp2_with fail
      all_goals first
        | (rename_i q1 q2; exact absurd q1 (by simp [undef]))
        | (go_ret; exact ⟨x, bi0, p, len, cap, 2, rfl, HV.out, H0g.out, H0F.out, H0G.out⟩)
  · rw [decide_eq_false h1] at HI1
    have HV : Hid (Or0 (fun y _ f => OweIs x q y f) x bi0 2) := .inl ⟨by decide, .inr (.inl ⟨HM.out, fun hh => h1 hh.1, rfl, rfl⟩)⟩
    clear h1
    go_wp2_with fail
    refine (HI1.out _).mono ?_
    rintro e wz ⟨rfl, hwz⟩
    subst wz
    go_wp2_with fail
    all_goals first
      | (rename_i q1 q2; exact absurd q1 (by simp [undef]))
      | (go_ret; exact ⟨x, bi0, p, len, cap, 2, rfl, HV.out, H0g.out, H0F.out, H0G.out⟩)

end Go.Proofs.Ytlolippocnngcaa.acc
