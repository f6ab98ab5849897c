/- An account that may be, of raw numbers. -/
import Derived.Test.YtlolippocnngcabAcU
import Derived.Test.YtlolippocnngcabDbQ
import Derived.Test.YtlolippocnngcabCkPick
import Derived.Test.YtlolippocnngcabOpAt
import Derived.Test.YtlolippocnngcabCallFirst
import Derived.Test.YtlolippocnngcabLet
import Derived.Test.YtlolippocnngcabLetG
import Derived.Deep.RegionHeld
import Derived.Deep.DeepCutAuto
namespace Go.Proofs.Ytlolippocnngcab.acc
open Go.Proofs.Ytlolippocnngcab.tar (Du du0 Came RowD Ld PairT)
open Go.RowKit
set_option maxRecDepth 100000
set_option linter.unusedVariables false
set_option linter.unusedSimpArgs false

/-- An account that may be was given back; it has numbers left. -/
def GaveA (w : World) (e : Ending) (w' : World) : Prop := ∃ b p len cap, e = .returned (Ac.v b p len cap) ∧ AMay b ∧ b.nx ≤ 1048574 ∧ b.mo ≤ 2398 ∧ deb.Fresh w' w.heap.size p len cap b.ds ∧ Below w.heap.size w w'
set_option maxHeartbeats 4000000 in
theorem gone_any (x : Ac) (p : Option Addr) (len cap : Nat) (w : World) (h : ACame w x p len cap) : Calls Try.prog 13 #[x.v p len cap] w fun e w' => GaveA w e w' := by
  have HWF : Hid (wf6 x) := h.wf
  unfold Ac.v Ac.cs
  have H0x : Hid (Blk ((w.alloc (.cells #[.int .i64 x.me, .int .i64 x.rv, .int .i64 x.nx, .int .i64 x.mo, .int .i64 x.bo, .int .i64 x.fr, .slice p len cap] 35)).alloc (.cells #[.int .i64 0, .int .i64 0, .int .i64 0, .int .i64 0, .int .i64 0, .int .i64 0, .slice none 0 0] 24)) (w.heap.size) #[.int .i64 x.me, .int .i64 x.rv, .int .i64 x.nx, .int .i64 x.mo, .int .i64 x.bo, .int .i64 x.fr, .slice p len cap] 35) := (Blk.new w _ _).alloc _
  have H0r : Hid (Blk ((w.alloc (.cells #[.int .i64 x.me, .int .i64 x.rv, .int .i64 x.nx, .int .i64 x.mo, .int .i64 x.bo, .int .i64 x.fr, .slice p len cap] 35)).alloc (.cells #[.int .i64 0, .int .i64 0, .int .i64 0, .int .i64 0, .int .i64 0, .int .i64 0, .slice none 0 0] 24)) (w.heap.size + 1) #[.int .i64 0, .int .i64 0, .int .i64 0, .int .i64 0, .int .i64 0, .int .i64 0, .slice none 0 0] 24) := Blk.new1 w _ _ _
  have H0B : Hid (Below w.heap.size w ((w.alloc (.cells #[.int .i64 x.me, .int .i64 x.rv, .int .i64 x.nx, .int .i64 x.mo, .int .i64 x.bo, .int .i64 x.fr, .slice p len cap] 35)).alloc (.cells #[.int .i64 0, .int .i64 0, .int .i64 0, .int .i64 0, .int .i64 0, .int .i64 0, .slice none 0 0] 24))) := ((Below.refl w.heap.size w).alloc (by simp) _).alloc (by simp) _
  have H0C : Hid (ACame ((w.alloc (.cells #[.int .i64 x.me, .int .i64 x.rv, .int .i64 x.nx, .int .i64 x.mo, .int .i64 x.bo, .int .i64 x.fr, .slice p len cap] 35)).alloc (.cells #[.int .i64 0, .int .i64 0, .int .i64 0, .int .i64 0, .int .i64 0, .int .i64 0, .slice none 0 0] 24)) x p len cap) := h.below H0B.out
  have hs0 : w.heap.size + 1 < ((w.alloc (.cells #[.int .i64 x.me, .int .i64 x.rv, .int .i64 x.nx, .int .i64 x.mo, .int .i64 x.bo, .int .i64 x.fr, .slice p len cap] 35)).alloc (.cells #[.int .i64 0, .int .i64 0, .int .i64 0, .int .i64 0, .int .i64 0, .int .i64 0, .slice none 0 0] 24)).heap.size := H0r.out.lt
  generalize hWW : ((w.alloc (.cells #[.int .i64 x.me, .int .i64 x.rv, .int .i64 x.nx, .int .i64 x.mo, .int .i64 x.bo, .int .i64 x.fr, .slice p len cap] 35)).alloc (.cells #[.int .i64 0, .int .i64 0, .int .i64 0, .int .i64 0, .int .i64 0, .int .i64 0, .slice none 0 0] 24)) = W0 at *
  have HWW : Hid (((w.alloc (.cells #[.int .i64 x.me, .int .i64 x.rv, .int .i64 x.nx, .int .i64 x.mo, .int .i64 x.bo, .int .i64 x.fr, .slice p len cap] 35)).alloc (.cells #[.int .i64 0, .int .i64 0, .int .i64 0, .int .i64 0, .int .i64 0, .int .i64 0, .slice none 0 0] 24)) = W0) := hWW
  clear hWW
  go_enter Try.func13, Try.ntmps13
  go_upto_region 1 with fail
  rw [HWW.out]
  clear HWW
  clear h
  have HP1 : Hid (∀ W, Calls Try.prog 15 #[.int .i64 x.me, .int .i64 50] W fun e w' => e = .returned (.int .i64 (check.pick x.me 50)) ∧ w' = W) := fun W => check.picked_any x.me 50 W HWF.out.1 (by decide) (by decide)
  have hp10 := check.pick_nonneg x.me 50 (by decide)
  have hp11 := check.pick_lt x.me 50 (by decide)
  generalize (check.pick x.me 50) = z1 at *
  have HP2 : Hid (∀ W, Calls Try.prog 15 #[.int .i64 x.rv, .int .i64 16] W fun e w' => e = .returned (.int .i64 (check.pick x.rv 16)) ∧ w' = W) := fun W => check.picked_any x.rv 16 W HWF.out.2.1 (by decide) (by decide)
  have hp20 := check.pick_nonneg x.rv 16 (by decide)
  have hp21 := check.pick_lt x.rv 16 (by decide)
  generalize (check.pick x.rv 16) = z2 at *
  have HP3 : Hid (∀ W, Calls Try.prog 15 #[.int .i64 x.nx, .int .i64 1048574] W fun e w' => e = .returned (.int .i64 (check.pick x.nx 1048574)) ∧ w' = W) := fun W => check.picked_any x.nx 1048574 W HWF.out.2.2.1 (by decide) (by decide)
  have hp30 := check.pick_nonneg x.nx 1048574 (by decide)
  have hp31 := check.pick_lt x.nx 1048574 (by decide)
  generalize (check.pick x.nx 1048574) = z3 at *
  have HP4 : Hid (∀ W, Calls Try.prog 15 #[.int .i64 x.mo, .int .i64 2399] W fun e w' => e = .returned (.int .i64 (check.pick x.mo 2399)) ∧ w' = W) := fun W => check.picked_any x.mo 2399 W HWF.out.2.2.2.1 (by decide) (by decide)
  have hp40 := check.pick_nonneg x.mo 2399 (by decide)
  have hp41 := check.pick_lt x.mo 2399 (by decide)
  generalize (check.pick x.mo 2399) = z4 at *
  have HP5 : Hid (∀ W, Calls Try.prog 15 #[.int .i64 x.bo, .int .i64 10000001] W fun e w' => e = .returned (.int .i64 (check.pick x.bo 10000001)) ∧ w' = W) := fun W => check.picked_any x.bo 10000001 W HWF.out.2.2.2.2.1 (by decide) (by decide)
  have hp50 := check.pick_nonneg x.bo 10000001 (by decide)
  have hp51 := check.pick_lt x.bo 10000001 (by decide)
  generalize (check.pick x.bo 10000001) = z5 at *
  have HP6 : Hid (∀ W, Calls Try.prog 15 #[.int .i64 x.fr, .int .i64 (z4 + 2)] W fun e w' => e = .returned (.int .i64 (check.pick x.fr (z4 + 2))) ∧ w' = W) := fun W => check.picked_any x.fr (z4 + 2) W HWF.out.2.2.2.2.2 (by omega) (by omega)
  have hp60 := check.pick_nonneg x.fr (z4 + 2) (by omega)
  have hp61 := check.pick_lt x.fr (z4 + 2) (by omega)
  generalize (check.pick x.fr (z4 + 2)) = z6 at *
  have HOW : Hid (∀ W, Below W0.heap.size W0 W → Calls Try.prog 30 #[.slice p len cap, .int .i64 1000000000] W fun e w' => deb.GaveO W 1000000000 e w') := fun W hW => deb.owing_any p len cap 1000000000 (by decide) x.ds W (H0C.out.below hW).ds
  go_cut [3] (fun v3 wc => ∃ (g : Nat) (pb : Option Addr) (cb : Nat) (ls : List Du), v3 = .pointer (some ⟨g, 0, none⟩) ∧ W0.heap.size ≤ g ∧ Blk wc g #[.int .i64 z1, .int .i64 z2, .int .i64 (1 + z3), .int .i64 z4, .int .i64 z5, .int .i64 0, .slice pb ls.length cb] 24 ∧ deb.Mays ls ∧ deb.Fresh wc W0.heap.size pb ls.length cb ls ∧ (0 < ls.length → ∀ y, pb = some y → y.block ≠ g) ∧ Below W0.heap.size W0 wc)
  case first =>
    have HB0 : Hid (Below W0.heap.size W0 W0.drew) := (Below.refl _ _).drew
    refine wp_region_held_drew (S := fun v => Below W0.heap.size W0 v) (by kernel_rfl) HB0.out (fun hHeld => ?_)
    generalize W0.drew = U0 at *
    refine take_at 0 4 (.pointer (some ⟨w.heap.size, 0, none⟩)) _ rfl rfl (by kernel_rfl) (by kernel_rfl) (by kernel_rfl) (fun _ _ _ h => h) (Or.inl ⟨by rfl, fun v hv => by skip; clear hv; go_simp⟩) hHeld ?_
    simp only [Act.put, List.setIfInBounds_toArray, List.set_cons_zero, List.set_cons_succ]
    refine take_at 1 5 (.int .i64 x.me) _ rfl rfl (by kernel_rfl) (by kernel_rfl) (by kernel_rfl) (fun _ _ _ h => h) (Or.inl ⟨by rfl, fun v hv => by have h2 := (H0x.out.next hv).cell 0; simp at h2; clear hv; go_simp⟩) hHeld ?_
    simp only [Act.put, List.setIfInBounds_toArray, List.set_cons_zero, List.set_cons_succ]
    refine call_at 2 6 (.int .i64 z1) _ rfl rfl (by kernel_rfl) (by kernel_rfl) (by kernel_rfl) (fun _ _ _ h => h) 15 #[.int .i64 x.me, .int .i64 50] ⟨by rfl, fun v hv => by clear hv; go_simp⟩ (fun v _ => HP1.out v) hHeld ?_
    simp only [Act.put, List.setIfInBounds_toArray, List.set_cons_zero, List.set_cons_succ]
    refine take_at 3 7 (.pointer (some ⟨w.heap.size, 1, none⟩)) _ rfl rfl (by kernel_rfl) (by kernel_rfl) (by kernel_rfl) (fun _ _ _ h => h) (Or.inl ⟨by rfl, fun v hv => by skip; clear hv; go_simp⟩) hHeld ?_
    simp only [Act.put, List.setIfInBounds_toArray, List.set_cons_zero, List.set_cons_succ]
    refine take_at 4 8 (.int .i64 x.rv) _ rfl rfl (by kernel_rfl) (by kernel_rfl) (by kernel_rfl) (fun _ _ _ h => h) (Or.inl ⟨by rfl, fun v hv => by have h2 := (H0x.out.next hv).cell 1; simp at h2; clear hv; go_simp⟩) hHeld ?_
    simp only [Act.put, List.setIfInBounds_toArray, List.set_cons_zero, List.set_cons_succ]
    refine call_at 5 9 (.int .i64 z2) _ rfl rfl (by kernel_rfl) (by kernel_rfl) (by kernel_rfl) (fun _ _ _ h => h) 15 #[.int .i64 x.rv, .int .i64 16] ⟨by rfl, fun v hv => by clear hv; go_simp⟩ (fun v _ => HP2.out v) hHeld ?_
    simp only [Act.put, List.setIfInBounds_toArray, List.set_cons_zero, List.set_cons_succ]
    refine take_at 6 10 (.pointer (some ⟨w.heap.size, 2, none⟩)) _ rfl rfl (by kernel_rfl) (by kernel_rfl) (by kernel_rfl) (fun _ _ _ h => h) (Or.inl ⟨by rfl, fun v hv => by skip; clear hv; go_simp⟩) hHeld ?_
    simp only [Act.put, List.setIfInBounds_toArray, List.set_cons_zero, List.set_cons_succ]
    refine take_at 7 11 (.int .i64 x.nx) _ rfl rfl (by kernel_rfl) (by kernel_rfl) (by kernel_rfl) (fun _ _ _ h => h) (Or.inl ⟨by rfl, fun v hv => by have h2 := (H0x.out.next hv).cell 2; simp at h2; clear hv; go_simp⟩) hHeld ?_
    simp only [Act.put, List.setIfInBounds_toArray, List.set_cons_zero, List.set_cons_succ]
    refine call_at 8 12 (.int .i64 z3) _ rfl rfl (by kernel_rfl) (by kernel_rfl) (by kernel_rfl) (fun _ _ _ h => h) 15 #[.int .i64 x.nx, .int .i64 1048574] ⟨by rfl, fun v hv => by clear hv; go_simp⟩ (fun v _ => HP3.out v) hHeld ?_
    simp only [Act.put, List.setIfInBounds_toArray, List.set_cons_zero, List.set_cons_succ]
    refine take_at 9 13 (.int .i64 (1 + z3)) _ rfl rfl (by kernel_rfl) (by kernel_rfl) (by kernel_rfl) (fun _ _ _ h => h) (Or.inl ⟨by rfl, fun v hv => by have h2 : IntKind.i64.wrap (1 + z3) = 1 + z3 := (by rw [IntKind.wrap_i64]; omega); clear hv; go_simp⟩) hHeld ?_
    simp only [Act.put, List.setIfInBounds_toArray, List.set_cons_zero, List.set_cons_succ]
    refine take_at 10 14 (.pointer (some ⟨w.heap.size, 3, none⟩)) _ rfl rfl (by kernel_rfl) (by kernel_rfl) (by kernel_rfl) (fun _ _ _ h => h) (Or.inl ⟨by rfl, fun v hv => by skip; clear hv; go_simp⟩) hHeld ?_
    simp only [Act.put, List.setIfInBounds_toArray, List.set_cons_zero, List.set_cons_succ]
    refine take_at 11 15 (.int .i64 x.mo) _ rfl rfl (by kernel_rfl) (by kernel_rfl) (by kernel_rfl) (fun _ _ _ h => h) (Or.inl ⟨by rfl, fun v hv => by have h2 := (H0x.out.next hv).cell 3; simp at h2; clear hv; go_simp⟩) hHeld ?_
    simp only [Act.put, List.setIfInBounds_toArray, List.set_cons_zero, List.set_cons_succ]
    refine call_at 12 16 (.int .i64 z4) _ rfl rfl (by kernel_rfl) (by kernel_rfl) (by kernel_rfl) (fun _ _ _ h => h) 15 #[.int .i64 x.mo, .int .i64 2399] ⟨by rfl, fun v hv => by clear hv; go_simp⟩ (fun v _ => HP4.out v) hHeld ?_
    simp only [Act.put, List.setIfInBounds_toArray, List.set_cons_zero, List.set_cons_succ]
    refine take_at 13 17 (.pointer (some ⟨w.heap.size, 4, none⟩)) _ rfl rfl (by kernel_rfl) (by kernel_rfl) (by kernel_rfl) (fun _ _ _ h => h) (Or.inl ⟨by rfl, fun v hv => by skip; clear hv; go_simp⟩) hHeld ?_
    simp only [Act.put, List.setIfInBounds_toArray, List.set_cons_zero, List.set_cons_succ]
    refine take_at 14 18 (.int .i64 x.bo) _ rfl rfl (by kernel_rfl) (by kernel_rfl) (by kernel_rfl) (fun _ _ _ h => h) (Or.inl ⟨by rfl, fun v hv => by have h2 := (H0x.out.next hv).cell 4; simp at h2; clear hv; go_simp⟩) hHeld ?_
    simp only [Act.put, List.setIfInBounds_toArray, List.set_cons_zero, List.set_cons_succ]
    refine call_at 15 19 (.int .i64 z5) _ rfl rfl (by kernel_rfl) (by kernel_rfl) (by kernel_rfl) (fun _ _ _ h => h) 15 #[.int .i64 x.bo, .int .i64 10000001] ⟨by rfl, fun v hv => by clear hv; go_simp⟩ (fun v _ => HP5.out v) hHeld ?_
    simp only [Act.put, List.setIfInBounds_toArray, List.set_cons_zero, List.set_cons_succ]
    refine take_at 16 20 (.pointer (some ⟨w.heap.size, 6, none⟩)) _ rfl rfl (by kernel_rfl) (by kernel_rfl) (by kernel_rfl) (fun _ _ _ h => h) (Or.inl ⟨by rfl, fun v hv => by skip; clear hv; go_simp⟩) hHeld ?_
    simp only [Act.put, List.setIfInBounds_toArray, List.set_cons_zero, List.set_cons_succ]
    refine take_at 17 21 (.slice p len cap) _ rfl rfl (by kernel_rfl) (by kernel_rfl) (by kernel_rfl) (fun _ _ _ h => h) (Or.inl ⟨by rfl, fun v hv => by have h2 := (H0x.out.next hv).cell 6; simp at h2; clear hv; go_simp⟩) hHeld ?_
    simp only [Act.put, List.setIfInBounds_toArray, List.set_cons_zero, List.set_cons_succ]
    clear HP1 HP2 HP3 HP4 HP5 HP6
    refine wpAnyH_ready (rs := [18, 20]) (by kernel_rfl) (by simp) (AllReadyH.cons rfl (fun K hK => ?_) (AllReadyH.cons rfl (fun K hK => ?_) AllReadyH.nil))
    · rw [if_pos (by rfl)]
      refine wp_callOp 22 rfl (by clear hK; go_simp) (HOW.out U0 HB0.out) ?_
      rintro e U1 ⟨v, ls, rfl, hms, _, hld, hb⟩
      obtain ⟨pb, cb, rfl, hf⟩ := deb.ld_fresh hld hms
      have HB1 : Hid (Below W0.heap.size W0 U1) := bel_step HB0.out hb
      have FE1 : Hid (Came U1 pb ls.length cb ls) := hf.came
      have HMS : Hid (deb.Mays ls) := hms
      have HNW : Hid (0 < ls.length → ∀ y, pb = some y → W0.heap.size ≤ y.block) := fun hn y hy => Nat.le_trans HB0.out.size (hf.new hn y hy)
      refine ⟨_, rfl, hK.out _ _ HB1.out (fun hHeld => ?_)⟩
      clear hK hms hld hf hb HB0
      simp only [Act.put, List.setIfInBounds_toArray, List.set_cons_zero, List.set_cons_succ]
      refine take_at 19 23 (.agg #[.int .i64 z1, .int .i64 z2, .int .i64 (1 + z3), .int .i64 z4, .int .i64 z5, .int .i64 0, .slice pb ls.length cb]) _ rfl rfl (by kernel_rfl) (by kernel_rfl) (by kernel_rfl) (fun _ _ _ h => h) (Or.inl ⟨by rfl, fun v hv => by clear hv; go_simp⟩) hHeld ?_
      simp only [Act.put, List.setIfInBounds_toArray, List.set_cons_zero, List.set_cons_succ]
      refine wpAnyH_ready (rs := [20]) (by kernel_rfl) (by simp) (AllReadyH.cons rfl (fun K hK => ?_) AllReadyH.nil)
      rw [if_pos (by rfl)]
      have HB2 : Hid (Below W0.heap.size W0 (U1.alloc (.cells #[.int .i64 0, .int .i64 0, .int .i64 0, .int .i64 0, .int .i64 0, .int .i64 0, .slice none 0 0] 24))) := HB1.out.alloc HB1.out.size _
      have HG20 : Hid (W0.heap.size ≤ U1.heap.size) := HB1.out.size
      have FE2 : Hid (Came (U1.alloc (.cells #[.int .i64 0, .int .i64 0, .int .i64 0, .int .i64 0, .int .i64 0, .int .i64 0, .slice none 0 0] 24)) pb ls.length cb ls) := FE1.out.below ((Below.refl _ _).alloc (Nat.le_refl _) _)
      have HEE20 : Hid (0 < ls.length → ∀ y, pb = some y → y.block ≠ U1.heap.size) := fun hn y hy => Nat.ne_of_lt (came_lt FE1.out hn y hy)
      have G202 : Hid (Blk (U1.alloc (.cells #[.int .i64 0, .int .i64 0, .int .i64 0, .int .i64 0, .int .i64 0, .int .i64 0, .slice none 0 0] 24)) U1.heap.size #[.int .i64 0, .int .i64 0, .int .i64 0, .int .i64 0, .int .i64 0, .int .i64 0, .slice none 0 0] 24) := Blk.new _ _ _
      refine wp_runOp (v := .pointer (some ⟨U1.heap.size, 0, none⟩)) (w' := (U1.alloc (.cells #[.int .i64 0, .int .i64 0, .int .i64 0, .int .i64 0, .int .i64 0, .int .i64 0, .slice none 0 0] 24))) 3 rfl (by clear hK; go_simp) ?_
      refine hK.out _ _ HB2.out (fun hHeld => ?_)
      clear hK HB1 FE1
      simp only [Act.put, List.setIfInBounds_toArray, List.set_cons_zero, List.set_cons_succ]
      generalize U1.heap.size = g20 at *
      generalize U1.alloc _ = U2 at *
      refine wpAnyH_ready (rs := [21]) (by kernel_rfl) (by simp) (AllReadyH.cons rfl (fun K hK => ?_) AllReadyH.nil)
      rw [if_pos (by rfl)]
      refine wp_letOp 24 _ _ rfl g20 rfl #[.int .i64 z1, .int .i64 z2, .int .i64 (1 + z3), .int .i64 z4, .int .i64 z5, .int .i64 0, .slice pb ls.length cb] rfl (by kernel_rfl) (by simp [Value.oneCell']) #[.int .i64 0, .int .i64 0, .int .i64 0, .int .i64 0, .int .i64 0, .int .i64 0, .slice none 0 0] 24 G202.out rfl rfl ?_
      intro U3 hU
      have HB3 : Hid (Below W0.heap.size W0 U3) := hU.bel _ _ HG20.out HB2.out
      have FE3 : Hid (Came U3 pb ls.length cb ls) := came_upd FE2.out hU HEE20.out
      have G203 : Hid (Blk U3 g20 #[.int .i64 z1, .int .i64 z2, .int .i64 (1 + z3), .int .i64 z4, .int .i64 z5, .int .i64 0, .slice pb ls.length cb] 24) := hU.blk
      refine hK.out _ _ HB3.out (fun hHeld => ?_)
      clear hK hU HB2 FE2 G202
      refine wpAnyH_done (by kernel_rfl) ?_ _
      clear hHeld
      go_wp2_with fail
      go_meet
      case rel => exact ⟨g20, pb, cb, ls, rfl, HG20.out, G203.out, HMS.out, ⟨FE3.out, HNW.out⟩, HEE20.out, HB3.out⟩
    · rw [if_pos (by rfl)]
      have HB1 : Hid (Below W0.heap.size W0 (U0.alloc (.cells #[.int .i64 0, .int .i64 0, .int .i64 0, .int .i64 0, .int .i64 0, .int .i64 0, .slice none 0 0] 24))) := HB0.out.alloc HB0.out.size _
      have HG20 : Hid (W0.heap.size ≤ U0.heap.size) := HB0.out.size
      have G201 : Hid (Blk (U0.alloc (.cells #[.int .i64 0, .int .i64 0, .int .i64 0, .int .i64 0, .int .i64 0, .int .i64 0, .slice none 0 0] 24)) U0.heap.size #[.int .i64 0, .int .i64 0, .int .i64 0, .int .i64 0, .int .i64 0, .int .i64 0, .slice none 0 0] 24) := Blk.new _ _ _
      refine wp_runOp (v := .pointer (some ⟨U0.heap.size, 0, none⟩)) (w' := (U0.alloc (.cells #[.int .i64 0, .int .i64 0, .int .i64 0, .int .i64 0, .int .i64 0, .int .i64 0, .slice none 0 0] 24))) 3 rfl (by clear hK; go_simp) ?_
      refine hK.out _ _ HB1.out (fun hHeld => ?_)
      clear hK HB0
      simp only [Act.put, List.setIfInBounds_toArray, List.set_cons_zero, List.set_cons_succ]
      generalize U0.heap.size = g20 at *
      generalize U0.alloc _ = U1 at *
      refine wpAnyH_ready (rs := [18]) (by kernel_rfl) (by simp) (AllReadyH.cons rfl (fun K hK => ?_) AllReadyH.nil)
      rw [if_pos (by rfl)]
      refine wp_callOp 22 rfl (by clear hK; go_simp) (HOW.out U1 HB1.out) ?_
      rintro e U2 ⟨v, ls, rfl, hms, _, hld, hb⟩
      obtain ⟨pb, cb, rfl, hf⟩ := deb.ld_fresh hld hms
      have HB2 : Hid (Below W0.heap.size W0 U2) := bel_step HB1.out hb
      have FE2 : Hid (Came U2 pb ls.length cb ls) := hf.came
      have HEE20 : Hid (0 < ls.length → ∀ y, pb = some y → y.block ≠ g20) := fun hn y hy => by have h1 := hf.new hn y hy; have h2 := G201.out.lt; omega
      have G202 : Hid (Blk U2 g20 #[.int .i64 0, .int .i64 0, .int .i64 0, .int .i64 0, .int .i64 0, .int .i64 0, .slice none 0 0] 24) := G201.out.next hb
      have HMS : Hid (deb.Mays ls) := hms
      have HNW : Hid (0 < ls.length → ∀ y, pb = some y → W0.heap.size ≤ y.block) := fun hn y hy => Nat.le_trans HB1.out.size (hf.new hn y hy)
      refine ⟨_, rfl, hK.out _ _ HB2.out (fun hHeld => ?_)⟩
      clear hK hms hld hf hb HB1 G201
      simp only [Act.put, List.setIfInBounds_toArray, List.set_cons_zero, List.set_cons_succ]
      refine take_at 19 23 (.agg #[.int .i64 z1, .int .i64 z2, .int .i64 (1 + z3), .int .i64 z4, .int .i64 z5, .int .i64 0, .slice pb ls.length cb]) _ rfl rfl (by kernel_rfl) (by kernel_rfl) (by kernel_rfl) (fun _ _ _ h => h) (Or.inl ⟨by rfl, fun v hv => by clear hv; go_simp⟩) hHeld ?_
      simp only [Act.put, List.setIfInBounds_toArray, List.set_cons_zero, List.set_cons_succ]
      refine wpAnyH_ready (rs := [21]) (by kernel_rfl) (by simp) (AllReadyH.cons rfl (fun K hK => ?_) AllReadyH.nil)
      rw [if_pos (by rfl)]
      refine wp_letOp 24 _ _ rfl g20 rfl #[.int .i64 z1, .int .i64 z2, .int .i64 (1 + z3), .int .i64 z4, .int .i64 z5, .int .i64 0, .slice pb ls.length cb] rfl (by kernel_rfl) (by simp [Value.oneCell']) #[.int .i64 0, .int .i64 0, .int .i64 0, .int .i64 0, .int .i64 0, .int .i64 0, .slice none 0 0] 24 G202.out rfl rfl ?_
      intro U3 hU
      have HB3 : Hid (Below W0.heap.size W0 U3) := hU.bel _ _ HG20.out HB2.out
      have FE3 : Hid (Came U3 pb ls.length cb ls) := came_upd FE2.out hU HEE20.out
      have G203 : Hid (Blk U3 g20 #[.int .i64 z1, .int .i64 z2, .int .i64 (1 + z3), .int .i64 z4, .int .i64 z5, .int .i64 0, .slice pb ls.length cb] 24) := hU.blk
      refine hK.out _ _ HB3.out (fun hHeld => ?_)
      clear hK hU HB2 FE2 G202
      refine wpAnyH_done (by kernel_rfl) ?_ _
      clear hHeld
      go_wp2_with fail
      go_meet
      case rel => exact ⟨g20, pb, cb, ls, rfl, HG20.out, G203.out, HMS.out, ⟨FE3.out, HNW.out⟩, HEE20.out, HB3.out⟩
  case rest =>
    obtain ⟨g, pb, cb, ls, rfl, hg, h3, hms, hf4, hne, hb4⟩ := hcut
    have HNE : Hid (0 < ls.length → ∀ y, pb = some y → y.block ≠ g) := hne
    have HMS : Hid (deb.Mays ls) := hms
    have H1x : Hid (Blk wc (w.heap.size) #[.int .i64 x.me, .int .i64 x.rv, .int .i64 x.nx, .int .i64 x.mo, .int .i64 x.bo, .int .i64 x.fr, .slice p len cap] 35) := H0x.out.next hb4
    have H1r : Hid (Blk wc (w.heap.size + 1) #[.int .i64 0, .int .i64 0, .int .i64 0, .int .i64 0, .int .i64 0, .int .i64 0, .slice none 0 0] 24) := H0r.out.next hb4
    have H1B : Hid (Below w.heap.size w wc) := H0B.out.trans (hb4.mono H0B.out.size)
    have H1a : Hid (Blk wc g #[.int .i64 z1, .int .i64 z2, .int .i64 (1 + z3), .int .i64 z4, .int .i64 z5, .int .i64 0, .slice pb ls.length cb] 24) := h3
    have HF1 : Hid (deb.Fresh wc W0.heap.size pb ls.length cb ls) := hf4
    have hsc : W0.heap.size ≤ wc.heap.size := hb4.size
    clear hb4 h3 hf4 hms hne HOW HP1 HP2 HP3 HP4 HP5 H0C H0x H0r H0B
    have qx5 : wc.cell? ⟨w.heap.size, 5, none⟩ = some (.int .i64 x.fr) := H1x.out.cell 5
    have qa3 : wc.cell? ⟨g, 3, none⟩ = some (.int .i64 z4) := H1a.out.cell 3
    go_wp2_with (first
      | (refine wp_whole rfl 35 _ rfl (w.heap.size) rfl 35 #[.int .i64 x.me, .int .i64 x.rv, .int .i64 x.nx, .int .i64 x.mo, .int .i64 x.bo, .int .i64 x.fr, .slice p len cap] _ H1x.out Try.underlying35 rfl (by kernel_rfl) ?_)
      | (refine wp_wholeG (by rfl) 35 _ rfl (w.heap.size) rfl 35 #[.int .i64 x.me, .int .i64 x.rv, .int .i64 x.nx, .int .i64 x.mo, .int .i64 x.bo, .int .i64 x.fr, .slice p len cap] _ H1x.out Try.underlying35 rfl (by kernel_rfl) ?_)
      | (refine wp_whole rfl 24 _ rfl (w.heap.size + 1) rfl 24 #[.int .i64 0, .int .i64 0, .int .i64 0, .int .i64 0, .int .i64 0, .int .i64 0, .slice none 0 0] _ H1r.out Try.underlying24 rfl (by kernel_rfl) ?_)
      | (refine wp_wholeG (by rfl) 24 _ rfl (w.heap.size + 1) rfl 24 #[.int .i64 0, .int .i64 0, .int .i64 0, .int .i64 0, .int .i64 0, .int .i64 0, .slice none 0 0] _ H1r.out Try.underlying24 rfl (by kernel_rfl) ?_)
      | (refine wp_whole rfl 24 _ rfl (g) rfl 24 #[.int .i64 z1, .int .i64 z2, .int .i64 (1 + z3), .int .i64 z4, .int .i64 z5, .int .i64 0, .slice pb ls.length cb] _ H1a.out Try.underlying24 rfl (by kernel_rfl) ?_)
      | (refine wp_wholeG (by rfl) 24 _ rfl (g) rfl 24 #[.int .i64 z1, .int .i64 z2, .int .i64 (1 + z3), .int .i64 z4, .int .i64 z5, .int .i64 0, .slice pb ls.length cb] _ H1a.out Try.underlying24 rfl (by kernel_rfl) ?_)
      | fail)
    refine (HP6.out _).mono ?_
    rintro e wz ⟨rfl, hwz⟩
    subst wz
    clear qx5 qa3
    go_wp2_with (first
      | (refine wp_let1 rfl 3 _ _ rfl (g) 5 rfl .i64 (z6 - 1) rfl (by kernel_rfl) #[.int .i64 z1, .int .i64 z2, .int .i64 (1 + z3), .int .i64 z4, .int .i64 z5, .int .i64 0, .slice pb ls.length cb] 24 H1a.out (by simp) ?_)
      | fail)
    intro W5 hU
    have H2x : Hid (Blk W5 (w.heap.size) #[.int .i64 x.me, .int .i64 x.rv, .int .i64 x.nx, .int .i64 x.mo, .int .i64 x.bo, .int .i64 x.fr, .slice p len cap] 35) := hU.keep H1x.out (by omega)
    have H2r : Hid (Blk W5 (w.heap.size + 1) #[.int .i64 0, .int .i64 0, .int .i64 0, .int .i64 0, .int .i64 0, .int .i64 0, .slice none 0 0] 24) := hU.keep H1r.out (by omega)
    have H2a : Hid (Blk W5 (g) #[.int .i64 z1, .int .i64 z2, .int .i64 (1 + z3), .int .i64 z4, .int .i64 z5, .int .i64 (z6 - 1), .slice pb ls.length cb] 24) := hU.blk
    have HF2 : Hid (deb.Fresh W5 W0.heap.size pb ls.length cb ls) := fresh_updN HF1.out hU HNE.out
    have H2B : Hid (Below w.heap.size w W5) := hU.bel _ _ (by omega) H1B.out
    have hsW5 : W5.heap.size = wc.heap.size := hU.size
    clear hU H1x H1r H1a H1B
    go_wp2_with (first
      | (refine wp_letAll rfl 24 _ _ rfl (w.heap.size + 1) rfl #[.int .i64 z1, .int .i64 z2, .int .i64 (1 + z3), .int .i64 z4, .int .i64 z5, .int .i64 (z6 - 1), .slice pb ls.length cb] rfl (by kernel_rfl) (by simp [Value.oneCell']) #[.int .i64 0, .int .i64 0, .int .i64 0, .int .i64 0, .int .i64 0, .int .i64 0, .slice none 0 0] 24 H2r.out rfl ?_)
      | (refine wp_whole rfl 35 _ rfl (w.heap.size) rfl 35 #[.int .i64 x.me, .int .i64 x.rv, .int .i64 x.nx, .int .i64 x.mo, .int .i64 x.bo, .int .i64 x.fr, .slice p len cap] _ H2x.out Try.underlying35 rfl (by kernel_rfl) ?_)
      | (refine wp_wholeG (by rfl) 35 _ rfl (w.heap.size) rfl 35 #[.int .i64 x.me, .int .i64 x.rv, .int .i64 x.nx, .int .i64 x.mo, .int .i64 x.bo, .int .i64 x.fr, .slice p len cap] _ H2x.out Try.underlying35 rfl (by kernel_rfl) ?_)
      | (refine wp_whole rfl 24 _ rfl (w.heap.size + 1) rfl 24 #[.int .i64 0, .int .i64 0, .int .i64 0, .int .i64 0, .int .i64 0, .int .i64 0, .slice none 0 0] _ H2r.out Try.underlying24 rfl (by kernel_rfl) ?_)
      | (refine wp_wholeG (by rfl) 24 _ rfl (w.heap.size + 1) rfl 24 #[.int .i64 0, .int .i64 0, .int .i64 0, .int .i64 0, .int .i64 0, .int .i64 0, .slice none 0 0] _ H2r.out Try.underlying24 rfl (by kernel_rfl) ?_)
      | (refine wp_whole rfl 24 _ rfl (g) rfl 24 #[.int .i64 z1, .int .i64 z2, .int .i64 (1 + z3), .int .i64 z4, .int .i64 z5, .int .i64 (z6 - 1), .slice pb ls.length cb] _ H2a.out Try.underlying24 rfl (by kernel_rfl) ?_)
      | (refine wp_wholeG (by rfl) 24 _ rfl (g) rfl 24 #[.int .i64 z1, .int .i64 z2, .int .i64 (1 + z3), .int .i64 z4, .int .i64 z5, .int .i64 (z6 - 1), .slice pb ls.length cb] _ H2a.out Try.underlying24 rfl (by kernel_rfl) ?_)
      | fail)
    intro W6 hU
    have H3x : Hid (Blk W6 (w.heap.size) #[.int .i64 x.me, .int .i64 x.rv, .int .i64 x.nx, .int .i64 x.mo, .int .i64 x.bo, .int .i64 x.fr, .slice p len cap] 35) := hU.keep H2x.out (by omega)
    have H3r : Hid (Blk W6 (w.heap.size + 1) #[.int .i64 z1, .int .i64 z2, .int .i64 (1 + z3), .int .i64 z4, .int .i64 z5, .int .i64 (z6 - 1), .slice pb ls.length cb] 24) := hU.blk
    have H3a : Hid (Blk W6 (g) #[.int .i64 z1, .int .i64 z2, .int .i64 (1 + z3), .int .i64 z4, .int .i64 z5, .int .i64 (z6 - 1), .slice pb ls.length cb] 24) := hU.keep H2a.out (by omega)
    have HF3 : Hid (deb.Fresh W6 W0.heap.size pb ls.length cb ls) := fresh_updN HF2.out hU (fun hn y hy => by have f1 := HF2.out.new hn y hy; omega)
    have H3B : Hid (Below w.heap.size w W6) := hU.bel _ _ (by omega) H2B.out
    have hsW6 : W6.heap.size = W5.heap.size := hU.size
    clear hU H2x H2r H2a H2B
    have R0 : Hid (W6.cell? ⟨w.heap.size + 1, 0, none⟩ = some (.int .i64 z1)) := H3r.out.cell 0
    have R1 : Hid (W6.cell? ⟨w.heap.size + 1, 1, none⟩ = some (.int .i64 z2)) := H3r.out.cell 1
    have R2 : Hid (W6.cell? ⟨w.heap.size + 1, 2, none⟩ = some (.int .i64 (1 + z3))) := H3r.out.cell 2
    have R3 : Hid (W6.cell? ⟨w.heap.size + 1, 3, none⟩ = some (.int .i64 z4)) := H3r.out.cell 3
    have R4 : Hid (W6.cell? ⟨w.heap.size + 1, 4, none⟩ = some (.int .i64 z5)) := H3r.out.cell 4
    have R5 : Hid (W6.cell? ⟨w.heap.size + 1, 5, none⟩ = some (.int .i64 (z6 - 1))) := H3r.out.cell 5
    have R6 : Hid (W6.cell? ⟨w.heap.size + 1, 6, none⟩ = some (.slice pb ls.length cb)) := H3r.out.cell 6
    go_wp2_with fail
    exact bodyPost_ret (v := .agg #[.int .i64 z1, .int .i64 z2, .int .i64 (1 + z3), .int .i64 z4, .int .i64 z5, .int .i64 (z6 - 1), .slice pb ls.length cb]) (by simp [results, Try.results13, R0.out, R1.out, R2.out, R3.out, R4.out, R5.out, R6.out, go_sem]) rfl ⟨⟨z1, z2, 1 + z3, z4, z5, z6 - 1, ls⟩, pb, ls.length, cb, rfl, ⟨HMS.out, ⟨hp10, by show z1 ≤ 49; omega⟩, ⟨hp20, by show z2 ≤ 15; omega⟩, ⟨by show 1 ≤ 1 + z3; omega, by show 1 + z3 ≤ 1048576; omega⟩, ⟨hp40, by show z4 ≤ 2399; omega⟩, ⟨hp50, by show z5 ≤ 10000000; omega⟩, by show -1 ≤ z6 - 1; omega, by show z6 - 1 ≤ z4; omega⟩, by show 1 + z3 ≤ 1048574; omega, by show z4 ≤ 2398; omega, HF3.out.low (by omega), H3B.out⟩

end Go.Proofs.Ytlolippocnngcab.acc
