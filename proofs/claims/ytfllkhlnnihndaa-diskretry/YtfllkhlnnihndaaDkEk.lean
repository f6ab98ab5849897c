/- Records compared. -/
import Derived.Test.YtfllkhlnnihndaaDkEr
import Derived.Test.YtfllkhlnnihndaaClSameK
import Derived.Test.YtfllkhlnnihndaaOpAt
import Derived.Test.YtfllkhlnnihndaaCallFirst
import Derived.Deep.RegionHeld
import Derived.Test.YtfllkhlnnihndaaProg
namespace Go.Proofs.Ytfllkhlnnihndaa.disk
open Go.RowKit Go.Proofs.Ytfllkhlnnihndaa.cell
set_option maxRecDepth 100000
set_option linter.unusedVariables false

set_option maxHeartbeats 4000000 in
theorem records_keep (a b : Option Addr) (n c1 c2 : Nat) (zs : List (List Int)) (w : World) (h1 : Reads w a n zs) (h2 : Reads w b n zs) (hn : n ≤ 100000) :
    Calls Try.prog 19 #[.slice a n c1, .slice b n c2] w fun e w' => e = .returned (.bool true) ∧ Below w.heap.size w w' := by
  have hne : ((n : Int) != (n : Int)) = false := by simp
  have H1 : Hid (Reads w a n zs) := h1
  have H2 : Hid (Reads w b n zs) := h2
  clear h1 h2
  go_enter Try.func19, Try.ntmps19
  go_wp2_with fail
  go_loopw [5] (fun i wr => ∃ k : Nat, k ≤ n ∧ i = .int .i64 (k : Int) ∧ Below w.heap.size w wr) (fun i _ => n - (intOf i).toNat)
  case atStart => exact ⟨0, Nat.zero_le _, rfl, Below.refl _ _⟩
  case round =>
    obtain ⟨k, hk, rfl, hbl⟩ := hrel
    have HBL : Hid (Below w.heap.size w wr) := hbl
    clear hbl
    by_cases hkn : k < n
    · have ek : decide ((k : Int) < (n : Int)) = true := by simp; omega
      obtain ⟨b1, o1, ea, l1, hc1⟩ := H1.out.2.resolve_left (by omega)
      obtain ⟨b2, o2, eb, l2, hc2⟩ := H2.out.2.resolve_left (by omega)
      obtain ⟨⟨sa, sn, sc⟩, q1, q2, q3⟩ := hc1 k hkn
      obtain ⟨⟨ta, tn, tc⟩, r1, r2, r3⟩ := hc2 k hkn
      have hst : sn = tn := q2.1.symm.trans r2.1
      subst hst
      subst ea
      subst eb
      have HC1 : Hid (∀ v, Below w.heap.size w v → v.cell? ⟨b1, o1 + k, none⟩ = some (.slice sa sn sc)) := fun v hv => (hv.cell (p := ⟨b1, o1 + k, none⟩) l1).trans q1
      have HC2 : Hid (∀ v, Below w.heap.size w v → v.cell? ⟨b2, o2 + k, none⟩ = some (.slice ta sn tc)) := fun v hv => (hv.cell (p := ⟨b2, o2 + k, none⟩) l2).trans r1
      have HSW : Hid (∀ W, Below w.heap.size w W → Calls Try.prog 31 #[.slice sa sn sc, .slice ta sn tc] W fun e w' => e = .returned (.bool true) ∧ Below W.heap.size W w') := fun W hW => words_keep sa ta sn sc tc (zs.getD k []) W (q2.below hW) (r2.below hW) (by unfold maxLen; have : sn ≤ 100000 := q3; omega)
      clear hc1 hc2 q1 q2 q3 r1 r2 r3 l1 l2 H1 H2
      go_wp2_with fail
      refine wp_region_held_drew (S := fun v => Below w.heap.size w v) (by kernel_rfl) HBL.out.drew (fun hHeld => ?_)
      refine take_at 0 17 (.slice (some ⟨b1, o1, none⟩) n c1) _ rfl rfl (by kernel_rfl) (by kernel_rfl) (by kernel_rfl) (fun _ _ _ h => h) (Or.inl ⟨by rfl, fun v hv => by skip; clear hv; go_simp⟩) hHeld ?_
      simp only [Act.put, List.setIfInBounds_toArray, List.set_cons_zero, List.set_cons_succ]
      refine take_at 1 18 (.int .i64 (k : Int)) _ rfl rfl (by kernel_rfl) (by kernel_rfl) (by kernel_rfl) (fun _ _ _ h => h) (Or.inl ⟨by rfl, fun v hv => by skip; clear hv; go_simp⟩) hHeld ?_
      simp only [Act.put, List.setIfInBounds_toArray, List.set_cons_zero, List.set_cons_succ]
      refine take_at 2 19 (.pointer (some ⟨b1, o1 + k, none⟩)) _ rfl rfl (by kernel_rfl) (by kernel_rfl) (by kernel_rfl) (fun _ _ _ h => h) (Or.inl ⟨by rfl, fun v hv => by skip; clear hv; go_simp⟩) hHeld ?_
      simp only [Act.put, List.setIfInBounds_toArray, List.set_cons_zero, List.set_cons_succ]
      refine take_at 3 20 (.slice sa sn sc) _ rfl rfl (by kernel_rfl) (by kernel_rfl) (by kernel_rfl) (fun _ _ _ h => h) (Or.inl ⟨by rfl, fun v hv => by have h2 := HC1.out v hv; clear hv; go_simp⟩) hHeld ?_
      simp only [Act.put, List.setIfInBounds_toArray, List.set_cons_zero, List.set_cons_succ]
      refine take_at 4 21 (.slice (some ⟨b2, o2, none⟩) n c2) _ rfl rfl (by kernel_rfl) (by kernel_rfl) (by kernel_rfl) (fun _ _ _ h => h) (Or.inl ⟨by rfl, fun v hv => by skip; clear hv; go_simp⟩) hHeld ?_
      simp only [Act.put, List.setIfInBounds_toArray, List.set_cons_zero, List.set_cons_succ]
      refine take_at 5 22 (.int .i64 (k : Int)) _ rfl rfl (by kernel_rfl) (by kernel_rfl) (by kernel_rfl) (fun _ _ _ h => h) (Or.inl ⟨by rfl, fun v hv => by skip; clear hv; go_simp⟩) hHeld ?_
      simp only [Act.put, List.setIfInBounds_toArray, List.set_cons_zero, List.set_cons_succ]
      refine take_at 6 23 (.pointer (some ⟨b2, o2 + k, none⟩)) _ rfl rfl (by kernel_rfl) (by kernel_rfl) (by kernel_rfl) (fun _ _ _ h => h) (Or.inl ⟨by rfl, fun v hv => by skip; clear hv; go_simp⟩) hHeld ?_
      simp only [Act.put, List.setIfInBounds_toArray, List.set_cons_zero, List.set_cons_succ]
      refine take_at 7 24 (.slice ta sn tc) _ rfl rfl (by kernel_rfl) (by kernel_rfl) (by kernel_rfl) (fun _ _ _ h => h) (Or.inl ⟨by rfl, fun v hv => by have h2 := HC2.out v hv; clear hv; go_simp⟩) hHeld ?_
      simp only [Act.put, List.setIfInBounds_toArray, List.set_cons_zero, List.set_cons_succ]
      refine wpAnyH_ready (rs := [8]) (by kernel_rfl) (by simp) (AllReadyH.cons rfl (fun K hK => ?_) AllReadyH.nil)
      rw [if_pos (by rfl)]
      refine wp_callOp 25 rfl (by clear hK; go_simp) (HSW.out _ HBL.out.drew) ?_
      rintro e w2 ⟨rfl, hb⟩
      have HB2 : Hid (Below w.heap.size w w2) := HBL.out.drew.trans (hb.mono HBL.out.drew.size)
      refine ⟨_, rfl, hK.out _ _ HB2.out (fun hHeld => ?_)⟩
      clear hK hb HBL HSW HC1 HC2
      simp only [Act.put, List.setIfInBounds_toArray, List.set_cons_zero, List.set_cons_succ]
      refine take_at 9 26 (.bool false) _ rfl rfl (by kernel_rfl) (by kernel_rfl) (by kernel_rfl) (fun _ _ _ h => h) (Or.inl ⟨by rfl, fun v hv => by skip; clear hv; go_simp⟩) hHeld ?_
      simp only [Act.put, List.setIfInBounds_toArray, List.set_cons_zero, List.set_cons_succ]
      refine wpAnyH_done (by kernel_rfl) ?_ _
      clear hHeld
      go_wp2_with fail
      go_roundw
      case rel => exact ⟨k + 1, by omega, by go_num, HB2.out⟩
      case measure => simp [intOf]; omega
    · obtain rfl : k = n := by omega
      go_wp2_with fail
      go_ret
      exact ⟨rfl, HBL.out⟩

end Go.Proofs.Ytfllkhlnnihndaa.disk
