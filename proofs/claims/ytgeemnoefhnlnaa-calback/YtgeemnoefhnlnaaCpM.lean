/- The month of a day, by the program. -/
import Derived.Test.YtgeemnoefhnlnaaCpA
import Derived.Test.YtgeemnoefhnlnaaLet
import Derived.Test.YtgeemnoefhnlnaaCallFirst
import Derived.Test.YtgeemnoefhnlnaaBlk
import Derived.Deep.DeepCutAuto
import Derived.Test.YtgeemnoefhnlnaaSrS
namespace Go.Proofs.Ytgeemnoefhnlnaa.cal
open Go.RowKit
set_option maxRecDepth 100000
set_option linter.unusedVariables false
set_option linter.unusedSimpArgs false

theorem pends (k : Nat) (hk : k < 2400) (day : Int) (B : Nat) (W : World) (hc : W.cell? ⟨B, 0, none⟩ = some (.int .i64 day)) : Calls Try.prog 32 #[.int .i64 (k : Int), .pointer (some ⟨B, 0, none⟩)] W fun e w' => e = .returned (.bool (decide (day < cd (k + 1)))) ∧ w' = W.drew := by
  have HF : Hid (∀ W, Calls Try.prog 27 #[.int .i64 ((k : Int) + 1)] W fun e w' => e = .returned (.int .i64 (cd (k + 1))) ∧ w' = W) := fun W => by
    have := pfirst (k + 1) (by omega) W
    rwa [show ((k + 1 : Nat) : Int) = (k : Int) + 1 by omega] at this
  generalize cd (k + 1) = c at *
  have hd : W.drew.cell? ⟨B, 0, none⟩ = some (.int .i64 day) := hc
  have hwk : IntKind.i64.wrap ((k : Int) + 1) = (k : Int) + 1 := by rw [IntKind.wrap_i64]; omega
  go_enter Try.func32, Try.ntmps32
  go_upto_region 1 with fail
  refine wp_region_held_drew (S := fun v => v.cell? ⟨B, 0, none⟩ = some (.int .i64 day)) (by kernel_rfl) hd (fun hHeld => ?_)
  refine take_at 0 4 (.int .i64 (k : Int)) _ rfl rfl (by kernel_rfl) (by kernel_rfl) (by kernel_rfl) (fun _ _ _ h => h) (Or.inl ⟨by rfl, fun v hv => by skip; clear hv; go_simp⟩) hHeld ?_
  simp only [Act.put, List.setIfInBounds_toArray, List.set_cons_zero, List.set_cons_succ]
  refine take_at 1 5 (.int .i64 ((k : Int) + 1)) _ rfl rfl (by kernel_rfl) (by kernel_rfl) (by kernel_rfl) (fun _ _ _ h => h) (Or.inl ⟨by rfl, fun v hv => by skip; clear hv; go_simp⟩) hHeld ?_
  simp only [Act.put, List.setIfInBounds_toArray, List.set_cons_zero, List.set_cons_succ]
  refine call_at 2 6 (.int .i64 c) _ rfl rfl (by kernel_rfl) (by kernel_rfl) (by kernel_rfl) (fun _ _ _ h => h) 27 #[.int .i64 ((k : Int) + 1)] ⟨by rfl, fun v hv => by clear hv; go_simp⟩ (fun v _ => HF.out v) hHeld ?_
  simp only [Act.put, List.setIfInBounds_toArray, List.set_cons_zero, List.set_cons_succ]
  refine take_at 3 7 (.int .i64 day) _ rfl rfl (by kernel_rfl) (by kernel_rfl) (by kernel_rfl) (fun _ _ _ h => h) (Or.inl ⟨by rfl, fun v hv => by have h2 := hv; clear hv; go_simp⟩) hHeld ?_
  simp only [Act.put, List.setIfInBounds_toArray, List.set_cons_zero, List.set_cons_succ]
  refine take_at 4 8 (.bool (decide (day < c))) _ rfl rfl (by kernel_rfl) (by kernel_rfl) (by kernel_rfl) (fun _ _ _ h => h) (Or.inl ⟨by rfl, fun v hv => by skip; clear hv; go_simp⟩) hHeld ?_
  simp only [Act.put, List.setIfInBounds_toArray, List.set_cons_zero, List.set_cons_succ]
  refine take_at 5 3 (.bool (decide (day < c))) _ rfl rfl (by kernel_rfl) (by kernel_rfl) (by kernel_rfl) (fun _ _ _ h => h) (Or.inl ⟨by rfl, fun v hv => by skip; clear hv; go_simp⟩) hHeld ?_
  simp only [Act.put, List.setIfInBounds_toArray, List.set_cons_zero, List.set_cons_succ]
  refine wpAnyH_done (by kernel_rfl) ?_ _
  clear hHeld
  go_wp2_with fail
  go_ret
  exact ⟨rfl, rfl⟩
def InPost (w : World) (day : Int) (e : Ending) (w' : World) : Prop := ∃ k : Nat, k < 2400 ∧ InMon day k ∧ e = .returned (.int .i64 (k : Int)) ∧ Below w.heap.size w w'
set_option maxHeartbeats 1000000 in
theorem pmonthOf (day : Int) (w : World) (h0 : 0 ≤ day) (h1 : day ≤ 73048) : Calls Try.prog 25 #[.int .i64 day] w fun e w' => InPost w day e w' := by
  have HS : Hid (∀ W, Below w.heap.size w W → W.cell? ⟨w.heap.size, 0, none⟩ = some (.int .i64 day) → Calls Try.prog 31 #[.int .i64 2399, .func (.func 32) #[] #[.pointer (some ⟨w.heap.size, 0, none⟩)]] W fun e w' => InPost w day e w') := fun W hb hc => by
    refine Calls.mono (srt.search_any 32 #[.pointer (some ⟨w.heap.size, 0, none⟩)] (fun v => Below w.heap.size w v ∧ v.cell? ⟨w.heap.size, 0, none⟩ = some (.int .i64 day)) (fun k => decide (day < cd (k + 1))) 2399 (by decide) W ⟨hb, hc⟩ (fun _ _ => by kernel_rfl) ?_) ?_
    · intro i V hi hV
      refine Calls.mono (pends i (by omega) day _ V hV.2) ?_
      rintro e w' ⟨rfl, rfl⟩
      exact ⟨rfl, hV.1.drew, hV.2⟩
    · rintro e w' ⟨k, ⟨hk, ha, hz⟩, rfl, hV⟩
      refine ⟨k, by omega, ⟨?_, ?_⟩, rfl, hV.1⟩
      · rcases ha with rfl | ha
        · exact h0
        · by_cases e : k = 0
          · subst e; exact h0
          · have ha : decide (day < cd (k - 1 + 1)) = false := ha
            rw [show k - 1 + 1 = k by omega] at ha
            simpa using ha
      · rcases hz with rfl | hz
        · rw [show 2399 + 1 = 2400 from rfl, cd_end]; omega
        · simpa using hz
  have HB : Hid (Below w.heap.size w (w.alloc (.cells #[.int .i64 day] 3))) := (Below.refl w.heap.size w).alloc (by simp) _
  have HC : Hid ((w.alloc (.cells #[.int .i64 day] 3)).cell? ⟨w.heap.size, 0, none⟩ = some (.int .i64 day)) := (Blk.new w #[.int .i64 day] 3).cell 0
  have HQ : Hid (Calls Try.prog 31 #[.int .i64 2399, .func (.func 32) #[] #[.pointer (some ⟨w.heap.size, 0, none⟩)]] (w.alloc (.cells #[.int .i64 day] 3)) fun e w' => InPost w day e w') := HS.out _ HB.out HC.out
  clear HS HB HC
  go_enter Try.func25, Try.ntmps25
  go_wp2_with fail
  refine HQ.out.mono ?_
  rintro e w1 ⟨k, hk, hi, rfl, hB⟩
  have HK : Hid (k < 2400 ∧ InMon day k ∧ Below w.heap.size w w1) := ⟨hk, hi, hB⟩
  clear hk hi hB HQ
  go_wp2_with fail
  go_ret
  exact ⟨k, HK.out.1, HK.out.2.1, rfl, HK.out.2.2⟩

end Go.Proofs.Ytgeemnoefhnlnaa.cal
