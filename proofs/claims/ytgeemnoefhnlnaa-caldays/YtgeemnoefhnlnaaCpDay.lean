/- calendar.Day. -/
import Derived.Test.YtgeemnoefhnlnaaCpI
import Derived.Test.YtgeemnoefhnlnaaKaDay
namespace Go.Proofs.Ytgeemnoefhnlnaa.cal
open Go.RowKit
set_option maxRecDepth 100000
set_option linter.unusedVariables false
set_option linter.unusedSimpArgs false

set_option maxHeartbeats 2000000 in
theorem kday : KaDay := by
  intro w y m d _ _ _
  have H0d : Hid (Blk (w.alloc (.cells #[.int .i64 y, .int .i64 m, .int .i64 d] 23)) (w.heap.size) #[.int .i64 y, .int .i64 m, .int .i64 d] 23) := Blk.new w _ _
  have H0B : Hid (Below w.heap.size w (w.alloc (.cells #[.int .i64 y, .int .i64 m, .int .i64 d] 23))) := (Below.refl w.heap.size w).alloc (by simp) _
  have hsz : w.heap.size < (w.alloc (.cells #[.int .i64 y, .int .i64 m, .int .i64 d] 23)).heap.size := H0d.out.lt
  have c0 : (w.alloc (.cells #[.int .i64 y, .int .i64 m, .int .i64 d] 23)).cell? ⟨w.heap.size, 0, none⟩ = some (.int .i64 y) := H0d.out.cell 0
  have c1 : (w.alloc (.cells #[.int .i64 y, .int .i64 m, .int .i64 d] 23)).cell? ⟨w.heap.size, 1, none⟩ = some (.int .i64 m) := H0d.out.cell 1
  have c2 : (w.alloc (.cells #[.int .i64 y, .int .i64 m, .int .i64 d] 23)).cell? ⟨w.heap.size, 2, none⟩ = some (.int .i64 d) := H0d.out.cell 2
  by_cases hv : Valid y m d
  · have HV : Hid (Valid y m d) := hv
    have HIS : Hid (∀ W, Calls Try.prog 20 #[.agg #[.int .i64 y, .int .i64 m, .int .i64 d]] W fun e w' => e = .returned (.bool true) ∧ Below W.heap.size W w') := fun W => pisDate y m d W hv
    have HAH : Hid (∀ W, Calls Try.prog 21 #[.int .i64 y, .int .i64 m] W fun e w' => e = .returned (.int .i64 (cd ((y - 2000) * 12 + m - 1).toNat)) ∧ w' = W) := fun W => by
      obtain ⟨⟨a1, a2⟩, ⟨a3, a4⟩, a5, a6⟩ := hv
      have := pahead (y - 2000).toNat (m - 1).toNat (by omega) (by omega) W
      rwa [show 2000 + (((y - 2000).toNat : Nat) : Int) = y by omega, show (((m - 1).toNat : Nat) : Int) + 1 = m by omega, show 12 * (y - 2000).toNat + (m - 1).toNat = ((y - 2000) * 12 + m - 1).toNat by omega] at this
    have hb0 : 0 ≤ cd ((y - 2000) * 12 + m - 1).toNat := cd_pos _
    have hb1 : cd ((y - 2000) * 12 + m - 1).toNat ≤ 73049 := by
      obtain ⟨⟨a1, a2⟩, ⟨a3, a4⟩, a5, a6⟩ := hv
      have := cd_le (show ((y - 2000) * 12 + m - 1).toNat ≤ 2400 by omega)
      rwa [cd_end] at this
    have hd1 := hv.2.2.1
    have hd2 : d ≤ 31 := Int.le_trans hv.2.2.2 (ml_bd y m).2
    clear hv
    have hw1 : IntKind.i64.wrap (cd ((y - 2000) * 12 + m - 1).toNat + d) = cd ((y - 2000) * 12 + m - 1).toNat + d := by rw [IntKind.wrap_i64]; omega
    have hw2 : IntKind.i64.wrap (cd ((y - 2000) * 12 + m - 1).toNat + d - 1) = cd ((y - 2000) * 12 + m - 1).toNat + d - 1 := by rw [IntKind.wrap_i64]; omega
    generalize hcc : cd ((y - 2000) * 12 + m - 1).toNat = c at *
    have HCC : Hid (cd ((y - 2000) * 12 + m - 1).toNat = c) := hcc
    clear hcc
    go_enter Try.func9, Try.ntmps9
    go_wp2_with fail
    refine (HIS.out _).mono ?_
    rintro e w1 ⟨rfl, hbw⟩
    have H1B : Hid (Below w.heap.size w w1) := H0B.out.trans (hbw.mono (Nat.le_of_lt hsz))
    have H1d : Hid (Blk w1 w.heap.size #[.int .i64 y, .int .i64 m, .int .i64 d] 23) := H0d.out.below hbw hsz
    clear hbw H0B H0d c0 c1 c2 hsz
    go_upto_region 3 with fail
    refine wp_region_held_drew (S := fun v => Blk v w.heap.size #[.int .i64 y, .int .i64 m, .int .i64 d] 23) (by kernel_rfl) (Blk.drew H1d.out 1) (fun hHeld => ?_)
    refine take_at 0 7 (.pointer (some ⟨w.heap.size, 0, none⟩)) _ rfl rfl (by kernel_rfl) (by kernel_rfl) (by kernel_rfl) (fun _ _ _ h => h) (Or.inl ⟨by rfl, fun v hv => by skip; clear hv; go_simp⟩) hHeld ?_
    simp only [Act.put, List.setIfInBounds_toArray, List.set_cons_zero, List.set_cons_succ]
    refine take_at 1 8 (.int .i64 y) _ rfl rfl (by kernel_rfl) (by kernel_rfl) (by kernel_rfl) (fun _ _ _ h => h) (Or.inl ⟨by rfl, fun v hv => by have h2 := hv.cell 0; clear hv; go_simp⟩) hHeld ?_
    simp only [Act.put, List.setIfInBounds_toArray, List.set_cons_zero, List.set_cons_succ]
    refine take_at 2 9 (.pointer (some ⟨w.heap.size, 1, none⟩)) _ rfl rfl (by kernel_rfl) (by kernel_rfl) (by kernel_rfl) (fun _ _ _ h => h) (Or.inl ⟨by rfl, fun v hv => by skip; clear hv; go_simp⟩) hHeld ?_
    simp only [Act.put, List.setIfInBounds_toArray, List.set_cons_zero, List.set_cons_succ]
    refine take_at 3 10 (.int .i64 m) _ rfl rfl (by kernel_rfl) (by kernel_rfl) (by kernel_rfl) (fun _ _ _ h => h) (Or.inl ⟨by rfl, fun v hv => by have h2 := hv.cell 1; clear hv; go_simp⟩) hHeld ?_
    simp only [Act.put, List.setIfInBounds_toArray, List.set_cons_zero, List.set_cons_succ]
    refine call_at 4 11 (.int .i64 c) _ rfl rfl (by kernel_rfl) (by kernel_rfl) (by kernel_rfl) (fun _ _ _ h => h) 21 #[.int .i64 y, .int .i64 m] ⟨by rfl, fun v hv => by clear hv; go_simp⟩ (fun v _ => HAH.out v) hHeld ?_
    simp only [Act.put, List.setIfInBounds_toArray, List.set_cons_zero, List.set_cons_succ]
    refine take_at 5 12 (.pointer (some ⟨w.heap.size, 2, none⟩)) _ rfl rfl (by kernel_rfl) (by kernel_rfl) (by kernel_rfl) (fun _ _ _ h => h) (Or.inl ⟨by rfl, fun v hv => by skip; clear hv; go_simp⟩) hHeld ?_
    simp only [Act.put, List.setIfInBounds_toArray, List.set_cons_zero, List.set_cons_succ]
    refine take_at 6 13 (.int .i64 d) _ rfl rfl (by kernel_rfl) (by kernel_rfl) (by kernel_rfl) (fun _ _ _ h => h) (Or.inl ⟨by rfl, fun v hv => by have h2 := hv.cell 2; clear hv; go_simp⟩) hHeld ?_
    simp only [Act.put, List.setIfInBounds_toArray, List.set_cons_zero, List.set_cons_succ]
    refine take_at 7 14 (.int .i64 (c + d)) _ rfl rfl (by kernel_rfl) (by kernel_rfl) (by kernel_rfl) (fun _ _ _ h => h) (Or.inl ⟨by rfl, fun v hv => by skip; clear hv; go_simp⟩) hHeld ?_
    simp only [Act.put, List.setIfInBounds_toArray, List.set_cons_zero, List.set_cons_succ]
    refine take_at 8 15 (.int .i64 (c + d - 1)) _ rfl rfl (by kernel_rfl) (by kernel_rfl) (by kernel_rfl) (fun _ _ _ h => h) (Or.inl ⟨by rfl, fun v hv => by skip; clear hv; go_simp⟩) hHeld ?_
    simp only [Act.put, List.setIfInBounds_toArray, List.set_cons_zero, List.set_cons_succ]
    refine take_at 9 2 (.int .i64 (c + d - 1)) _ rfl rfl (by kernel_rfl) (by kernel_rfl) (by kernel_rfl) (fun _ _ _ h => h) (Or.inl ⟨by rfl, fun v hv => by skip; clear hv; go_simp⟩) hHeld ?_
    simp only [Act.put, List.setIfInBounds_toArray, List.set_cons_zero, List.set_cons_succ]
    refine take_at 10 3 (.int .i64 0) _ rfl rfl (by kernel_rfl) (by kernel_rfl) (by kernel_rfl) (fun _ _ _ h => h) (Or.inl ⟨by rfl, fun v hv => by skip; clear hv; go_simp⟩) hHeld ?_
    simp only [Act.put, List.setIfInBounds_toArray, List.set_cons_zero, List.set_cons_succ]
    refine wpAnyH_done (by kernel_rfl) ?_ _
    clear hHeld
    have HBF : Hid (Below w.heap.size w w1.drew) := H1B.out.drew
    generalize w1.drew = WD at *
    go_wp2_with fail
    go_ret2
    exact ⟨_, _, rfl, .inl ⟨HV.out, by rw [HCC.out], rfl⟩, HBF.out⟩
  · have HV : Hid (¬ Valid y m d) := hv
    have HIS : Hid (∀ W, Calls Try.prog 20 #[.agg #[.int .i64 y, .int .i64 m, .int .i64 d]] W fun e w' => e = .returned (.bool false) ∧ Below W.heap.size W w') := fun W => pnoDate y m d W hv
    clear hv
    go_enter Try.func9, Try.ntmps9
    go_wp2_with fail
    refine (HIS.out _).mono ?_
    rintro e w1 ⟨rfl, hbw⟩
    have H1B : Hid (Below w.heap.size w w1) := H0B.out.trans (hbw.mono (Nat.le_of_lt hsz))
    clear hbw H0B H0d c0 c1 c2 hsz
    go_wp2_with fail
    go_ret2
    exact ⟨_, _, rfl, .inr ⟨HV.out, rfl, rfl⟩, H1B.out⟩

end Go.Proofs.Ytgeemnoefhnlnaa.cal
