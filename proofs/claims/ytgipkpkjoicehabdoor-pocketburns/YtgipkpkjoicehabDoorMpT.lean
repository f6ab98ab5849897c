/- The program's tick. -/
import Derived.Test.YtgipkpkjoicehabDoorMpM
import Derived.Test.YtgipkpkjoicehabDoorLet
import Derived.Test.YtgipkpkjoicehabDoorMjT
namespace Go.Proofs.YtgipkpkjoicehabDoor.met
open Go.RowKit
set_option maxRecDepth 100000
set_option linter.unusedVariables false
set_option linter.unusedSimpArgs false

set_option maxHeartbeats 2000000 in
theorem ptick (m : Mt) (ld : Int) (w : World) (hb : m.b < 18446744073709551616) : Calls Tryd.prog 16 #[m.v, .int .i64 ld] w fun e w' => TickPost w m ld e w' := by
  have HM : Hid (∀ W, Calls Tryd.prog 36 #[m.v] W fun e w' => Told W m.may e w') := fun W => pmay_any m W hb
  clear hb
  obtain ⟨me, rev, cr, h, b, bad, lock⟩ := m
  unfold Mt.v Mt.cells at *
  simp only [] at HM ⊢
  have HI : Hid (Blk ((w.alloc (.cells #[.int .i64 me, .int .i64 rev, .int .i64 cr, .int .i64 h, .int .u64 (b : Int), .int .i64 bad, .int .i64 lock] 36)).alloc (.cells #[.int .i64 0, .int .i64 0, .int .i64 0, .int .i64 0, .int .u64 0, .int .i64 0, .int .i64 0] 36)) (w.heap.size) #[.int .i64 me, .int .i64 rev, .int .i64 cr, .int .i64 h, .int .u64 (b : Int), .int .i64 bad, .int .i64 lock] 36) := (Blk.new _ _ _).alloc _
  have HO : Hid (Blk ((w.alloc (.cells #[.int .i64 me, .int .i64 rev, .int .i64 cr, .int .i64 h, .int .u64 (b : Int), .int .i64 bad, .int .i64 lock] 36)).alloc (.cells #[.int .i64 0, .int .i64 0, .int .i64 0, .int .i64 0, .int .u64 0, .int .i64 0, .int .i64 0] 36)) (w.heap.size + 1) #[.int .i64 0, .int .i64 0, .int .i64 0, .int .i64 0, .int .u64 0, .int .i64 0, .int .i64 0] 36) := Blk.new1 w _ _ _
  have HB : Hid (Below w.heap.size w ((w.alloc (.cells #[.int .i64 me, .int .i64 rev, .int .i64 cr, .int .i64 h, .int .u64 (b : Int), .int .i64 bad, .int .i64 lock] 36)).alloc (.cells #[.int .i64 0, .int .i64 0, .int .i64 0, .int .i64 0, .int .u64 0, .int .i64 0, .int .i64 0] 36))) := ((Below.refl _ _).alloc (Nat.le_refl _) _).alloc (by simp) _
  go_enter Tryd.func16, Tryd.ntmps16
  go_wp2_with (first
    | (refine wp_whole rfl 36 _ rfl (w.heap.size) rfl 36 #[.int .i64 me, .int .i64 rev, .int .i64 cr, .int .i64 h, .int .u64 (b : Int), .int .i64 bad, .int .i64 lock] _ HI.out Tryd.underlying36 rfl (by kernel_rfl) ?_)
    | fail)
  refine (HM.out _).mono ?_
  rintro e w1 ⟨r, rfl, hr, hb1⟩
  have HI1 : Hid (Blk w1 (w.heap.size) #[.int .i64 me, .int .i64 rev, .int .i64 cr, .int .i64 h, .int .u64 (b : Int), .int .i64 bad, .int .i64 lock] 36) := HI.out.next hb1
  have HO1 : Hid (Blk w1 (w.heap.size + 1) #[.int .i64 0, .int .i64 0, .int .i64 0, .int .i64 0, .int .u64 0, .int .i64 0, .int .i64 0] 36) := HO.out.next hb1
  have HB1 : Hid (Below w.heap.size w w1) := bel_step HB.out hb1
  have HK : Hid (r = true ↔ Mt.may ⟨me, rev, cr, h, b, bad, lock⟩) := hr
  clear hr hb1 HI HO HB HM
  cases r with
  | false =>
    have HNM : Hid (¬ Mt.may ⟨me, rev, cr, h, b, bad, lock⟩) := fun h => by have := HK.out.2 h; cases this
    go_wp2_with (first
      | (refine wp_letAll rfl 36 _ _ rfl (w.heap.size + 1) rfl #[.int .i64 0, .int .i64 0, .int .i64 0, .int .i64 0, .int .u64 0, .int .i64 0, .int .i64 0] rfl (by kernel_rfl) (by simp [Value.oneCell']) #[.int .i64 0, .int .i64 0, .int .i64 0, .int .i64 0, .int .u64 0, .int .i64 0, .int .i64 0] 36 HO1.out rfl ?_)
      | fail)
    intro WF hUF
    have HBF : Hid (Below w.heap.size w WF) := hUF.bel _ _ (by omega) HB1.out
    have R0 : Hid (WF.cell? ⟨w.heap.size + 1, 0, none⟩ = some (.int .i64 0)) := hUF.blk.cell 0
    have R1 : Hid (WF.cell? ⟨w.heap.size + 1, 1, none⟩ = some (.int .i64 0)) := hUF.blk.cell 1
    have R2 : Hid (WF.cell? ⟨w.heap.size + 1, 2, none⟩ = some (.int .i64 0)) := hUF.blk.cell 2
    have R3 : Hid (WF.cell? ⟨w.heap.size + 1, 3, none⟩ = some (.int .i64 0)) := hUF.blk.cell 3
    have R4 : Hid (WF.cell? ⟨w.heap.size + 1, 4, none⟩ = some (.int .u64 0)) := hUF.blk.cell 4
    have R5 : Hid (WF.cell? ⟨w.heap.size + 1, 5, none⟩ = some (.int .i64 0)) := hUF.blk.cell 5
    have R6 : Hid (WF.cell? ⟨w.heap.size + 1, 6, none⟩ = some (.int .i64 0)) := hUF.blk.cell 6
    clear hUF
    go_wp2_with fail
    exact bodyPost_ret (v := .tuple #[.agg #[.int .i64 0, .int .i64 0, .int .i64 0, .int .i64 0, .int .u64 0, .int .i64 0, .int .i64 0], .int .i64 0, .int .i64 5]) (by simp [results, Tryd.results16, R0.out, R1.out, R2.out, R3.out, R4.out, R5.out, R6.out, go_sem]) rfl ⟨mt0, 0, 5, rfl, .state HNM.out, HBF.out⟩
  | true =>
    have HY : Hid (Mt.may ⟨me, rev, cr, h, b, bad, lock⟩) := HK.out.1 rfl
    have b3 := HY.out.cr
    have b5 := HY.out.lock
    simp only [] at b3 b5
    by_cases hl : 0 ≤ ld ∧ ld ≤ 1000
    · have d1 : decide (ld < 0) = false := by simp; omega
      have d2 : decide (1000 < ld) = false := by simp; omega
      by_cases hm : cr < ld
      · have q2 : w1.cell? ⟨w.heap.size, 2, none⟩ = some (.int .i64 cr) := HI1.out.cell 2
        go_wp2_with (first
          | (refine wp_let1 rfl 3 _ _ rfl (w.heap.size) 2 rfl .i64 0 rfl (by kernel_rfl) #[.int .i64 me, .int .i64 rev, .int .i64 cr, .int .i64 h, .int .u64 (b : Int), .int .i64 bad, .int .i64 lock] 36 HI1.out (by simp) ?_)
          | fail)
        intro W2 hU2
        have HI2 : Hid (Blk W2 (w.heap.size) #[.int .i64 me, .int .i64 rev, .int .i64 0, .int .i64 h, .int .u64 (b : Int), .int .i64 bad, .int .i64 lock] 36) := hU2.blk
        have HO2 : Hid (Blk W2 (w.heap.size + 1) #[.int .i64 0, .int .i64 0, .int .i64 0, .int .i64 0, .int .u64 0, .int .i64 0, .int .i64 0] 36) := hU2.keep HO1.out (by omega)
        have HB2 : Hid (Below w.heap.size w W2) := hU2.bel _ _ (by omega) HB1.out
        clear hU2 q2
        have q6 : W2.cell? ⟨w.heap.size, 6, none⟩ = some (.int .i64 lock) := HI2.out.cell 6
        by_cases hk : lock - 1 < 0
        · have HF : Hid (TickIs ⟨me, rev, cr, h, b, bad, lock⟩ ld ⟨me, rev, 0, h, b, bad, 0⟩ cr 0) := by
            have := TickIs.ok HY.out hl
            unfold ticked burnt at this
            simp only [] at this
            have e1 : (if cr ≤ ld then 0 else cr - ld) = 0 := by split <;> omega
            have e2 : (if 0 < lock then lock - 1 else lock) = 0 := by split <;> omega
            have e3 : (if cr ≤ ld then cr else ld) = cr := by split <;> omega
            rw [e1, e2, e3] at this
            exact this
          go_wp2_with (first
            | (refine wp_let1 rfl 3 _ _ rfl (w.heap.size) 6 rfl .i64 0 rfl (by kernel_rfl) #[.int .i64 me, .int .i64 rev, .int .i64 0, .int .i64 h, .int .u64 (b : Int), .int .i64 bad, .int .i64 lock] 36 HI2.out (by simp) ?_)
            | fail)
          intro W3 hU3
          have HI3 : Hid (Blk W3 (w.heap.size) #[.int .i64 me, .int .i64 rev, .int .i64 0, .int .i64 h, .int .u64 (b : Int), .int .i64 bad, .int .i64 0] 36) := hU3.blk
          have HO3 : Hid (Blk W3 (w.heap.size + 1) #[.int .i64 0, .int .i64 0, .int .i64 0, .int .i64 0, .int .u64 0, .int .i64 0, .int .i64 0] 36) := hU3.keep HO2.out (by omega)
          have HB3 : Hid (Below w.heap.size w W3) := hU3.bel _ _ (by omega) HB2.out
          clear hU3 q6 HI2 HO2 HB2
          go_wp2_with (first
            | (refine wp_whole rfl 36 _ rfl (w.heap.size) rfl 36 #[.int .i64 me, .int .i64 rev, .int .i64 0, .int .i64 h, .int .u64 (b : Int), .int .i64 bad, .int .i64 0] _ HI3.out Tryd.underlying36 rfl (by kernel_rfl) ?_)
            | (refine wp_letAll rfl 36 _ _ rfl (w.heap.size + 1) rfl #[.int .i64 me, .int .i64 rev, .int .i64 0, .int .i64 h, .int .u64 (b : Int), .int .i64 bad, .int .i64 0] rfl (by kernel_rfl) (by simp [Value.oneCell']) #[.int .i64 0, .int .i64 0, .int .i64 0, .int .i64 0, .int .u64 0, .int .i64 0, .int .i64 0] 36 HO3.out rfl ?_)
            | fail)
          intro WF hUF
          have HBF : Hid (Below w.heap.size w WF) := hUF.bel _ _ (by omega) HB3.out
          have R0 : Hid (WF.cell? ⟨w.heap.size + 1, 0, none⟩ = some (.int .i64 me)) := hUF.blk.cell 0
          have R1 : Hid (WF.cell? ⟨w.heap.size + 1, 1, none⟩ = some (.int .i64 rev)) := hUF.blk.cell 1
          have R2 : Hid (WF.cell? ⟨w.heap.size + 1, 2, none⟩ = some (.int .i64 0)) := hUF.blk.cell 2
          have R3 : Hid (WF.cell? ⟨w.heap.size + 1, 3, none⟩ = some (.int .i64 h)) := hUF.blk.cell 3
          have R4 : Hid (WF.cell? ⟨w.heap.size + 1, 4, none⟩ = some (.int .u64 (b : Int))) := hUF.blk.cell 4
          have R5 : Hid (WF.cell? ⟨w.heap.size + 1, 5, none⟩ = some (.int .i64 bad)) := hUF.blk.cell 5
          have R6 : Hid (WF.cell? ⟨w.heap.size + 1, 6, none⟩ = some (.int .i64 0)) := hUF.blk.cell 6
          clear hUF
          go_wp2_with fail
          exact bodyPost_ret (v := .tuple #[.agg #[.int .i64 me, .int .i64 rev, .int .i64 0, .int .i64 h, .int .u64 (b : Int), .int .i64 bad, .int .i64 0], .int .i64 cr, .int .i64 0]) (by simp [results, Tryd.results16, R0.out, R1.out, R2.out, R3.out, R4.out, R5.out, R6.out, go_sem]) rfl ⟨⟨me, rev, 0, h, b, bad, 0⟩, cr, 0, rfl, HF.out, HBF.out⟩
        · have HF : Hid (TickIs ⟨me, rev, cr, h, b, bad, lock⟩ ld ⟨me, rev, 0, h, b, bad, lock - 1⟩ cr 0) := by
            have := TickIs.ok HY.out hl
            unfold ticked burnt at this
            simp only [] at this
            have e1 : (if cr ≤ ld then 0 else cr - ld) = 0 := by split <;> omega
            have e2 : (if 0 < lock then lock - 1 else lock) = lock - 1 := by split <;> omega
            have e3 : (if cr ≤ ld then cr else ld) = cr := by split <;> omega
            rw [e1, e2, e3] at this
            exact this
          have hkb : IntKind.i64.wrap (lock - 1) = lock - 1 := by rw [IntKind.wrap_i64]; omega
          go_wp2_with (first
            | (refine wp_let1 rfl 3 _ _ rfl (w.heap.size) 6 rfl .i64 (lock - 1) rfl (by kernel_rfl) #[.int .i64 me, .int .i64 rev, .int .i64 0, .int .i64 h, .int .u64 (b : Int), .int .i64 bad, .int .i64 lock] 36 HI2.out (by simp) ?_)
            | fail)
          intro W3 hU3
          have HI3 : Hid (Blk W3 (w.heap.size) #[.int .i64 me, .int .i64 rev, .int .i64 0, .int .i64 h, .int .u64 (b : Int), .int .i64 bad, .int .i64 (lock - 1)] 36) := hU3.blk
          have HO3 : Hid (Blk W3 (w.heap.size + 1) #[.int .i64 0, .int .i64 0, .int .i64 0, .int .i64 0, .int .u64 0, .int .i64 0, .int .i64 0] 36) := hU3.keep HO2.out (by omega)
          have HB3 : Hid (Below w.heap.size w W3) := hU3.bel _ _ (by omega) HB2.out
          clear hU3 q6 HI2 HO2 HB2
          go_wp2_with (first
            | (refine wp_whole rfl 36 _ rfl (w.heap.size) rfl 36 #[.int .i64 me, .int .i64 rev, .int .i64 0, .int .i64 h, .int .u64 (b : Int), .int .i64 bad, .int .i64 (lock - 1)] _ HI3.out Tryd.underlying36 rfl (by kernel_rfl) ?_)
            | (refine wp_letAll rfl 36 _ _ rfl (w.heap.size + 1) rfl #[.int .i64 me, .int .i64 rev, .int .i64 0, .int .i64 h, .int .u64 (b : Int), .int .i64 bad, .int .i64 (lock - 1)] rfl (by kernel_rfl) (by simp [Value.oneCell']) #[.int .i64 0, .int .i64 0, .int .i64 0, .int .i64 0, .int .u64 0, .int .i64 0, .int .i64 0] 36 HO3.out rfl ?_)
            | fail)
          intro WF hUF
          have HBF : Hid (Below w.heap.size w WF) := hUF.bel _ _ (by omega) HB3.out
          have R0 : Hid (WF.cell? ⟨w.heap.size + 1, 0, none⟩ = some (.int .i64 me)) := hUF.blk.cell 0
          have R1 : Hid (WF.cell? ⟨w.heap.size + 1, 1, none⟩ = some (.int .i64 rev)) := hUF.blk.cell 1
          have R2 : Hid (WF.cell? ⟨w.heap.size + 1, 2, none⟩ = some (.int .i64 0)) := hUF.blk.cell 2
          have R3 : Hid (WF.cell? ⟨w.heap.size + 1, 3, none⟩ = some (.int .i64 h)) := hUF.blk.cell 3
          have R4 : Hid (WF.cell? ⟨w.heap.size + 1, 4, none⟩ = some (.int .u64 (b : Int))) := hUF.blk.cell 4
          have R5 : Hid (WF.cell? ⟨w.heap.size + 1, 5, none⟩ = some (.int .i64 bad)) := hUF.blk.cell 5
          have R6 : Hid (WF.cell? ⟨w.heap.size + 1, 6, none⟩ = some (.int .i64 (lock - 1))) := hUF.blk.cell 6
          clear hUF
          go_wp2_with fail
          exact bodyPost_ret (v := .tuple #[.agg #[.int .i64 me, .int .i64 rev, .int .i64 0, .int .i64 h, .int .u64 (b : Int), .int .i64 bad, .int .i64 (lock - 1)], .int .i64 cr, .int .i64 0]) (by simp [results, Tryd.results16, R0.out, R1.out, R2.out, R3.out, R4.out, R5.out, R6.out, go_sem]) rfl ⟨⟨me, rev, 0, h, b, bad, lock - 1⟩, cr, 0, rfl, HF.out, HBF.out⟩
      · have q2 : w1.cell? ⟨w.heap.size, 2, none⟩ = some (.int .i64 cr) := HI1.out.cell 2
        have hsb : IntKind.i64.wrap (cr - ld) = cr - ld := by rw [IntKind.wrap_i64]; omega
        go_wp2_with (first
          | (refine wp_let1 rfl 3 _ _ rfl (w.heap.size) 2 rfl .i64 (cr - ld) rfl (by kernel_rfl) #[.int .i64 me, .int .i64 rev, .int .i64 cr, .int .i64 h, .int .u64 (b : Int), .int .i64 bad, .int .i64 lock] 36 HI1.out (by simp) ?_)
          | fail)
        intro W2 hU2
        have HI2 : Hid (Blk W2 (w.heap.size) #[.int .i64 me, .int .i64 rev, .int .i64 (cr - ld), .int .i64 h, .int .u64 (b : Int), .int .i64 bad, .int .i64 lock] 36) := hU2.blk
        have HO2 : Hid (Blk W2 (w.heap.size + 1) #[.int .i64 0, .int .i64 0, .int .i64 0, .int .i64 0, .int .u64 0, .int .i64 0, .int .i64 0] 36) := hU2.keep HO1.out (by omega)
        have HB2 : Hid (Below w.heap.size w W2) := hU2.bel _ _ (by omega) HB1.out
        clear hU2 q2
        have q6 : W2.cell? ⟨w.heap.size, 6, none⟩ = some (.int .i64 lock) := HI2.out.cell 6
        by_cases hk : lock - 1 < 0
        · have HF : Hid (TickIs ⟨me, rev, cr, h, b, bad, lock⟩ ld ⟨me, rev, cr - ld, h, b, bad, 0⟩ ld 0) := by
            have := TickIs.ok HY.out hl
            unfold ticked burnt at this
            simp only [] at this
            have e1 : (if cr ≤ ld then 0 else cr - ld) = cr - ld := by split <;> omega
            have e2 : (if 0 < lock then lock - 1 else lock) = 0 := by split <;> omega
            have e3 : (if cr ≤ ld then cr else ld) = ld := by split <;> omega
            rw [e1, e2, e3] at this
            exact this
          go_wp2_with (first
            | (refine wp_let1 rfl 3 _ _ rfl (w.heap.size) 6 rfl .i64 0 rfl (by kernel_rfl) #[.int .i64 me, .int .i64 rev, .int .i64 (cr - ld), .int .i64 h, .int .u64 (b : Int), .int .i64 bad, .int .i64 lock] 36 HI2.out (by simp) ?_)
            | fail)
          intro W3 hU3
          have HI3 : Hid (Blk W3 (w.heap.size) #[.int .i64 me, .int .i64 rev, .int .i64 (cr - ld), .int .i64 h, .int .u64 (b : Int), .int .i64 bad, .int .i64 0] 36) := hU3.blk
          have HO3 : Hid (Blk W3 (w.heap.size + 1) #[.int .i64 0, .int .i64 0, .int .i64 0, .int .i64 0, .int .u64 0, .int .i64 0, .int .i64 0] 36) := hU3.keep HO2.out (by omega)
          have HB3 : Hid (Below w.heap.size w W3) := hU3.bel _ _ (by omega) HB2.out
          clear hU3 q6 HI2 HO2 HB2
          go_wp2_with (first
            | (refine wp_whole rfl 36 _ rfl (w.heap.size) rfl 36 #[.int .i64 me, .int .i64 rev, .int .i64 (cr - ld), .int .i64 h, .int .u64 (b : Int), .int .i64 bad, .int .i64 0] _ HI3.out Tryd.underlying36 rfl (by kernel_rfl) ?_)
            | (refine wp_letAll rfl 36 _ _ rfl (w.heap.size + 1) rfl #[.int .i64 me, .int .i64 rev, .int .i64 (cr - ld), .int .i64 h, .int .u64 (b : Int), .int .i64 bad, .int .i64 0] rfl (by kernel_rfl) (by simp [Value.oneCell']) #[.int .i64 0, .int .i64 0, .int .i64 0, .int .i64 0, .int .u64 0, .int .i64 0, .int .i64 0] 36 HO3.out rfl ?_)
            | fail)
          intro WF hUF
          have HBF : Hid (Below w.heap.size w WF) := hUF.bel _ _ (by omega) HB3.out
          have R0 : Hid (WF.cell? ⟨w.heap.size + 1, 0, none⟩ = some (.int .i64 me)) := hUF.blk.cell 0
          have R1 : Hid (WF.cell? ⟨w.heap.size + 1, 1, none⟩ = some (.int .i64 rev)) := hUF.blk.cell 1
          have R2 : Hid (WF.cell? ⟨w.heap.size + 1, 2, none⟩ = some (.int .i64 (cr - ld))) := hUF.blk.cell 2
          have R3 : Hid (WF.cell? ⟨w.heap.size + 1, 3, none⟩ = some (.int .i64 h)) := hUF.blk.cell 3
          have R4 : Hid (WF.cell? ⟨w.heap.size + 1, 4, none⟩ = some (.int .u64 (b : Int))) := hUF.blk.cell 4
          have R5 : Hid (WF.cell? ⟨w.heap.size + 1, 5, none⟩ = some (.int .i64 bad)) := hUF.blk.cell 5
          have R6 : Hid (WF.cell? ⟨w.heap.size + 1, 6, none⟩ = some (.int .i64 0)) := hUF.blk.cell 6
          clear hUF
          go_wp2_with fail
          exact bodyPost_ret (v := .tuple #[.agg #[.int .i64 me, .int .i64 rev, .int .i64 (cr - ld), .int .i64 h, .int .u64 (b : Int), .int .i64 bad, .int .i64 0], .int .i64 ld, .int .i64 0]) (by simp [results, Tryd.results16, R0.out, R1.out, R2.out, R3.out, R4.out, R5.out, R6.out, go_sem]) rfl ⟨⟨me, rev, cr - ld, h, b, bad, 0⟩, ld, 0, rfl, HF.out, HBF.out⟩
        · have HF : Hid (TickIs ⟨me, rev, cr, h, b, bad, lock⟩ ld ⟨me, rev, cr - ld, h, b, bad, lock - 1⟩ ld 0) := by
            have := TickIs.ok HY.out hl
            unfold ticked burnt at this
            simp only [] at this
            have e1 : (if cr ≤ ld then 0 else cr - ld) = cr - ld := by split <;> omega
            have e2 : (if 0 < lock then lock - 1 else lock) = lock - 1 := by split <;> omega
            have e3 : (if cr ≤ ld then cr else ld) = ld := by split <;> omega
            rw [e1, e2, e3] at this
            exact this
          have hkb : IntKind.i64.wrap (lock - 1) = lock - 1 := by rw [IntKind.wrap_i64]; omega
          go_wp2_with (first
            | (refine wp_let1 rfl 3 _ _ rfl (w.heap.size) 6 rfl .i64 (lock - 1) rfl (by kernel_rfl) #[.int .i64 me, .int .i64 rev, .int .i64 (cr - ld), .int .i64 h, .int .u64 (b : Int), .int .i64 bad, .int .i64 lock] 36 HI2.out (by simp) ?_)
            | fail)
          intro W3 hU3
          have HI3 : Hid (Blk W3 (w.heap.size) #[.int .i64 me, .int .i64 rev, .int .i64 (cr - ld), .int .i64 h, .int .u64 (b : Int), .int .i64 bad, .int .i64 (lock - 1)] 36) := hU3.blk
          have HO3 : Hid (Blk W3 (w.heap.size + 1) #[.int .i64 0, .int .i64 0, .int .i64 0, .int .i64 0, .int .u64 0, .int .i64 0, .int .i64 0] 36) := hU3.keep HO2.out (by omega)
          have HB3 : Hid (Below w.heap.size w W3) := hU3.bel _ _ (by omega) HB2.out
          clear hU3 q6 HI2 HO2 HB2
          go_wp2_with (first
            | (refine wp_whole rfl 36 _ rfl (w.heap.size) rfl 36 #[.int .i64 me, .int .i64 rev, .int .i64 (cr - ld), .int .i64 h, .int .u64 (b : Int), .int .i64 bad, .int .i64 (lock - 1)] _ HI3.out Tryd.underlying36 rfl (by kernel_rfl) ?_)
            | (refine wp_letAll rfl 36 _ _ rfl (w.heap.size + 1) rfl #[.int .i64 me, .int .i64 rev, .int .i64 (cr - ld), .int .i64 h, .int .u64 (b : Int), .int .i64 bad, .int .i64 (lock - 1)] rfl (by kernel_rfl) (by simp [Value.oneCell']) #[.int .i64 0, .int .i64 0, .int .i64 0, .int .i64 0, .int .u64 0, .int .i64 0, .int .i64 0] 36 HO3.out rfl ?_)
            | fail)
          intro WF hUF
          have HBF : Hid (Below w.heap.size w WF) := hUF.bel _ _ (by omega) HB3.out
          have R0 : Hid (WF.cell? ⟨w.heap.size + 1, 0, none⟩ = some (.int .i64 me)) := hUF.blk.cell 0
          have R1 : Hid (WF.cell? ⟨w.heap.size + 1, 1, none⟩ = some (.int .i64 rev)) := hUF.blk.cell 1
          have R2 : Hid (WF.cell? ⟨w.heap.size + 1, 2, none⟩ = some (.int .i64 (cr - ld))) := hUF.blk.cell 2
          have R3 : Hid (WF.cell? ⟨w.heap.size + 1, 3, none⟩ = some (.int .i64 h)) := hUF.blk.cell 3
          have R4 : Hid (WF.cell? ⟨w.heap.size + 1, 4, none⟩ = some (.int .u64 (b : Int))) := hUF.blk.cell 4
          have R5 : Hid (WF.cell? ⟨w.heap.size + 1, 5, none⟩ = some (.int .i64 bad)) := hUF.blk.cell 5
          have R6 : Hid (WF.cell? ⟨w.heap.size + 1, 6, none⟩ = some (.int .i64 (lock - 1))) := hUF.blk.cell 6
          clear hUF
          go_wp2_with fail
          exact bodyPost_ret (v := .tuple #[.agg #[.int .i64 me, .int .i64 rev, .int .i64 (cr - ld), .int .i64 h, .int .u64 (b : Int), .int .i64 bad, .int .i64 (lock - 1)], .int .i64 ld, .int .i64 0]) (by simp [results, Tryd.results16, R0.out, R1.out, R2.out, R3.out, R4.out, R5.out, R6.out, go_sem]) rfl ⟨⟨me, rev, cr - ld, h, b, bad, lock - 1⟩, ld, 0, rfl, HF.out, HBF.out⟩
    · have HNL : Hid (¬ (0 ≤ ld ∧ ld ≤ 1000)) := hl
      by_cases d0 : ld < 0
      · have d1 : decide (ld < 0) = true := by simp [d0]
        clear d0 hl
        go_wp2_with (first
          | (refine wp_whole rfl 36 _ rfl (w.heap.size) rfl 36 #[.int .i64 me, .int .i64 rev, .int .i64 cr, .int .i64 h, .int .u64 (b : Int), .int .i64 bad, .int .i64 lock] _ HI1.out Tryd.underlying36 rfl (by kernel_rfl) ?_)
          | (refine wp_letAll rfl 36 _ _ rfl (w.heap.size + 1) rfl #[.int .i64 me, .int .i64 rev, .int .i64 cr, .int .i64 h, .int .u64 (b : Int), .int .i64 bad, .int .i64 lock] rfl (by kernel_rfl) (by simp [Value.oneCell']) #[.int .i64 0, .int .i64 0, .int .i64 0, .int .i64 0, .int .u64 0, .int .i64 0, .int .i64 0] 36 HO1.out rfl ?_)
          | fail)
        intro WF hUF
        have HBF : Hid (Below w.heap.size w WF) := hUF.bel _ _ (by omega) HB1.out
        have R0 : Hid (WF.cell? ⟨w.heap.size + 1, 0, none⟩ = some (.int .i64 me)) := hUF.blk.cell 0
        have R1 : Hid (WF.cell? ⟨w.heap.size + 1, 1, none⟩ = some (.int .i64 rev)) := hUF.blk.cell 1
        have R2 : Hid (WF.cell? ⟨w.heap.size + 1, 2, none⟩ = some (.int .i64 cr)) := hUF.blk.cell 2
        have R3 : Hid (WF.cell? ⟨w.heap.size + 1, 3, none⟩ = some (.int .i64 h)) := hUF.blk.cell 3
        have R4 : Hid (WF.cell? ⟨w.heap.size + 1, 4, none⟩ = some (.int .u64 (b : Int))) := hUF.blk.cell 4
        have R5 : Hid (WF.cell? ⟨w.heap.size + 1, 5, none⟩ = some (.int .i64 bad)) := hUF.blk.cell 5
        have R6 : Hid (WF.cell? ⟨w.heap.size + 1, 6, none⟩ = some (.int .i64 lock)) := hUF.blk.cell 6
        clear hUF
        go_wp2_with fail
        exact bodyPost_ret (v := .tuple #[.agg #[.int .i64 me, .int .i64 rev, .int .i64 cr, .int .i64 h, .int .u64 (b : Int), .int .i64 bad, .int .i64 lock], .int .i64 0, .int .i64 2]) (by simp [results, Tryd.results16, R0.out, R1.out, R2.out, R3.out, R4.out, R5.out, R6.out, go_sem]) rfl ⟨⟨me, rev, cr, h, b, bad, lock⟩, 0, 2, rfl, .range HY.out HNL.out, HBF.out⟩
      · have d1 : decide (ld < 0) = false := by simp; omega
        have d2 : decide (1000 < ld) = true := by simp; omega
        clear d0 hl
        go_wp2_with (first
          | (refine wp_whole rfl 36 _ rfl (w.heap.size) rfl 36 #[.int .i64 me, .int .i64 rev, .int .i64 cr, .int .i64 h, .int .u64 (b : Int), .int .i64 bad, .int .i64 lock] _ HI1.out Tryd.underlying36 rfl (by kernel_rfl) ?_)
          | (refine wp_letAll rfl 36 _ _ rfl (w.heap.size + 1) rfl #[.int .i64 me, .int .i64 rev, .int .i64 cr, .int .i64 h, .int .u64 (b : Int), .int .i64 bad, .int .i64 lock] rfl (by kernel_rfl) (by simp [Value.oneCell']) #[.int .i64 0, .int .i64 0, .int .i64 0, .int .i64 0, .int .u64 0, .int .i64 0, .int .i64 0] 36 HO1.out rfl ?_)
          | fail)
        intro WF hUF
        have HBF : Hid (Below w.heap.size w WF) := hUF.bel _ _ (by omega) HB1.out
        have R0 : Hid (WF.cell? ⟨w.heap.size + 1, 0, none⟩ = some (.int .i64 me)) := hUF.blk.cell 0
        have R1 : Hid (WF.cell? ⟨w.heap.size + 1, 1, none⟩ = some (.int .i64 rev)) := hUF.blk.cell 1
        have R2 : Hid (WF.cell? ⟨w.heap.size + 1, 2, none⟩ = some (.int .i64 cr)) := hUF.blk.cell 2
        have R3 : Hid (WF.cell? ⟨w.heap.size + 1, 3, none⟩ = some (.int .i64 h)) := hUF.blk.cell 3
        have R4 : Hid (WF.cell? ⟨w.heap.size + 1, 4, none⟩ = some (.int .u64 (b : Int))) := hUF.blk.cell 4
        have R5 : Hid (WF.cell? ⟨w.heap.size + 1, 5, none⟩ = some (.int .i64 bad)) := hUF.blk.cell 5
        have R6 : Hid (WF.cell? ⟨w.heap.size + 1, 6, none⟩ = some (.int .i64 lock)) := hUF.blk.cell 6
        clear hUF
        go_wp2_with fail
        exact bodyPost_ret (v := .tuple #[.agg #[.int .i64 me, .int .i64 rev, .int .i64 cr, .int .i64 h, .int .u64 (b : Int), .int .i64 bad, .int .i64 lock], .int .i64 0, .int .i64 2]) (by simp [results, Tryd.results16, R0.out, R1.out, R2.out, R3.out, R4.out, R5.out, R6.out, go_sem]) rfl ⟨⟨me, rev, cr, h, b, bad, lock⟩, 0, 2, rfl, .range HY.out HNL.out, HBF.out⟩
theorem ktick {I : World → Prop} : KTick I := fun W m ld _ hb => ptick m ld W hb

end Go.Proofs.YtgipkpkjoicehabDoor.met
