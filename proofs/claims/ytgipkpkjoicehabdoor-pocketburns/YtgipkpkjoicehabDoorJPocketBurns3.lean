import Derived.Test.YtgipkpkjoicehabDoorMpM
import Derived.Test.YtgipkpkjoicehabDoorLet
import Derived.Test.YtgipkpkjoicehabDoorJPocketBurns2
import Derived.Test.YtgipkpkjoicehabDoorCkPick
import Derived.Test.YtgipkpkjoicehabDoorCallFirst
import Derived.Test.YtgipkpkjoicehabDoorOpAt

/- The program's tick. -/
namespace Go.Proofs.YtgipkpkjoicehabDoor.met
open Go.RowKit
set_option maxRecDepth 100000
set_option linter.unusedVariables false
set_option linter.unusedSimpArgs false

set_option maxHeartbeats 2000000 in
theorem ptick (m : Mt) (ld : Int) (w : World) (hb : m.b < 18446744073709551616) : Calls Tryd.prog 16 #[m.v, .int .i64 ld] w fun e w' => TickPost w m ld e w' := by
  have HM : Hid (∀ W, Calls Tryd.prog 36 #[m.v] W fun e w' => Told W m.may e w') := fun W => pmay_any m W hb
  clear hb
  obtain ⟨me, rev, cr, h, b, bad, lock⟩ := m
  unfold Mt.v Mt.cells at *
  simp only [] at HM ⊢
  have HI : Hid (Blk ((w.alloc (.cells #[.int .i64 me, .int .i64 rev, .int .i64 cr, .int .i64 h, .int .u64 (b : Int), .int .i64 bad, .int .i64 lock] 36)).alloc (.cells #[.int .i64 0, .int .i64 0, .int .i64 0, .int .i64 0, .int .u64 0, .int .i64 0, .int .i64 0] 36)) (w.heap.size) #[.int .i64 me, .int .i64 rev, .int .i64 cr, .int .i64 h, .int .u64 (b : Int), .int .i64 bad, .int .i64 lock] 36) := (Blk.new _ _ _).alloc _
  have HO : Hid (Blk ((w.alloc (.cells #[.int .i64 me, .int .i64 rev, .int .i64 cr, .int .i64 h, .int .u64 (b : Int), .int .i64 bad, .int .i64 lock] 36)).alloc (.cells #[.int .i64 0, .int .i64 0, .int .i64 0, .int .i64 0, .int .u64 0, .int .i64 0, .int .i64 0] 36)) (w.heap.size + 1) #[.int .i64 0, .int .i64 0, .int .i64 0, .int .i64 0, .int .u64 0, .int .i64 0, .int .i64 0] 36) := Blk.new1 w _ _ _
  have HB : Hid (Below w.heap.size w ((w.alloc (.cells #[.int .i64 me, .int .i64 rev, .int .i64 cr, .int .i64 h, .int .u64 (b : Int), .int .i64 bad, .int .i64 lock] 36)).alloc (.cells #[.int .i64 0, .int .i64 0, .int .i64 0, .int .i64 0, .int .u64 0, .int .i64 0, .int .i64 0] 36))) := ((Below.refl _ _).alloc (Nat.le_refl _) _).alloc (by simp) _
  go_enter Tryd.func16, Tryd.ntmps16
  go_wp2_with (first
    | (refine wp_whole rfl 36 _ rfl (w.heap.size) rfl 36 #[.int .i64 me, .int .i64 rev, .int .i64 cr, .int .i64 h, .int .u64 (b : Int), .int .i64 bad, .int .i64 lock] _ HI.out Tryd.underlying36 rfl (by kernel_rfl) ?_)
    | fail)
  refine (HM.out _).mono ?_
  rintro e w1 ⟨r, rfl, hr, hb1⟩
  have HI1 : Hid (Blk w1 (w.heap.size) #[.int .i64 me, .int .i64 rev, .int .i64 cr, .int .i64 h, .int .u64 (b : Int), .int .i64 bad, .int .i64 lock] 36) := HI.out.next hb1
  have HO1 : Hid (Blk w1 (w.heap.size + 1) #[.int .i64 0, .int .i64 0, .int .i64 0, .int .i64 0, .int .u64 0, .int .i64 0, .int .i64 0] 36) := HO.out.next hb1
  have HB1 : Hid (Below w.heap.size w w1) := bel_step HB.out hb1
  have HK : Hid (r = true ↔ Mt.may ⟨me, rev, cr, h, b, bad, lock⟩) := hr
  clear hr hb1 HI HO HB HM
  cases r with
  | false =>
    have HNM : Hid (¬ Mt.may ⟨me, rev, cr, h, b, bad, lock⟩) := fun h => by have := HK.out.2 h; cases this
    go_wp2_with (first
      | (refine wp_letAll rfl 36 _ _ rfl (w.heap.size + 1) rfl #[.int .i64 0, .int .i64 0, .int .i64 0, .int .i64 0, .int .u64 0, .int .i64 0, .int .i64 0] rfl (by kernel_rfl) (by simp [Value.oneCell']) #[.int .i64 0, .int .i64 0, .int .i64 0, .int .i64 0, .int .u64 0, .int .i64 0, .int .i64 0] 36 HO1.out rfl ?_)
      | fail)
    intro WF hUF
    have HBF : Hid (Below w.heap.size w WF) := hUF.bel _ _ (by omega) HB1.out
    have R0 : Hid (WF.cell? ⟨w.heap.size + 1, 0, none⟩ = some (.int .i64 0)) := hUF.blk.cell 0
    have R1 : Hid (WF.cell? ⟨w.heap.size + 1, 1, none⟩ = some (.int .i64 0)) := hUF.blk.cell 1
    have R2 : Hid (WF.cell? ⟨w.heap.size + 1, 2, none⟩ = some (.int .i64 0)) := hUF.blk.cell 2
    have R3 : Hid (WF.cell? ⟨w.heap.size + 1, 3, none⟩ = some (.int .i64 0)) := hUF.blk.cell 3
    have R4 : Hid (WF.cell? ⟨w.heap.size + 1, 4, none⟩ = some (.int .u64 0)) := hUF.blk.cell 4
    have R5 : Hid (WF.cell? ⟨w.heap.size + 1, 5, none⟩ = some (.int .i64 0)) := hUF.blk.cell 5
    have R6 : Hid (WF.cell? ⟨w.heap.size + 1, 6, none⟩ = some (.int .i64 0)) := hUF.blk.cell 6
    clear hUF
    go_wp2_with fail
    exact bodyPost_ret (v := .tuple #[.agg #[.int .i64 0, .int .i64 0, .int .i64 0, .int .i64 0, .int .u64 0, .int .i64 0, .int .i64 0], .int .i64 0, .int .i64 5]) (by simp [results, Tryd.results16, R0.out, R1.out, R2.out, R3.out, R4.out, R5.out, R6.out, go_sem]) rfl ⟨mt0, 0, 5, rfl, .state HNM.out, HBF.out⟩
  | true =>
    have HY : Hid (Mt.may ⟨me, rev, cr, h, b, bad, lock⟩) := HK.out.1 rfl
    have b3 := HY.out.cr
    have b5 := HY.out.lock
    simp only [] at b3 b5
    by_cases hl : 0 ≤ ld ∧ ld ≤ 1000
    · have d1 : decide (ld < 0) = false := by simp; omega
      have d2 : decide (1000 < ld) = false := by simp; omega
      by_cases hm : cr < ld
      · have q2 : w1.cell? ⟨w.heap.size, 2, none⟩ = some (.int .i64 cr) := HI1.out.cell 2
        go_wp2_with (first
          | (refine wp_let1 rfl 3 _ _ rfl (w.heap.size) 2 rfl .i64 0 rfl (by kernel_rfl) #[.int .i64 me, .int .i64 rev, .int .i64 cr, .int .i64 h, .int .u64 (b : Int), .int .i64 bad, .int .i64 lock] 36 HI1.out (by simp) ?_)
          | fail)
        intro W2 hU2
        have HI2 : Hid (Blk W2 (w.heap.size) #[.int .i64 me, .int .i64 rev, .int .i64 0, .int .i64 h, .int .u64 (b : Int), .int .i64 bad, .int .i64 lock] 36) := hU2.blk
        have HO2 : Hid (Blk W2 (w.heap.size + 1) #[.int .i64 0, .int .i64 0, .int .i64 0, .int .i64 0, .int .u64 0, .int .i64 0, .int .i64 0] 36) := hU2.keep HO1.out (by omega)
        have HB2 : Hid (Below w.heap.size w W2) := hU2.bel _ _ (by omega) HB1.out
        clear hU2 q2
        have q6 : W2.cell? ⟨w.heap.size, 6, none⟩ = some (.int .i64 lock) := HI2.out.cell 6
        by_cases hk : lock - 1 < 0
        · have HF : Hid (TickIs ⟨me, rev, cr, h, b, bad, lock⟩ ld ⟨me, rev, 0, h, b, bad, 0⟩ cr 0) := by
            have := TickIs.ok HY.out hl
            unfold ticked burnt at this
            simp only [] at this
            have e1 : (if cr ≤ ld then 0 else cr - ld) = 0 := by split <;> omega
            have e2 : (if 0 < lock then lock - 1 else lock) = 0 := by split <;> omega
            have e3 : (if cr ≤ ld then cr else ld) = cr := by split <;> omega
            rw [e1, e2, e3] at this
            exact this
          go_wp2_with (first
            | (refine wp_let1 rfl 3 _ _ rfl (w.heap.size) 6 rfl .i64 0 rfl (by kernel_rfl) #[.int .i64 me, .int .i64 rev, .int .i64 0, .int .i64 h, .int .u64 (b : Int), .int .i64 bad, .int .i64 lock] 36 HI2.out (by simp) ?_)
            | fail)
          intro W3 hU3
          have HI3 : Hid (Blk W3 (w.heap.size) #[.int .i64 me, .int .i64 rev, .int .i64 0, .int .i64 h, .int .u64 (b : Int), .int .i64 bad, .int .i64 0] 36) := hU3.blk
          have HO3 : Hid (Blk W3 (w.heap.size + 1) #[.int .i64 0, .int .i64 0, .int .i64 0, .int .i64 0, .int .u64 0, .int .i64 0, .int .i64 0] 36) := hU3.keep HO2.out (by omega)
          have HB3 : Hid (Below w.heap.size w W3) := hU3.bel _ _ (by omega) HB2.out
          clear hU3 q6 HI2 HO2 HB2
          go_wp2_with (first
            | (refine wp_whole rfl 36 _ rfl (w.heap.size) rfl 36 #[.int .i64 me, .int .i64 rev, .int .i64 0, .int .i64 h, .int .u64 (b : Int), .int .i64 bad, .int .i64 0] _ HI3.out Tryd.underlying36 rfl (by kernel_rfl) ?_)
            | (refine wp_letAll rfl 36 _ _ rfl (w.heap.size + 1) rfl #[.int .i64 me, .int .i64 rev, .int .i64 0, .int .i64 h, .int .u64 (b : Int), .int .i64 bad, .int .i64 0] rfl (by kernel_rfl) (by simp [Value.oneCell']) #[.int .i64 0, .int .i64 0, .int .i64 0, .int .i64 0, .int .u64 0, .int .i64 0, .int .i64 0] 36 HO3.out rfl ?_)
            | fail)
          intro WF hUF
          have HBF : Hid (Below w.heap.size w WF) := hUF.bel _ _ (by omega) HB3.out
          have R0 : Hid (WF.cell? ⟨w.heap.size + 1, 0, none⟩ = some (.int .i64 me)) := hUF.blk.cell 0
          have R1 : Hid (WF.cell? ⟨w.heap.size + 1, 1, none⟩ = some (.int .i64 rev)) := hUF.blk.cell 1
          have R2 : Hid (WF.cell? ⟨w.heap.size + 1, 2, none⟩ = some (.int .i64 0)) := hUF.blk.cell 2
          have R3 : Hid (WF.cell? ⟨w.heap.size + 1, 3, none⟩ = some (.int .i64 h)) := hUF.blk.cell 3
          have R4 : Hid (WF.cell? ⟨w.heap.size + 1, 4, none⟩ = some (.int .u64 (b : Int))) := hUF.blk.cell 4
          have R5 : Hid (WF.cell? ⟨w.heap.size + 1, 5, none⟩ = some (.int .i64 bad)) := hUF.blk.cell 5
          have R6 : Hid (WF.cell? ⟨w.heap.size + 1, 6, none⟩ = some (.int .i64 0)) := hUF.blk.cell 6
          clear hUF
          go_wp2_with fail
          exact bodyPost_ret (v := .tuple #[.agg #[.int .i64 me, .int .i64 rev, .int .i64 0, .int .i64 h, .int .u64 (b : Int), .int .i64 bad, .int .i64 0], .int .i64 cr, .int .i64 0]) (by simp [results, Tryd.results16, R0.out, R1.out, R2.out, R3.out, R4.out, R5.out, R6.out, go_sem]) rfl ⟨⟨me, rev, 0, h, b, bad, 0⟩, cr, 0, rfl, HF.out, HBF.out⟩
        · have HF : Hid (TickIs ⟨me, rev, cr, h, b, bad, lock⟩ ld ⟨me, rev, 0, h, b, bad, lock - 1⟩ cr 0) := by
            have := TickIs.ok HY.out hl
            unfold ticked burnt at this
            simp only [] at this
            have e1 : (if cr ≤ ld then 0 else cr - ld) = 0 := by split <;> omega
            have e2 : (if 0 < lock then lock - 1 else lock) = lock - 1 := by split <;> omega
            have e3 : (if cr ≤ ld then cr else ld) = cr := by split <;> omega
            rw [e1, e2, e3] at this
            exact this
          have hkb : IntKind.i64.wrap (lock - 1) = lock - 1 := by rw [IntKind.wrap_i64]; omega
          go_wp2_with (first
            | (refine wp_let1 rfl 3 _ _ rfl (w.heap.size) 6 rfl .i64 (lock - 1) rfl (by kernel_rfl) #[.int .i64 me, .int .i64 rev, .int .i64 0, .int .i64 h, .int .u64 (b : Int), .int .i64 bad, .int .i64 lock] 36 HI2.out (by simp) ?_)
            | fail)
          intro W3 hU3
          have HI3 : Hid (Blk W3 (w.heap.size) #[.int .i64 me, .int .i64 rev, .int .i64 0, .int .i64 h, .int .u64 (b : Int), .int .i64 bad, .int .i64 (lock - 1)] 36) := hU3.blk
          have HO3 : Hid (Blk W3 (w.heap.size + 1) #[.int .i64 0, .int .i64 0, .int .i64 0, .int .i64 0, .int .u64 0, .int .i64 0, .int .i64 0] 36) := hU3.keep HO2.out (by omega)
          have HB3 : Hid (Below w.heap.size w W3) := hU3.bel _ _ (by omega) HB2.out
          clear hU3 q6 HI2 HO2 HB2
          go_wp2_with (first
            | (refine wp_whole rfl 36 _ rfl (w.heap.size) rfl 36 #[.int .i64 me, .int .i64 rev, .int .i64 0, .int .i64 h, .int .u64 (b : Int), .int .i64 bad, .int .i64 (lock - 1)] _ HI3.out Tryd.underlying36 rfl (by kernel_rfl) ?_)
            | (refine wp_letAll rfl 36 _ _ rfl (w.heap.size + 1) rfl #[.int .i64 me, .int .i64 rev, .int .i64 0, .int .i64 h, .int .u64 (b : Int), .int .i64 bad, .int .i64 (lock - 1)] rfl (by kernel_rfl) (by simp [Value.oneCell']) #[.int .i64 0, .int .i64 0, .int .i64 0, .int .i64 0, .int .u64 0, .int .i64 0, .int .i64 0] 36 HO3.out rfl ?_)
            | fail)
          intro WF hUF
          have HBF : Hid (Below w.heap.size w WF) := hUF.bel _ _ (by omega) HB3.out
          have R0 : Hid (WF.cell? ⟨w.heap.size + 1, 0, none⟩ = some (.int .i64 me)) := hUF.blk.cell 0
          have R1 : Hid (WF.cell? ⟨w.heap.size + 1, 1, none⟩ = some (.int .i64 rev)) := hUF.blk.cell 1
          have R2 : Hid (WF.cell? ⟨w.heap.size + 1, 2, none⟩ = some (.int .i64 0)) := hUF.blk.cell 2
          have R3 : Hid (WF.cell? ⟨w.heap.size + 1, 3, none⟩ = some (.int .i64 h)) := hUF.blk.cell 3
          have R4 : Hid (WF.cell? ⟨w.heap.size + 1, 4, none⟩ = some (.int .u64 (b : Int))) := hUF.blk.cell 4
          have R5 : Hid (WF.cell? ⟨w.heap.size + 1, 5, none⟩ = some (.int .i64 bad)) := hUF.blk.cell 5
          have R6 : Hid (WF.cell? ⟨w.heap.size + 1, 6, none⟩ = some (.int .i64 (lock - 1))) := hUF.blk.cell 6
          clear hUF
          go_wp2_with fail
          exact bodyPost_ret (v := .tuple #[.agg #[.int .i64 me, .int .i64 rev, .int .i64 0, .int .i64 h, .int .u64 (b : Int), .int .i64 bad, .int .i64 (lock - 1)], .int .i64 cr, .int .i64 0]) (by simp [results, Tryd.results16, R0.out, R1.out, R2.out, R3.out, R4.out, R5.out, R6.out, go_sem]) rfl ⟨⟨me, rev, 0, h, b, bad, lock - 1⟩, cr, 0, rfl, HF.out, HBF.out⟩
      · have q2 : w1.cell? ⟨w.heap.size, 2, none⟩ = some (.int .i64 cr) := HI1.out.cell 2
        have hsb : IntKind.i64.wrap (cr - ld) = cr - ld := by rw [IntKind.wrap_i64]; omega
        go_wp2_with (first
          | (refine wp_let1 rfl 3 _ _ rfl (w.heap.size) 2 rfl .i64 (cr - ld) rfl (by kernel_rfl) #[.int .i64 me, .int .i64 rev, .int .i64 cr, .int .i64 h, .int .u64 (b : Int), .int .i64 bad, .int .i64 lock] 36 HI1.out (by simp) ?_)
          | fail)
        intro W2 hU2
        have HI2 : Hid (Blk W2 (w.heap.size) #[.int .i64 me, .int .i64 rev, .int .i64 (cr - ld), .int .i64 h, .int .u64 (b : Int), .int .i64 bad, .int .i64 lock] 36) := hU2.blk
        have HO2 : Hid (Blk W2 (w.heap.size + 1) #[.int .i64 0, .int .i64 0, .int .i64 0, .int .i64 0, .int .u64 0, .int .i64 0, .int .i64 0] 36) := hU2.keep HO1.out (by omega)
        have HB2 : Hid (Below w.heap.size w W2) := hU2.bel _ _ (by omega) HB1.out
        clear hU2 q2
        have q6 : W2.cell? ⟨w.heap.size, 6, none⟩ = some (.int .i64 lock) := HI2.out.cell 6
        by_cases hk : lock - 1 < 0
        · have HF : Hid (TickIs ⟨me, rev, cr, h, b, bad, lock⟩ ld ⟨me, rev, cr - ld, h, b, bad, 0⟩ ld 0) := by
            have := TickIs.ok HY.out hl
            unfold ticked burnt at this
            simp only [] at this
            have e1 : (if cr ≤ ld then 0 else cr - ld) = cr - ld := by split <;> omega
            have e2 : (if 0 < lock then lock - 1 else lock) = 0 := by split <;> omega
            have e3 : (if cr ≤ ld then cr else ld) = ld := by split <;> omega
            rw [e1, e2, e3] at this
            exact this
          go_wp2_with (first
            | (refine wp_let1 rfl 3 _ _ rfl (w.heap.size) 6 rfl .i64 0 rfl (by kernel_rfl) #[.int .i64 me, .int .i64 rev, .int .i64 (cr - ld), .int .i64 h, .int .u64 (b : Int), .int .i64 bad, .int .i64 lock] 36 HI2.out (by simp) ?_)
            | fail)
          intro W3 hU3
          have HI3 : Hid (Blk W3 (w.heap.size) #[.int .i64 me, .int .i64 rev, .int .i64 (cr - ld), .int .i64 h, .int .u64 (b : Int), .int .i64 bad, .int .i64 0] 36) := hU3.blk
          have HO3 : Hid (Blk W3 (w.heap.size + 1) #[.int .i64 0, .int .i64 0, .int .i64 0, .int .i64 0, .int .u64 0, .int .i64 0, .int .i64 0] 36) := hU3.keep HO2.out (by omega)
          have HB3 : Hid (Below w.heap.size w W3) := hU3.bel _ _ (by omega) HB2.out
          clear hU3 q6 HI2 HO2 HB2
          go_wp2_with (first
            | (refine wp_whole rfl 36 _ rfl (w.heap.size) rfl 36 #[.int .i64 me, .int .i64 rev, .int .i64 (cr - ld), .int .i64 h, .int .u64 (b : Int), .int .i64 bad, .int .i64 0] _ HI3.out Tryd.underlying36 rfl (by kernel_rfl) ?_)
            | (refine wp_letAll rfl 36 _ _ rfl (w.heap.size + 1) rfl #[.int .i64 me, .int .i64 rev, .int .i64 (cr - ld), .int .i64 h, .int .u64 (b : Int), .int .i64 bad, .int .i64 0] rfl (by kernel_rfl) (by simp [Value.oneCell']) #[.int .i64 0, .int .i64 0, .int .i64 0, .int .i64 0, .int .u64 0, .int .i64 0, .int .i64 0] 36 HO3.out rfl ?_)
            | fail)
          intro WF hUF
          have HBF : Hid (Below w.heap.size w WF) := hUF.bel _ _ (by omega) HB3.out
          have R0 : Hid (WF.cell? ⟨w.heap.size + 1, 0, none⟩ = some (.int .i64 me)) := hUF.blk.cell 0
          have R1 : Hid (WF.cell? ⟨w.heap.size + 1, 1, none⟩ = some (.int .i64 rev)) := hUF.blk.cell 1
          have R2 : Hid (WF.cell? ⟨w.heap.size + 1, 2, none⟩ = some (.int .i64 (cr - ld))) := hUF.blk.cell 2
          have R3 : Hid (WF.cell? ⟨w.heap.size + 1, 3, none⟩ = some (.int .i64 h)) := hUF.blk.cell 3
          have R4 : Hid (WF.cell? ⟨w.heap.size + 1, 4, none⟩ = some (.int .u64 (b : Int))) := hUF.blk.cell 4
          have R5 : Hid (WF.cell? ⟨w.heap.size + 1, 5, none⟩ = some (.int .i64 bad)) := hUF.blk.cell 5
          have R6 : Hid (WF.cell? ⟨w.heap.size + 1, 6, none⟩ = some (.int .i64 0)) := hUF.blk.cell 6
          clear hUF
          go_wp2_with fail
          exact bodyPost_ret (v := .tuple #[.agg #[.int .i64 me, .int .i64 rev, .int .i64 (cr - ld), .int .i64 h, .int .u64 (b : Int), .int .i64 bad, .int .i64 0], .int .i64 ld, .int .i64 0]) (by simp [results, Tryd.results16, R0.out, R1.out, R2.out, R3.out, R4.out, R5.out, R6.out, go_sem]) rfl ⟨⟨me, rev, cr - ld, h, b, bad, 0⟩, ld, 0, rfl, HF.out, HBF.out⟩
        · have HF : Hid (TickIs ⟨me, rev, cr, h, b, bad, lock⟩ ld ⟨me, rev, cr - ld, h, b, bad, lock - 1⟩ ld 0) := by
            have := TickIs.ok HY.out hl
            unfold ticked burnt at this
            simp only [] at this
            have e1 : (if cr ≤ ld then 0 else cr - ld) = cr - ld := by split <;> omega
            have e2 : (if 0 < lock then lock - 1 else lock) = lock - 1 := by split <;> omega
            have e3 : (if cr ≤ ld then cr else ld) = ld := by split <;> omega
            rw [e1, e2, e3] at this
            exact this
          have hkb : IntKind.i64.wrap (lock - 1) = lock - 1 := by rw [IntKind.wrap_i64]; omega
          go_wp2_with (first
            | (refine wp_let1 rfl 3 _ _ rfl (w.heap.size) 6 rfl .i64 (lock - 1) rfl (by kernel_rfl) #[.int .i64 me, .int .i64 rev, .int .i64 (cr - ld), .int .i64 h, .int .u64 (b : Int), .int .i64 bad, .int .i64 lock] 36 HI2.out (by simp) ?_)
            | fail)
          intro W3 hU3
          have HI3 : Hid (Blk W3 (w.heap.size) #[.int .i64 me, .int .i64 rev, .int .i64 (cr - ld), .int .i64 h, .int .u64 (b : Int), .int .i64 bad, .int .i64 (lock - 1)] 36) := hU3.blk
          have HO3 : Hid (Blk W3 (w.heap.size + 1) #[.int .i64 0, .int .i64 0, .int .i64 0, .int .i64 0, .int .u64 0, .int .i64 0, .int .i64 0] 36) := hU3.keep HO2.out (by omega)
          have HB3 : Hid (Below w.heap.size w W3) := hU3.bel _ _ (by omega) HB2.out
          clear hU3 q6 HI2 HO2 HB2
          go_wp2_with (first
            | (refine wp_whole rfl 36 _ rfl (w.heap.size) rfl 36 #[.int .i64 me, .int .i64 rev, .int .i64 (cr - ld), .int .i64 h, .int .u64 (b : Int), .int .i64 bad, .int .i64 (lock - 1)] _ HI3.out Tryd.underlying36 rfl (by kernel_rfl) ?_)
            | (refine wp_letAll rfl 36 _ _ rfl (w.heap.size + 1) rfl #[.int .i64 me, .int .i64 rev, .int .i64 (cr - ld), .int .i64 h, .int .u64 (b : Int), .int .i64 bad, .int .i64 (lock - 1)] rfl (by kernel_rfl) (by simp [Value.oneCell']) #[.int .i64 0, .int .i64 0, .int .i64 0, .int .i64 0, .int .u64 0, .int .i64 0, .int .i64 0] 36 HO3.out rfl ?_)
            | fail)
          intro WF hUF
          have HBF : Hid (Below w.heap.size w WF) := hUF.bel _ _ (by omega) HB3.out
          have R0 : Hid (WF.cell? ⟨w.heap.size + 1, 0, none⟩ = some (.int .i64 me)) := hUF.blk.cell 0
          have R1 : Hid (WF.cell? ⟨w.heap.size + 1, 1, none⟩ = some (.int .i64 rev)) := hUF.blk.cell 1
          have R2 : Hid (WF.cell? ⟨w.heap.size + 1, 2, none⟩ = some (.int .i64 (cr - ld))) := hUF.blk.cell 2
          have R3 : Hid (WF.cell? ⟨w.heap.size + 1, 3, none⟩ = some (.int .i64 h)) := hUF.blk.cell 3
          have R4 : Hid (WF.cell? ⟨w.heap.size + 1, 4, none⟩ = some (.int .u64 (b : Int))) := hUF.blk.cell 4
          have R5 : Hid (WF.cell? ⟨w.heap.size + 1, 5, none⟩ = some (.int .i64 bad)) := hUF.blk.cell 5
          have R6 : Hid (WF.cell? ⟨w.heap.size + 1, 6, none⟩ = some (.int .i64 (lock - 1))) := hUF.blk.cell 6
          clear hUF
          go_wp2_with fail
          exact bodyPost_ret (v := .tuple #[.agg #[.int .i64 me, .int .i64 rev, .int .i64 (cr - ld), .int .i64 h, .int .u64 (b : Int), .int .i64 bad, .int .i64 (lock - 1)], .int .i64 ld, .int .i64 0]) (by simp [results, Tryd.results16, R0.out, R1.out, R2.out, R3.out, R4.out, R5.out, R6.out, go_sem]) rfl ⟨⟨me, rev, cr - ld, h, b, bad, lock - 1⟩, ld, 0, rfl, HF.out, HBF.out⟩
    · have HNL : Hid (¬ (0 ≤ ld ∧ ld ≤ 1000)) := hl
      by_cases d0 : ld < 0
      · have d1 : decide (ld < 0) = true := by simp [d0]
        clear d0 hl
        go_wp2_with (first
          | (refine wp_whole rfl 36 _ rfl (w.heap.size) rfl 36 #[.int .i64 me, .int .i64 rev, .int .i64 cr, .int .i64 h, .int .u64 (b : Int), .int .i64 bad, .int .i64 lock] _ HI1.out Tryd.underlying36 rfl (by kernel_rfl) ?_)
          | (refine wp_letAll rfl 36 _ _ rfl (w.heap.size + 1) rfl #[.int .i64 me, .int .i64 rev, .int .i64 cr, .int .i64 h, .int .u64 (b : Int), .int .i64 bad, .int .i64 lock] rfl (by kernel_rfl) (by simp [Value.oneCell']) #[.int .i64 0, .int .i64 0, .int .i64 0, .int .i64 0, .int .u64 0, .int .i64 0, .int .i64 0] 36 HO1.out rfl ?_)
          | fail)
        intro WF hUF
        have HBF : Hid (Below w.heap.size w WF) := hUF.bel _ _ (by omega) HB1.out
        have R0 : Hid (WF.cell? ⟨w.heap.size + 1, 0, none⟩ = some (.int .i64 me)) := hUF.blk.cell 0
        have R1 : Hid (WF.cell? ⟨w.heap.size + 1, 1, none⟩ = some (.int .i64 rev)) := hUF.blk.cell 1
        have R2 : Hid (WF.cell? ⟨w.heap.size + 1, 2, none⟩ = some (.int .i64 cr)) := hUF.blk.cell 2
        have R3 : Hid (WF.cell? ⟨w.heap.size + 1, 3, none⟩ = some (.int .i64 h)) := hUF.blk.cell 3
        have R4 : Hid (WF.cell? ⟨w.heap.size + 1, 4, none⟩ = some (.int .u64 (b : Int))) := hUF.blk.cell 4
        have R5 : Hid (WF.cell? ⟨w.heap.size + 1, 5, none⟩ = some (.int .i64 bad)) := hUF.blk.cell 5
        have R6 : Hid (WF.cell? ⟨w.heap.size + 1, 6, none⟩ = some (.int .i64 lock)) := hUF.blk.cell 6
        clear hUF
        go_wp2_with fail
        exact bodyPost_ret (v := .tuple #[.agg #[.int .i64 me, .int .i64 rev, .int .i64 cr, .int .i64 h, .int .u64 (b : Int), .int .i64 bad, .int .i64 lock], .int .i64 0, .int .i64 2]) (by simp [results, Tryd.results16, R0.out, R1.out, R2.out, R3.out, R4.out, R5.out, R6.out, go_sem]) rfl ⟨⟨me, rev, cr, h, b, bad, lock⟩, 0, 2, rfl, .range HY.out HNL.out, HBF.out⟩
      · have d1 : decide (ld < 0) = false := by simp; omega
        have d2 : decide (1000 < ld) = true := by simp; omega
        clear d0 hl
        go_wp2_with (first
          | (refine wp_whole rfl 36 _ rfl (w.heap.size) rfl 36 #[.int .i64 me, .int .i64 rev, .int .i64 cr, .int .i64 h, .int .u64 (b : Int), .int .i64 bad, .int .i64 lock] _ HI1.out Tryd.underlying36 rfl (by kernel_rfl) ?_)
          | (refine wp_letAll rfl 36 _ _ rfl (w.heap.size + 1) rfl #[.int .i64 me, .int .i64 rev, .int .i64 cr, .int .i64 h, .int .u64 (b : Int), .int .i64 bad, .int .i64 lock] rfl (by kernel_rfl) (by simp [Value.oneCell']) #[.int .i64 0, .int .i64 0, .int .i64 0, .int .i64 0, .int .u64 0, .int .i64 0, .int .i64 0] 36 HO1.out rfl ?_)
          | fail)
        intro WF hUF
        have HBF : Hid (Below w.heap.size w WF) := hUF.bel _ _ (by omega) HB1.out
        have R0 : Hid (WF.cell? ⟨w.heap.size + 1, 0, none⟩ = some (.int .i64 me)) := hUF.blk.cell 0
        have R1 : Hid (WF.cell? ⟨w.heap.size + 1, 1, none⟩ = some (.int .i64 rev)) := hUF.blk.cell 1
        have R2 : Hid (WF.cell? ⟨w.heap.size + 1, 2, none⟩ = some (.int .i64 cr)) := hUF.blk.cell 2
        have R3 : Hid (WF.cell? ⟨w.heap.size + 1, 3, none⟩ = some (.int .i64 h)) := hUF.blk.cell 3
        have R4 : Hid (WF.cell? ⟨w.heap.size + 1, 4, none⟩ = some (.int .u64 (b : Int))) := hUF.blk.cell 4
        have R5 : Hid (WF.cell? ⟨w.heap.size + 1, 5, none⟩ = some (.int .i64 bad)) := hUF.blk.cell 5
        have R6 : Hid (WF.cell? ⟨w.heap.size + 1, 6, none⟩ = some (.int .i64 lock)) := hUF.blk.cell 6
        clear hUF
        go_wp2_with fail
        exact bodyPost_ret (v := .tuple #[.agg #[.int .i64 me, .int .i64 rev, .int .i64 cr, .int .i64 h, .int .u64 (b : Int), .int .i64 bad, .int .i64 lock], .int .i64 0, .int .i64 2]) (by simp [results, Tryd.results16, R0.out, R1.out, R2.out, R3.out, R4.out, R5.out, R6.out, go_sem]) rfl ⟨⟨me, rev, cr, h, b, bad, lock⟩, 0, 2, rfl, .range HY.out HNL.out, HBF.out⟩
theorem ktick {I : World → Prop} : KTick I := fun W m ld _ hb => ptick m ld W hb

end Go.Proofs.YtgipkpkjoicehabDoor.met

/- A tick of a pocket. -/
namespace Go.Proofs.YtgipkpkjoicehabDoor.pkt
open Go.RowKit Go.Proofs.YtgipkpkjoicehabDoor.met Go.Proofs.YtgipkpkjoicehabDoor.slot Go.Proofs.YtgipkpkjoicehabDoor.cell
set_option maxRecDepth 100000
set_option linter.unusedVariables false
set_option linter.unusedSimpArgs false

set_option maxHeartbeats 1000000 in
theorem pticked (a : Option Addr) (n cap : Nat) (xs : List Int) (ld : Int) (w : World) (h : RowU w a n xs) (hc : n ≤ cap) (hw : ∀ x ∈ rcd xs 5 (which xs 5), 0 ≤ x ∧ x < 4294967296) :
    Calls Tryd.prog 8 #[.slice a n cap, .int .i64 ld] w fun e w' => TickedPost w xs ld e w' := by
  have HBT : Hid (Calls Tryd.prog 7 #[.slice a n cap] w fun e w' => BootPost w xs e w') := pboot a n cap xs w h hc hw
  have HTK : Hid (∀ W (m : Mt), Mw m → Calls Tryd.prog 16 #[m.v, .int .i64 ld] W fun e w' => TickPost W m ld e w') := fun W m hm => ptick m ld W hm.b
  have HSU : Hid (∀ m, BootIs xs m 0 → Mw m ∧ n = 12 ∧ which xs 5 ≤ 1) := fun m hb => by
    obtain ⟨h1, h2⟩ := BootIs.sure hw hb
    exact ⟨h2, h.1.symm.trans h1.len, h1.one⟩
  have HRW : Hid (∀ W, Below w.heap.size w W → RowU W a n xs) := fun W hB => h.below hB
  clear h hc hw
  have H0B : Hid (Below w.heap.size w w) := Below.refl _ _
  go_enter Tryd.func8, Tryd.ntmps8
  go_wp2_with fail
  refine HBT.out.mono ?_
  rintro e w1 ⟨m1, f1, rfl, hi1, hb1⟩
  have H1B : Hid (Below w.heap.size w w1) := bel_step H0B.out hb1
  have HI1 : Hid (BootIs xs m1 f1) := hi1
  clear hi1 HBT
  by_cases hf : f1 = 0
  · subst hf
    obtain ⟨hmw, rfl, hwh⟩ := HSU.out _ HI1.out
    have HMW : Hid (Mw m1 ∧ which xs 5 ≤ 1) := ⟨hmw, hwh⟩
    have HT1 : Hid (∀ W, Calls Tryd.prog 16 #[m1.v, .int .i64 ld] W fun e w' => TickPost W m1 ld e w') := fun W => HTK.out W m1 hmw
    have HWR : Hid (∀ W m2, Below w.heap.size w W → Mw m2 → Calls Tryd.prog 17 #[.slice a 12 cap, m1.v, m2.v] W fun e w' => WritesPost W xs m1 m2 e w') := fun W m2 hB hm2 => pwrites a cap xs m1 m2 W (HRW.out W hB) hwh hm2
    clear hmw hwh HTK HSU HRW
    obtain ⟨me1, rev1, cr1, h1, b1, bad1, lock1⟩ := m1
    unfold Mt.v Mt.cells at *
    simp only [] at HT1 HWR ⊢
    have H2m : Hid (Blk (w1.alloc (.cells #[.int .i64 me1, .int .i64 rev1, .int .i64 cr1, .int .i64 h1, .int .u64 (b1 : Int), .int .i64 bad1, .int .i64 lock1] 36)) (w1.heap.size) #[.int .i64 me1, .int .i64 rev1, .int .i64 cr1, .int .i64 h1, .int .u64 (b1 : Int), .int .i64 bad1, .int .i64 lock1] 36) := (Blk.new w1 _ _)
    have H2B : Hid (Below w.heap.size w (w1.alloc (.cells #[.int .i64 me1, .int .i64 rev1, .int .i64 cr1, .int .i64 h1, .int .u64 (b1 : Int), .int .i64 bad1, .int .i64 lock1] 36))) := (H1B.out).alloc (Nat.le_trans H1B.out.size (by simp)) _
    have L20 : Hid (w.heap.size ≤ w1.heap.size) := H1B.out.size
    clear H0B H1B hb1
    go_wp2_with (first
      | (refine wp_whole rfl 36 _ rfl (w1.heap.size) rfl 36 #[.int .i64 me1, .int .i64 rev1, .int .i64 cr1, .int .i64 h1, .int .u64 (b1 : Int), .int .i64 bad1, .int .i64 lock1] _ H2m.out Tryd.underlying36 rfl (by kernel_rfl) ?_)
      | (refine wp_wholeG (by rfl) 36 _ rfl (w1.heap.size) rfl 36 #[.int .i64 me1, .int .i64 rev1, .int .i64 cr1, .int .i64 h1, .int .u64 (b1 : Int), .int .i64 bad1, .int .i64 lock1] _ H2m.out Tryd.underlying36 rfl (by kernel_rfl) ?_)
      | fail)
    refine (HT1.out _).mono ?_
    rintro e w2 ⟨m2, x2, f2, rfl, hi2, hb2⟩
    have H3m : Hid (Blk w2 (w1.heap.size) #[.int .i64 me1, .int .i64 rev1, .int .i64 cr1, .int .i64 h1, .int .u64 (b1 : Int), .int .i64 bad1, .int .i64 lock1] 36) := H2m.out.next hb2
    have H3B : Hid (Below w.heap.size w w2) := bel_step H2B.out hb2
    have HI2 : Hid (TickIs ⟨me1, rev1, cr1, h1, b1, bad1, lock1⟩ ld m2 x2 f2) := hi2
    clear hi2 HT1
    by_cases hf : f2 = 0
    · subst hf
      have HM2 : Hid (Mw m2) := tick_mw HMW.out.1 HI2.out
      have HW2 : Hid (∀ W, Below w.heap.size w W → Calls Tryd.prog 17 #[.slice a 12 cap, .agg #[.int .i64 me1, .int .i64 rev1, .int .i64 cr1, .int .i64 h1, .int .u64 (b1 : Int), .int .i64 bad1, .int .i64 lock1], m2.v] W fun e w' => WritesPost W xs ⟨me1, rev1, cr1, h1, b1, bad1, lock1⟩ m2 e w') := fun W hB => HWR.out W m2 hB HM2.out
      clear HWR
      obtain ⟨me2, rev2, cr2, h2, b2, bad2, lock2⟩ := m2
      unfold Mt.v Mt.cells at *
      simp only [] at HW2 ⊢
      have H4m : Hid (Blk (w2.alloc (.cells #[.int .i64 me2, .int .i64 rev2, .int .i64 cr2, .int .i64 h2, .int .u64 (b2 : Int), .int .i64 bad2, .int .i64 lock2] 36)) (w1.heap.size) #[.int .i64 me1, .int .i64 rev1, .int .i64 cr1, .int .i64 h1, .int .u64 (b1 : Int), .int .i64 bad1, .int .i64 lock1] 36) := (H3m.out).alloc _
      have H4n : Hid (Blk (w2.alloc (.cells #[.int .i64 me2, .int .i64 rev2, .int .i64 cr2, .int .i64 h2, .int .u64 (b2 : Int), .int .i64 bad2, .int .i64 lock2] 36)) (w2.heap.size) #[.int .i64 me2, .int .i64 rev2, .int .i64 cr2, .int .i64 h2, .int .u64 (b2 : Int), .int .i64 bad2, .int .i64 lock2] 36) := (Blk.new w2 _ _)
      have L4nm : Hid (w1.heap.size < w2.heap.size) := Nat.lt_of_lt_of_le H3m.out.lt (by simp)
      have H4B : Hid (Below w.heap.size w (w2.alloc (.cells #[.int .i64 me2, .int .i64 rev2, .int .i64 cr2, .int .i64 h2, .int .u64 (b2 : Int), .int .i64 bad2, .int .i64 lock2] 36))) := (H3B.out).alloc (Nat.le_trans H3B.out.size (by simp)) _
      have L40 : Hid (w.heap.size ≤ w2.heap.size) := H3B.out.size
      clear H2m H2B H3m H3B hb2
      go_wp2_with (first
        | (refine wp_whole rfl 36 _ rfl (w1.heap.size) rfl 36 #[.int .i64 me1, .int .i64 rev1, .int .i64 cr1, .int .i64 h1, .int .u64 (b1 : Int), .int .i64 bad1, .int .i64 lock1] _ H4m.out Tryd.underlying36 rfl (by kernel_rfl) ?_)
        | (refine wp_wholeG (by rfl) 36 _ rfl (w1.heap.size) rfl 36 #[.int .i64 me1, .int .i64 rev1, .int .i64 cr1, .int .i64 h1, .int .u64 (b1 : Int), .int .i64 bad1, .int .i64 lock1] _ H4m.out Tryd.underlying36 rfl (by kernel_rfl) ?_)
        | (refine wp_whole rfl 36 _ rfl (w2.heap.size) rfl 36 #[.int .i64 me2, .int .i64 rev2, .int .i64 cr2, .int .i64 h2, .int .u64 (b2 : Int), .int .i64 bad2, .int .i64 lock2] _ H4n.out Tryd.underlying36 rfl (by kernel_rfl) ?_)
        | (refine wp_wholeG (by rfl) 36 _ rfl (w2.heap.size) rfl 36 #[.int .i64 me2, .int .i64 rev2, .int .i64 cr2, .int .i64 h2, .int .u64 (b2 : Int), .int .i64 bad2, .int .i64 lock2] _ H4n.out Tryd.underlying36 rfl (by kernel_rfl) ?_)
        | fail)
      refine (HW2.out _ H4B.out).mono ?_
      rintro e w3 ⟨a3, n3, c3, ls, rfl, hg3, hi3, hb3⟩
      have H5m : Hid (Blk w3 (w1.heap.size) #[.int .i64 me1, .int .i64 rev1, .int .i64 cr1, .int .i64 h1, .int .u64 (b1 : Int), .int .i64 bad1, .int .i64 lock1] 36) := H4m.out.next hb3
      have H5n : Hid (Blk w3 (w2.heap.size) #[.int .i64 me2, .int .i64 rev2, .int .i64 cr2, .int .i64 h2, .int .u64 (b2 : Int), .int .i64 bad2, .int .i64 lock2] 36) := H4n.out.next hb3
      have H5B : Hid (Below w.heap.size w w3) := bel_step H4B.out hb3
      have HF : Hid (Wg w3 a3 n3 c3 ls ∧ WrIs xs ⟨me1, rev1, cr1, h1, b1, bad1, lock1⟩ ⟨me2, rev2, cr2, h2, b2, bad2, lock2⟩ ls) := ⟨hg3, hi3⟩
      clear H4m H4n H4B hb3 hg3 hi3 HW2
      go_wp2_with fail
      go_ret3
      exact ⟨a3, n3, c3, ls, x2, 0, rfl, HF.out.1, .inr (.inr ⟨_, _, HI1.out, HI2.out, rfl, HF.out.2⟩), H5B.out⟩
    · have hd : (f2 != 0) = true := by simpa using hf
      have HF : Hid (f2 ≠ 0) := hf
      clear hf
      obtain ⟨me2, rev2, cr2, h2, b2, bad2, lock2⟩ := m2
      unfold Mt.v Mt.cells at *
      simp only []
      have H4m : Hid (Blk (w2.alloc (.cells #[.int .i64 me2, .int .i64 rev2, .int .i64 cr2, .int .i64 h2, .int .u64 (b2 : Int), .int .i64 bad2, .int .i64 lock2] 36)) (w1.heap.size) #[.int .i64 me1, .int .i64 rev1, .int .i64 cr1, .int .i64 h1, .int .u64 (b1 : Int), .int .i64 bad1, .int .i64 lock1] 36) := (H3m.out).alloc _
      have H4n : Hid (Blk (w2.alloc (.cells #[.int .i64 me2, .int .i64 rev2, .int .i64 cr2, .int .i64 h2, .int .u64 (b2 : Int), .int .i64 bad2, .int .i64 lock2] 36)) (w2.heap.size) #[.int .i64 me2, .int .i64 rev2, .int .i64 cr2, .int .i64 h2, .int .u64 (b2 : Int), .int .i64 bad2, .int .i64 lock2] 36) := (Blk.new w2 _ _)
      have L4nm : Hid (w1.heap.size < w2.heap.size) := Nat.lt_of_lt_of_le H3m.out.lt (by simp)
      have H4B : Hid (Below w.heap.size w (w2.alloc (.cells #[.int .i64 me2, .int .i64 rev2, .int .i64 cr2, .int .i64 h2, .int .u64 (b2 : Int), .int .i64 bad2, .int .i64 lock2] 36))) := (H3B.out).alloc (Nat.le_trans H3B.out.size (by simp)) _
      have L40 : Hid (w.heap.size ≤ w2.heap.size) := H3B.out.size
      clear H2m H2B H3m H3B hb2 HWR
      go_wp2_with (first
        | (refine wp_whole rfl 36 _ rfl (w1.heap.size) rfl 36 #[.int .i64 me1, .int .i64 rev1, .int .i64 cr1, .int .i64 h1, .int .u64 (b1 : Int), .int .i64 bad1, .int .i64 lock1] _ H4m.out Tryd.underlying36 rfl (by kernel_rfl) ?_)
        | (refine wp_wholeG (by rfl) 36 _ rfl (w1.heap.size) rfl 36 #[.int .i64 me1, .int .i64 rev1, .int .i64 cr1, .int .i64 h1, .int .u64 (b1 : Int), .int .i64 bad1, .int .i64 lock1] _ H4m.out Tryd.underlying36 rfl (by kernel_rfl) ?_)
        | (refine wp_whole rfl 36 _ rfl (w2.heap.size) rfl 36 #[.int .i64 me2, .int .i64 rev2, .int .i64 cr2, .int .i64 h2, .int .u64 (b2 : Int), .int .i64 bad2, .int .i64 lock2] _ H4n.out Tryd.underlying36 rfl (by kernel_rfl) ?_)
        | (refine wp_wholeG (by rfl) 36 _ rfl (w2.heap.size) rfl 36 #[.int .i64 me2, .int .i64 rev2, .int .i64 cr2, .int .i64 h2, .int .u64 (b2 : Int), .int .i64 bad2, .int .i64 lock2] _ H4n.out Tryd.underlying36 rfl (by kernel_rfl) ?_)
        | fail)
      go_ret3
      exact ⟨none, 0, 0, [], 0, f2, rfl, Wg.none _, .inr (.inl ⟨_, _, _, HI1.out, HI2.out, HF.out, rfl, rfl⟩), H4B.out⟩
  · have hd : (f1 != 0) = true := by simpa using hf
    have HF : Hid (f1 ≠ 0) := hf
    clear hf HTK HSU HRW
    obtain ⟨me1, rev1, cr1, h1, b1, bad1, lock1⟩ := m1
    unfold Mt.v Mt.cells
    simp only []
    have H2m : Hid (Blk (w1.alloc (.cells #[.int .i64 me1, .int .i64 rev1, .int .i64 cr1, .int .i64 h1, .int .u64 (b1 : Int), .int .i64 bad1, .int .i64 lock1] 36)) (w1.heap.size) #[.int .i64 me1, .int .i64 rev1, .int .i64 cr1, .int .i64 h1, .int .u64 (b1 : Int), .int .i64 bad1, .int .i64 lock1] 36) := (Blk.new w1 _ _)
    have H2B : Hid (Below w.heap.size w (w1.alloc (.cells #[.int .i64 me1, .int .i64 rev1, .int .i64 cr1, .int .i64 h1, .int .u64 (b1 : Int), .int .i64 bad1, .int .i64 lock1] 36))) := (H1B.out).alloc (Nat.le_trans H1B.out.size (by simp)) _
    have L20 : Hid (w.heap.size ≤ w1.heap.size) := H1B.out.size
    clear H0B H1B hb1
    go_wp2_with (first
      | (refine wp_whole rfl 36 _ rfl (w1.heap.size) rfl 36 #[.int .i64 me1, .int .i64 rev1, .int .i64 cr1, .int .i64 h1, .int .u64 (b1 : Int), .int .i64 bad1, .int .i64 lock1] _ H2m.out Tryd.underlying36 rfl (by kernel_rfl) ?_)
      | (refine wp_wholeG (by rfl) 36 _ rfl (w1.heap.size) rfl 36 #[.int .i64 me1, .int .i64 rev1, .int .i64 cr1, .int .i64 h1, .int .u64 (b1 : Int), .int .i64 bad1, .int .i64 lock1] _ H2m.out Tryd.underlying36 rfl (by kernel_rfl) ?_)
      | fail)
    go_ret3
    exact ⟨none, 0, 0, [], 0, f1, rfl, Wg.none _, .inl ⟨_, HI1.out, HF.out, rfl, rfl⟩, H2B.out⟩

end Go.Proofs.YtgipkpkjoicehabDoor.pkt

/- A tick that is cut burns all or nothing. -/
namespace Go.Proofs.YtgipkpkjoicehabDoor.pkt
open Go.RowKit Go.Proofs.YtgipkpkjoicehabDoor.met Go.Proofs.YtgipkpkjoicehabDoor.slot Go.Proofs.YtgipkpkjoicehabDoor.cell Go.Proofs.YtgipkpkjoicehabDoor.ora Go.Proofs.YtgipkpkjoicehabDoor.token Go.Proofs.YtgipkpkjoicehabDoor.check
set_option maxRecDepth 100000
set_option linter.unusedVariables false
set_option linter.unusedSimpArgs false

theorem wrap_small {z : Int} (h0 : 0 ≤ z) (h1 : z ≤ 1000000000) : IntKind.i64.wrap z = z := by
  unfold IntKind.wrap
  simp [IntKind.bits, IntKind.signed]
  omega
set_option maxHeartbeats 8000000 in
theorem burns_A (me0 me units load k0 ld bu h1 : Int) (b1 pu q : Nat) (w : World) (hq : q ≤ 7) (hpu : pu < 2097151) (hl0 : 0 ≤ ld) (hl1 : ld ≤ 1000) (hld : ld = 0) (hbu : bu = 0)
    (hp : ∀ W, Calls Tryd.prog 6 #[.int .i64 me0, .int .i64 50] W fun e w' => e = .returned (.int .i64 me) ∧ w' = W)
    (hpl : ∀ W, Calls Tryd.prog 6 #[.int .i64 load, .int .i64 1001] W fun e w' => e = .returned (.int .i64 ld) ∧ w' = W)
    (hpu : ∀ W, Calls Tryd.prog 6 #[.int .i64 units, .int .i64 2097151] W fun e w' => e = .returned (.int .i64 (pu : Int)) ∧ w' = W)
    (hpk : ∀ W, Calls Tryd.prog 6 #[.int .i64 k0, .int .i64 8] W fun e w' => e = .returned (.int .i64 (q : Int)) ∧ w' = W)
    (hat : ∀ W, Below w.heap.size w W → Blk W w.heap.size #[.int .i64 0, .int .i64 0, .int .i64 units, .int .i64 0] 30 → Calls Tryd.prog 5 #[.int .i64 me, .slice (some ⟨w.heap.size, 0, none⟩) 1 1] W fun e w' => ∃ a c xs ao no co, e = .returned (.tuple #[.slice a 12 c, .agg #[.slice ao no co], .bool true]) ∧ Hm w' a c xs ⟨me, 0, 1 + (pu : Int), h1, b1, 0, 0⟩ ∧ Below W.heap.size W w')
    (hbt : ∀ W a c xs m, Hm W a c xs m → Calls Tryd.prog 7 #[.slice a 12 c] W fun e w' => e = .returned (.tuple #[m.v, .int .i64 0]) ∧ Below W.heap.size W w')
    (htd : ∀ W a c xs, Hm W a c xs ⟨me, 0, 1 + (pu : Int), h1, b1, 0, 0⟩ → Calls Tryd.prog 8 #[.slice a 12 c, .int .i64 ld] W fun e w' => ∃ b d wl, e = .returned (.tuple #[.slice b 0 d, .int .i64 bu, .int .i64 0]) ∧ Wg w' b 0 d wl ∧ WrIs xs ⟨me, 0, 1 + (pu : Int), h1, b1, 0, 0⟩ ⟨me, 0, 1 + (pu : Int) - bu, h1, b1, 0, 0⟩ wl ∧ Below W.heap.size W w')
    (hap : ∀ W a c xs b d wl (q : Nat), Hm W a c xs ⟨me, 0, 1 + (pu : Int), h1, b1, 0, 0⟩ → Wg W b 7 d wl → WrIs xs ⟨me, 0, 1 + (pu : Int), h1, b1, 0, 0⟩ ⟨me, 0, 1 + (pu : Int) - bu, h1, b1, 0, 0⟩ wl → q ≤ 7 → Calls Tryd.prog 9 #[.slice a 12 c, .slice b 7 d, .int .i64 (q : Int)] W fun e w' => ∃ a' c' xs', e = .returned (.tuple #[.slice a' 12 c', .int .i64 0]) ∧ (q = 7 → Hm w' a' c' xs' ⟨me, 0, 1 + (pu : Int) - bu, h1, b1, 0, 0⟩) ∧ (q < 7 → Hm w' a' c' xs' ⟨me, 0, 1 + (pu : Int), h1, b1, 0, 0⟩) ∧ Below W.heap.size W w')
    : Calls Tryd.prog 3 #[.int .i64 me0, .int .i64 units, .int .i64 load, .int .i64 k0] w fun e w' => e = .returned (.bool true) ∧ Below w.heap.size w w' := by
  have HP : Hid (∀ W, Calls Tryd.prog 6 #[.int .i64 me0, .int .i64 50] W fun e w' => e = .returned (.int .i64 me) ∧ w' = W) := hp
  have HPL : Hid (∀ W, Calls Tryd.prog 6 #[.int .i64 load, .int .i64 1001] W fun e w' => e = .returned (.int .i64 ld) ∧ w' = W) := hpl
  have HPU : Hid (∀ W, Calls Tryd.prog 6 #[.int .i64 units, .int .i64 2097151] W fun e w' => e = .returned (.int .i64 (pu : Int)) ∧ w' = W) := hpu
  have HPK : Hid (∀ W, Calls Tryd.prog 6 #[.int .i64 k0, .int .i64 8] W fun e w' => e = .returned (.int .i64 (q : Int)) ∧ w' = W) := hpk
  have HAT : Hid (∀ W, Below w.heap.size w W → Blk W w.heap.size #[.int .i64 0, .int .i64 0, .int .i64 units, .int .i64 0] 30 → Calls Tryd.prog 5 #[.int .i64 me, .slice (some ⟨w.heap.size, 0, none⟩) 1 1] W fun e w' => ∃ a c xs ao no co, e = .returned (.tuple #[.slice a 12 c, .agg #[.slice ao no co], .bool true]) ∧ Hm w' a c xs ⟨me, 0, 1 + (pu : Int), h1, b1, 0, 0⟩ ∧ Below W.heap.size W w') := hat
  have HBT : Hid (∀ W a c xs m, Hm W a c xs m → Calls Tryd.prog 7 #[.slice a 12 c] W fun e w' => e = .returned (.tuple #[m.v, .int .i64 0]) ∧ Below W.heap.size W w') := hbt
  have HTD : Hid (∀ W a c xs, Hm W a c xs ⟨me, 0, 1 + (pu : Int), h1, b1, 0, 0⟩ → Calls Tryd.prog 8 #[.slice a 12 c, .int .i64 ld] W fun e w' => ∃ b d wl, e = .returned (.tuple #[.slice b 0 d, .int .i64 bu, .int .i64 0]) ∧ Wg w' b 0 d wl ∧ WrIs xs ⟨me, 0, 1 + (pu : Int), h1, b1, 0, 0⟩ ⟨me, 0, 1 + (pu : Int) - bu, h1, b1, 0, 0⟩ wl ∧ Below W.heap.size W w') := htd
  have HAP : Hid (∀ W a c xs b d wl (q : Nat), Hm W a c xs ⟨me, 0, 1 + (pu : Int), h1, b1, 0, 0⟩ → Wg W b 7 d wl → WrIs xs ⟨me, 0, 1 + (pu : Int), h1, b1, 0, 0⟩ ⟨me, 0, 1 + (pu : Int) - bu, h1, b1, 0, 0⟩ wl → q ≤ 7 → Calls Tryd.prog 9 #[.slice a 12 c, .slice b 7 d, .int .i64 (q : Int)] W fun e w' => ∃ a' c' xs', e = .returned (.tuple #[.slice a' 12 c', .int .i64 0]) ∧ (q = 7 → Hm w' a' c' xs' ⟨me, 0, 1 + (pu : Int) - bu, h1, b1, 0, 0⟩) ∧ (q < 7 → Hm w' a' c' xs' ⟨me, 0, 1 + (pu : Int), h1, b1, 0, 0⟩) ∧ Below W.heap.size W w') := hap
  have HQ7 : Hid (q ≤ 7) := hq
  have hwr : IntKind.i64.wrap (1 + (pu : Int)) = 1 + (pu : Int) := wrap_small (by omega) (by omega)
  subst hld hbu
  have hmn : min 0 (1 + (pu : Int)) = 0 := by omega
  clear hq hp hpl hpu hpk hat hbt htd hap
  have H0B : Hid (Below w.heap.size w w) := Below.refl _ _
  go_enter Tryd.func3, Tryd.ntmps3
  go_wp2_with fail
  refine (HP.out _).mono ?_
  rintro e w0 ⟨rfl, hw0⟩
  have hw1 := hw0.symm
  subst hw1
  clear hw0
  have H1x : Hid (Blk (w.alloc (.cells #[.int .i64 0, .int .i64 0, .int .i64 units, .int .i64 0] 30)) (w.heap.size) #[.int .i64 0, .int .i64 0, .int .i64 units, .int .i64 0] 30) := (Blk.new w _ _)
  have H1B : Hid (Below w.heap.size w (w.alloc (.cells #[.int .i64 0, .int .i64 0, .int .i64 units, .int .i64 0] 30))) := (H0B.out).alloc (Nat.le_trans H0B.out.size (by simp)) _
  have L10 : Hid (w.heap.size ≤ w.heap.size) := H0B.out.size
  clear H0B 
  go_wp2_with fail
  refine (HAT.out _ H1B.out H1x.out).mono ?_
  rintro e w1 ⟨a, c, xs, ao, no, co, rfl, hm1, hb1⟩
  have H2x : Hid (Blk w1 (w.heap.size) #[.int .i64 0, .int .i64 0, .int .i64 units, .int .i64 0] 30) := H1x.out.next hb1
  have H2B : Hid (Below w.heap.size w w1) := bel_step H1B.out hb1
  clear H2x
  have HCh : Hid (Hm w1 a c xs ⟨me, 0, 1 + (pu : Int), h1, b1, 0, 0⟩) := hm1
  have H3o : Hid (Blk (w1.alloc (.cells #[.slice ao no co] 25)) (w1.heap.size) #[.slice ao no co] 25) := (Blk.new w1 _ _)
  have H3B : Hid (Below w.heap.size w (w1.alloc (.cells #[.slice ao no co] 25))) := (H2B.out).alloc (Nat.le_trans H2B.out.size (by simp)) _
  have L30 : Hid (w.heap.size ≤ w1.heap.size) := H2B.out.size
  have H3Ch : Hid (Hm (w1.alloc (.cells #[.slice ao no co] 25)) a c xs ⟨me, 0, 1 + (pu : Int), h1, b1, 0, 0⟩) := HCh.out.below ((Below.refl w1.heap.size w1).alloc (by simp) _)
  clear H1x H1B HCh H2B hb1 hm1 HAT
  clear H3o
  go_wp2_with fail
  refine (HPL.out _).mono ?_
  rintro e wl0 ⟨rfl, hwl⟩
  subst hwl
  go_wp2_with fail
  refine (HBT.out _ _ _ _ _ H3Ch.out).mono ?_
  rintro e w2 ⟨rfl, hb2⟩
  have H4B : Hid (Below w.heap.size w w2) := bel_step H3B.out hb2
  have H4Ch : Hid (Hm w2 a c xs ⟨me, 0, 1 + (pu : Int), h1, b1, 0, 0⟩) := H3Ch.out.below hb2
  unfold Mt.v Mt.cells
  simp only []
  have H5m : Hid (Blk (w2.alloc (.cells #[.int .i64 me, .int .i64 0, .int .i64 (1 + (pu : Int)), .int .i64 h1, .int .u64 (b1 : Int), .int .i64 0, .int .i64 0] 36)) (w2.heap.size) #[.int .i64 me, .int .i64 0, .int .i64 (1 + (pu : Int)), .int .i64 h1, .int .u64 (b1 : Int), .int .i64 0, .int .i64 0] 36) := (Blk.new w2 _ _)
  have H5B : Hid (Below w.heap.size w (w2.alloc (.cells #[.int .i64 me, .int .i64 0, .int .i64 (1 + (pu : Int)), .int .i64 h1, .int .u64 (b1 : Int), .int .i64 0, .int .i64 0] 36))) := (H4B.out).alloc (Nat.le_trans H4B.out.size (by simp)) _
  have L50 : Hid (w.heap.size ≤ w2.heap.size) := H4B.out.size
  have H5Ch : Hid (Hm (w2.alloc (.cells #[.int .i64 me, .int .i64 0, .int .i64 (1 + (pu : Int)), .int .i64 h1, .int .u64 (b1 : Int), .int .i64 0, .int .i64 0] 36)) a c xs ⟨me, 0, 1 + (pu : Int), h1, b1, 0, 0⟩) := H4Ch.out.below ((Below.refl w2.heap.size w2).alloc (by simp) _)
  clear H3Ch H3B H4Ch H4B hb2
  go_wp2_with fail
  refine (HTD.out _ _ _ _ H5Ch.out).mono ?_
  rintro e w3 ⟨b3, d3, wl, rfl, hg3, hw3, hb3⟩
  have H6m : Hid (Blk w3 (w2.heap.size) #[.int .i64 me, .int .i64 0, .int .i64 (1 + (pu : Int)), .int .i64 h1, .int .u64 (b1 : Int), .int .i64 0, .int .i64 0] 36) := H5m.out.next hb3
  have H6B : Hid (Below w.heap.size w w3) := bel_step H5B.out hb3
  have H6Ch : Hid (Hm w3 a c xs ⟨me, 0, 1 + (pu : Int), h1, b1, 0, 0⟩) := H5Ch.out.below hb3
  have HCg : Hid (Wg w3 b3 0 d3 wl) := hg3
  have HWI : Hid (WrIs xs ⟨me, 0, 1 + (pu : Int), h1, b1, 0, 0⟩ ⟨me, 0, 1 + (pu : Int) - 0, h1, b1, 0, 0⟩ wl) := hw3
  clear H5m H5Ch H5B hb3 hg3 hw3 HTD
  have e1 : (1 + (pu : Int) != 1 + (pu : Int)) = false := by simp
  skip
  go_upto_region 7 with fail
  have HBK : Hid (Blk w3.drew (w2.heap.size) #[.int .i64 me, .int .i64 0, .int .i64 (1 + (pu : Int)), .int .i64 h1, .int .u64 (b1 : Int), .int .i64 0, .int .i64 0] 36) := Blk.drew H6m.out 1
  refine wp_region_held_drew (S := fun v => Blk v (w2.heap.size) #[.int .i64 me, .int .i64 0, .int .i64 (1 + (pu : Int)), .int .i64 h1, .int .u64 (b1 : Int), .int .i64 0, .int .i64 0] 36) (by kernel_rfl) HBK.out (fun hHeld => ?_)
  refine take_at 0 50 (.int .i64 0) _ rfl rfl (by kernel_rfl) (by kernel_rfl) (by kernel_rfl) (fun _ _ _ h => h) (Or.inl ⟨by rfl, fun v hv => by skip; clear hv; go_simp⟩) hHeld ?_
  simp only [Act.put, List.setIfInBounds_toArray, List.set_cons_zero, List.set_cons_succ]
  refine take_at 1 51 (.bool false) _ rfl rfl (by kernel_rfl) (by kernel_rfl) (by kernel_rfl) (fun _ _ _ h => h) (Or.inl ⟨by rfl, fun v hv => by skip; clear hv; go_simp⟩) hHeld ?_
  simp only [Act.put, List.setIfInBounds_toArray, List.set_cons_zero, List.set_cons_succ]
  refine take_at 2 52 (.bool false) _ rfl rfl (by kernel_rfl) (by kernel_rfl) (by kernel_rfl) (fun _ _ _ h => h) (Or.inl ⟨by rfl, fun v hv => by skip; clear hv; go_simp⟩) hHeld ?_
  simp only [Act.put, List.setIfInBounds_toArray, List.set_cons_zero, List.set_cons_succ]
  refine take_at 3 53 (.int .i64 0) _ rfl rfl (by kernel_rfl) (by kernel_rfl) (by kernel_rfl) (fun _ _ _ h => h) (Or.inl ⟨by rfl, fun v hv => by skip; clear hv; go_simp⟩) hHeld ?_
  simp only [Act.put, List.setIfInBounds_toArray, List.set_cons_zero, List.set_cons_succ]
  refine take_at 4 54 (.bool false) _ rfl rfl (by kernel_rfl) (by kernel_rfl) (by kernel_rfl) (fun _ _ _ h => h) (Or.inl ⟨by rfl, fun v hv => by skip; clear hv; go_simp⟩) hHeld ?_
  simp only [Act.put, List.setIfInBounds_toArray, List.set_cons_zero, List.set_cons_succ]
  refine take_at 5 55 (.bool false) _ rfl rfl (by kernel_rfl) (by kernel_rfl) (by kernel_rfl) (fun _ _ _ h => h) (Or.inl ⟨by rfl, fun v hv => by skip; clear hv; go_simp⟩) hHeld ?_
  simp only [Act.put, List.setIfInBounds_toArray, List.set_cons_zero, List.set_cons_succ]
  refine take_at 6 56 (.bool false) _ rfl rfl (by kernel_rfl) (by kernel_rfl) (by kernel_rfl) (fun _ _ _ h => h) (Or.inl ⟨by rfl, fun v hv => by skip; clear hv; go_simp⟩) hHeld ?_
  simp only [Act.put, List.setIfInBounds_toArray, List.set_cons_zero, List.set_cons_succ]
  refine take_at 7 57 (.pointer (some ⟨w2.heap.size, 2, none⟩)) _ rfl rfl (by kernel_rfl) (by kernel_rfl) (by kernel_rfl) (fun _ _ _ h => h) (Or.inl ⟨by rfl, fun v hv => by skip; clear hv; go_simp⟩) hHeld ?_
  simp only [Act.put, List.setIfInBounds_toArray, List.set_cons_zero, List.set_cons_succ]
  refine take_at 8 58 (.int .i64 (1 + (pu : Int))) _ rfl rfl (by kernel_rfl) (by kernel_rfl) (by kernel_rfl) (fun _ _ _ h => h) (Or.inl ⟨by rfl, fun v hv => by have h2 := hv.cell 2; clear hv; go_simp⟩) hHeld ?_
  simp only [Act.put, List.setIfInBounds_toArray, List.set_cons_zero, List.set_cons_succ]
  refine take_at 9 59 (.int .i64 units) _ rfl rfl (by kernel_rfl) (by kernel_rfl) (by kernel_rfl) (fun _ _ _ h => h) (Or.inl ⟨by rfl, fun v hv => by skip; clear hv; go_simp⟩) hHeld ?_
  simp only [Act.put, List.setIfInBounds_toArray, List.set_cons_zero, List.set_cons_succ]
  refine call_at 10 60 (.int .i64 (pu : Int)) _ rfl rfl (by kernel_rfl) (by kernel_rfl) (by kernel_rfl) (fun _ _ _ h => h) 6 #[.int .i64 units, .int .i64 2097151] ⟨by rfl, fun v hv => by clear hv; go_simp⟩ (fun v _ => HPU.out v) hHeld ?_
  simp only [Act.put, List.setIfInBounds_toArray, List.set_cons_zero, List.set_cons_succ]
  refine take_at 11 61 (.int .i64 (1 + (pu : Int))) _ rfl rfl (by kernel_rfl) (by kernel_rfl) (by kernel_rfl) (fun _ _ _ h => h) (Or.inl ⟨by rfl, fun v hv => by skip; clear hv; go_simp⟩) hHeld ?_
  simp only [Act.put, List.setIfInBounds_toArray, List.set_cons_zero, List.set_cons_succ]
  refine take_at 12 62 (.bool false) _ rfl rfl (by kernel_rfl) (by kernel_rfl) (by kernel_rfl) (fun _ _ _ h => h) (Or.inl ⟨by rfl, fun v hv => by skip; clear hv; go_simp⟩) hHeld ?_
  simp only [Act.put, List.setIfInBounds_toArray, List.set_cons_zero, List.set_cons_succ]
  refine take_at 13 63 (.bool false) _ rfl rfl (by kernel_rfl) (by kernel_rfl) (by kernel_rfl) (fun _ _ _ h => h) (Or.inl ⟨by rfl, fun v hv => by skip; clear hv; go_simp⟩) hHeld ?_
  simp only [Act.put, List.setIfInBounds_toArray, List.set_cons_zero, List.set_cons_succ]
  refine take_at 14 64 (.bool false) _ rfl rfl (by kernel_rfl) (by kernel_rfl) (by kernel_rfl) (fun _ _ _ h => h) (Or.inl ⟨by rfl, fun v hv => by skip; clear hv; go_simp⟩) hHeld ?_
  simp only [Act.put, List.setIfInBounds_toArray, List.set_cons_zero, List.set_cons_succ]
  refine take_at 15 65 (.int .i64 0) _ rfl rfl (by kernel_rfl) (by kernel_rfl) (by kernel_rfl) (fun _ _ _ h => h) (Or.inl ⟨by rfl, fun v hv => by skip; clear hv; go_simp⟩) hHeld ?_
  simp only [Act.put, List.setIfInBounds_toArray, List.set_cons_zero, List.set_cons_succ]
  refine take_at 16 66 (.int .i64 0) _ rfl rfl (by kernel_rfl) (by kernel_rfl) (by kernel_rfl) (fun _ _ _ h => h) (Or.inl ⟨by rfl, fun v hv => by skip; clear hv; go_simp⟩) hHeld ?_
  simp only [Act.put, List.setIfInBounds_toArray, List.set_cons_zero, List.set_cons_succ]
  refine take_at 17 67 (.pointer (some ⟨w2.heap.size, 2, none⟩)) _ rfl rfl (by kernel_rfl) (by kernel_rfl) (by kernel_rfl) (fun _ _ _ h => h) (Or.inl ⟨by rfl, fun v hv => by skip; clear hv; go_simp⟩) hHeld ?_
  simp only [Act.put, List.setIfInBounds_toArray, List.set_cons_zero, List.set_cons_succ]
  refine take_at 18 68 (.int .i64 (1 + (pu : Int))) _ rfl rfl (by kernel_rfl) (by kernel_rfl) (by kernel_rfl) (fun _ _ _ h => h) (Or.inl ⟨by rfl, fun v hv => by have h2 := hv.cell 2; clear hv; go_simp⟩) hHeld ?_
  simp only [Act.put, List.setIfInBounds_toArray, List.set_cons_zero, List.set_cons_succ]
  refine take_at 19 69 (.int .i64 0) _ rfl rfl (by kernel_rfl) (by kernel_rfl) (by kernel_rfl) (fun _ _ _ h => h) (Or.inl ⟨by rfl, fun v hv => by skip; clear hv; go_simp⟩) hHeld ?_
  simp only [Act.put, List.setIfInBounds_toArray, List.set_cons_zero, List.set_cons_succ]
  refine take_at 20 70 (.bool false) _ rfl rfl (by kernel_rfl) (by kernel_rfl) (by kernel_rfl) (fun _ _ _ h => h) (Or.inl ⟨by rfl, fun v hv => by skip; clear hv; go_simp⟩) hHeld ?_
  simp only [Act.put, List.setIfInBounds_toArray, List.set_cons_zero, List.set_cons_succ]
  refine take_at 21 71 (.bool false) _ rfl rfl (by kernel_rfl) (by kernel_rfl) (by kernel_rfl) (fun _ _ _ h => h) (Or.inl ⟨by rfl, fun v hv => by skip; clear hv; go_simp⟩) hHeld ?_
  simp only [Act.put, List.setIfInBounds_toArray, List.set_cons_zero, List.set_cons_succ]
  refine take_at 22 72 (.bool false) _ rfl rfl (by kernel_rfl) (by kernel_rfl) (by kernel_rfl) (fun _ _ _ h => h) (Or.inl ⟨by rfl, fun v hv => by skip; clear hv; go_simp⟩) hHeld ?_
  simp only [Act.put, List.setIfInBounds_toArray, List.set_cons_zero, List.set_cons_succ]
  refine take_at 23 73 (.slice b3 0 d3) _ rfl rfl (by kernel_rfl) (by kernel_rfl) (by kernel_rfl) (fun _ _ _ h => h) (Or.inl ⟨by rfl, fun v hv => by skip; clear hv; go_simp⟩) hHeld ?_
  simp only [Act.put, List.setIfInBounds_toArray, List.set_cons_zero, List.set_cons_succ]
  refine take_at 24 74 (.int .i64 0) _ rfl rfl (by kernel_rfl) (by kernel_rfl) (by kernel_rfl) (fun _ _ _ h => h) (Or.inl ⟨by rfl, fun v hv => by skip; clear hv; go_simp⟩) hHeld ?_
  simp only [Act.put, List.setIfInBounds_toArray, List.set_cons_zero, List.set_cons_succ]
  refine take_at 25 75 (.bool true) _ rfl rfl (by kernel_rfl) (by kernel_rfl) (by kernel_rfl) (fun _ _ _ h => h) (Or.inl ⟨by rfl, fun v hv => by skip; clear hv; go_simp⟩) hHeld ?_
  simp only [Act.put, List.setIfInBounds_toArray, List.set_cons_zero, List.set_cons_succ]
  refine take_at 26 76 (.int .i64 0) _ rfl rfl (by kernel_rfl) (by kernel_rfl) (by kernel_rfl) (fun _ _ _ h => h) (Or.inl ⟨by rfl, fun v hv => by skip; clear hv; go_simp⟩) hHeld ?_
  simp only [Act.put, List.setIfInBounds_toArray, List.set_cons_zero, List.set_cons_succ]
  refine take_at 27 77 (.bool true) _ rfl rfl (by kernel_rfl) (by kernel_rfl) (by kernel_rfl) (fun _ _ _ h => h) (Or.inl ⟨by rfl, fun v hv => by skip; clear hv; go_simp⟩) hHeld ?_
  simp only [Act.put, List.setIfInBounds_toArray, List.set_cons_zero, List.set_cons_succ]
  refine take_at 28 78 (.bool false) _ rfl rfl (by kernel_rfl) (by kernel_rfl) (by kernel_rfl) (fun _ _ _ h => h) (Or.inl ⟨by rfl, fun v hv => by skip; clear hv; go_simp⟩) hHeld ?_
  simp only [Act.put, List.setIfInBounds_toArray, List.set_cons_zero, List.set_cons_succ]
  refine take_at 29 79 (.bool false) _ rfl rfl (by kernel_rfl) (by kernel_rfl) (by kernel_rfl) (fun _ _ _ h => h) (Or.inl ⟨by rfl, fun v hv => by skip; clear hv; go_simp⟩) hHeld ?_
  simp only [Act.put, List.setIfInBounds_toArray, List.set_cons_zero, List.set_cons_succ]
  refine wpAnyH_done (by kernel_rfl) ?_ _
  clear hHeld HBK
  have H7m : Hid (Blk w3.drew (w2.heap.size) #[.int .i64 me, .int .i64 0, .int .i64 (1 + (pu : Int)), .int .i64 h1, .int .u64 (b1 : Int), .int .i64 0, .int .i64 0] 36) := Blk.drew H6m.out 1
  have H7B : Hid (Below w.heap.size w w3.drew) := H6B.out.drew
  have H7Ch : Hid (Hm w3.drew a c xs ⟨me, 0, 1 + (pu : Int), h1, b1, 0, 0⟩) := H6Ch.out.below (Below.refl _ _).drew
  have H7Cg : Hid (Wg w3.drew b3 0 d3 wl) := HCg.out.below (Below.refl _ _).drew
  clear H6m H6Ch HCg H6B
  generalize w3.drew = WD at *
  go_wp2_with fail
  go_ret
  exact ⟨rfl, H7B.out⟩
set_option maxHeartbeats 8000000 in
theorem burns_B1 (me0 me units load k0 ld bu h1 : Int) (b1 pu q : Nat) (w : World) (hq : q ≤ 7) (hpu : pu < 2097151) (hl0 : 0 ≤ ld) (hl1 : ld ≤ 1000) (hld : 0 < ld) (hlc : 1 + (pu : Int) < ld) (hbu : bu = 1 + (pu : Int))
    (hp : ∀ W, Calls Tryd.prog 6 #[.int .i64 me0, .int .i64 50] W fun e w' => e = .returned (.int .i64 me) ∧ w' = W)
    (hpl : ∀ W, Calls Tryd.prog 6 #[.int .i64 load, .int .i64 1001] W fun e w' => e = .returned (.int .i64 ld) ∧ w' = W)
    (hpu : ∀ W, Calls Tryd.prog 6 #[.int .i64 units, .int .i64 2097151] W fun e w' => e = .returned (.int .i64 (pu : Int)) ∧ w' = W)
    (hpk : ∀ W, Calls Tryd.prog 6 #[.int .i64 k0, .int .i64 8] W fun e w' => e = .returned (.int .i64 (q : Int)) ∧ w' = W)
    (hat : ∀ W, Below w.heap.size w W → Blk W w.heap.size #[.int .i64 0, .int .i64 0, .int .i64 units, .int .i64 0] 30 → Calls Tryd.prog 5 #[.int .i64 me, .slice (some ⟨w.heap.size, 0, none⟩) 1 1] W fun e w' => ∃ a c xs ao no co, e = .returned (.tuple #[.slice a 12 c, .agg #[.slice ao no co], .bool true]) ∧ Hm w' a c xs ⟨me, 0, 1 + (pu : Int), h1, b1, 0, 0⟩ ∧ Below W.heap.size W w')
    (hbt : ∀ W a c xs m, Hm W a c xs m → Calls Tryd.prog 7 #[.slice a 12 c] W fun e w' => e = .returned (.tuple #[m.v, .int .i64 0]) ∧ Below W.heap.size W w')
    (htd : ∀ W a c xs, Hm W a c xs ⟨me, 0, 1 + (pu : Int), h1, b1, 0, 0⟩ → Calls Tryd.prog 8 #[.slice a 12 c, .int .i64 ld] W fun e w' => ∃ b d wl, e = .returned (.tuple #[.slice b 7 d, .int .i64 bu, .int .i64 0]) ∧ Wg w' b 7 d wl ∧ WrIs xs ⟨me, 0, 1 + (pu : Int), h1, b1, 0, 0⟩ ⟨me, 0, 1 + (pu : Int) - bu, h1, b1, 0, 0⟩ wl ∧ Below W.heap.size W w')
    (hap : ∀ W a c xs b d wl (q : Nat), Hm W a c xs ⟨me, 0, 1 + (pu : Int), h1, b1, 0, 0⟩ → Wg W b 7 d wl → WrIs xs ⟨me, 0, 1 + (pu : Int), h1, b1, 0, 0⟩ ⟨me, 0, 1 + (pu : Int) - bu, h1, b1, 0, 0⟩ wl → q ≤ 7 → Calls Tryd.prog 9 #[.slice a 12 c, .slice b 7 d, .int .i64 (q : Int)] W fun e w' => ∃ a' c' xs', e = .returned (.tuple #[.slice a' 12 c', .int .i64 0]) ∧ (q = 7 → Hm w' a' c' xs' ⟨me, 0, 1 + (pu : Int) - bu, h1, b1, 0, 0⟩) ∧ (q < 7 → Hm w' a' c' xs' ⟨me, 0, 1 + (pu : Int), h1, b1, 0, 0⟩) ∧ Below W.heap.size W w')
    : Calls Tryd.prog 3 #[.int .i64 me0, .int .i64 units, .int .i64 load, .int .i64 k0] w fun e w' => e = .returned (.bool true) ∧ Below w.heap.size w w' := by
  have HP : Hid (∀ W, Calls Tryd.prog 6 #[.int .i64 me0, .int .i64 50] W fun e w' => e = .returned (.int .i64 me) ∧ w' = W) := hp
  have HPL : Hid (∀ W, Calls Tryd.prog 6 #[.int .i64 load, .int .i64 1001] W fun e w' => e = .returned (.int .i64 ld) ∧ w' = W) := hpl
  have HPU : Hid (∀ W, Calls Tryd.prog 6 #[.int .i64 units, .int .i64 2097151] W fun e w' => e = .returned (.int .i64 (pu : Int)) ∧ w' = W) := hpu
  have HPK : Hid (∀ W, Calls Tryd.prog 6 #[.int .i64 k0, .int .i64 8] W fun e w' => e = .returned (.int .i64 (q : Int)) ∧ w' = W) := hpk
  have HAT : Hid (∀ W, Below w.heap.size w W → Blk W w.heap.size #[.int .i64 0, .int .i64 0, .int .i64 units, .int .i64 0] 30 → Calls Tryd.prog 5 #[.int .i64 me, .slice (some ⟨w.heap.size, 0, none⟩) 1 1] W fun e w' => ∃ a c xs ao no co, e = .returned (.tuple #[.slice a 12 c, .agg #[.slice ao no co], .bool true]) ∧ Hm w' a c xs ⟨me, 0, 1 + (pu : Int), h1, b1, 0, 0⟩ ∧ Below W.heap.size W w') := hat
  have HBT : Hid (∀ W a c xs m, Hm W a c xs m → Calls Tryd.prog 7 #[.slice a 12 c] W fun e w' => e = .returned (.tuple #[m.v, .int .i64 0]) ∧ Below W.heap.size W w') := hbt
  have HTD : Hid (∀ W a c xs, Hm W a c xs ⟨me, 0, 1 + (pu : Int), h1, b1, 0, 0⟩ → Calls Tryd.prog 8 #[.slice a 12 c, .int .i64 ld] W fun e w' => ∃ b d wl, e = .returned (.tuple #[.slice b 7 d, .int .i64 bu, .int .i64 0]) ∧ Wg w' b 7 d wl ∧ WrIs xs ⟨me, 0, 1 + (pu : Int), h1, b1, 0, 0⟩ ⟨me, 0, 1 + (pu : Int) - bu, h1, b1, 0, 0⟩ wl ∧ Below W.heap.size W w') := htd
  have HAP : Hid (∀ W a c xs b d wl (q : Nat), Hm W a c xs ⟨me, 0, 1 + (pu : Int), h1, b1, 0, 0⟩ → Wg W b 7 d wl → WrIs xs ⟨me, 0, 1 + (pu : Int), h1, b1, 0, 0⟩ ⟨me, 0, 1 + (pu : Int) - bu, h1, b1, 0, 0⟩ wl → q ≤ 7 → Calls Tryd.prog 9 #[.slice a 12 c, .slice b 7 d, .int .i64 (q : Int)] W fun e w' => ∃ a' c' xs', e = .returned (.tuple #[.slice a' 12 c', .int .i64 0]) ∧ (q = 7 → Hm w' a' c' xs' ⟨me, 0, 1 + (pu : Int) - bu, h1, b1, 0, 0⟩) ∧ (q < 7 → Hm w' a' c' xs' ⟨me, 0, 1 + (pu : Int), h1, b1, 0, 0⟩) ∧ Below W.heap.size W w') := hap
  have HQ7 : Hid (q ≤ 7) := hq
  have hwr : IntKind.i64.wrap (1 + (pu : Int)) = 1 + (pu : Int) := wrap_small (by omega) (by omega)
  have e4 : (bu == 0) = false := by simp; omega
  have hb0 : 0 < bu := by omega
  have hb1 : bu ≤ 1 + (pu : Int) := by omega
  have hmn : min ld (1 + (pu : Int)) = bu := by omega
  clear hbu hlc hld
  clear hq hp hpl hpu hpk hat hbt htd hap
  have H0B : Hid (Below w.heap.size w w) := Below.refl _ _
  go_enter Tryd.func3, Tryd.ntmps3
  go_wp2_with fail
  refine (HP.out _).mono ?_
  rintro e w0 ⟨rfl, hw0⟩
  have hw1 := hw0.symm
  subst hw1
  clear hw0
  have H1x : Hid (Blk (w.alloc (.cells #[.int .i64 0, .int .i64 0, .int .i64 units, .int .i64 0] 30)) (w.heap.size) #[.int .i64 0, .int .i64 0, .int .i64 units, .int .i64 0] 30) := (Blk.new w _ _)
  have H1B : Hid (Below w.heap.size w (w.alloc (.cells #[.int .i64 0, .int .i64 0, .int .i64 units, .int .i64 0] 30))) := (H0B.out).alloc (Nat.le_trans H0B.out.size (by simp)) _
  have L10 : Hid (w.heap.size ≤ w.heap.size) := H0B.out.size
  clear H0B 
  go_wp2_with fail
  refine (HAT.out _ H1B.out H1x.out).mono ?_
  rintro e w1 ⟨a, c, xs, ao, no, co, rfl, hm1, hb1⟩
  have H2x : Hid (Blk w1 (w.heap.size) #[.int .i64 0, .int .i64 0, .int .i64 units, .int .i64 0] 30) := H1x.out.next hb1
  have H2B : Hid (Below w.heap.size w w1) := bel_step H1B.out hb1
  clear H2x
  have HCh : Hid (Hm w1 a c xs ⟨me, 0, 1 + (pu : Int), h1, b1, 0, 0⟩) := hm1
  have H3o : Hid (Blk (w1.alloc (.cells #[.slice ao no co] 25)) (w1.heap.size) #[.slice ao no co] 25) := (Blk.new w1 _ _)
  have H3B : Hid (Below w.heap.size w (w1.alloc (.cells #[.slice ao no co] 25))) := (H2B.out).alloc (Nat.le_trans H2B.out.size (by simp)) _
  have L30 : Hid (w.heap.size ≤ w1.heap.size) := H2B.out.size
  have H3Ch : Hid (Hm (w1.alloc (.cells #[.slice ao no co] 25)) a c xs ⟨me, 0, 1 + (pu : Int), h1, b1, 0, 0⟩) := HCh.out.below ((Below.refl w1.heap.size w1).alloc (by simp) _)
  clear H1x H1B HCh H2B hb1 hm1 HAT
  clear H3o
  go_wp2_with fail
  refine (HPL.out _).mono ?_
  rintro e wl0 ⟨rfl, hwl⟩
  subst hwl
  go_wp2_with fail
  refine (HBT.out _ _ _ _ _ H3Ch.out).mono ?_
  rintro e w2 ⟨rfl, hb2⟩
  have H4B : Hid (Below w.heap.size w w2) := bel_step H3B.out hb2
  have H4Ch : Hid (Hm w2 a c xs ⟨me, 0, 1 + (pu : Int), h1, b1, 0, 0⟩) := H3Ch.out.below hb2
  unfold Mt.v Mt.cells
  simp only []
  have H5m : Hid (Blk (w2.alloc (.cells #[.int .i64 me, .int .i64 0, .int .i64 (1 + (pu : Int)), .int .i64 h1, .int .u64 (b1 : Int), .int .i64 0, .int .i64 0] 36)) (w2.heap.size) #[.int .i64 me, .int .i64 0, .int .i64 (1 + (pu : Int)), .int .i64 h1, .int .u64 (b1 : Int), .int .i64 0, .int .i64 0] 36) := (Blk.new w2 _ _)
  have H5B : Hid (Below w.heap.size w (w2.alloc (.cells #[.int .i64 me, .int .i64 0, .int .i64 (1 + (pu : Int)), .int .i64 h1, .int .u64 (b1 : Int), .int .i64 0, .int .i64 0] 36))) := (H4B.out).alloc (Nat.le_trans H4B.out.size (by simp)) _
  have L50 : Hid (w.heap.size ≤ w2.heap.size) := H4B.out.size
  have H5Ch : Hid (Hm (w2.alloc (.cells #[.int .i64 me, .int .i64 0, .int .i64 (1 + (pu : Int)), .int .i64 h1, .int .u64 (b1 : Int), .int .i64 0, .int .i64 0] 36)) a c xs ⟨me, 0, 1 + (pu : Int), h1, b1, 0, 0⟩) := H4Ch.out.below ((Below.refl w2.heap.size w2).alloc (by simp) _)
  clear H3Ch H3B H4Ch H4B hb2
  go_wp2_with fail
  refine (HTD.out _ _ _ _ H5Ch.out).mono ?_
  rintro e w3 ⟨b3, d3, wl, rfl, hg3, hw3, hb3⟩
  have H6m : Hid (Blk w3 (w2.heap.size) #[.int .i64 me, .int .i64 0, .int .i64 (1 + (pu : Int)), .int .i64 h1, .int .u64 (b1 : Int), .int .i64 0, .int .i64 0] 36) := H5m.out.next hb3
  have H6B : Hid (Below w.heap.size w w3) := bel_step H5B.out hb3
  have H6Ch : Hid (Hm w3 a c xs ⟨me, 0, 1 + (pu : Int), h1, b1, 0, 0⟩) := H5Ch.out.below hb3
  have HCg : Hid (Wg w3 b3 7 d3 wl) := hg3
  have HWI : Hid (WrIs xs ⟨me, 0, 1 + (pu : Int), h1, b1, 0, 0⟩ ⟨me, 0, 1 + (pu : Int) - bu, h1, b1, 0, 0⟩ wl) := hw3
  clear H5m H5Ch H5B hb3 hg3 hw3 HTD
  have e1 : (1 + (pu : Int) != 1 + (pu : Int)) = false := by simp
  have e2 : (bu != bu) = false := by simp
  go_upto_region 7 with fail
  have HBK : Hid (Blk w3.drew (w2.heap.size) #[.int .i64 me, .int .i64 0, .int .i64 (1 + (pu : Int)), .int .i64 h1, .int .u64 (b1 : Int), .int .i64 0, .int .i64 0] 36) := Blk.drew H6m.out 1
  refine wp_region_held_drew (S := fun v => Blk v (w2.heap.size) #[.int .i64 me, .int .i64 0, .int .i64 (1 + (pu : Int)), .int .i64 h1, .int .u64 (b1 : Int), .int .i64 0, .int .i64 0] 36) (by kernel_rfl) HBK.out (fun hHeld => ?_)
  refine take_at 0 50 (.int .i64 0) _ rfl rfl (by kernel_rfl) (by kernel_rfl) (by kernel_rfl) (fun _ _ _ h => h) (Or.inl ⟨by rfl, fun v hv => by skip; clear hv; go_simp⟩) hHeld ?_
  simp only [Act.put, List.setIfInBounds_toArray, List.set_cons_zero, List.set_cons_succ]
  refine take_at 1 51 (.bool false) _ rfl rfl (by kernel_rfl) (by kernel_rfl) (by kernel_rfl) (fun _ _ _ h => h) (Or.inl ⟨by rfl, fun v hv => by skip; clear hv; go_simp⟩) hHeld ?_
  simp only [Act.put, List.setIfInBounds_toArray, List.set_cons_zero, List.set_cons_succ]
  refine take_at 2 52 (.bool false) _ rfl rfl (by kernel_rfl) (by kernel_rfl) (by kernel_rfl) (fun _ _ _ h => h) (Or.inl ⟨by rfl, fun v hv => by skip; clear hv; go_simp⟩) hHeld ?_
  simp only [Act.put, List.setIfInBounds_toArray, List.set_cons_zero, List.set_cons_succ]
  refine take_at 3 53 (.int .i64 0) _ rfl rfl (by kernel_rfl) (by kernel_rfl) (by kernel_rfl) (fun _ _ _ h => h) (Or.inl ⟨by rfl, fun v hv => by skip; clear hv; go_simp⟩) hHeld ?_
  simp only [Act.put, List.setIfInBounds_toArray, List.set_cons_zero, List.set_cons_succ]
  refine take_at 4 54 (.bool false) _ rfl rfl (by kernel_rfl) (by kernel_rfl) (by kernel_rfl) (fun _ _ _ h => h) (Or.inl ⟨by rfl, fun v hv => by skip; clear hv; go_simp⟩) hHeld ?_
  simp only [Act.put, List.setIfInBounds_toArray, List.set_cons_zero, List.set_cons_succ]
  refine take_at 5 55 (.bool false) _ rfl rfl (by kernel_rfl) (by kernel_rfl) (by kernel_rfl) (fun _ _ _ h => h) (Or.inl ⟨by rfl, fun v hv => by skip; clear hv; go_simp⟩) hHeld ?_
  simp only [Act.put, List.setIfInBounds_toArray, List.set_cons_zero, List.set_cons_succ]
  refine take_at 6 56 (.bool false) _ rfl rfl (by kernel_rfl) (by kernel_rfl) (by kernel_rfl) (fun _ _ _ h => h) (Or.inl ⟨by rfl, fun v hv => by skip; clear hv; go_simp⟩) hHeld ?_
  simp only [Act.put, List.setIfInBounds_toArray, List.set_cons_zero, List.set_cons_succ]
  refine take_at 7 57 (.pointer (some ⟨w2.heap.size, 2, none⟩)) _ rfl rfl (by kernel_rfl) (by kernel_rfl) (by kernel_rfl) (fun _ _ _ h => h) (Or.inl ⟨by rfl, fun v hv => by skip; clear hv; go_simp⟩) hHeld ?_
  simp only [Act.put, List.setIfInBounds_toArray, List.set_cons_zero, List.set_cons_succ]
  refine take_at 8 58 (.int .i64 (1 + (pu : Int))) _ rfl rfl (by kernel_rfl) (by kernel_rfl) (by kernel_rfl) (fun _ _ _ h => h) (Or.inl ⟨by rfl, fun v hv => by have h2 := hv.cell 2; clear hv; go_simp⟩) hHeld ?_
  simp only [Act.put, List.setIfInBounds_toArray, List.set_cons_zero, List.set_cons_succ]
  refine take_at 9 59 (.int .i64 units) _ rfl rfl (by kernel_rfl) (by kernel_rfl) (by kernel_rfl) (fun _ _ _ h => h) (Or.inl ⟨by rfl, fun v hv => by skip; clear hv; go_simp⟩) hHeld ?_
  simp only [Act.put, List.setIfInBounds_toArray, List.set_cons_zero, List.set_cons_succ]
  refine call_at 10 60 (.int .i64 (pu : Int)) _ rfl rfl (by kernel_rfl) (by kernel_rfl) (by kernel_rfl) (fun _ _ _ h => h) 6 #[.int .i64 units, .int .i64 2097151] ⟨by rfl, fun v hv => by clear hv; go_simp⟩ (fun v _ => HPU.out v) hHeld ?_
  simp only [Act.put, List.setIfInBounds_toArray, List.set_cons_zero, List.set_cons_succ]
  refine take_at 11 61 (.int .i64 (1 + (pu : Int))) _ rfl rfl (by kernel_rfl) (by kernel_rfl) (by kernel_rfl) (fun _ _ _ h => h) (Or.inl ⟨by rfl, fun v hv => by skip; clear hv; go_simp⟩) hHeld ?_
  simp only [Act.put, List.setIfInBounds_toArray, List.set_cons_zero, List.set_cons_succ]
  refine take_at 12 62 (.bool false) _ rfl rfl (by kernel_rfl) (by kernel_rfl) (by kernel_rfl) (fun _ _ _ h => h) (Or.inl ⟨by rfl, fun v hv => by skip; clear hv; go_simp⟩) hHeld ?_
  simp only [Act.put, List.setIfInBounds_toArray, List.set_cons_zero, List.set_cons_succ]
  refine take_at 13 63 (.bool false) _ rfl rfl (by kernel_rfl) (by kernel_rfl) (by kernel_rfl) (fun _ _ _ h => h) (Or.inl ⟨by rfl, fun v hv => by skip; clear hv; go_simp⟩) hHeld ?_
  simp only [Act.put, List.setIfInBounds_toArray, List.set_cons_zero, List.set_cons_succ]
  refine take_at 14 64 (.bool false) _ rfl rfl (by kernel_rfl) (by kernel_rfl) (by kernel_rfl) (fun _ _ _ h => h) (Or.inl ⟨by rfl, fun v hv => by skip; clear hv; go_simp⟩) hHeld ?_
  simp only [Act.put, List.setIfInBounds_toArray, List.set_cons_zero, List.set_cons_succ]
  refine take_at 15 65 (.int .i64 bu) _ rfl rfl (by kernel_rfl) (by kernel_rfl) (by kernel_rfl) (fun _ _ _ h => h) (Or.inl ⟨by rfl, fun v hv => by skip; clear hv; go_simp⟩) hHeld ?_
  simp only [Act.put, List.setIfInBounds_toArray, List.set_cons_zero, List.set_cons_succ]
  refine take_at 16 66 (.int .i64 ld) _ rfl rfl (by kernel_rfl) (by kernel_rfl) (by kernel_rfl) (fun _ _ _ h => h) (Or.inl ⟨by rfl, fun v hv => by skip; clear hv; go_simp⟩) hHeld ?_
  simp only [Act.put, List.setIfInBounds_toArray, List.set_cons_zero, List.set_cons_succ]
  refine take_at 17 67 (.pointer (some ⟨w2.heap.size, 2, none⟩)) _ rfl rfl (by kernel_rfl) (by kernel_rfl) (by kernel_rfl) (fun _ _ _ h => h) (Or.inl ⟨by rfl, fun v hv => by skip; clear hv; go_simp⟩) hHeld ?_
  simp only [Act.put, List.setIfInBounds_toArray, List.set_cons_zero, List.set_cons_succ]
  refine take_at 18 68 (.int .i64 (1 + (pu : Int))) _ rfl rfl (by kernel_rfl) (by kernel_rfl) (by kernel_rfl) (fun _ _ _ h => h) (Or.inl ⟨by rfl, fun v hv => by have h2 := hv.cell 2; clear hv; go_simp⟩) hHeld ?_
  simp only [Act.put, List.setIfInBounds_toArray, List.set_cons_zero, List.set_cons_succ]
  refine take_at 19 69 (.int .i64 bu) _ rfl rfl (by kernel_rfl) (by kernel_rfl) (by kernel_rfl) (fun _ _ _ h => h) (Or.inl ⟨by rfl, fun v hv => by skip; clear hv; go_simp⟩) hHeld ?_
  simp only [Act.put, List.setIfInBounds_toArray, List.set_cons_zero, List.set_cons_succ]
  refine take_at 20 70 (.bool false) _ rfl rfl (by kernel_rfl) (by kernel_rfl) (by kernel_rfl) (fun _ _ _ h => h) (Or.inl ⟨by rfl, fun v hv => by skip; clear hv; go_simp⟩) hHeld ?_
  simp only [Act.put, List.setIfInBounds_toArray, List.set_cons_zero, List.set_cons_succ]
  refine take_at 21 71 (.bool false) _ rfl rfl (by kernel_rfl) (by kernel_rfl) (by kernel_rfl) (fun _ _ _ h => h) (Or.inl ⟨by rfl, fun v hv => by skip; clear hv; go_simp⟩) hHeld ?_
  simp only [Act.put, List.setIfInBounds_toArray, List.set_cons_zero, List.set_cons_succ]
  refine take_at 22 72 (.bool false) _ rfl rfl (by kernel_rfl) (by kernel_rfl) (by kernel_rfl) (fun _ _ _ h => h) (Or.inl ⟨by rfl, fun v hv => by skip; clear hv; go_simp⟩) hHeld ?_
  simp only [Act.put, List.setIfInBounds_toArray, List.set_cons_zero, List.set_cons_succ]
  refine take_at 23 73 (.slice b3 7 d3) _ rfl rfl (by kernel_rfl) (by kernel_rfl) (by kernel_rfl) (fun _ _ _ h => h) (Or.inl ⟨by rfl, fun v hv => by skip; clear hv; go_simp⟩) hHeld ?_
  simp only [Act.put, List.setIfInBounds_toArray, List.set_cons_zero, List.set_cons_succ]
  refine take_at 24 74 (.int .i64 7) _ rfl rfl (by kernel_rfl) (by kernel_rfl) (by kernel_rfl) (fun _ _ _ h => h) (Or.inl ⟨by rfl, fun v hv => by skip; clear hv; go_simp⟩) hHeld ?_
  simp only [Act.put, List.setIfInBounds_toArray, List.set_cons_zero, List.set_cons_succ]
  refine take_at 25 75 (.bool false) _ rfl rfl (by kernel_rfl) (by kernel_rfl) (by kernel_rfl) (fun _ _ _ h => h) (Or.inl ⟨by rfl, fun v hv => by skip; clear hv; go_simp⟩) hHeld ?_
  simp only [Act.put, List.setIfInBounds_toArray, List.set_cons_zero, List.set_cons_succ]
  refine take_at 26 76 (.int .i64 bu) _ rfl rfl (by kernel_rfl) (by kernel_rfl) (by kernel_rfl) (fun _ _ _ h => h) (Or.inl ⟨by rfl, fun v hv => by skip; clear hv; go_simp⟩) hHeld ?_
  simp only [Act.put, List.setIfInBounds_toArray, List.set_cons_zero, List.set_cons_succ]
  refine take_at 27 77 (.bool false) _ rfl rfl (by kernel_rfl) (by kernel_rfl) (by kernel_rfl) (fun _ _ _ h => h) (Or.inl ⟨by rfl, fun v hv => by skip; clear hv; go_simp⟩) hHeld ?_
  simp only [Act.put, List.setIfInBounds_toArray, List.set_cons_zero, List.set_cons_succ]
  refine take_at 28 78 (.bool false) _ rfl rfl (by kernel_rfl) (by kernel_rfl) (by kernel_rfl) (fun _ _ _ h => h) (Or.inl ⟨by rfl, fun v hv => by skip; clear hv; go_simp⟩) hHeld ?_
  simp only [Act.put, List.setIfInBounds_toArray, List.set_cons_zero, List.set_cons_succ]
  refine take_at 29 79 (.bool false) _ rfl rfl (by kernel_rfl) (by kernel_rfl) (by kernel_rfl) (fun _ _ _ h => h) (Or.inl ⟨by rfl, fun v hv => by skip; clear hv; go_simp⟩) hHeld ?_
  simp only [Act.put, List.setIfInBounds_toArray, List.set_cons_zero, List.set_cons_succ]
  refine wpAnyH_done (by kernel_rfl) ?_ _
  clear hHeld HBK
  have H7m : Hid (Blk w3.drew (w2.heap.size) #[.int .i64 me, .int .i64 0, .int .i64 (1 + (pu : Int)), .int .i64 h1, .int .u64 (b1 : Int), .int .i64 0, .int .i64 0] 36) := Blk.drew H6m.out 1
  have H7B : Hid (Below w.heap.size w w3.drew) := H6B.out.drew
  have H7Ch : Hid (Hm w3.drew a c xs ⟨me, 0, 1 + (pu : Int), h1, b1, 0, 0⟩) := H6Ch.out.below (Below.refl _ _).drew
  have H7Cg : Hid (Wg w3.drew b3 7 d3 wl) := HCg.out.below (Below.refl _ _).drew
  clear H6m H6Ch HCg H6B
  generalize w3.drew = WD at *
  clear e1 e2 e4
  have HAQ : Hid (Calls Tryd.prog 9 #[.slice a 12 c, .slice b3 7 d3, .int .i64 (q : Int)] WD fun e w' => ∃ a' c' xs', e = .returned (.tuple #[.slice a' 12 c', .int .i64 0]) ∧ (q = 7 → Hm w' a' c' xs' ⟨me, 0, 1 + (pu : Int) - bu, h1, b1, 0, 0⟩) ∧ (q < 7 → Hm w' a' c' xs' ⟨me, 0, 1 + (pu : Int), h1, b1, 0, 0⟩) ∧ Below WD.heap.size WD w') := HAP.out WD a c xs b3 d3 wl q H7Ch.out H7Cg.out HWI.out HQ7.out
  clear H7Ch H7Cg HWI
  go_wp2_with fail
  refine (HPK.out _).mono ?_
  rintro e wq ⟨rfl, hwq⟩
  subst hwq
  go_wp2_with fail
  refine HAQ.out.mono ?_
  rintro e w10 ⟨a10, c10, xs10, rfl, hA, hB, hb10⟩
  have H8m : Hid (Blk w10 (w2.heap.size) #[.int .i64 me, .int .i64 0, .int .i64 (1 + (pu : Int)), .int .i64 h1, .int .u64 (b1 : Int), .int .i64 0, .int .i64 0] 36) := H7m.out.next hb10
  have H8B : Hid (Below w.heap.size w w10) := bel_step H7B.out hb10
  clear H7m H7B hb10 HAQ
  have hqq := HQ7.out
  by_cases hq : q < 7
  · have HH : Hid (Hm w10 a10 c10 xs10 ⟨me, 0, 1 + (pu : Int), h1, b1, 0, 0⟩) := hB hq
    have hdq : ((q : Int) == 7) = false := by simp; omega
    have e5 : ((1 + (pu : Int)) == (1 + (pu : Int))) = true := by simp
    have hqm : ∀ W : World, (Op.equalIn 10000 34 (.agg #[.int .i64 h1, .int .u64 (b1 : Int)]) (.agg #[.int .i64 h1, .int .u64 (b1 : Int)])).run Tryd.prog W = .ok true W := fun W => eqWd 9998 _ _ W
    clear hA hB hq hqq
    go_wp2_with fail
    refine (HBT.out _ _ _ _ _ HH.out).mono ?_
    rintro e w11 ⟨rfl, hb11⟩
    have H9m : Hid (Blk w11 (w2.heap.size) #[.int .i64 me, .int .i64 0, .int .i64 (1 + (pu : Int)), .int .i64 h1, .int .u64 (b1 : Int), .int .i64 0, .int .i64 0] 36) := H8m.out.next hb11
    have H9B : Hid (Below w.heap.size w w11) := bel_step H8B.out hb11
    unfold Mt.v Mt.cells
    simp only []
    have H10m : Hid (Blk (w11.alloc (.cells #[.int .i64 me, .int .i64 0, .int .i64 (1 + (pu : Int)), .int .i64 h1, .int .u64 (b1 : Int), .int .i64 0, .int .i64 0] 36)) (w2.heap.size) #[.int .i64 me, .int .i64 0, .int .i64 (1 + (pu : Int)), .int .i64 h1, .int .u64 (b1 : Int), .int .i64 0, .int .i64 0] 36) := (H9m.out).alloc _
    have H10z : Hid (Blk (w11.alloc (.cells #[.int .i64 me, .int .i64 0, .int .i64 (1 + (pu : Int)), .int .i64 h1, .int .u64 (b1 : Int), .int .i64 0, .int .i64 0] 36)) (w11.heap.size) #[.int .i64 me, .int .i64 0, .int .i64 (1 + (pu : Int)), .int .i64 h1, .int .u64 (b1 : Int), .int .i64 0, .int .i64 0] 36) := (Blk.new w11 _ _)
    have L10zm : Hid (w2.heap.size < w11.heap.size) := Nat.lt_of_lt_of_le H9m.out.lt (by simp)
    have H10B : Hid (Below w.heap.size w (w11.alloc (.cells #[.int .i64 me, .int .i64 0, .int .i64 (1 + (pu : Int)), .int .i64 h1, .int .u64 (b1 : Int), .int .i64 0, .int .i64 0] 36))) := (H9B.out).alloc (Nat.le_trans H9B.out.size (by simp)) _
    have L100 : Hid (w.heap.size ≤ w11.heap.size) := H9B.out.size
    clear H8m H8B H9m H9B hb11 HH HBT
    have q_m_2 : (w11.alloc (.cells #[.int .i64 me, .int .i64 0, .int .i64 (1 + (pu : Int)), .int .i64 h1, .int .u64 (b1 : Int), .int .i64 0, .int .i64 0] 36)).cell? ⟨w2.heap.size, 2, none⟩ = some (.int .i64 (1 + (pu : Int))) := H10m.out.cell 2
    have q_m_3 : (w11.alloc (.cells #[.int .i64 me, .int .i64 0, .int .i64 (1 + (pu : Int)), .int .i64 h1, .int .u64 (b1 : Int), .int .i64 0, .int .i64 0] 36)).cell? ⟨w2.heap.size, 3, none⟩ = some (.int .i64 h1) := H10m.out.cell 3
    have q_m_4 : (w11.alloc (.cells #[.int .i64 me, .int .i64 0, .int .i64 (1 + (pu : Int)), .int .i64 h1, .int .u64 (b1 : Int), .int .i64 0, .int .i64 0] 36)).cell? ⟨w2.heap.size, 4, none⟩ = some (.int .u64 (b1 : Int)) := H10m.out.cell 4
    have q_z_2 : (w11.alloc (.cells #[.int .i64 me, .int .i64 0, .int .i64 (1 + (pu : Int)), .int .i64 h1, .int .u64 (b1 : Int), .int .i64 0, .int .i64 0] 36)).cell? ⟨w11.heap.size, 2, none⟩ = some (.int .i64 (1 + (pu : Int))) := H10z.out.cell 2
    have q_z_3 : (w11.alloc (.cells #[.int .i64 me, .int .i64 0, .int .i64 (1 + (pu : Int)), .int .i64 h1, .int .u64 (b1 : Int), .int .i64 0, .int .i64 0] 36)).cell? ⟨w11.heap.size, 3, none⟩ = some (.int .i64 h1) := H10z.out.cell 3
    have q_z_4 : (w11.alloc (.cells #[.int .i64 me, .int .i64 0, .int .i64 (1 + (pu : Int)), .int .i64 h1, .int .u64 (b1 : Int), .int .i64 0, .int .i64 0] 36)).cell? ⟨w11.heap.size, 4, none⟩ = some (.int .u64 (b1 : Int)) := H10z.out.cell 4
    go_wp2_with (first
      | (refine wp_whole rfl 36 _ rfl (w2.heap.size) rfl 36 #[.int .i64 me, .int .i64 0, .int .i64 (1 + (pu : Int)), .int .i64 h1, .int .u64 (b1 : Int), .int .i64 0, .int .i64 0] _ H10m.out Tryd.underlying36 rfl (by kernel_rfl) ?_)
      | (refine wp_wholeG (by rfl) 36 _ rfl (w2.heap.size) rfl 36 #[.int .i64 me, .int .i64 0, .int .i64 (1 + (pu : Int)), .int .i64 h1, .int .u64 (b1 : Int), .int .i64 0, .int .i64 0] _ H10m.out Tryd.underlying36 rfl (by kernel_rfl) ?_)
      | (refine wp_whole rfl 36 _ rfl (w11.heap.size) rfl 36 #[.int .i64 me, .int .i64 0, .int .i64 (1 + (pu : Int)), .int .i64 h1, .int .u64 (b1 : Int), .int .i64 0, .int .i64 0] _ H10z.out Tryd.underlying36 rfl (by kernel_rfl) ?_)
      | (refine wp_wholeG (by rfl) 36 _ rfl (w11.heap.size) rfl 36 #[.int .i64 me, .int .i64 0, .int .i64 (1 + (pu : Int)), .int .i64 h1, .int .u64 (b1 : Int), .int .i64 0, .int .i64 0] _ H10z.out Tryd.underlying36 rfl (by kernel_rfl) ?_)
      | fail)
    go_ret
    exact ⟨rfl, H10B.out⟩
  · have HH : Hid (Hm w10 a10 c10 xs10 ⟨me, 0, 1 + (pu : Int) - bu, h1, b1, 0, 0⟩) := hA (by omega)
    have hdq : ((q : Int) == 7) = true := by simp; omega
    have e5 : ((1 + (pu : Int) - bu) == (1 + (pu : Int) - bu)) = true := by simp
    have hqm : ∀ W : World, (Op.equalIn 10000 34 (.agg #[.int .i64 h1, .int .u64 (b1 : Int)]) (.agg #[.int .i64 h1, .int .u64 (b1 : Int)])).run Tryd.prog W = .ok true W := fun W => eqWd 9998 _ _ W
    clear hA hB hq hqq
    go_wp2_with fail
    refine (HBT.out _ _ _ _ _ HH.out).mono ?_
    rintro e w11 ⟨rfl, hb11⟩
    have H9m : Hid (Blk w11 (w2.heap.size) #[.int .i64 me, .int .i64 0, .int .i64 (1 + (pu : Int)), .int .i64 h1, .int .u64 (b1 : Int), .int .i64 0, .int .i64 0] 36) := H8m.out.next hb11
    have H9B : Hid (Below w.heap.size w w11) := bel_step H8B.out hb11
    unfold Mt.v Mt.cells
    simp only []
    have H10m : Hid (Blk (w11.alloc (.cells #[.int .i64 me, .int .i64 0, .int .i64 (1 + (pu : Int) - bu), .int .i64 h1, .int .u64 (b1 : Int), .int .i64 0, .int .i64 0] 36)) (w2.heap.size) #[.int .i64 me, .int .i64 0, .int .i64 (1 + (pu : Int)), .int .i64 h1, .int .u64 (b1 : Int), .int .i64 0, .int .i64 0] 36) := (H9m.out).alloc _
    have H10z : Hid (Blk (w11.alloc (.cells #[.int .i64 me, .int .i64 0, .int .i64 (1 + (pu : Int) - bu), .int .i64 h1, .int .u64 (b1 : Int), .int .i64 0, .int .i64 0] 36)) (w11.heap.size) #[.int .i64 me, .int .i64 0, .int .i64 (1 + (pu : Int) - bu), .int .i64 h1, .int .u64 (b1 : Int), .int .i64 0, .int .i64 0] 36) := (Blk.new w11 _ _)
    have L10zm : Hid (w2.heap.size < w11.heap.size) := Nat.lt_of_lt_of_le H9m.out.lt (by simp)
    have H10B : Hid (Below w.heap.size w (w11.alloc (.cells #[.int .i64 me, .int .i64 0, .int .i64 (1 + (pu : Int) - bu), .int .i64 h1, .int .u64 (b1 : Int), .int .i64 0, .int .i64 0] 36))) := (H9B.out).alloc (Nat.le_trans H9B.out.size (by simp)) _
    have L100 : Hid (w.heap.size ≤ w11.heap.size) := H9B.out.size
    clear H8m H8B H9m H9B hb11 HH HBT
    have q_m_2 : (w11.alloc (.cells #[.int .i64 me, .int .i64 0, .int .i64 (1 + (pu : Int) - bu), .int .i64 h1, .int .u64 (b1 : Int), .int .i64 0, .int .i64 0] 36)).cell? ⟨w2.heap.size, 2, none⟩ = some (.int .i64 (1 + (pu : Int))) := H10m.out.cell 2
    have q_m_3 : (w11.alloc (.cells #[.int .i64 me, .int .i64 0, .int .i64 (1 + (pu : Int) - bu), .int .i64 h1, .int .u64 (b1 : Int), .int .i64 0, .int .i64 0] 36)).cell? ⟨w2.heap.size, 3, none⟩ = some (.int .i64 h1) := H10m.out.cell 3
    have q_m_4 : (w11.alloc (.cells #[.int .i64 me, .int .i64 0, .int .i64 (1 + (pu : Int) - bu), .int .i64 h1, .int .u64 (b1 : Int), .int .i64 0, .int .i64 0] 36)).cell? ⟨w2.heap.size, 4, none⟩ = some (.int .u64 (b1 : Int)) := H10m.out.cell 4
    have q_z_2 : (w11.alloc (.cells #[.int .i64 me, .int .i64 0, .int .i64 (1 + (pu : Int) - bu), .int .i64 h1, .int .u64 (b1 : Int), .int .i64 0, .int .i64 0] 36)).cell? ⟨w11.heap.size, 2, none⟩ = some (.int .i64 (1 + (pu : Int) - bu)) := H10z.out.cell 2
    have q_z_3 : (w11.alloc (.cells #[.int .i64 me, .int .i64 0, .int .i64 (1 + (pu : Int) - bu), .int .i64 h1, .int .u64 (b1 : Int), .int .i64 0, .int .i64 0] 36)).cell? ⟨w11.heap.size, 3, none⟩ = some (.int .i64 h1) := H10z.out.cell 3
    have q_z_4 : (w11.alloc (.cells #[.int .i64 me, .int .i64 0, .int .i64 (1 + (pu : Int) - bu), .int .i64 h1, .int .u64 (b1 : Int), .int .i64 0, .int .i64 0] 36)).cell? ⟨w11.heap.size, 4, none⟩ = some (.int .u64 (b1 : Int)) := H10z.out.cell 4
    go_wp2_with (first
      | (refine wp_whole rfl 36 _ rfl (w2.heap.size) rfl 36 #[.int .i64 me, .int .i64 0, .int .i64 (1 + (pu : Int)), .int .i64 h1, .int .u64 (b1 : Int), .int .i64 0, .int .i64 0] _ H10m.out Tryd.underlying36 rfl (by kernel_rfl) ?_)
      | (refine wp_wholeG (by rfl) 36 _ rfl (w2.heap.size) rfl 36 #[.int .i64 me, .int .i64 0, .int .i64 (1 + (pu : Int)), .int .i64 h1, .int .u64 (b1 : Int), .int .i64 0, .int .i64 0] _ H10m.out Tryd.underlying36 rfl (by kernel_rfl) ?_)
      | (refine wp_whole rfl 36 _ rfl (w11.heap.size) rfl 36 #[.int .i64 me, .int .i64 0, .int .i64 (1 + (pu : Int) - bu), .int .i64 h1, .int .u64 (b1 : Int), .int .i64 0, .int .i64 0] _ H10z.out Tryd.underlying36 rfl (by kernel_rfl) ?_)
      | (refine wp_wholeG (by rfl) 36 _ rfl (w11.heap.size) rfl 36 #[.int .i64 me, .int .i64 0, .int .i64 (1 + (pu : Int) - bu), .int .i64 h1, .int .u64 (b1 : Int), .int .i64 0, .int .i64 0] _ H10z.out Tryd.underlying36 rfl (by kernel_rfl) ?_)
      | fail)
    go_ret
    exact ⟨rfl, H10B.out⟩
set_option maxHeartbeats 8000000 in
theorem burns_B2 (me0 me units load k0 ld bu h1 : Int) (b1 pu q : Nat) (w : World) (hq : q ≤ 7) (hpu : pu < 2097151) (hl0 : 0 ≤ ld) (hl1 : ld ≤ 1000) (hld : 0 < ld) (hlc : ¬ 1 + (pu : Int) < ld) (hbu : bu = ld)
    (hp : ∀ W, Calls Tryd.prog 6 #[.int .i64 me0, .int .i64 50] W fun e w' => e = .returned (.int .i64 me) ∧ w' = W)
    (hpl : ∀ W, Calls Tryd.prog 6 #[.int .i64 load, .int .i64 1001] W fun e w' => e = .returned (.int .i64 ld) ∧ w' = W)
    (hpu : ∀ W, Calls Tryd.prog 6 #[.int .i64 units, .int .i64 2097151] W fun e w' => e = .returned (.int .i64 (pu : Int)) ∧ w' = W)
    (hpk : ∀ W, Calls Tryd.prog 6 #[.int .i64 k0, .int .i64 8] W fun e w' => e = .returned (.int .i64 (q : Int)) ∧ w' = W)
    (hat : ∀ W, Below w.heap.size w W → Blk W w.heap.size #[.int .i64 0, .int .i64 0, .int .i64 units, .int .i64 0] 30 → Calls Tryd.prog 5 #[.int .i64 me, .slice (some ⟨w.heap.size, 0, none⟩) 1 1] W fun e w' => ∃ a c xs ao no co, e = .returned (.tuple #[.slice a 12 c, .agg #[.slice ao no co], .bool true]) ∧ Hm w' a c xs ⟨me, 0, 1 + (pu : Int), h1, b1, 0, 0⟩ ∧ Below W.heap.size W w')
    (hbt : ∀ W a c xs m, Hm W a c xs m → Calls Tryd.prog 7 #[.slice a 12 c] W fun e w' => e = .returned (.tuple #[m.v, .int .i64 0]) ∧ Below W.heap.size W w')
    (htd : ∀ W a c xs, Hm W a c xs ⟨me, 0, 1 + (pu : Int), h1, b1, 0, 0⟩ → Calls Tryd.prog 8 #[.slice a 12 c, .int .i64 ld] W fun e w' => ∃ b d wl, e = .returned (.tuple #[.slice b 7 d, .int .i64 bu, .int .i64 0]) ∧ Wg w' b 7 d wl ∧ WrIs xs ⟨me, 0, 1 + (pu : Int), h1, b1, 0, 0⟩ ⟨me, 0, 1 + (pu : Int) - bu, h1, b1, 0, 0⟩ wl ∧ Below W.heap.size W w')
    (hap : ∀ W a c xs b d wl (q : Nat), Hm W a c xs ⟨me, 0, 1 + (pu : Int), h1, b1, 0, 0⟩ → Wg W b 7 d wl → WrIs xs ⟨me, 0, 1 + (pu : Int), h1, b1, 0, 0⟩ ⟨me, 0, 1 + (pu : Int) - bu, h1, b1, 0, 0⟩ wl → q ≤ 7 → Calls Tryd.prog 9 #[.slice a 12 c, .slice b 7 d, .int .i64 (q : Int)] W fun e w' => ∃ a' c' xs', e = .returned (.tuple #[.slice a' 12 c', .int .i64 0]) ∧ (q = 7 → Hm w' a' c' xs' ⟨me, 0, 1 + (pu : Int) - bu, h1, b1, 0, 0⟩) ∧ (q < 7 → Hm w' a' c' xs' ⟨me, 0, 1 + (pu : Int), h1, b1, 0, 0⟩) ∧ Below W.heap.size W w')
    : Calls Tryd.prog 3 #[.int .i64 me0, .int .i64 units, .int .i64 load, .int .i64 k0] w fun e w' => e = .returned (.bool true) ∧ Below w.heap.size w w' := by
  have HP : Hid (∀ W, Calls Tryd.prog 6 #[.int .i64 me0, .int .i64 50] W fun e w' => e = .returned (.int .i64 me) ∧ w' = W) := hp
  have HPL : Hid (∀ W, Calls Tryd.prog 6 #[.int .i64 load, .int .i64 1001] W fun e w' => e = .returned (.int .i64 ld) ∧ w' = W) := hpl
  have HPU : Hid (∀ W, Calls Tryd.prog 6 #[.int .i64 units, .int .i64 2097151] W fun e w' => e = .returned (.int .i64 (pu : Int)) ∧ w' = W) := hpu
  have HPK : Hid (∀ W, Calls Tryd.prog 6 #[.int .i64 k0, .int .i64 8] W fun e w' => e = .returned (.int .i64 (q : Int)) ∧ w' = W) := hpk
  have HAT : Hid (∀ W, Below w.heap.size w W → Blk W w.heap.size #[.int .i64 0, .int .i64 0, .int .i64 units, .int .i64 0] 30 → Calls Tryd.prog 5 #[.int .i64 me, .slice (some ⟨w.heap.size, 0, none⟩) 1 1] W fun e w' => ∃ a c xs ao no co, e = .returned (.tuple #[.slice a 12 c, .agg #[.slice ao no co], .bool true]) ∧ Hm w' a c xs ⟨me, 0, 1 + (pu : Int), h1, b1, 0, 0⟩ ∧ Below W.heap.size W w') := hat
  have HBT : Hid (∀ W a c xs m, Hm W a c xs m → Calls Tryd.prog 7 #[.slice a 12 c] W fun e w' => e = .returned (.tuple #[m.v, .int .i64 0]) ∧ Below W.heap.size W w') := hbt
  have HTD : Hid (∀ W a c xs, Hm W a c xs ⟨me, 0, 1 + (pu : Int), h1, b1, 0, 0⟩ → Calls Tryd.prog 8 #[.slice a 12 c, .int .i64 ld] W fun e w' => ∃ b d wl, e = .returned (.tuple #[.slice b 7 d, .int .i64 bu, .int .i64 0]) ∧ Wg w' b 7 d wl ∧ WrIs xs ⟨me, 0, 1 + (pu : Int), h1, b1, 0, 0⟩ ⟨me, 0, 1 + (pu : Int) - bu, h1, b1, 0, 0⟩ wl ∧ Below W.heap.size W w') := htd
  have HAP : Hid (∀ W a c xs b d wl (q : Nat), Hm W a c xs ⟨me, 0, 1 + (pu : Int), h1, b1, 0, 0⟩ → Wg W b 7 d wl → WrIs xs ⟨me, 0, 1 + (pu : Int), h1, b1, 0, 0⟩ ⟨me, 0, 1 + (pu : Int) - bu, h1, b1, 0, 0⟩ wl → q ≤ 7 → Calls Tryd.prog 9 #[.slice a 12 c, .slice b 7 d, .int .i64 (q : Int)] W fun e w' => ∃ a' c' xs', e = .returned (.tuple #[.slice a' 12 c', .int .i64 0]) ∧ (q = 7 → Hm w' a' c' xs' ⟨me, 0, 1 + (pu : Int) - bu, h1, b1, 0, 0⟩) ∧ (q < 7 → Hm w' a' c' xs' ⟨me, 0, 1 + (pu : Int), h1, b1, 0, 0⟩) ∧ Below W.heap.size W w') := hap
  have HQ7 : Hid (q ≤ 7) := hq
  have hwr : IntKind.i64.wrap (1 + (pu : Int)) = 1 + (pu : Int) := wrap_small (by omega) (by omega)
  have e4 : (bu == 0) = false := by simp; omega
  have hb0 : 0 < bu := by omega
  have hb1 : bu ≤ 1 + (pu : Int) := by omega
  have hmn : min ld (1 + (pu : Int)) = bu := by omega
  clear hbu hlc hld
  clear hq hp hpl hpu hpk hat hbt htd hap
  have H0B : Hid (Below w.heap.size w w) := Below.refl _ _
  go_enter Tryd.func3, Tryd.ntmps3
  go_wp2_with fail
  refine (HP.out _).mono ?_
  rintro e w0 ⟨rfl, hw0⟩
  have hw1 := hw0.symm
  subst hw1
  clear hw0
  have H1x : Hid (Blk (w.alloc (.cells #[.int .i64 0, .int .i64 0, .int .i64 units, .int .i64 0] 30)) (w.heap.size) #[.int .i64 0, .int .i64 0, .int .i64 units, .int .i64 0] 30) := (Blk.new w _ _)
  have H1B : Hid (Below w.heap.size w (w.alloc (.cells #[.int .i64 0, .int .i64 0, .int .i64 units, .int .i64 0] 30))) := (H0B.out).alloc (Nat.le_trans H0B.out.size (by simp)) _
  have L10 : Hid (w.heap.size ≤ w.heap.size) := H0B.out.size
  clear H0B 
  go_wp2_with fail
  refine (HAT.out _ H1B.out H1x.out).mono ?_
  rintro e w1 ⟨a, c, xs, ao, no, co, rfl, hm1, hb1⟩
  have H2x : Hid (Blk w1 (w.heap.size) #[.int .i64 0, .int .i64 0, .int .i64 units, .int .i64 0] 30) := H1x.out.next hb1
  have H2B : Hid (Below w.heap.size w w1) := bel_step H1B.out hb1
  clear H2x
  have HCh : Hid (Hm w1 a c xs ⟨me, 0, 1 + (pu : Int), h1, b1, 0, 0⟩) := hm1
  have H3o : Hid (Blk (w1.alloc (.cells #[.slice ao no co] 25)) (w1.heap.size) #[.slice ao no co] 25) := (Blk.new w1 _ _)
  have H3B : Hid (Below w.heap.size w (w1.alloc (.cells #[.slice ao no co] 25))) := (H2B.out).alloc (Nat.le_trans H2B.out.size (by simp)) _
  have L30 : Hid (w.heap.size ≤ w1.heap.size) := H2B.out.size
  have H3Ch : Hid (Hm (w1.alloc (.cells #[.slice ao no co] 25)) a c xs ⟨me, 0, 1 + (pu : Int), h1, b1, 0, 0⟩) := HCh.out.below ((Below.refl w1.heap.size w1).alloc (by simp) _)
  clear H1x H1B HCh H2B hb1 hm1 HAT
  clear H3o
  go_wp2_with fail
  refine (HPL.out _).mono ?_
  rintro e wl0 ⟨rfl, hwl⟩
  subst hwl
  go_wp2_with fail
  refine (HBT.out _ _ _ _ _ H3Ch.out).mono ?_
  rintro e w2 ⟨rfl, hb2⟩
  have H4B : Hid (Below w.heap.size w w2) := bel_step H3B.out hb2
  have H4Ch : Hid (Hm w2 a c xs ⟨me, 0, 1 + (pu : Int), h1, b1, 0, 0⟩) := H3Ch.out.below hb2
  unfold Mt.v Mt.cells
  simp only []
  have H5m : Hid (Blk (w2.alloc (.cells #[.int .i64 me, .int .i64 0, .int .i64 (1 + (pu : Int)), .int .i64 h1, .int .u64 (b1 : Int), .int .i64 0, .int .i64 0] 36)) (w2.heap.size) #[.int .i64 me, .int .i64 0, .int .i64 (1 + (pu : Int)), .int .i64 h1, .int .u64 (b1 : Int), .int .i64 0, .int .i64 0] 36) := (Blk.new w2 _ _)
  have H5B : Hid (Below w.heap.size w (w2.alloc (.cells #[.int .i64 me, .int .i64 0, .int .i64 (1 + (pu : Int)), .int .i64 h1, .int .u64 (b1 : Int), .int .i64 0, .int .i64 0] 36))) := (H4B.out).alloc (Nat.le_trans H4B.out.size (by simp)) _
  have L50 : Hid (w.heap.size ≤ w2.heap.size) := H4B.out.size
  have H5Ch : Hid (Hm (w2.alloc (.cells #[.int .i64 me, .int .i64 0, .int .i64 (1 + (pu : Int)), .int .i64 h1, .int .u64 (b1 : Int), .int .i64 0, .int .i64 0] 36)) a c xs ⟨me, 0, 1 + (pu : Int), h1, b1, 0, 0⟩) := H4Ch.out.below ((Below.refl w2.heap.size w2).alloc (by simp) _)
  clear H3Ch H3B H4Ch H4B hb2
  go_wp2_with fail
  refine (HTD.out _ _ _ _ H5Ch.out).mono ?_
  rintro e w3 ⟨b3, d3, wl, rfl, hg3, hw3, hb3⟩
  have H6m : Hid (Blk w3 (w2.heap.size) #[.int .i64 me, .int .i64 0, .int .i64 (1 + (pu : Int)), .int .i64 h1, .int .u64 (b1 : Int), .int .i64 0, .int .i64 0] 36) := H5m.out.next hb3
  have H6B : Hid (Below w.heap.size w w3) := bel_step H5B.out hb3
  have H6Ch : Hid (Hm w3 a c xs ⟨me, 0, 1 + (pu : Int), h1, b1, 0, 0⟩) := H5Ch.out.below hb3
  have HCg : Hid (Wg w3 b3 7 d3 wl) := hg3
  have HWI : Hid (WrIs xs ⟨me, 0, 1 + (pu : Int), h1, b1, 0, 0⟩ ⟨me, 0, 1 + (pu : Int) - bu, h1, b1, 0, 0⟩ wl) := hw3
  clear H5m H5Ch H5B hb3 hg3 hw3 HTD
  have e1 : (1 + (pu : Int) != 1 + (pu : Int)) = false := by simp
  have e2 : (bu != bu) = false := by simp
  go_upto_region 7 with fail
  have HBK : Hid (Blk w3.drew (w2.heap.size) #[.int .i64 me, .int .i64 0, .int .i64 (1 + (pu : Int)), .int .i64 h1, .int .u64 (b1 : Int), .int .i64 0, .int .i64 0] 36) := Blk.drew H6m.out 1
  refine wp_region_held_drew (S := fun v => Blk v (w2.heap.size) #[.int .i64 me, .int .i64 0, .int .i64 (1 + (pu : Int)), .int .i64 h1, .int .u64 (b1 : Int), .int .i64 0, .int .i64 0] 36) (by kernel_rfl) HBK.out (fun hHeld => ?_)
  refine take_at 0 50 (.int .i64 0) _ rfl rfl (by kernel_rfl) (by kernel_rfl) (by kernel_rfl) (fun _ _ _ h => h) (Or.inl ⟨by rfl, fun v hv => by skip; clear hv; go_simp⟩) hHeld ?_
  simp only [Act.put, List.setIfInBounds_toArray, List.set_cons_zero, List.set_cons_succ]
  refine take_at 1 51 (.bool false) _ rfl rfl (by kernel_rfl) (by kernel_rfl) (by kernel_rfl) (fun _ _ _ h => h) (Or.inl ⟨by rfl, fun v hv => by skip; clear hv; go_simp⟩) hHeld ?_
  simp only [Act.put, List.setIfInBounds_toArray, List.set_cons_zero, List.set_cons_succ]
  refine take_at 2 52 (.bool false) _ rfl rfl (by kernel_rfl) (by kernel_rfl) (by kernel_rfl) (fun _ _ _ h => h) (Or.inl ⟨by rfl, fun v hv => by skip; clear hv; go_simp⟩) hHeld ?_
  simp only [Act.put, List.setIfInBounds_toArray, List.set_cons_zero, List.set_cons_succ]
  refine take_at 3 53 (.int .i64 0) _ rfl rfl (by kernel_rfl) (by kernel_rfl) (by kernel_rfl) (fun _ _ _ h => h) (Or.inl ⟨by rfl, fun v hv => by skip; clear hv; go_simp⟩) hHeld ?_
  simp only [Act.put, List.setIfInBounds_toArray, List.set_cons_zero, List.set_cons_succ]
  refine take_at 4 54 (.bool false) _ rfl rfl (by kernel_rfl) (by kernel_rfl) (by kernel_rfl) (fun _ _ _ h => h) (Or.inl ⟨by rfl, fun v hv => by skip; clear hv; go_simp⟩) hHeld ?_
  simp only [Act.put, List.setIfInBounds_toArray, List.set_cons_zero, List.set_cons_succ]
  refine take_at 5 55 (.bool false) _ rfl rfl (by kernel_rfl) (by kernel_rfl) (by kernel_rfl) (fun _ _ _ h => h) (Or.inl ⟨by rfl, fun v hv => by skip; clear hv; go_simp⟩) hHeld ?_
  simp only [Act.put, List.setIfInBounds_toArray, List.set_cons_zero, List.set_cons_succ]
  refine take_at 6 56 (.bool false) _ rfl rfl (by kernel_rfl) (by kernel_rfl) (by kernel_rfl) (fun _ _ _ h => h) (Or.inl ⟨by rfl, fun v hv => by skip; clear hv; go_simp⟩) hHeld ?_
  simp only [Act.put, List.setIfInBounds_toArray, List.set_cons_zero, List.set_cons_succ]
  refine take_at 7 57 (.pointer (some ⟨w2.heap.size, 2, none⟩)) _ rfl rfl (by kernel_rfl) (by kernel_rfl) (by kernel_rfl) (fun _ _ _ h => h) (Or.inl ⟨by rfl, fun v hv => by skip; clear hv; go_simp⟩) hHeld ?_
  simp only [Act.put, List.setIfInBounds_toArray, List.set_cons_zero, List.set_cons_succ]
  refine take_at 8 58 (.int .i64 (1 + (pu : Int))) _ rfl rfl (by kernel_rfl) (by kernel_rfl) (by kernel_rfl) (fun _ _ _ h => h) (Or.inl ⟨by rfl, fun v hv => by have h2 := hv.cell 2; clear hv; go_simp⟩) hHeld ?_
  simp only [Act.put, List.setIfInBounds_toArray, List.set_cons_zero, List.set_cons_succ]
  refine take_at 9 59 (.int .i64 units) _ rfl rfl (by kernel_rfl) (by kernel_rfl) (by kernel_rfl) (fun _ _ _ h => h) (Or.inl ⟨by rfl, fun v hv => by skip; clear hv; go_simp⟩) hHeld ?_
  simp only [Act.put, List.setIfInBounds_toArray, List.set_cons_zero, List.set_cons_succ]
  refine call_at 10 60 (.int .i64 (pu : Int)) _ rfl rfl (by kernel_rfl) (by kernel_rfl) (by kernel_rfl) (fun _ _ _ h => h) 6 #[.int .i64 units, .int .i64 2097151] ⟨by rfl, fun v hv => by clear hv; go_simp⟩ (fun v _ => HPU.out v) hHeld ?_
  simp only [Act.put, List.setIfInBounds_toArray, List.set_cons_zero, List.set_cons_succ]
  refine take_at 11 61 (.int .i64 (1 + (pu : Int))) _ rfl rfl (by kernel_rfl) (by kernel_rfl) (by kernel_rfl) (fun _ _ _ h => h) (Or.inl ⟨by rfl, fun v hv => by skip; clear hv; go_simp⟩) hHeld ?_
  simp only [Act.put, List.setIfInBounds_toArray, List.set_cons_zero, List.set_cons_succ]
  refine take_at 12 62 (.bool false) _ rfl rfl (by kernel_rfl) (by kernel_rfl) (by kernel_rfl) (fun _ _ _ h => h) (Or.inl ⟨by rfl, fun v hv => by skip; clear hv; go_simp⟩) hHeld ?_
  simp only [Act.put, List.setIfInBounds_toArray, List.set_cons_zero, List.set_cons_succ]
  refine take_at 13 63 (.bool false) _ rfl rfl (by kernel_rfl) (by kernel_rfl) (by kernel_rfl) (fun _ _ _ h => h) (Or.inl ⟨by rfl, fun v hv => by skip; clear hv; go_simp⟩) hHeld ?_
  simp only [Act.put, List.setIfInBounds_toArray, List.set_cons_zero, List.set_cons_succ]
  refine take_at 14 64 (.bool false) _ rfl rfl (by kernel_rfl) (by kernel_rfl) (by kernel_rfl) (fun _ _ _ h => h) (Or.inl ⟨by rfl, fun v hv => by skip; clear hv; go_simp⟩) hHeld ?_
  simp only [Act.put, List.setIfInBounds_toArray, List.set_cons_zero, List.set_cons_succ]
  refine take_at 15 65 (.int .i64 bu) _ rfl rfl (by kernel_rfl) (by kernel_rfl) (by kernel_rfl) (fun _ _ _ h => h) (Or.inl ⟨by rfl, fun v hv => by skip; clear hv; go_simp⟩) hHeld ?_
  simp only [Act.put, List.setIfInBounds_toArray, List.set_cons_zero, List.set_cons_succ]
  refine take_at 16 66 (.int .i64 ld) _ rfl rfl (by kernel_rfl) (by kernel_rfl) (by kernel_rfl) (fun _ _ _ h => h) (Or.inl ⟨by rfl, fun v hv => by skip; clear hv; go_simp⟩) hHeld ?_
  simp only [Act.put, List.setIfInBounds_toArray, List.set_cons_zero, List.set_cons_succ]
  refine take_at 17 67 (.pointer (some ⟨w2.heap.size, 2, none⟩)) _ rfl rfl (by kernel_rfl) (by kernel_rfl) (by kernel_rfl) (fun _ _ _ h => h) (Or.inl ⟨by rfl, fun v hv => by skip; clear hv; go_simp⟩) hHeld ?_
  simp only [Act.put, List.setIfInBounds_toArray, List.set_cons_zero, List.set_cons_succ]
  refine take_at 18 68 (.int .i64 (1 + (pu : Int))) _ rfl rfl (by kernel_rfl) (by kernel_rfl) (by kernel_rfl) (fun _ _ _ h => h) (Or.inl ⟨by rfl, fun v hv => by have h2 := hv.cell 2; clear hv; go_simp⟩) hHeld ?_
  simp only [Act.put, List.setIfInBounds_toArray, List.set_cons_zero, List.set_cons_succ]
  refine take_at 19 69 (.int .i64 bu) _ rfl rfl (by kernel_rfl) (by kernel_rfl) (by kernel_rfl) (fun _ _ _ h => h) (Or.inl ⟨by rfl, fun v hv => by skip; clear hv; go_simp⟩) hHeld ?_
  simp only [Act.put, List.setIfInBounds_toArray, List.set_cons_zero, List.set_cons_succ]
  refine take_at 20 70 (.bool false) _ rfl rfl (by kernel_rfl) (by kernel_rfl) (by kernel_rfl) (fun _ _ _ h => h) (Or.inl ⟨by rfl, fun v hv => by skip; clear hv; go_simp⟩) hHeld ?_
  simp only [Act.put, List.setIfInBounds_toArray, List.set_cons_zero, List.set_cons_succ]
  refine take_at 21 71 (.bool false) _ rfl rfl (by kernel_rfl) (by kernel_rfl) (by kernel_rfl) (fun _ _ _ h => h) (Or.inl ⟨by rfl, fun v hv => by skip; clear hv; go_simp⟩) hHeld ?_
  simp only [Act.put, List.setIfInBounds_toArray, List.set_cons_zero, List.set_cons_succ]
  refine take_at 22 72 (.bool false) _ rfl rfl (by kernel_rfl) (by kernel_rfl) (by kernel_rfl) (fun _ _ _ h => h) (Or.inl ⟨by rfl, fun v hv => by skip; clear hv; go_simp⟩) hHeld ?_
  simp only [Act.put, List.setIfInBounds_toArray, List.set_cons_zero, List.set_cons_succ]
  refine take_at 23 73 (.slice b3 7 d3) _ rfl rfl (by kernel_rfl) (by kernel_rfl) (by kernel_rfl) (fun _ _ _ h => h) (Or.inl ⟨by rfl, fun v hv => by skip; clear hv; go_simp⟩) hHeld ?_
  simp only [Act.put, List.setIfInBounds_toArray, List.set_cons_zero, List.set_cons_succ]
  refine take_at 24 74 (.int .i64 7) _ rfl rfl (by kernel_rfl) (by kernel_rfl) (by kernel_rfl) (fun _ _ _ h => h) (Or.inl ⟨by rfl, fun v hv => by skip; clear hv; go_simp⟩) hHeld ?_
  simp only [Act.put, List.setIfInBounds_toArray, List.set_cons_zero, List.set_cons_succ]
  refine take_at 25 75 (.bool false) _ rfl rfl (by kernel_rfl) (by kernel_rfl) (by kernel_rfl) (fun _ _ _ h => h) (Or.inl ⟨by rfl, fun v hv => by skip; clear hv; go_simp⟩) hHeld ?_
  simp only [Act.put, List.setIfInBounds_toArray, List.set_cons_zero, List.set_cons_succ]
  refine take_at 26 76 (.int .i64 bu) _ rfl rfl (by kernel_rfl) (by kernel_rfl) (by kernel_rfl) (fun _ _ _ h => h) (Or.inl ⟨by rfl, fun v hv => by skip; clear hv; go_simp⟩) hHeld ?_
  simp only [Act.put, List.setIfInBounds_toArray, List.set_cons_zero, List.set_cons_succ]
  refine take_at 27 77 (.bool false) _ rfl rfl (by kernel_rfl) (by kernel_rfl) (by kernel_rfl) (fun _ _ _ h => h) (Or.inl ⟨by rfl, fun v hv => by skip; clear hv; go_simp⟩) hHeld ?_
  simp only [Act.put, List.setIfInBounds_toArray, List.set_cons_zero, List.set_cons_succ]
  refine take_at 28 78 (.bool false) _ rfl rfl (by kernel_rfl) (by kernel_rfl) (by kernel_rfl) (fun _ _ _ h => h) (Or.inl ⟨by rfl, fun v hv => by skip; clear hv; go_simp⟩) hHeld ?_
  simp only [Act.put, List.setIfInBounds_toArray, List.set_cons_zero, List.set_cons_succ]
  refine take_at 29 79 (.bool false) _ rfl rfl (by kernel_rfl) (by kernel_rfl) (by kernel_rfl) (fun _ _ _ h => h) (Or.inl ⟨by rfl, fun v hv => by skip; clear hv; go_simp⟩) hHeld ?_
  simp only [Act.put, List.setIfInBounds_toArray, List.set_cons_zero, List.set_cons_succ]
  refine wpAnyH_done (by kernel_rfl) ?_ _
  clear hHeld HBK
  have H7m : Hid (Blk w3.drew (w2.heap.size) #[.int .i64 me, .int .i64 0, .int .i64 (1 + (pu : Int)), .int .i64 h1, .int .u64 (b1 : Int), .int .i64 0, .int .i64 0] 36) := Blk.drew H6m.out 1
  have H7B : Hid (Below w.heap.size w w3.drew) := H6B.out.drew
  have H7Ch : Hid (Hm w3.drew a c xs ⟨me, 0, 1 + (pu : Int), h1, b1, 0, 0⟩) := H6Ch.out.below (Below.refl _ _).drew
  have H7Cg : Hid (Wg w3.drew b3 7 d3 wl) := HCg.out.below (Below.refl _ _).drew
  clear H6m H6Ch HCg H6B
  generalize w3.drew = WD at *
  clear e1 e2 e4
  have HAQ : Hid (Calls Tryd.prog 9 #[.slice a 12 c, .slice b3 7 d3, .int .i64 (q : Int)] WD fun e w' => ∃ a' c' xs', e = .returned (.tuple #[.slice a' 12 c', .int .i64 0]) ∧ (q = 7 → Hm w' a' c' xs' ⟨me, 0, 1 + (pu : Int) - bu, h1, b1, 0, 0⟩) ∧ (q < 7 → Hm w' a' c' xs' ⟨me, 0, 1 + (pu : Int), h1, b1, 0, 0⟩) ∧ Below WD.heap.size WD w') := HAP.out WD a c xs b3 d3 wl q H7Ch.out H7Cg.out HWI.out HQ7.out
  clear H7Ch H7Cg HWI
  go_wp2_with fail
  refine (HPK.out _).mono ?_
  rintro e wq ⟨rfl, hwq⟩
  subst hwq
  go_wp2_with fail
  refine HAQ.out.mono ?_
  rintro e w10 ⟨a10, c10, xs10, rfl, hA, hB, hb10⟩
  have H8m : Hid (Blk w10 (w2.heap.size) #[.int .i64 me, .int .i64 0, .int .i64 (1 + (pu : Int)), .int .i64 h1, .int .u64 (b1 : Int), .int .i64 0, .int .i64 0] 36) := H7m.out.next hb10
  have H8B : Hid (Below w.heap.size w w10) := bel_step H7B.out hb10
  clear H7m H7B hb10 HAQ
  have hqq := HQ7.out
  by_cases hq : q < 7
  · have HH : Hid (Hm w10 a10 c10 xs10 ⟨me, 0, 1 + (pu : Int), h1, b1, 0, 0⟩) := hB hq
    have hdq : ((q : Int) == 7) = false := by simp; omega
    have e5 : ((1 + (pu : Int)) == (1 + (pu : Int))) = true := by simp
    have hqm : ∀ W : World, (Op.equalIn 10000 34 (.agg #[.int .i64 h1, .int .u64 (b1 : Int)]) (.agg #[.int .i64 h1, .int .u64 (b1 : Int)])).run Tryd.prog W = .ok true W := fun W => eqWd 9998 _ _ W
    clear hA hB hq hqq
    go_wp2_with fail
    refine (HBT.out _ _ _ _ _ HH.out).mono ?_
    rintro e w11 ⟨rfl, hb11⟩
    have H9m : Hid (Blk w11 (w2.heap.size) #[.int .i64 me, .int .i64 0, .int .i64 (1 + (pu : Int)), .int .i64 h1, .int .u64 (b1 : Int), .int .i64 0, .int .i64 0] 36) := H8m.out.next hb11
    have H9B : Hid (Below w.heap.size w w11) := bel_step H8B.out hb11
    unfold Mt.v Mt.cells
    simp only []
    have H10m : Hid (Blk (w11.alloc (.cells #[.int .i64 me, .int .i64 0, .int .i64 (1 + (pu : Int)), .int .i64 h1, .int .u64 (b1 : Int), .int .i64 0, .int .i64 0] 36)) (w2.heap.size) #[.int .i64 me, .int .i64 0, .int .i64 (1 + (pu : Int)), .int .i64 h1, .int .u64 (b1 : Int), .int .i64 0, .int .i64 0] 36) := (H9m.out).alloc _
    have H10z : Hid (Blk (w11.alloc (.cells #[.int .i64 me, .int .i64 0, .int .i64 (1 + (pu : Int)), .int .i64 h1, .int .u64 (b1 : Int), .int .i64 0, .int .i64 0] 36)) (w11.heap.size) #[.int .i64 me, .int .i64 0, .int .i64 (1 + (pu : Int)), .int .i64 h1, .int .u64 (b1 : Int), .int .i64 0, .int .i64 0] 36) := (Blk.new w11 _ _)
    have L10zm : Hid (w2.heap.size < w11.heap.size) := Nat.lt_of_lt_of_le H9m.out.lt (by simp)
    have H10B : Hid (Below w.heap.size w (w11.alloc (.cells #[.int .i64 me, .int .i64 0, .int .i64 (1 + (pu : Int)), .int .i64 h1, .int .u64 (b1 : Int), .int .i64 0, .int .i64 0] 36))) := (H9B.out).alloc (Nat.le_trans H9B.out.size (by simp)) _
    have L100 : Hid (w.heap.size ≤ w11.heap.size) := H9B.out.size
    clear H8m H8B H9m H9B hb11 HH HBT
    have q_m_2 : (w11.alloc (.cells #[.int .i64 me, .int .i64 0, .int .i64 (1 + (pu : Int)), .int .i64 h1, .int .u64 (b1 : Int), .int .i64 0, .int .i64 0] 36)).cell? ⟨w2.heap.size, 2, none⟩ = some (.int .i64 (1 + (pu : Int))) := H10m.out.cell 2
    have q_m_3 : (w11.alloc (.cells #[.int .i64 me, .int .i64 0, .int .i64 (1 + (pu : Int)), .int .i64 h1, .int .u64 (b1 : Int), .int .i64 0, .int .i64 0] 36)).cell? ⟨w2.heap.size, 3, none⟩ = some (.int .i64 h1) := H10m.out.cell 3
    have q_m_4 : (w11.alloc (.cells #[.int .i64 me, .int .i64 0, .int .i64 (1 + (pu : Int)), .int .i64 h1, .int .u64 (b1 : Int), .int .i64 0, .int .i64 0] 36)).cell? ⟨w2.heap.size, 4, none⟩ = some (.int .u64 (b1 : Int)) := H10m.out.cell 4
    have q_z_2 : (w11.alloc (.cells #[.int .i64 me, .int .i64 0, .int .i64 (1 + (pu : Int)), .int .i64 h1, .int .u64 (b1 : Int), .int .i64 0, .int .i64 0] 36)).cell? ⟨w11.heap.size, 2, none⟩ = some (.int .i64 (1 + (pu : Int))) := H10z.out.cell 2
    have q_z_3 : (w11.alloc (.cells #[.int .i64 me, .int .i64 0, .int .i64 (1 + (pu : Int)), .int .i64 h1, .int .u64 (b1 : Int), .int .i64 0, .int .i64 0] 36)).cell? ⟨w11.heap.size, 3, none⟩ = some (.int .i64 h1) := H10z.out.cell 3
    have q_z_4 : (w11.alloc (.cells #[.int .i64 me, .int .i64 0, .int .i64 (1 + (pu : Int)), .int .i64 h1, .int .u64 (b1 : Int), .int .i64 0, .int .i64 0] 36)).cell? ⟨w11.heap.size, 4, none⟩ = some (.int .u64 (b1 : Int)) := H10z.out.cell 4
    go_wp2_with (first
      | (refine wp_whole rfl 36 _ rfl (w2.heap.size) rfl 36 #[.int .i64 me, .int .i64 0, .int .i64 (1 + (pu : Int)), .int .i64 h1, .int .u64 (b1 : Int), .int .i64 0, .int .i64 0] _ H10m.out Tryd.underlying36 rfl (by kernel_rfl) ?_)
      | (refine wp_wholeG (by rfl) 36 _ rfl (w2.heap.size) rfl 36 #[.int .i64 me, .int .i64 0, .int .i64 (1 + (pu : Int)), .int .i64 h1, .int .u64 (b1 : Int), .int .i64 0, .int .i64 0] _ H10m.out Tryd.underlying36 rfl (by kernel_rfl) ?_)
      | (refine wp_whole rfl 36 _ rfl (w11.heap.size) rfl 36 #[.int .i64 me, .int .i64 0, .int .i64 (1 + (pu : Int)), .int .i64 h1, .int .u64 (b1 : Int), .int .i64 0, .int .i64 0] _ H10z.out Tryd.underlying36 rfl (by kernel_rfl) ?_)
      | (refine wp_wholeG (by rfl) 36 _ rfl (w11.heap.size) rfl 36 #[.int .i64 me, .int .i64 0, .int .i64 (1 + (pu : Int)), .int .i64 h1, .int .u64 (b1 : Int), .int .i64 0, .int .i64 0] _ H10z.out Tryd.underlying36 rfl (by kernel_rfl) ?_)
      | fail)
    go_ret
    exact ⟨rfl, H10B.out⟩
  · have HH : Hid (Hm w10 a10 c10 xs10 ⟨me, 0, 1 + (pu : Int) - bu, h1, b1, 0, 0⟩) := hA (by omega)
    have hdq : ((q : Int) == 7) = true := by simp; omega
    have e5 : ((1 + (pu : Int) - bu) == (1 + (pu : Int) - bu)) = true := by simp
    have hqm : ∀ W : World, (Op.equalIn 10000 34 (.agg #[.int .i64 h1, .int .u64 (b1 : Int)]) (.agg #[.int .i64 h1, .int .u64 (b1 : Int)])).run Tryd.prog W = .ok true W := fun W => eqWd 9998 _ _ W
    clear hA hB hq hqq
    go_wp2_with fail
    refine (HBT.out _ _ _ _ _ HH.out).mono ?_
    rintro e w11 ⟨rfl, hb11⟩
    have H9m : Hid (Blk w11 (w2.heap.size) #[.int .i64 me, .int .i64 0, .int .i64 (1 + (pu : Int)), .int .i64 h1, .int .u64 (b1 : Int), .int .i64 0, .int .i64 0] 36) := H8m.out.next hb11
    have H9B : Hid (Below w.heap.size w w11) := bel_step H8B.out hb11
    unfold Mt.v Mt.cells
    simp only []
    have H10m : Hid (Blk (w11.alloc (.cells #[.int .i64 me, .int .i64 0, .int .i64 (1 + (pu : Int) - bu), .int .i64 h1, .int .u64 (b1 : Int), .int .i64 0, .int .i64 0] 36)) (w2.heap.size) #[.int .i64 me, .int .i64 0, .int .i64 (1 + (pu : Int)), .int .i64 h1, .int .u64 (b1 : Int), .int .i64 0, .int .i64 0] 36) := (H9m.out).alloc _
    have H10z : Hid (Blk (w11.alloc (.cells #[.int .i64 me, .int .i64 0, .int .i64 (1 + (pu : Int) - bu), .int .i64 h1, .int .u64 (b1 : Int), .int .i64 0, .int .i64 0] 36)) (w11.heap.size) #[.int .i64 me, .int .i64 0, .int .i64 (1 + (pu : Int) - bu), .int .i64 h1, .int .u64 (b1 : Int), .int .i64 0, .int .i64 0] 36) := (Blk.new w11 _ _)
    have L10zm : Hid (w2.heap.size < w11.heap.size) := Nat.lt_of_lt_of_le H9m.out.lt (by simp)
    have H10B : Hid (Below w.heap.size w (w11.alloc (.cells #[.int .i64 me, .int .i64 0, .int .i64 (1 + (pu : Int) - bu), .int .i64 h1, .int .u64 (b1 : Int), .int .i64 0, .int .i64 0] 36))) := (H9B.out).alloc (Nat.le_trans H9B.out.size (by simp)) _
    have L100 : Hid (w.heap.size ≤ w11.heap.size) := H9B.out.size
    clear H8m H8B H9m H9B hb11 HH HBT
    have q_m_2 : (w11.alloc (.cells #[.int .i64 me, .int .i64 0, .int .i64 (1 + (pu : Int) - bu), .int .i64 h1, .int .u64 (b1 : Int), .int .i64 0, .int .i64 0] 36)).cell? ⟨w2.heap.size, 2, none⟩ = some (.int .i64 (1 + (pu : Int))) := H10m.out.cell 2
    have q_m_3 : (w11.alloc (.cells #[.int .i64 me, .int .i64 0, .int .i64 (1 + (pu : Int) - bu), .int .i64 h1, .int .u64 (b1 : Int), .int .i64 0, .int .i64 0] 36)).cell? ⟨w2.heap.size, 3, none⟩ = some (.int .i64 h1) := H10m.out.cell 3
    have q_m_4 : (w11.alloc (.cells #[.int .i64 me, .int .i64 0, .int .i64 (1 + (pu : Int) - bu), .int .i64 h1, .int .u64 (b1 : Int), .int .i64 0, .int .i64 0] 36)).cell? ⟨w2.heap.size, 4, none⟩ = some (.int .u64 (b1 : Int)) := H10m.out.cell 4
    have q_z_2 : (w11.alloc (.cells #[.int .i64 me, .int .i64 0, .int .i64 (1 + (pu : Int) - bu), .int .i64 h1, .int .u64 (b1 : Int), .int .i64 0, .int .i64 0] 36)).cell? ⟨w11.heap.size, 2, none⟩ = some (.int .i64 (1 + (pu : Int) - bu)) := H10z.out.cell 2
    have q_z_3 : (w11.alloc (.cells #[.int .i64 me, .int .i64 0, .int .i64 (1 + (pu : Int) - bu), .int .i64 h1, .int .u64 (b1 : Int), .int .i64 0, .int .i64 0] 36)).cell? ⟨w11.heap.size, 3, none⟩ = some (.int .i64 h1) := H10z.out.cell 3
    have q_z_4 : (w11.alloc (.cells #[.int .i64 me, .int .i64 0, .int .i64 (1 + (pu : Int) - bu), .int .i64 h1, .int .u64 (b1 : Int), .int .i64 0, .int .i64 0] 36)).cell? ⟨w11.heap.size, 4, none⟩ = some (.int .u64 (b1 : Int)) := H10z.out.cell 4
    go_wp2_with (first
      | (refine wp_whole rfl 36 _ rfl (w2.heap.size) rfl 36 #[.int .i64 me, .int .i64 0, .int .i64 (1 + (pu : Int)), .int .i64 h1, .int .u64 (b1 : Int), .int .i64 0, .int .i64 0] _ H10m.out Tryd.underlying36 rfl (by kernel_rfl) ?_)
      | (refine wp_wholeG (by rfl) 36 _ rfl (w2.heap.size) rfl 36 #[.int .i64 me, .int .i64 0, .int .i64 (1 + (pu : Int)), .int .i64 h1, .int .u64 (b1 : Int), .int .i64 0, .int .i64 0] _ H10m.out Tryd.underlying36 rfl (by kernel_rfl) ?_)
      | (refine wp_whole rfl 36 _ rfl (w11.heap.size) rfl 36 #[.int .i64 me, .int .i64 0, .int .i64 (1 + (pu : Int) - bu), .int .i64 h1, .int .u64 (b1 : Int), .int .i64 0, .int .i64 0] _ H10z.out Tryd.underlying36 rfl (by kernel_rfl) ?_)
      | (refine wp_wholeG (by rfl) 36 _ rfl (w11.heap.size) rfl 36 #[.int .i64 me, .int .i64 0, .int .i64 (1 + (pu : Int) - bu), .int .i64 h1, .int .u64 (b1 : Int), .int .i64 0, .int .i64 0] _ H10z.out Tryd.underlying36 rfl (by kernel_rfl) ?_)
      | fail)
    go_ret
    exact ⟨rfl, H10B.out⟩

end Go.Proofs.YtgipkpkjoicehabDoor.pkt

/- A tick that is cut burns all or nothing: by the program's own contracts. -/
namespace Go.Proofs.YtgipkpkjoicehabDoor.pkt
open Go.RowKit Go.Proofs.YtgipkpkjoicehabDoor.met Go.Proofs.YtgipkpkjoicehabDoor.slot Go.Proofs.YtgipkpkjoicehabDoor.cell Go.Proofs.YtgipkpkjoicehabDoor.ora Go.Proofs.YtgipkpkjoicehabDoor.token Go.Proofs.YtgipkpkjoicehabDoor.check
set_option maxRecDepth 100000
set_option linter.unusedVariables false

/-- The meter behind one token of credit. -/
theorem at_one {me : Int} (hme : 0 ≤ me ∧ me ≤ 49) {K : Nat → Tok} (hk : (K 0).ok) (hc : (K 0).c = 0) {m : Mt} {l : List Pr} (h : AtIs me K 1 m l) : m = taken (mtNew me) 0 (K 0).i (K 0).a := by
  obtain ⟨m0, l0, ⟨rfl, rfl⟩, t, x, e, hi, hkey⟩ := h.run
  have hm : (mtNew me).may := (new_mw hme).may
  obtain ⟨rfl, rfl, _⟩ := first_sold hm hk hi
  have hf := flaw_tok.2 hk
  have hb := body_tok (K 0)
  have ha := hk.a2
  have hi1 := hk.i1
  have hi2 := hk.i2
  have hL := one_may (pr_may hm hk)
  rw [hb] at hkey
  rw [hc] at hf hkey
  rcases key_sold hkey hm hL hf (Int.le_refl _) (by decide) (one_here _ _ _ _) (judge_new (Int.ofNat_le.2 hi1) (Int.ofNat_le.2 hi2)) with ⟨_, h1, _⟩ | ⟨h1, _⟩ | ⟨_, _, h3, _⟩
  · exact absurd h1 (by show ¬ (99999999 - 0 < (((K 0).a : Nat) : Int)); omega)
  · exact absurd h1 (by decide)
  · exact h3
theorem taken_new (me i : Int) (a : Nat) : taken (mtNew me) 0 i (a : Int) = ⟨me, 0, (a : Int), max 0 i, win.took 0 0 i, 0, 0⟩ := by
  unfold taken mtNew
  simp
/-- What a tick does to it. -/
theorem burns_tick (me cr h1 ld bu : Int) (b1 : Nat) (xs : List Int) (ls : List Wr) (x e : Int) (hm : Mw ⟨me, 0, cr, h1, b1, 0, 0⟩) (hb : BootIs xs ⟨me, 0, cr, h1, b1, 0, 0⟩ 0) (hl : 0 ≤ ld ∧ ld ≤ 1000) (hbu : bu = if cr < ld then cr else ld) (h : TickedIs xs ld ls x e) :
    x = bu ∧ e = 0 ∧ WrIs xs ⟨me, 0, cr, h1, b1, 0, 0⟩ ⟨me, 0, cr - bu, h1, b1, 0, 0⟩ ls := by
  have hok := TickIs.ok hm.may hl
  have hcr := hm.may.cr
  have hcr0 : 0 ≤ cr := hcr.1
  have e1 : burnt ⟨me, 0, cr, h1, b1, 0, 0⟩ ld = bu := by
    unfold burnt; simp only []; rw [hbu]
    by_cases h : cr < ld
    · rw [if_pos h, if_pos (by omega)]
    · rw [if_neg h]
      by_cases h2 : cr ≤ ld
      · rw [if_pos h2]; omega
      · rw [if_neg h2]
  have e2 : ticked ⟨me, 0, cr, h1, b1, 0, 0⟩ ld = ⟨me, 0, cr - bu, h1, b1, 0, 0⟩ := by
    unfold ticked; simp only []
    have : (if cr ≤ ld then (0 : Int) else cr - ld) = cr - bu := by
      rw [hbu]
      by_cases h : cr < ld
      · rw [if_pos h, if_pos (by omega)]; omega
      · rw [if_neg h]
        by_cases h2 : cr ≤ ld
        · rw [if_pos h2]; omega
        · rw [if_neg h2]
    rw [this]
    rfl
  rcases h with ⟨m, a0, a1, _⟩ | ⟨m, m1, y, a0, a2, a1, _⟩ | ⟨m, m1, a0, a2, rfl, a3⟩
  · exact absurd (a0.one hb).2 a1
  · obtain ⟨rfl, _⟩ := a0.one hb
    exact absurd (a2.one hok).2.2 a1
  · obtain ⟨rfl, _⟩ := a0.one hb
    obtain ⟨rfl, rfl, _⟩ := a2.one hok
    rw [e2] at a3
    exact ⟨e1, rfl, a3⟩
theorem burns_walk (me0 units load k0 : Int) (w : World) (ht : TTab w) (hme0 : (Lit.int .i64 me0).wf = true) (hun : (Lit.int .i64 units).wf = true) (hlo : (Lit.int .i64 load).wf = true) (hk0 : (Lit.int .i64 k0).wf = true) :
    Calls Tryd.prog 3 #[.int .i64 me0, .int .i64 units, .int .i64 load, .int .i64 k0] w fun e w' => e = .returned (.bool true) ∧ Below w.heap.size w w' := by
  have hp := pick_toNat me0 50 (by decide)
  have hq := pick_toNat k0 8 (by decide)
  have hpu := pick_toNat units 2097151 (by decide)
  have hpl := pick_toNat load 1001 (by decide)
  have HP := fun W => picked_nat me0 50 W hme0 (by decide) (by decide)
  have HPK := fun W => picked_nat k0 8 W hk0 (by decide) (by decide)
  have HPU := fun W => picked_nat units 2097151 W hun (by decide) (by decide)
  have HPL := fun W => picked_nat load 1001 W hlo (by decide) (by decide)
  have hka : (toks [⟨0, 0, units, 0⟩] 0).a = 1 + (pick units ((2097151 : Nat) : Int)).toNat := by
    show madeA 0 units = _
    unfold madeA
    rw [if_pos (by decide)]
    rfl
  have hkc : (toks [⟨0, 0, units, 0⟩] 0).c = 0 := by show (pick 0 4).toNat = 0; decide
  have hko : (toks [⟨0, 0, units, 0⟩] 0).ok := made_ok 0 0 units 0
  generalize (pick me0 ((50 : Nat) : Int)).toNat = mn at *
  generalize (pick k0 ((8 : Nat) : Int)).toNat = q at *
  generalize (pick units ((2097151 : Nat) : Int)).toNat = pu at *
  generalize (pick load ((1001 : Nat) : Int)).toNat = ln at *
  have hme : 0 ≤ (mn : Int) ∧ (mn : Int) ≤ 49 := by omega
  have w0 : (Lit.int .i64 0).wf = true := by decide
  generalize hK : toks [⟨0, 0, units, 0⟩] 0 = kk at hka hkc hko
  have hV : ∀ m l, AtIs (mn : Int) (toks [⟨0, 0, units, 0⟩]) (min 1 12) m l → m = ⟨(mn : Int), 0, 1 + (pu : Int), max 0 (kk.i : Int), win.took 0 0 (kk.i : Int), 0, 0⟩ := by
    intro m l h
    have h1 := at_one hme (K := toks [⟨0, 0, units, 0⟩]) (by rw [hK]; exact hko) (by rw [hK]; exact hkc) h
    rw [hK, taken_new, hka] at h1
    rw [h1]
    congr 1
  have HAT : ∀ W, Below w.heap.size w W → Blk W w.heap.size #[.int .i64 0, .int .i64 0, .int .i64 units, .int .i64 0] 30 → Calls Tryd.prog 5 #[.int .i64 (mn : Int), .slice (some ⟨w.heap.size, 0, none⟩) 1 1] W fun e w' => ∃ a c xs ao no co, e = .returned (.tuple #[.slice a 12 c, .agg #[.slice ao no co], .bool true]) ∧ Hm w' a c xs ⟨(mn : Int), 0, 1 + (pu : Int), max 0 (kk.i : Int), win.took 0 0 (kk.i : Int), 0, 0⟩ ∧ Below W.heap.size W w' := by
    intro W hB hb
    have hr : RowA W (some ⟨w.heap.size, 0, none⟩) 1 [⟨0, 0, units, 0⟩] := by
      intro i hi
      obtain rfl : i = 0 := by omega
      exact ⟨w.heap.size, 0, rfl, ⟨hb.cell 0, hb.cell 1, hb.cell 2, hb.cell 3⟩, w0, w0, hun, w0⟩
    refine (at_any _ hme (some ⟨w.heap.size, 0, none⟩) 1 1 [⟨0, 0, units, 0⟩] W (ht.below hB) hr).mono ?_
    rintro e w' ⟨a, c, xs, m, ao, no, co, l, rfl, h1, _, _, _, h5, h6⟩
    obtain rfl := hV m l h5
    exact ⟨a, c, xs, ao, no, co, rfl, h1, h6⟩
  have HBT := fun W a c xs m (hm : Hm W a c xs m) => hboot a c xs m W hm
  have HTD : ∀ bu : Int, (bu = if 1 + (pu : Int) < (ln : Int) then 1 + (pu : Int) else (ln : Int)) → ∀ W a c xs, Hm W a c xs ⟨(mn : Int), 0, 1 + (pu : Int), max 0 (kk.i : Int), win.took 0 0 (kk.i : Int), 0, 0⟩ → Calls Tryd.prog 8 #[.slice a 12 c, .int .i64 (ln : Int)] W fun e w' => ∃ b n d wl, e = .returned (.tuple #[.slice b n d, .int .i64 bu, .int .i64 0]) ∧ Wg w' b n d wl ∧ WrIs xs ⟨(mn : Int), 0, 1 + (pu : Int), max 0 (kk.i : Int), win.took 0 0 (kk.i : Int), 0, 0⟩ ⟨(mn : Int), 0, 1 + (pu : Int) - bu, max 0 (kk.i : Int), win.took 0 0 (kk.i : Int), 0, 0⟩ wl ∧ Below W.heap.size W w' := by
    intro bu hbu W a c xs hm
    refine (pticked a 12 c xs (ln : Int) W hm.sg.row hm.sg.le (holds_word hm.holds hm.mw)).mono ?_
    rintro e w' ⟨b, n, d, wl, x, f, rfl, hg, hi, hb⟩
    obtain ⟨rfl, rfl, hw⟩ := burns_tick (mn : Int) (1 + (pu : Int)) _ (ln : Int) bu _ xs wl x f hm.mw hm.boot ⟨by omega, by omega⟩ hbu hi
    exact ⟨b, n, d, wl, rfl, hg, hw, hb⟩
  by_cases h0 : ln = 0
  · subst h0
    refine burns_A me0 (mn : Int) units load k0 ((0 : Nat) : Int) 0 (max 0 (kk.i : Int)) (win.took 0 0 (kk.i : Int)) pu q w (by omega) hpu (by omega) (by omega) rfl rfl HP HPL HPU HPK HAT HBT (fun W a c xs hm => ?_) (fun W a c xs b d wl q hm hw hi hq => ?_)
    · refine (HTD 0 (by rw [if_neg (by omega)]; rfl) W a c xs hm).mono ?_
      rintro e w' ⟨b, n, d, wl, rfl, hg, hw, hb⟩
      have hl := hg.row.1
      rcases hw.len with ⟨_, h⟩ | ⟨h, _⟩
      · obtain rfl : n = 0 := by omega
        exact ⟨b, d, wl, rfl, hg, hw, hb⟩
      · exact absurd (by congr 1 <;> omega) h
    · refine (happly a c xs _ _ b 7 d q wl W hm hw hi ⟨?_, hm.mw.b⟩ hq).mono fun e w' h => h
      have := hm.mw.may
      rw [show 1 + (pu : Int) - 0 = 1 + (pu : Int) by omega]
      exact this
  · have hb7 : ∀ (bu : Int), 0 < bu → bu ≤ 1 + (pu : Int) → ∀ W a c xs b n d wl, Hm W a c xs ⟨(mn : Int), 0, 1 + (pu : Int), max 0 (kk.i : Int), win.took 0 0 (kk.i : Int), 0, 0⟩ → Wg W b n d wl → WrIs xs ⟨(mn : Int), 0, 1 + (pu : Int), max 0 (kk.i : Int), win.took 0 0 (kk.i : Int), 0, 0⟩ ⟨(mn : Int), 0, 1 + (pu : Int) - bu, max 0 (kk.i : Int), win.took 0 0 (kk.i : Int), 0, 0⟩ wl → n = 7 := by
      intro bu hb hb1 W a c xs b n d wl hm hg hw
      have hl := hg.row.1
      rcases hw.len with ⟨h, _⟩ | ⟨_, h⟩
      · have := (Mt.mk.inj h).2.2.1
        omega
      · omega
    have hmw : ∀ (bu : Int), 0 < bu → bu ≤ 1 + (pu : Int) → Mw ⟨(mn : Int), 0, 1 + (pu : Int), max 0 (kk.i : Int), win.took 0 0 (kk.i : Int), 0, 0⟩ → Mw ⟨(mn : Int), 0, 1 + (pu : Int) - bu, max 0 (kk.i : Int), win.took 0 0 (kk.i : Int), 0, 0⟩ := by
      intro bu hb hb1 hm
      have h := hm.may
      have h1 := h.cr
      have h1' : 1 + (pu : Int) ≤ 99999999 := h1.2
      exact ⟨⟨h.me, h.rev, ⟨by show 0 ≤ 1 + (pu : Int) - bu; omega, by show 1 + (pu : Int) - bu ≤ 99999999; omega⟩, h.bad, h.lock, h.one, h.win⟩, hm.b⟩
    by_cases hlc : 1 + (pu : Int) < (ln : Int)
    · refine burns_B1 me0 (mn : Int) units load k0 (ln : Int) (1 + (pu : Int)) (max 0 (kk.i : Int)) (win.took 0 0 (kk.i : Int)) pu q w (by omega) hpu (by omega) (by omega) (by omega) hlc rfl HP HPL HPU HPK HAT HBT (fun W a c xs hm => ?_) (fun W a c xs b d wl q hm hw hi hq => ?_)
      · refine (HTD _ (by rw [if_pos hlc]) W a c xs hm).mono ?_
        rintro e w' ⟨b, n, d, wl, rfl, hg, hw, hb⟩
        obtain rfl := hb7 _ (by omega) (Int.le_refl _) w' a c xs b n d wl (hm.below hb) hg hw
        exact ⟨b, d, wl, rfl, hg, hw, hb⟩
      · exact (happly a c xs _ _ b 7 d q wl W hm hw hi (hmw _ (by omega) (Int.le_refl _) hm.mw) hq).mono fun e w' h => h
    · refine burns_B2 me0 (mn : Int) units load k0 (ln : Int) (ln : Int) (max 0 (kk.i : Int)) (win.took 0 0 (kk.i : Int)) pu q w (by omega) hpu (by omega) (by omega) (by omega) hlc rfl HP HPL HPU HPK HAT HBT (fun W a c xs hm => ?_) (fun W a c xs b d wl q hm hw hi hq => ?_)
      · refine (HTD _ (by rw [if_neg hlc]) W a c xs hm).mono ?_
        rintro e w' ⟨b, n, d, wl, rfl, hg, hw, hb⟩
        obtain rfl := hb7 _ (by omega) (by omega) w' a c xs b n d wl (hm.below hb) hg hw
        exact ⟨b, d, wl, rfl, hg, hw, hb⟩
      · exact (happly a c xs _ _ b 7 d q wl W hm hw hi (hmw _ (by omega) (by omega) hm.mw) hq).mono fun e w' h => h

end Go.Proofs.YtgipkpkjoicehabDoor.pkt
