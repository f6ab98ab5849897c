/- A tick burns what is used, and never more than there is. -/
import Derived.Test.YtmpapnblpjnlmabMjT
import Derived.Test.YtmpapnblpjnlmabMtE
import Derived.Test.YtmpapnblpjnlmabLetG
import Derived.Test.YtmpapnblpjnlmabMtNew
namespace Go.Proofs.Ytmpapnblpjnlmab.met
open Go.RowKit Go.Proofs.Ytmpapnblpjnlmab.check
set_option maxRecDepth 100000
set_option linter.unusedVariables false
set_option linter.unusedSimpArgs false

set_option maxHeartbeats 2000000 in
theorem burns_abs (x y z u ld0 p q r s ld : Int) (w : World) (r0 : 0 ≤ r) (r1 : r ≤ 99999999) (l0 : 0 ≤ ld) (l1 : ld ≤ 1000)
    (hN : ∀ W, Calls Try.prog 9 #[.agg #[.int .i64 x, .int .i64 y, .int .i64 z, .int .i64 u]] W fun e w' => e = .returned (.agg #[.int .i64 p, .int .i64 q, .int .i64 r, .int .i64 0, .int .u64 0, .int .i64 s, .int .i64 0]) ∧ Below W.heap.size W w')
    (hP : ∀ W, Calls Try.prog 10 #[.int .i64 ld0, .int .i64 1001] W fun e w' => e = .returned (.int .i64 ld) ∧ w' = W)
    (hT : ∀ W, Below w.heap.size w W → Calls Try.prog 11 #[.agg #[.int .i64 p, .int .i64 q, .int .i64 r, .int .i64 0, .int .u64 0, .int .i64 s, .int .i64 0], .int .i64 ld] W fun e w' => e = .returned (.tuple #[.agg #[.int .i64 p, .int .i64 q, .int .i64 (if r ≤ ld then 0 else r - ld), .int .i64 0, .int .u64 0, .int .i64 s, .int .i64 0], .int .i64 (if r ≤ ld then r else ld), .int .i64 0]) ∧ Below W.heap.size W w') :
    Calls Try.prog 4 #[.agg #[.int .i64 x, .int .i64 y, .int .i64 z, .int .i64 u], .int .i64 ld0] w fun e w' => e = .returned (.bool true) ∧ Below w.heap.size w w' := by
  have HN : Hid (∀ W, Calls Try.prog 9 #[.agg #[.int .i64 x, .int .i64 y, .int .i64 z, .int .i64 u]] W fun e w' => e = .returned (.agg #[.int .i64 p, .int .i64 q, .int .i64 r, .int .i64 0, .int .u64 0, .int .i64 s, .int .i64 0]) ∧ Below W.heap.size W w') := hN
  have HP : Hid (∀ W, Calls Try.prog 10 #[.int .i64 ld0, .int .i64 1001] W fun e w' => e = .returned (.int .i64 ld) ∧ w' = W) := hP
  have hX := Blk.new w #[.int .i64 x, .int .i64 y, .int .i64 z, .int .i64 u] 37
  have HW0 : Hid (Below w.heap.size w (w.alloc (.cells #[.int .i64 x, .int .i64 y, .int .i64 z, .int .i64 u] 37))) := (Below.refl _ _).alloc (Nat.le_refl _) _
  have HX : Hid (Blk (w.alloc (.cells #[.int .i64 x, .int .i64 y, .int .i64 z, .int .i64 u] 37)) w.heap.size #[.int .i64 x, .int .i64 y, .int .i64 z, .int .i64 u] 37) := hX
  clear hN hP hX
  by_cases hl : r ≤ ld
  · rw [if_pos hl, if_pos hl] at hT
    by_cases he : r = ld
    · have HT : Hid (∀ W, Below w.heap.size w W → Calls Try.prog 11 #[.agg #[.int .i64 p, .int .i64 q, .int .i64 r, .int .i64 0, .int .u64 0, .int .i64 s, .int .i64 0], .int .i64 ld] W fun e w' => e = .returned (.tuple #[.agg #[.int .i64 p, .int .i64 q, .int .i64 0, .int .i64 0, .int .u64 0, .int .i64 s, .int .i64 0], .int .i64 r, .int .i64 0]) ∧ Below W.heap.size W w') := hT
      clear hT
      have t1 : ((0 : Int) != r - r) = false := by simp
      have t3 : decide (r < 0) = false := by simp; omega
      have t4 : decide (ld < r) = false := by simp; omega
      have t5 : (r == ld) = true := by simp [he]
      clear hl he
      go_enter Try.func4, Try.ntmps4
      go_wp2_with (first
        | (refine wp_whole rfl 37 _ rfl w.heap.size rfl 37 #[.int .i64 x, .int .i64 y, .int .i64 z, .int .i64 u] _ HX.out Try.underlying37 rfl (by kernel_rfl) ?_)
        | fail)
      refine (HN.out _).mono ?_
      rintro e w1 ⟨rfl, hb1⟩
      have HM1 : Hid (Blk (w1.alloc (.cells #[.int .i64 p, .int .i64 q, .int .i64 r, .int .i64 0, .int .u64 0, .int .i64 s, .int .i64 0] 27)) w1.heap.size #[.int .i64 p, .int .i64 q, .int .i64 r, .int .i64 0, .int .u64 0, .int .i64 s, .int .i64 0] 27) := Blk.new _ _ _
      have hB1 := bel_step HW0.out hb1
      have HW1 : Hid (Below w.heap.size w (w1.alloc (.cells #[.int .i64 p, .int .i64 q, .int .i64 r, .int .i64 0, .int .u64 0, .int .i64 s, .int .i64 0] 27))) := hB1.alloc hB1.size _
      have HSZ : Hid (w.heap.size ≤ w1.heap.size) := hB1.size
      clear hb1 hB1 HX HW0 HN
      go_wp2_with fail
      refine (HP.out _).mono ?_
      rintro e w2 ⟨rfl, rfl⟩
      go_wp2_with (first
        | (refine wp_whole rfl 27 _ rfl (w1.heap.size) rfl 27 #[.int .i64 p, .int .i64 q, .int .i64 r, .int .i64 0, .int .u64 0, .int .i64 s, .int .i64 0] _ HM1.out Try.underlying27 rfl (by kernel_rfl) ?_)
        | fail)
      refine (HT.out _ HW1.out).mono ?_
      rintro e w3 ⟨rfl, hb3⟩
      have HM3 : Hid (Blk (w3.alloc (.cells #[.int .i64 p, .int .i64 q, .int .i64 0, .int .i64 0, .int .u64 0, .int .i64 s, .int .i64 0] 27)) w1.heap.size #[.int .i64 p, .int .i64 q, .int .i64 r, .int .i64 0, .int .u64 0, .int .i64 s, .int .i64 0] 27) := (HM1.out.next hb3).alloc _
      have HG3 : Hid (Blk (w3.alloc (.cells #[.int .i64 p, .int .i64 q, .int .i64 0, .int .i64 0, .int .u64 0, .int .i64 s, .int .i64 0] 27)) w3.heap.size #[.int .i64 p, .int .i64 q, .int .i64 0, .int .i64 0, .int .u64 0, .int .i64 s, .int .i64 0] 27) := Blk.new _ _ _
      have hB3 := bel_step HW1.out hb3
      have HW3 : Hid (Below w.heap.size w (w3.alloc (.cells #[.int .i64 p, .int .i64 q, .int .i64 0, .int .i64 0, .int .u64 0, .int .i64 s, .int .i64 0] 27))) := hB3.alloc hB3.size _
      have HNE : Hid (w1.heap.size ≠ w3.heap.size ∧ w.heap.size ≤ w3.heap.size) := ⟨Nat.ne_of_lt (by have := hb3.size; simp at this; omega), hB3.size⟩
      have m2 : (w3.alloc (.cells #[.int .i64 p, .int .i64 q, .int .i64 0, .int .i64 0, .int .u64 0, .int .i64 s, .int .i64 0] 27)).cell? ⟨w1.heap.size, 2, none⟩ = some (.int .i64 r) := HM3.out.cell 2
      have g2 : (w3.alloc (.cells #[.int .i64 p, .int .i64 q, .int .i64 0, .int .i64 0, .int .u64 0, .int .i64 s, .int .i64 0] 27)).cell? ⟨w3.heap.size, 2, none⟩ = some (.int .i64 0) := HG3.out.cell 2
      clear hb3 hB3 HM1 HW1 HT HP
      go_wp2_with (first
        | (refine wp_let1 rfl 3 _ _ rfl w3.heap.size 2 rfl .i64 r rfl (by kernel_rfl) #[.int .i64 p, .int .i64 q, .int .i64 0, .int .i64 0, .int .u64 0, .int .i64 s, .int .i64 0] 27 HG3.out (by simp) ?_)
        | fail)
      intro W4 hU
      have HM4 : Hid (Blk W4 w1.heap.size #[.int .i64 p, .int .i64 q, .int .i64 r, .int .i64 0, .int .u64 0, .int .i64 s, .int .i64 0] 27) := hU.keep HM3.out HNE.out.1
      have HG4 : Hid (Blk W4 w3.heap.size #[.int .i64 p, .int .i64 q, .int .i64 r, .int .i64 0, .int .u64 0, .int .i64 s, .int .i64 0] 27) := hU.blk
      have HW4 : Hid (Below w.heap.size w W4) := hU.bel _ _ HNE.out.2 HW3.out
      have m4 : W4.cell? ⟨w1.heap.size, 2, none⟩ = some (.int .i64 r) := HM4.out.cell 2
      have hq : ∀ W : World, (Op.equalIn 10000 27 (.agg #[.int .i64 p, .int .i64 q, .int .i64 r, .int .i64 0, .int .u64 0, .int .i64 s, .int .i64 0]) (.agg #[.int .i64 p, .int .i64 q, .int .i64 r, .int .i64 0, .int .u64 0, .int .i64 s, .int .i64 0])).run Try.prog W = .ok true W := fun W => eqMt _ _ _ _ _ _ _ W
      clear hU HM3 HG3 HW3 HNE m2 g2
      generalize w1.heap.size = G1 at *
      generalize w3.heap.size = G3 at *
      go_wp2_with (first
        | (refine wp_whole rfl 27 _ rfl (G1) rfl 27 #[.int .i64 p, .int .i64 q, .int .i64 r, .int .i64 0, .int .u64 0, .int .i64 s, .int .i64 0] _ HM4.out Try.underlying27 rfl (by kernel_rfl) ?_)
        | (refine wp_whole rfl 27 _ rfl (G3) rfl 27 #[.int .i64 p, .int .i64 q, .int .i64 r, .int .i64 0, .int .u64 0, .int .i64 s, .int .i64 0] _ HG4.out Try.underlying27 rfl (by kernel_rfl) ?_)
        | fail)
      go_ret
      exact ⟨rfl, HW4.out⟩
    · have HT : Hid (∀ W, Below w.heap.size w W → Calls Try.prog 11 #[.agg #[.int .i64 p, .int .i64 q, .int .i64 r, .int .i64 0, .int .u64 0, .int .i64 s, .int .i64 0], .int .i64 ld] W fun e w' => e = .returned (.tuple #[.agg #[.int .i64 p, .int .i64 q, .int .i64 0, .int .i64 0, .int .u64 0, .int .i64 s, .int .i64 0], .int .i64 r, .int .i64 0]) ∧ Below W.heap.size W w') := hT
      clear hT
      have t1 : ((0 : Int) != r - r) = false := by simp
      have t3 : decide (r < 0) = false := by simp; omega
      have t4 : decide (ld < r) = false := by simp; omega
      have t5 : (r == ld) = false := by simp [he]
      have t6 : (r == r) = true := by simp
      clear hl he
      go_enter Try.func4, Try.ntmps4
      go_wp2_with (first
        | (refine wp_whole rfl 37 _ rfl w.heap.size rfl 37 #[.int .i64 x, .int .i64 y, .int .i64 z, .int .i64 u] _ HX.out Try.underlying37 rfl (by kernel_rfl) ?_)
        | fail)
      refine (HN.out _).mono ?_
      rintro e w1 ⟨rfl, hb1⟩
      have HM1 : Hid (Blk (w1.alloc (.cells #[.int .i64 p, .int .i64 q, .int .i64 r, .int .i64 0, .int .u64 0, .int .i64 s, .int .i64 0] 27)) w1.heap.size #[.int .i64 p, .int .i64 q, .int .i64 r, .int .i64 0, .int .u64 0, .int .i64 s, .int .i64 0] 27) := Blk.new _ _ _
      have hB1 := bel_step HW0.out hb1
      have HW1 : Hid (Below w.heap.size w (w1.alloc (.cells #[.int .i64 p, .int .i64 q, .int .i64 r, .int .i64 0, .int .u64 0, .int .i64 s, .int .i64 0] 27))) := hB1.alloc hB1.size _
      have HSZ : Hid (w.heap.size ≤ w1.heap.size) := hB1.size
      clear hb1 hB1 HX HW0 HN
      go_wp2_with fail
      refine (HP.out _).mono ?_
      rintro e w2 ⟨rfl, rfl⟩
      go_wp2_with (first
        | (refine wp_whole rfl 27 _ rfl (w1.heap.size) rfl 27 #[.int .i64 p, .int .i64 q, .int .i64 r, .int .i64 0, .int .u64 0, .int .i64 s, .int .i64 0] _ HM1.out Try.underlying27 rfl (by kernel_rfl) ?_)
        | fail)
      refine (HT.out _ HW1.out).mono ?_
      rintro e w3 ⟨rfl, hb3⟩
      have HM3 : Hid (Blk (w3.alloc (.cells #[.int .i64 p, .int .i64 q, .int .i64 0, .int .i64 0, .int .u64 0, .int .i64 s, .int .i64 0] 27)) w1.heap.size #[.int .i64 p, .int .i64 q, .int .i64 r, .int .i64 0, .int .u64 0, .int .i64 s, .int .i64 0] 27) := (HM1.out.next hb3).alloc _
      have HG3 : Hid (Blk (w3.alloc (.cells #[.int .i64 p, .int .i64 q, .int .i64 0, .int .i64 0, .int .u64 0, .int .i64 s, .int .i64 0] 27)) w3.heap.size #[.int .i64 p, .int .i64 q, .int .i64 0, .int .i64 0, .int .u64 0, .int .i64 s, .int .i64 0] 27) := Blk.new _ _ _
      have hB3 := bel_step HW1.out hb3
      have HW3 : Hid (Below w.heap.size w (w3.alloc (.cells #[.int .i64 p, .int .i64 q, .int .i64 0, .int .i64 0, .int .u64 0, .int .i64 s, .int .i64 0] 27))) := hB3.alloc hB3.size _
      have HNE : Hid (w1.heap.size ≠ w3.heap.size ∧ w.heap.size ≤ w3.heap.size) := ⟨Nat.ne_of_lt (by have := hb3.size; simp at this; omega), hB3.size⟩
      have m2 : (w3.alloc (.cells #[.int .i64 p, .int .i64 q, .int .i64 0, .int .i64 0, .int .u64 0, .int .i64 s, .int .i64 0] 27)).cell? ⟨w1.heap.size, 2, none⟩ = some (.int .i64 r) := HM3.out.cell 2
      have g2 : (w3.alloc (.cells #[.int .i64 p, .int .i64 q, .int .i64 0, .int .i64 0, .int .u64 0, .int .i64 s, .int .i64 0] 27)).cell? ⟨w3.heap.size, 2, none⟩ = some (.int .i64 0) := HG3.out.cell 2
      clear hb3 hB3 HM1 HW1 HT HP
      go_wp2_with (first
        | (refine wp_let1 rfl 3 _ _ rfl w3.heap.size 2 rfl .i64 r rfl (by kernel_rfl) #[.int .i64 p, .int .i64 q, .int .i64 0, .int .i64 0, .int .u64 0, .int .i64 s, .int .i64 0] 27 HG3.out (by simp) ?_)
        | fail)
      intro W4 hU
      have HM4 : Hid (Blk W4 w1.heap.size #[.int .i64 p, .int .i64 q, .int .i64 r, .int .i64 0, .int .u64 0, .int .i64 s, .int .i64 0] 27) := hU.keep HM3.out HNE.out.1
      have HG4 : Hid (Blk W4 w3.heap.size #[.int .i64 p, .int .i64 q, .int .i64 r, .int .i64 0, .int .u64 0, .int .i64 s, .int .i64 0] 27) := hU.blk
      have HW4 : Hid (Below w.heap.size w W4) := hU.bel _ _ HNE.out.2 HW3.out
      have m4 : W4.cell? ⟨w1.heap.size, 2, none⟩ = some (.int .i64 r) := HM4.out.cell 2
      have hq : ∀ W : World, (Op.equalIn 10000 27 (.agg #[.int .i64 p, .int .i64 q, .int .i64 r, .int .i64 0, .int .u64 0, .int .i64 s, .int .i64 0]) (.agg #[.int .i64 p, .int .i64 q, .int .i64 r, .int .i64 0, .int .u64 0, .int .i64 s, .int .i64 0])).run Try.prog W = .ok true W := fun W => eqMt _ _ _ _ _ _ _ W
      clear hU HM3 HG3 HW3 HNE m2 g2
      generalize w1.heap.size = G1 at *
      generalize w3.heap.size = G3 at *
      go_wp2_with (first
        | (refine wp_whole rfl 27 _ rfl (G1) rfl 27 #[.int .i64 p, .int .i64 q, .int .i64 r, .int .i64 0, .int .u64 0, .int .i64 s, .int .i64 0] _ HM4.out Try.underlying27 rfl (by kernel_rfl) ?_)
        | (refine wp_whole rfl 27 _ rfl (G3) rfl 27 #[.int .i64 p, .int .i64 q, .int .i64 r, .int .i64 0, .int .u64 0, .int .i64 s, .int .i64 0] _ HG4.out Try.underlying27 rfl (by kernel_rfl) ?_)
        | fail)
      go_ret
      exact ⟨rfl, HW4.out⟩
  · rw [if_neg hl, if_neg hl] at hT
    have HT : Hid (∀ W, Below w.heap.size w W → Calls Try.prog 11 #[.agg #[.int .i64 p, .int .i64 q, .int .i64 r, .int .i64 0, .int .u64 0, .int .i64 s, .int .i64 0], .int .i64 ld] W fun e w' => e = .returned (.tuple #[.agg #[.int .i64 p, .int .i64 q, .int .i64 (r - ld), .int .i64 0, .int .u64 0, .int .i64 s, .int .i64 0], .int .i64 ld, .int .i64 0]) ∧ Below W.heap.size W w') := hT
    clear hT
    have t1 : (r - ld != r - ld) = false := by simp
    have t2 : decide (r - ld < 0) = false := by simp; omega
    have t3 : decide (ld < 0) = false := by simp; omega
    have t4 : decide (ld < ld) = false := by simp
    have t5 : (ld == ld) = true := by simp
    clear hl
    go_enter Try.func4, Try.ntmps4
    go_wp2_with (first
      | (refine wp_whole rfl 37 _ rfl w.heap.size rfl 37 #[.int .i64 x, .int .i64 y, .int .i64 z, .int .i64 u] _ HX.out Try.underlying37 rfl (by kernel_rfl) ?_)
      | fail)
    refine (HN.out _).mono ?_
    rintro e w1 ⟨rfl, hb1⟩
    have HM1 : Hid (Blk (w1.alloc (.cells #[.int .i64 p, .int .i64 q, .int .i64 r, .int .i64 0, .int .u64 0, .int .i64 s, .int .i64 0] 27)) w1.heap.size #[.int .i64 p, .int .i64 q, .int .i64 r, .int .i64 0, .int .u64 0, .int .i64 s, .int .i64 0] 27) := Blk.new _ _ _
    have hB1 := bel_step HW0.out hb1
    have HW1 : Hid (Below w.heap.size w (w1.alloc (.cells #[.int .i64 p, .int .i64 q, .int .i64 r, .int .i64 0, .int .u64 0, .int .i64 s, .int .i64 0] 27))) := hB1.alloc hB1.size _
    have HSZ : Hid (w.heap.size ≤ w1.heap.size) := hB1.size
    clear hb1 hB1 HX HW0 HN
    go_wp2_with fail
    refine (HP.out _).mono ?_
    rintro e w2 ⟨rfl, rfl⟩
    go_wp2_with (first
      | (refine wp_whole rfl 27 _ rfl (w1.heap.size) rfl 27 #[.int .i64 p, .int .i64 q, .int .i64 r, .int .i64 0, .int .u64 0, .int .i64 s, .int .i64 0] _ HM1.out Try.underlying27 rfl (by kernel_rfl) ?_)
      | fail)
    refine (HT.out _ HW1.out).mono ?_
    rintro e w3 ⟨rfl, hb3⟩
    have HM3 : Hid (Blk (w3.alloc (.cells #[.int .i64 p, .int .i64 q, .int .i64 (r - ld), .int .i64 0, .int .u64 0, .int .i64 s, .int .i64 0] 27)) w1.heap.size #[.int .i64 p, .int .i64 q, .int .i64 r, .int .i64 0, .int .u64 0, .int .i64 s, .int .i64 0] 27) := (HM1.out.next hb3).alloc _
    have HG3 : Hid (Blk (w3.alloc (.cells #[.int .i64 p, .int .i64 q, .int .i64 (r - ld), .int .i64 0, .int .u64 0, .int .i64 s, .int .i64 0] 27)) w3.heap.size #[.int .i64 p, .int .i64 q, .int .i64 (r - ld), .int .i64 0, .int .u64 0, .int .i64 s, .int .i64 0] 27) := Blk.new _ _ _
    have hB3 := bel_step HW1.out hb3
    have HW3 : Hid (Below w.heap.size w (w3.alloc (.cells #[.int .i64 p, .int .i64 q, .int .i64 (r - ld), .int .i64 0, .int .u64 0, .int .i64 s, .int .i64 0] 27))) := hB3.alloc hB3.size _
    have HNE : Hid (w1.heap.size ≠ w3.heap.size ∧ w.heap.size ≤ w3.heap.size) := ⟨Nat.ne_of_lt (by have := hb3.size; simp at this; omega), hB3.size⟩
    have m2 : (w3.alloc (.cells #[.int .i64 p, .int .i64 q, .int .i64 (r - ld), .int .i64 0, .int .u64 0, .int .i64 s, .int .i64 0] 27)).cell? ⟨w1.heap.size, 2, none⟩ = some (.int .i64 r) := HM3.out.cell 2
    have g2 : (w3.alloc (.cells #[.int .i64 p, .int .i64 q, .int .i64 (r - ld), .int .i64 0, .int .u64 0, .int .i64 s, .int .i64 0] 27)).cell? ⟨w3.heap.size, 2, none⟩ = some (.int .i64 (r - ld)) := HG3.out.cell 2
    clear hb3 hB3 HM1 HW1 HT HP
    go_wp2_with (first
      | (refine wp_let1 rfl 3 _ _ rfl w3.heap.size 2 rfl .i64 r rfl (by kernel_rfl) #[.int .i64 p, .int .i64 q, .int .i64 (r - ld), .int .i64 0, .int .u64 0, .int .i64 s, .int .i64 0] 27 HG3.out (by simp) ?_)
      | fail)
    intro W4 hU
    have HM4 : Hid (Blk W4 w1.heap.size #[.int .i64 p, .int .i64 q, .int .i64 r, .int .i64 0, .int .u64 0, .int .i64 s, .int .i64 0] 27) := hU.keep HM3.out HNE.out.1
    have HG4 : Hid (Blk W4 w3.heap.size #[.int .i64 p, .int .i64 q, .int .i64 r, .int .i64 0, .int .u64 0, .int .i64 s, .int .i64 0] 27) := hU.blk
    have HW4 : Hid (Below w.heap.size w W4) := hU.bel _ _ HNE.out.2 HW3.out
    have m4 : W4.cell? ⟨w1.heap.size, 2, none⟩ = some (.int .i64 r) := HM4.out.cell 2
    have hq : ∀ W : World, (Op.equalIn 10000 27 (.agg #[.int .i64 p, .int .i64 q, .int .i64 r, .int .i64 0, .int .u64 0, .int .i64 s, .int .i64 0]) (.agg #[.int .i64 p, .int .i64 q, .int .i64 r, .int .i64 0, .int .u64 0, .int .i64 s, .int .i64 0])).run Try.prog W = .ok true W := fun W => eqMt _ _ _ _ _ _ _ W
    clear hU HM3 HG3 HW3 HNE m2 g2
    generalize w1.heap.size = G1 at *
    generalize w3.heap.size = G3 at *
    go_wp2_with (first
      | (refine wp_whole rfl 27 _ rfl (G1) rfl 27 #[.int .i64 p, .int .i64 q, .int .i64 r, .int .i64 0, .int .u64 0, .int .i64 s, .int .i64 0] _ HM4.out Try.underlying27 rfl (by kernel_rfl) ?_)
      | (refine wp_whole rfl 27 _ rfl (G3) rfl 27 #[.int .i64 p, .int .i64 q, .int .i64 r, .int .i64 0, .int .u64 0, .int .i64 s, .int .i64 0] _ HG4.out Try.underlying27 rfl (by kernel_rfl) ?_)
      | fail)
    go_ret
    exact ⟨rfl, HW4.out⟩
theorem burns_walk {I : World → Prop} (hI : Inv I) (KT : KTick I) (x y z u ld0 : Int) (w : World) (h0 : I w) (hw : wf4i x y z u) (hl : (Lit.int .i64 ld0).wf = true) :
    Calls Try.prog 4 #[.agg #[.int .i64 x, .int .i64 y, .int .i64 z, .int .i64 u], .int .i64 ld0] w fun e w' => e = .returned (.bool true) ∧ Below w.heap.size w w' := by
  have hm := newM_may x y z u
  have hc := hm.cr
  have hld : (pick ld0 1001).toNat < 1001 := pick_toNat ld0 1001 (by decide)
  refine burns_abs x y z u ld0 _ _ _ _ (((pick ld0 1001).toNat : Nat) : Int) w hc.1 hc.2 (by omega) (by omega) (fun W => newMeter_any x y z u W hw) (fun W => picked_nat ld0 1001 W hl (by decide) (by decide)) fun W hB => (KT W (newM x y z u) _ (hI.from h0 hB) (show 0 < 18446744073709551616 by decide)).mono fun e w' ⟨m', a, f, he, hi, hb⟩ => ?_
  have hld' : 0 ≤ (((pick ld0 1001).toNat : Nat) : Int) ∧ (((pick ld0 1001).toNat : Nat) : Int) ≤ 1000 := by omega
  obtain ⟨rfl, rfl, rfl⟩ := (TickIs.ok hm hld').one hi
  exact ⟨he, hb⟩

end Go.Proofs.Ytmpapnblpjnlmab.met
