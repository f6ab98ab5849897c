/- The statement of ticking. -/
import Derived.Test.YtmpapnblpjnlmaaMjT
import Derived.Test.YtmpapnblpjnlmaaMtE
import Derived.Test.YtmpapnblpjnlmaaMtT
namespace Go.Proofs.Ytmpapnblpjnlmaa.met
open Go.RowKit
set_option maxRecDepth 100000
set_option linter.unusedVariables false
set_option linter.unusedSimpArgs false

set_option maxHeartbeats 1000000 in
theorem ticks_walk {I : World → Prop} (hI : Inv I) (KT : KTick I) (m : Mt) (ld : Int) (w : World) (h0 : I w) (hb : m.b < 18446744073709551616) : Calls Try.prog 4 #[m.v, .int .i64 ld] w fun e w' => e = .returned (.bool true) ∧ Below w.heap.size w w' := by
  have H1 : Hid (∀ W, Below w.heap.size w W → Calls Try.prog 10 #[m.v, .int .i64 ld] W fun e w' => TickPost W m ld e w') := fun W hB => KT W m ld (hI.from h0 hB) hb
  have H2 : Hid (∀ W, Calls Try.prog 11 #[m.v, .int .i64 ld] W fun e w' => TickPost W m ld e w') := fun W => ticked_any m ld W hb
  clear KT hI h0 hb
  obtain ⟨me, rev, cr, h, b, bad, lock⟩ := m
  unfold Mt.v Mt.cells at *
  simp only [] at H1 H2 ⊢
  have HM0 : Hid (Blk (w.alloc (.cells #[.int .i64 me, .int .i64 rev, .int .i64 cr, .int .i64 h, .int .u64 (b : Int), .int .i64 bad, .int .i64 lock] 26)) w.heap.size #[.int .i64 me, .int .i64 rev, .int .i64 cr, .int .i64 h, .int .u64 (b : Int), .int .i64 bad, .int .i64 lock] 26) := Blk.new _ _ _
  have HW0 : Hid (Below w.heap.size w (w.alloc (.cells #[.int .i64 me, .int .i64 rev, .int .i64 cr, .int .i64 h, .int .u64 (b : Int), .int .i64 bad, .int .i64 lock] 26))) := (Below.refl _ _).alloc (Nat.le_refl _) _
  go_enter Try.func4, Try.ntmps4
  go_wp2_with (first
    | (refine wp_whole rfl 26 _ rfl (w.heap.size) rfl 26 #[.int .i64 me, .int .i64 rev, .int .i64 cr, .int .i64 h, .int .u64 (b : Int), .int .i64 bad, .int .i64 lock] _ HM0.out Try.underlying26 rfl (by kernel_rfl) ?_)
    | fail)
  refine (H1.out _ HW0.out).mono ?_
  rintro e w1 ⟨m1, x1, f1, rfl, hb1, hw1⟩
  have HBI : Hid (TickIs ⟨me, rev, cr, h, b, bad, lock⟩ ld m1 x1 f1) := hb1
  have HW1 : Hid (Below w.heap.size w w1) := bel_step HW0.out hw1
  have HM1 := HM0.out.next hw1
  clear hb1 hw1 H1 HM0 HW0
  obtain ⟨me1, rev1, cr1, h1, b1, bad1, lock1⟩ := m1
  unfold Mt.v Mt.cells
  simp only []
  have HM2 : Hid (Blk (w1.alloc (.cells #[.int .i64 me1, .int .i64 rev1, .int .i64 cr1, .int .i64 h1, .int .u64 (b1 : Int), .int .i64 bad1, .int .i64 lock1] 26)) w.heap.size #[.int .i64 me, .int .i64 rev, .int .i64 cr, .int .i64 h, .int .u64 (b : Int), .int .i64 bad, .int .i64 lock] 26) := HM1.alloc _
  have HG1 : Hid (Blk (w1.alloc (.cells #[.int .i64 me1, .int .i64 rev1, .int .i64 cr1, .int .i64 h1, .int .u64 (b1 : Int), .int .i64 bad1, .int .i64 lock1] 26)) w1.heap.size #[.int .i64 me1, .int .i64 rev1, .int .i64 cr1, .int .i64 h1, .int .u64 (b1 : Int), .int .i64 bad1, .int .i64 lock1] 26) := Blk.new _ _ _
  have HWA : Hid (Below w.heap.size w (w1.alloc (.cells #[.int .i64 me1, .int .i64 rev1, .int .i64 cr1, .int .i64 h1, .int .u64 (b1 : Int), .int .i64 bad1, .int .i64 lock1] 26))) := HW1.out.alloc HW1.out.size _
  clear HM1
  go_wp2_with (first
    | (refine wp_whole rfl 26 _ rfl (w.heap.size) rfl 26 #[.int .i64 me, .int .i64 rev, .int .i64 cr, .int .i64 h, .int .u64 (b : Int), .int .i64 bad, .int .i64 lock] _ HM2.out Try.underlying26 rfl (by kernel_rfl) ?_)
    | fail)
  refine (H2.out _).mono ?_
  rintro e w2 ⟨m2, x2, f2, rfl, hb2, hw2⟩
  obtain ⟨rfl, rfl, rfl⟩ := HBI.out.one hb2
  have HG3 : Hid (Blk (w2.alloc (.cells #[.int .i64 me1, .int .i64 rev1, .int .i64 cr1, .int .i64 h1, .int .u64 (b1 : Int), .int .i64 bad1, .int .i64 lock1] 26)) w1.heap.size #[.int .i64 me1, .int .i64 rev1, .int .i64 cr1, .int .i64 h1, .int .u64 (b1 : Int), .int .i64 bad1, .int .i64 lock1] 26) := (HG1.out.next hw2).alloc _
  have HG4 : Hid (Blk (w2.alloc (.cells #[.int .i64 me1, .int .i64 rev1, .int .i64 cr1, .int .i64 h1, .int .u64 (b1 : Int), .int .i64 bad1, .int .i64 lock1] 26)) w2.heap.size #[.int .i64 me1, .int .i64 rev1, .int .i64 cr1, .int .i64 h1, .int .u64 (b1 : Int), .int .i64 bad1, .int .i64 lock1] 26) := Blk.new _ _ _
  have HW2 : Hid (Below w.heap.size w (w2.alloc (.cells #[.int .i64 me1, .int .i64 rev1, .int .i64 cr1, .int .i64 h1, .int .u64 (b1 : Int), .int .i64 bad1, .int .i64 lock1] 26))) := (bel_step HWA.out hw2).alloc (bel_step HWA.out hw2).size _
  have hq : ∀ W : World, (Op.equalIn 10000 26 (.agg #[.int .i64 me1, .int .i64 rev1, .int .i64 cr1, .int .i64 h1, .int .u64 (b1 : Int), .int .i64 bad1, .int .i64 lock1]) (.agg #[.int .i64 me1, .int .i64 rev1, .int .i64 cr1, .int .i64 h1, .int .u64 (b1 : Int), .int .i64 bad1, .int .i64 lock1])).run Try.prog W = .ok true W := fun W => eqMt _ _ _ _ _ _ _ W
  have hf : (f1 == f1) = true := beq_self_eq_true f1
  have hx : (x1 == x1) = true := beq_self_eq_true x1
  clear hb2 hw2 H2 HG1 HWA HW1 HBI HM2
  unfold Mt.v Mt.cells
  simp only []
  go_wp2_with (first
    | (refine wp_whole rfl 26 _ rfl (w1.heap.size) rfl 26 #[.int .i64 me1, .int .i64 rev1, .int .i64 cr1, .int .i64 h1, .int .u64 (b1 : Int), .int .i64 bad1, .int .i64 lock1] _ HG3.out Try.underlying26 rfl (by kernel_rfl) ?_)
    | (refine wp_whole rfl 26 _ rfl (w2.heap.size) rfl 26 #[.int .i64 me1, .int .i64 rev1, .int .i64 cr1, .int .i64 h1, .int .u64 (b1 : Int), .int .i64 bad1, .int .i64 lock1] _ HG4.out Try.underlying26 rfl (by kernel_rfl) ?_)
    | fail)
  go_ret
  exact ⟨rfl, HW2.out⟩

end Go.Proofs.Ytmpapnblpjnlmaa.met
