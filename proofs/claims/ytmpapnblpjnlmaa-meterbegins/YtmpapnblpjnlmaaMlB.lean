/- The statement of beginning. -/
import Derived.Test.YtmpapnblpjnlmaaMjB
import Derived.Test.YtmpapnblpjnlmaaMtE
import Derived.Test.YtmpapnblpjnlmaaMtT
namespace Go.Proofs.Ytmpapnblpjnlmaa.met
open Go.RowKit
set_option maxRecDepth 100000
set_option linter.unusedVariables false
set_option linter.unusedSimpArgs false

set_option maxHeartbeats 1000000 in
theorem begins_walk {I : World → Prop} (hI : Inv I) (KB : KBegin I) (me : Int) (w : World) (h0 : I w) : Calls Try.prog 3 #[.int .i64 me] w fun e w' => e = .returned (.bool true) ∧ Below w.heap.size w w' := by
  have H1 : Hid (Calls Try.prog 8 #[.int .i64 me] w fun e w' => BeginPost w me e w') := KB w me h0
  have H2 : Hid (∀ W, Calls Try.prog 9 #[.int .i64 me] W fun e w' => BeginPost W me e w') := fun W => begun_any me W
  clear KB hI h0
  go_enter Try.func3, Try.ntmps3
  go_wp2_with fail
  refine H1.out.mono ?_
  rintro e w1 ⟨m1, f1, rfl, hb1, hw1⟩
  have HBI : Hid (BeginIs me m1 f1) := hb1
  have HW1 : Hid (Below w.heap.size w w1) := hw1
  clear hb1 hw1 H1
  obtain ⟨me1, rev1, cr1, h1, b1, bad1, lock1⟩ := m1
  unfold Mt.v Mt.cells
  simp only []
  have HG1 : Hid (Blk (w1.alloc (.cells #[.int .i64 me1, .int .i64 rev1, .int .i64 cr1, .int .i64 h1, .int .u64 (b1 : Int), .int .i64 bad1, .int .i64 lock1] 26)) w1.heap.size #[.int .i64 me1, .int .i64 rev1, .int .i64 cr1, .int .i64 h1, .int .u64 (b1 : Int), .int .i64 bad1, .int .i64 lock1] 26) := Blk.new _ _ _
  have HWA : Hid (Below w.heap.size w (w1.alloc (.cells #[.int .i64 me1, .int .i64 rev1, .int .i64 cr1, .int .i64 h1, .int .u64 (b1 : Int), .int .i64 bad1, .int .i64 lock1] 26))) := HW1.out.alloc HW1.out.size _
  go_wp2_with fail
  refine (H2.out _).mono ?_
  rintro e w2 ⟨m2, f2, rfl, hb2, hw2⟩
  obtain ⟨rfl, rfl⟩ := HBI.out.one hb2
  have HG3 : Hid (Blk (w2.alloc (.cells #[.int .i64 me1, .int .i64 rev1, .int .i64 cr1, .int .i64 h1, .int .u64 (b1 : Int), .int .i64 bad1, .int .i64 lock1] 26)) w1.heap.size #[.int .i64 me1, .int .i64 rev1, .int .i64 cr1, .int .i64 h1, .int .u64 (b1 : Int), .int .i64 bad1, .int .i64 lock1] 26) := (HG1.out.next hw2).alloc _
  have HG4 : Hid (Blk (w2.alloc (.cells #[.int .i64 me1, .int .i64 rev1, .int .i64 cr1, .int .i64 h1, .int .u64 (b1 : Int), .int .i64 bad1, .int .i64 lock1] 26)) w2.heap.size #[.int .i64 me1, .int .i64 rev1, .int .i64 cr1, .int .i64 h1, .int .u64 (b1 : Int), .int .i64 bad1, .int .i64 lock1] 26) := Blk.new _ _ _
  have HW2 : Hid (Below w.heap.size w (w2.alloc (.cells #[.int .i64 me1, .int .i64 rev1, .int .i64 cr1, .int .i64 h1, .int .u64 (b1 : Int), .int .i64 bad1, .int .i64 lock1] 26))) := (bel_step HWA.out hw2).alloc (bel_step HWA.out hw2).size _
  have hq : ∀ W : World, (Op.equalIn 10000 26 (.agg #[.int .i64 me1, .int .i64 rev1, .int .i64 cr1, .int .i64 h1, .int .u64 (b1 : Int), .int .i64 bad1, .int .i64 lock1]) (.agg #[.int .i64 me1, .int .i64 rev1, .int .i64 cr1, .int .i64 h1, .int .u64 (b1 : Int), .int .i64 bad1, .int .i64 lock1])).run Try.prog W = .ok true W := fun W => eqMt _ _ _ _ _ _ _ W
  have hf : (f1 == f1) = true := beq_self_eq_true f1
  clear hb2 hw2 H2 HG1 HWA HW1 HBI
  unfold Mt.v Mt.cells
  simp only []
  go_wp2_with (first
    | (refine wp_whole rfl 26 _ rfl (w1.heap.size) rfl 26 #[.int .i64 me1, .int .i64 rev1, .int .i64 cr1, .int .i64 h1, .int .u64 (b1 : Int), .int .i64 bad1, .int .i64 lock1] _ HG3.out Try.underlying26 rfl (by kernel_rfl) ?_)
    | (refine wp_whole rfl 26 _ rfl (w2.heap.size) rfl 26 #[.int .i64 me1, .int .i64 rev1, .int .i64 cr1, .int .i64 h1, .int .u64 (b1 : Int), .int .i64 bad1, .int .i64 lock1] _ HG4.out Try.underlying26 rfl (by kernel_rfl) ?_)
    | fail)
  go_ret
  exact ⟨rfl, HW2.out⟩

end Go.Proofs.Ytmpapnblpjnlmaa.met
