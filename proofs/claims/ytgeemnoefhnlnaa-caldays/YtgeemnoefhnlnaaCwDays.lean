/- The statement of days. -/
import Derived.Test.YtgeemnoefhnlnaaKaDay
import Derived.Test.YtgeemnoefhnlnaaCaS
import Derived.Test.YtgeemnoefhnlnaaLetG
namespace Go.Proofs.Ytgeemnoefhnlnaa.cal
open Go.RowKit
set_option maxRecDepth 100000
set_option linter.unusedVariables false
set_option linter.unusedSimpArgs false

set_option maxHeartbeats 1000000 in
theorem days_walk (K : KaDay) (y m d : Int) (w : World) (hy : (Lit.int .i64 y).wf = true) (hm : (Lit.int .i64 m).wf = true) (hd : (Lit.int .i64 d).wf = true) : Calls Try.prog 3 #[.agg #[.int .i64 y, .int .i64 m, .int .i64 d]] w fun e w' => e = .returned (.bool true) ∧ Below w.heap.size w w' := by
  have H1 : Hid (∀ W, Calls Try.prog 9 #[.agg #[.int .i64 y, .int .i64 m, .int .i64 d]] W fun e w' => DayPost W y m d e w') := fun W => K W y m d hy hm hd
  have H2 : Hid (∀ W, Calls Try.prog 10 #[.agg #[.int .i64 y, .int .i64 m, .int .i64 d]] W fun e w' => DayPost W y m d e w') := fun W => dayOf y m d W
  clear K hy hm hd
  have H0d : Hid (Blk (w.alloc (.cells #[.int .i64 y, .int .i64 m, .int .i64 d] 23)) (w.heap.size) #[.int .i64 y, .int .i64 m, .int .i64 d] 23) := Blk.new w _ _
  have H0B : Hid (Below w.heap.size w (w.alloc (.cells #[.int .i64 y, .int .i64 m, .int .i64 d] 23))) := (Below.refl w.heap.size w).alloc (by simp) _
  go_enter Try.func3, Try.ntmps3
  go_wp2_with (first
    | (refine wp_whole rfl 23 _ rfl (w.heap.size) rfl 23 #[.int .i64 y, .int .i64 m, .int .i64 d] _ H0d.out Try.underlying23 rfl (by kernel_rfl) ?_)
    | (refine wp_wholeG (by rfl) 23 _ rfl (w.heap.size) rfl 23 #[.int .i64 y, .int .i64 m, .int .i64 d] _ H0d.out Try.underlying23 rfl (by kernel_rfl) ?_)
    | fail)
  refine (H1.out _).mono ?_
  rintro e w1 ⟨x1, f1, rfl, hi1, hb1⟩
  have H1d : Hid (Blk w1 (w.heap.size) #[.int .i64 y, .int .i64 m, .int .i64 d] 23) := H0d.out.next hb1
  have H1B : Hid (Below w.heap.size w w1) := bel_step H0B.out hb1
  have HI : Hid (DayIs y m d x1 f1) := hi1
  clear H0d H0B hb1 hi1 H1
  go_wp2_with (first
    | (refine wp_whole rfl 23 _ rfl (w.heap.size) rfl 23 #[.int .i64 y, .int .i64 m, .int .i64 d] _ H1d.out Try.underlying23 rfl (by kernel_rfl) ?_)
    | (refine wp_wholeG (by rfl) 23 _ rfl (w.heap.size) rfl 23 #[.int .i64 y, .int .i64 m, .int .i64 d] _ H1d.out Try.underlying23 rfl (by kernel_rfl) ?_)
    | fail)
  refine (H2.out _).mono ?_
  rintro e w2 ⟨x2, f2, rfl, hi2, hb2⟩
  have H2d : Hid (Blk w2 (w.heap.size) #[.int .i64 y, .int .i64 m, .int .i64 d] 23) := H1d.out.next hb2
  have H2B : Hid (Below w.heap.size w w2) := bel_step H1B.out hb2
  obtain ⟨rfl, rfl⟩ := HI.out.one hi2
  clear H1d H1B hb2 hi2 H2 HI
  have e1 : (x1 == x1) = true := by simp
  have e2 : (f1 == f1) = true := by simp
  go_wp2_with fail
  go_ret
  exact ⟨rfl, H2B.out⟩

end Go.Proofs.Ytgeemnoefhnlnaa.cal
