/- The statement of dates. -/
import Derived.Test.YtgeemnoefhnlnaaKaDate
import Derived.Test.YtgeemnoefhnlnaaCaR
import Derived.Test.YtgeemnoefhnlnaaCaEq
import Derived.Test.YtgeemnoefhnlnaaLetG
namespace Go.Proofs.Ytgeemnoefhnlnaa.cal
open Go.RowKit
set_option maxRecDepth 100000
set_option linter.unusedVariables false
set_option linter.unusedSimpArgs false

set_option maxHeartbeats 1000000 in
theorem dates_walk (K : KaDate) (x : Int) (w : World) (hx : (Lit.int .i64 x).wf = true) : Calls Try.prog 4 #[.int .i64 x] w fun e w' => e = .returned (.bool true) ∧ Below w.heap.size w w' := by
  have H1 : Hid (∀ W, Calls Try.prog 11 #[.int .i64 x] W fun e w' => DatePost W x e w') := fun W => K W x hx
  have H2 : Hid (∀ W, Calls Try.prog 12 #[.int .i64 x] W fun e w' => DatePost W x e w') := fun W => dateFrom x W
  clear K hx
  have H0B : Hid (Below w.heap.size w w) := Below.refl _ _
  go_enter Try.func4, Try.ntmps4
  go_wp2_with fail
  refine (H1.out _).mono ?_
  rintro e w1 ⟨y1, m1, d1, f1, rfl, hi1, hb1⟩
  have H1B : Hid (Below w.heap.size w w1) := bel_step H0B.out hb1
  have HI : Hid (DateIs x y1 m1 d1 f1) := hi1
  have H2a : Hid (Blk (w1.alloc (.cells #[.int .i64 y1, .int .i64 m1, .int .i64 d1] 23)) (w1.heap.size) #[.int .i64 y1, .int .i64 m1, .int .i64 d1] 23) := (Blk.new w1 _ _)
  have H2B : Hid (Below w.heap.size w (w1.alloc (.cells #[.int .i64 y1, .int .i64 m1, .int .i64 d1] 23))) := (H1B.out).alloc (Nat.le_trans H1B.out.size (by simp)) _
  have L20 : Hid (w.heap.size ≤ w1.heap.size) := H1B.out.size
  clear H0B H1B hb1 hi1 H1
  go_wp2_with (first
    | (refine wp_whole rfl 23 _ rfl (w1.heap.size) rfl 23 #[.int .i64 y1, .int .i64 m1, .int .i64 d1] _ H2a.out Try.underlying23 rfl (by kernel_rfl) ?_)
    | (refine wp_wholeG (by rfl) 23 _ rfl (w1.heap.size) rfl 23 #[.int .i64 y1, .int .i64 m1, .int .i64 d1] _ H2a.out Try.underlying23 rfl (by kernel_rfl) ?_)
    | fail)
  refine (H2.out _).mono ?_
  rintro e w2 ⟨y2, m2, d2, f2, rfl, hi2, hb2⟩
  have H3a : Hid (Blk w2 (w1.heap.size) #[.int .i64 y1, .int .i64 m1, .int .i64 d1] 23) := H2a.out.next hb2
  have H3B : Hid (Below w.heap.size w w2) := bel_step H2B.out hb2
  obtain ⟨rfl, rfl, rfl, rfl⟩ := HI.out.one hi2
  have H4a : Hid (Blk (w2.alloc (.cells #[.int .i64 y1, .int .i64 m1, .int .i64 d1] 23)) (w1.heap.size) #[.int .i64 y1, .int .i64 m1, .int .i64 d1] 23) := (H3a.out).alloc _
  have H4b : Hid (Blk (w2.alloc (.cells #[.int .i64 y1, .int .i64 m1, .int .i64 d1] 23)) (w2.heap.size) #[.int .i64 y1, .int .i64 m1, .int .i64 d1] 23) := (Blk.new w2 _ _)
  have L4ba : Hid (w1.heap.size < w2.heap.size) := Nat.lt_of_lt_of_le H3a.out.lt (by simp)
  have H4B : Hid (Below w.heap.size w (w2.alloc (.cells #[.int .i64 y1, .int .i64 m1, .int .i64 d1] 23))) := (H3B.out).alloc (Nat.le_trans H3B.out.size (by simp)) _
  have L40 : Hid (w.heap.size ≤ w2.heap.size) := H3B.out.size
  clear H2a H2B H3a H3B hb2 hi2 H2 HI
  have e2 : (f1 == f1) = true := by simp
  have hq : ∀ W : World, (Op.equalIn 10000 23 (.agg #[.int .i64 y1, .int .i64 m1, .int .i64 d1]) (.agg #[.int .i64 y1, .int .i64 m1, .int .i64 d1])).run Try.prog W = .ok true W := fun W => eqDate _ _ _ W
  go_wp2_with (first
    | (refine wp_whole rfl 23 _ rfl (w1.heap.size) rfl 23 #[.int .i64 y1, .int .i64 m1, .int .i64 d1] _ H4a.out Try.underlying23 rfl (by kernel_rfl) ?_)
    | (refine wp_wholeG (by rfl) 23 _ rfl (w1.heap.size) rfl 23 #[.int .i64 y1, .int .i64 m1, .int .i64 d1] _ H4a.out Try.underlying23 rfl (by kernel_rfl) ?_)
    | (refine wp_whole rfl 23 _ rfl (w2.heap.size) rfl 23 #[.int .i64 y1, .int .i64 m1, .int .i64 d1] _ H4b.out Try.underlying23 rfl (by kernel_rfl) ?_)
    | (refine wp_wholeG (by rfl) 23 _ rfl (w2.heap.size) rfl 23 #[.int .i64 y1, .int .i64 m1, .int .i64 d1] _ H4b.out Try.underlying23 rfl (by kernel_rfl) ?_)
    | fail)
  go_ret
  exact ⟨rfl, H4B.out⟩

end Go.Proofs.Ytgeemnoefhnlnaa.cal
