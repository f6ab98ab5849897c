/- The statement CodeShows. -/
import Derived.Test.YtnhidiefchamlaaDoorKoC
import Derived.Test.YtnhidiefchamlaaDoorCdC
import Derived.Test.YtnhidiefchamlaaDoorLet
import Derived.Test.YtnhidiefchamlaaDoorProg
import Derived.WalkKit
import Derived.Deep.DeepCutAuto
namespace Go.Proofs.YtnhidiefchamlaaDoor.cod
open Go.Proofs.YtnhidiefchamlaaDoor.met (Mt)
open Go.RowKit
set_option maxRecDepth 100000
set_option linter.unusedVariables false
set_option linter.unusedSimpArgs false

set_option maxHeartbeats 2000000 in
theorem CodeShows_walk (m : Mt) (w : World) (K : KoCode w) (hb : m.b < 18446744073709551616) : Calls Tryd.prog 3 #[m.v] w fun e w' => e = .returned (.bool true) ∧ Below w.heap.size w w' := by
  have H1 : Hid (∀ W, Below w.heap.size w W → Calls Tryd.prog 7 #[.agg #[.int .i64 m.me, .int .i64 m.rev, .int .i64 m.cr, .int .i64 m.h, .int .u64 (m.b : Int), .int .i64 m.bad, .int .i64 m.lock]] W fun e w' => CodePost W m e w') := fun W hW => K W m hW hb
  have H2 : Hid (∀ W, Calls Tryd.prog 8 #[.agg #[.int .i64 m.me, .int .i64 m.rev, .int .i64 m.cr, .int .i64 m.h, .int .u64 (m.b : Int), .int .i64 m.bad, .int .i64 m.lock]] W fun e w' => CodePost W m e w') := fun W => rcoded m W hb
  have HX0 : Hid (Blk (w.alloc (.cells #[.int .i64 m.me, .int .i64 m.rev, .int .i64 m.cr, .int .i64 m.h, .int .u64 (m.b : Int), .int .i64 m.bad, .int .i64 m.lock] 26)) w.heap.size #[.int .i64 m.me, .int .i64 m.rev, .int .i64 m.cr, .int .i64 m.h, .int .u64 (m.b : Int), .int .i64 m.bad, .int .i64 m.lock] 26) := Blk.new _ _ _
  have HB0 : Hid (Below w.heap.size w (w.alloc (.cells #[.int .i64 m.me, .int .i64 m.rev, .int .i64 m.cr, .int .i64 m.h, .int .u64 (m.b : Int), .int .i64 m.bad, .int .i64 m.lock] 26))) := (Below.refl _ _).alloc (Nat.le_refl _) _
  clear hb K
  unfold met.Mt.v met.Mt.cells at *
  go_enter Tryd.func3, Tryd.ntmps3
  go_upto_region 1 with fail
  generalize w.alloc (.cells #[.int .i64 m.me, .int .i64 m.rev, .int .i64 m.cr, .int .i64 m.h, .int .u64 (m.b : Int), .int .i64 m.bad, .int .i64 m.lock] 26) = W0 at *
  go_wp2_with (first | (refine wp_whole rfl 26 _ rfl (w.heap.size) rfl 26 #[.int .i64 m.me, .int .i64 m.rev, .int .i64 m.cr, .int .i64 m.h, .int .u64 (m.b : Int), .int .i64 m.bad, .int .i64 m.lock] _ HX0.out Tryd.underlying26 rfl (by kernel_rfl) ?_) | fail)
  refine (H1.out _ HB0.out).mono ?_
  rintro e W1 ⟨l, f, rfl, h1, hb1⟩
  have HI : Hid (CodeIs m l f) := h1
  have HB1 : Hid (Below w.heap.size w W1) := bel_step HB0.out hb1
  have HX1 : Hid (Blk W1 w.heap.size #[.int .i64 m.me, .int .i64 m.rev, .int .i64 m.cr, .int .i64 m.h, .int .u64 (m.b : Int), .int .i64 m.bad, .int .i64 m.lock] 26) := HX0.out.next hb1
  clear h1 hb1 HX0 HB0 H1
  go_wp2_with (first | (refine wp_whole rfl 26 _ rfl (w.heap.size) rfl 26 #[.int .i64 m.me, .int .i64 m.rev, .int .i64 m.cr, .int .i64 m.h, .int .u64 (m.b : Int), .int .i64 m.bad, .int .i64 m.lock] _ HX1.out Tryd.underlying26 rfl (by kernel_rfl) ?_) | fail)
  refine (H2.out _).mono ?_
  rintro e W2 ⟨l2, f2, rfl, h2, hb2⟩
  obtain ⟨rfl, rfl⟩ := HI.out.one h2
  have HB2 : Hid (Below w.heap.size w W2) := bel_step HB1.out hb2
  clear h2 hb2 HX1 HB1 H2 HI
  have ef : (f == f) = true := by simp
  generalize (⟨l.toArray⟩ : ByteArray) = T at *
  have el : (T.toList == T.toList) = true := by simp
  go_wp2_with fail
  go_ret
  exact ⟨rfl, HB2.out⟩

end Go.Proofs.YtnhidiefchamlaaDoor.cod
