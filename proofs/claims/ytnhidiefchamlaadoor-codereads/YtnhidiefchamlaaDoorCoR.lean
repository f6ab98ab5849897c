/- The statement CodeReads. -/
import Derived.Test.YtnhidiefchamlaaDoorKoR
import Derived.Test.YtnhidiefchamlaaDoorCdU
import Derived.Test.YtnhidiefchamlaaDoorCdE
import Derived.Test.YtnhidiefchamlaaDoorLet
import Derived.Test.YtnhidiefchamlaaDoorProg
import Derived.WalkKit
import Derived.Deep.DeepCutAuto
namespace Go.Proofs.YtnhidiefchamlaaDoor.cod
open Go.Proofs.YtnhidiefchamlaaDoor.met (Mt)
open Go.RowKit
set_option maxRecDepth 100000
set_option linter.unusedVariables false
set_option linter.unusedSimpArgs false

set_option maxHeartbeats 2000000 in
theorem CodeReads_walk (s : ByteArray) (w : World) (K : KoRead w) : Calls Tryd.prog 4 #[.string s] w fun e w' => e = .returned (.bool true) ∧ Below w.heap.size w w' := by
  have H1 : Hid (Calls Tryd.prog 9 #[.string s] w fun e w' => UncPost w s.data.toList e w') := K w s (Below.refl _ _)
  have H2 : Hid (∀ W, Calls Tryd.prog 10 #[.string s] W fun e w' => UncPost W s.data.toList e w') := fun W => runcoded s W
  clear K
  go_enter Tryd.func4, Tryd.ntmps4
  go_wp2_with fail
  refine H1.out.mono ?_
  rintro e w1 ⟨x, f, rfl, h1, hb1⟩
  unfold Sh.v Sh.cs
  have HI : Hid (UncIs s.data.toList x f) := h1
  have HX : Hid (Blk (w1.alloc (.cells #[.int .i64 x.me, .int .i64 x.cr, .int .i64 x.hi] 32)) w1.heap.size #[.int .i64 x.me, .int .i64 x.cr, .int .i64 x.hi] 32) := Blk.new _ _ _
  have HB1 : Hid (Below w.heap.size w (w1.alloc (.cells #[.int .i64 x.me, .int .i64 x.cr, .int .i64 x.hi] 32))) := hb1.alloc hb1.size _
  clear h1 hb1 H1
  go_upto_region 2 with fail
  generalize w1.alloc (.cells #[.int .i64 x.me, .int .i64 x.cr, .int .i64 x.hi] 32) = W1 at *
  generalize w1.heap.size = ga at *
  go_wp2_with fail
  refine (H2.out _).mono ?_
  rintro e w2 ⟨y, g, rfl, h2, hb2⟩
  obtain ⟨rfl, rfl⟩ := HI.out.one h2
  unfold Sh.v Sh.cs
  have HY : Hid (Blk (w2.alloc (.cells #[.int .i64 x.me, .int .i64 x.cr, .int .i64 x.hi] 32)) w2.heap.size #[.int .i64 x.me, .int .i64 x.cr, .int .i64 x.hi] 32) := Blk.new _ _ _
  have HX2 : Hid (Blk (w2.alloc (.cells #[.int .i64 x.me, .int .i64 x.cr, .int .i64 x.hi] 32)) ga #[.int .i64 x.me, .int .i64 x.cr, .int .i64 x.hi] 32) := (HX.out.next hb2).alloc _
  have HB2 : Hid (Below w.heap.size w (w2.alloc (.cells #[.int .i64 x.me, .int .i64 x.cr, .int .i64 x.hi] 32))) := (bel_step HB1.out hb2).alloc (bel_step HB1.out hb2).size _
  clear h2 hb2 HX HB1 H2 HI
  go_upto_region 3 with fail
  generalize w2.alloc (.cells #[.int .i64 x.me, .int .i64 x.cr, .int .i64 x.hi] 32) = W2 at *
  generalize w2.heap.size = gb at *
  have ef : (f == f) = true := by simp
  have eb : ∀ wz : World, (Op.equalIn 10000 32 (.agg #[.int .i64 x.me, .int .i64 x.cr, .int .i64 x.hi]) (.agg #[.int .i64 x.me, .int .i64 x.cr, .int .i64 x.hi])).run Tryd.prog wz = .ok true wz := fun wz => eqSh _ _ _ wz
  go_wp2_with (first | (refine wp_whole rfl 32 _ rfl (ga) rfl 32 #[.int .i64 x.me, .int .i64 x.cr, .int .i64 x.hi] _ HX2.out Tryd.underlying32 rfl (by kernel_rfl) ?_) | (refine wp_whole rfl 32 _ rfl (gb) rfl 32 #[.int .i64 x.me, .int .i64 x.cr, .int .i64 x.hi] _ HY.out Tryd.underlying32 rfl (by kernel_rfl) ?_) | fail)
  go_ret
  exact ⟨rfl, HB2.out⟩

end Go.Proofs.YtnhidiefchamlaaDoor.cod
