/- Showing an act, held against the document: the statement's walk. -/
import Derived.Test.YtlianhienbhbgaaDoorOeS
namespace Go.Proofs.YtlianhienbhbgaaDoor.odr
open Go.RowKit
set_option maxRecDepth 100000
set_option linter.unusedVariables false
set_option linter.unusedSimpArgs false

set_option maxHeartbeats 2000000 in
theorem OrderShows_walk (x : Ac) (w : World) (hx : x.t.size ≤ 140737488354304) (ho : OTab w) (ht : Tab w) : Calls Tryd.prog 3 #[x.v] w fun e w' => e = .returned (.bool true) ∧ Below w.heap.size w w' := by
  have HSH : Hid (∀ W, Below w.heap.size w W → Calls Tryd.prog 7 #[x.v] W fun e w' => e = .returned (.tuple #[.string (ba (shown x)), .int .i64 (err x)]) ∧ Below W.heap.size W w') := fun W hW => pshow x W (ho.below hW) (tab_below ht hW) hx
  have HSD : Hid (∀ W, Calls Tryd.prog 8 #[x.v] W fun e w' => e = .returned (.tuple #[.string (ba (shown x)), .int .i64 (err x)]) ∧ Below W.heap.size W w') := fun W => rshown x W hx
  clear ho ht hx
  generalize ba (shown x) = S at *
  generalize err x = E at *
  have HXV : Hid (x.v = .agg #[.int .i64 x.k, .int .i64 x.me, .int .i64 x.a, .int .i64 x.b, .int .i64 x.c, .string x.t, .int .i64 x.cut]) := rfl
  rw [HXV.out] at HSH HSD ⊢
  have HX0 : Hid (Blk (w.alloc (.cells #[.int .i64 x.k, .int .i64 x.me, .int .i64 x.a, .int .i64 x.b, .int .i64 x.c, .string x.t, .int .i64 x.cut] 23)) w.heap.size #[.int .i64 x.k, .int .i64 x.me, .int .i64 x.a, .int .i64 x.b, .int .i64 x.c, .string x.t, .int .i64 x.cut] 23) := Blk.new _ _ _
  have HB0 : Hid (Below w.heap.size w (w.alloc (.cells #[.int .i64 x.k, .int .i64 x.me, .int .i64 x.a, .int .i64 x.b, .int .i64 x.c, .string x.t, .int .i64 x.cut] 23))) := (Below.refl _ _).alloc (Nat.le_refl _) _
  have hq : (S.toList == S.toList) = true := beq_self_eq_true _
  go_enter Tryd.func3, Tryd.ntmps3
  go_upto_region 1 with fail
  generalize (w.alloc (.cells #[.int .i64 x.k, .int .i64 x.me, .int .i64 x.a, .int .i64 x.b, .int .i64 x.c, .string x.t, .int .i64 x.cut] 23)) = W0 at *
  go_wp2_with (first | (refine wp_whole rfl 23 _ rfl w.heap.size rfl 23 _ _ HX0.out Tryd.underlying23 rfl (by kernel_rfl) ?_) | fail)
  refine (HSH.out _ HB0.out).mono ?_
  rintro e W1 ⟨rfl, hb1⟩
  have HX1 : Hid (Blk W1 w.heap.size #[.int .i64 x.k, .int .i64 x.me, .int .i64 x.a, .int .i64 x.b, .int .i64 x.c, .string x.t, .int .i64 x.cut] 23) := HX0.out.next hb1
  have HB1 : Hid (Below w.heap.size w W1) := bel_step HB0.out hb1
  clear HX0 HB0 hb1 HSH
  go_wp2_with (first | (refine wp_whole rfl 23 _ rfl w.heap.size rfl 23 _ _ HX1.out Tryd.underlying23 rfl (by kernel_rfl) ?_) | fail)
  refine (HSD.out _).mono ?_
  rintro e W2 ⟨rfl, hb2⟩
  have HB2 : Hid (Below w.heap.size w W2) := bel_step HB1.out hb2
  clear HX1 HB1 hb2 HSD
  go_wp2_with fail
  go_ret
  exact ⟨rfl, HB2.out⟩

end Go.Proofs.YtlianhienbhbgaaDoor.odr
