/- Reading a line, held against the document: the statement's walk. -/
import Derived.Test.YtlianhienbhbgaaDoorOeS
import Derived.Test.YtlianhienbhbgaaDoorOeR
namespace Go.Proofs.YtlianhienbhbgaaDoor.odr
open Go.RowKit
set_option maxRecDepth 100000
set_option linter.unusedVariables false
set_option linter.unusedSimpArgs false

set_option maxHeartbeats 2000000 in
theorem OrderReads_walk (s : ByteArray) (w : World) (hr : RTab w) : Calls Tryd.prog 4 #[.string s] w fun e w' => e = .returned (.bool true) ∧ Below w.heap.size w w' := by
  have HRD : Hid (Calls Tryd.prog 9 #[.string s] w fun e w' => ReadPost w s e w') := pread s w hr
  have HRR : Hid (∀ W, Calls Tryd.prog 10 #[.string s] W fun e w' => ReadPost W s e w') := fun W => rread s W rshown
  clear hr
  go_enter Tryd.func4, Tryd.ntmps4
  go_wp2_with fail
  refine HRD.out.mono ?_
  rintro e W1 ⟨y, f, rfl, hri, hb1⟩
  have HXV : Hid (y.v = .agg #[.int .i64 y.k, .int .i64 y.me, .int .i64 y.a, .int .i64 y.b, .int .i64 y.c, .string y.t, .int .i64 y.cut]) := rfl
  rw [HXV.out]
  have HRI : Hid (ReadIs s y f) := hri
  have HY1 : Hid (Blk (W1.alloc (.cells #[.int .i64 y.k, .int .i64 y.me, .int .i64 y.a, .int .i64 y.b, .int .i64 y.c, .string y.t, .int .i64 y.cut] 23)) W1.heap.size #[.int .i64 y.k, .int .i64 y.me, .int .i64 y.a, .int .i64 y.b, .int .i64 y.c, .string y.t, .int .i64 y.cut] 23) := Blk.new _ _ _
  have HB1 : Hid (Below w.heap.size w (W1.alloc (.cells #[.int .i64 y.k, .int .i64 y.me, .int .i64 y.a, .int .i64 y.b, .int .i64 y.c, .string y.t, .int .i64 y.cut] 23))) := hb1.alloc hb1.size _
  clear HRD hb1 hri
  go_upto_region 2 with fail
  generalize (W1.alloc (.cells #[.int .i64 y.k, .int .i64 y.me, .int .i64 y.a, .int .i64 y.b, .int .i64 y.c, .string y.t, .int .i64 y.cut] 23)) = W2 at *
  generalize W1.heap.size = g at *
  go_wp2_with fail
  refine (HRR.out _).mono ?_
  rintro e W3 ⟨y', f', rfl, hri', hb3⟩
  obtain ⟨e1, e2⟩ := read_one hri' HRI.out
  subst e1 e2
  clear hri'
  rw [HXV.out]
  have HY3 : Hid (Blk (W3.alloc (.cells #[.int .i64 y'.k, .int .i64 y'.me, .int .i64 y'.a, .int .i64 y'.b, .int .i64 y'.c, .string y'.t, .int .i64 y'.cut] 23)) g #[.int .i64 y'.k, .int .i64 y'.me, .int .i64 y'.a, .int .i64 y'.b, .int .i64 y'.c, .string y'.t, .int .i64 y'.cut] 23) := (HY1.out.next hb3).alloc _
  have HZ3 : Hid (Blk (W3.alloc (.cells #[.int .i64 y'.k, .int .i64 y'.me, .int .i64 y'.a, .int .i64 y'.b, .int .i64 y'.c, .string y'.t, .int .i64 y'.cut] 23)) W3.heap.size #[.int .i64 y'.k, .int .i64 y'.me, .int .i64 y'.a, .int .i64 y'.b, .int .i64 y'.c, .string y'.t, .int .i64 y'.cut] 23) := Blk.new _ _ _
  have HB3 : Hid (Below w.heap.size w (W3.alloc (.cells #[.int .i64 y'.k, .int .i64 y'.me, .int .i64 y'.a, .int .i64 y'.b, .int .i64 y'.c, .string y'.t, .int .i64 y'.cut] 23))) := (bel_step HB1.out hb3).alloc (bel_step HB1.out hb3).size _
  have HEQ : ∀ W : World, (Op.equalIn 10000 23 (.agg #[.int .i64 y'.k, .int .i64 y'.me, .int .i64 y'.a, .int .i64 y'.b, .int .i64 y'.c, .string y'.t, .int .i64 y'.cut]) (.agg #[.int .i64 y'.k, .int .i64 y'.me, .int .i64 y'.a, .int .i64 y'.b, .int .i64 y'.c, .string y'.t, .int .i64 y'.cut])).run Tryd.prog W = .ok true W := fun W => by
    have h := eqAc y' y' W
    rw [(acEq_iff y' y').2 rfl] at h
    exact h
  clear HY1 HB1 hb3 HRI HRR HXV
  go_upto_region 3 with fail
  generalize (W3.alloc (.cells #[.int .i64 y'.k, .int .i64 y'.me, .int .i64 y'.a, .int .i64 y'.b, .int .i64 y'.c, .string y'.t, .int .i64 y'.cut] 23)) = W4 at *
  generalize W3.heap.size = g2 at *
  go_wp2_with (first | (refine wp_whole rfl 23 _ rfl g rfl 23 _ _ HY3.out Tryd.underlying23 rfl (by kernel_rfl) ?_) | (refine wp_whole rfl 23 _ rfl g2 rfl 23 _ _ HZ3.out Tryd.underlying23 rfl (by kernel_rfl) ?_) | fail)
  go_ret
  exact ⟨rfl, HB3.out⟩

end Go.Proofs.YtlianhienbhbgaaDoor.odr
