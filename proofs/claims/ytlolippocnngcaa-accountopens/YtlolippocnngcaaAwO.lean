/- The statement AccountOpens. -/
import Derived.Test.YtlolippocnngcaaKcO
import Derived.Test.YtlolippocnngcaaAcOp
import Derived.Test.YtlolippocnngcaaAcU
import Derived.Test.YtlolippocnngcaaAcSa
import Derived.Test.YtlolippocnngcaaLetG
import Derived.Deep.DeepCutAuto
namespace Go.Proofs.Ytlolippocnngcaa.acc
open Go.Proofs.Ytlolippocnngcaa.tar (Du du0 Came RowD Ld PairT)
open Go.RowKit
set_option maxRecDepth 100000
set_option linter.unusedVariables false
set_option linter.unusedSimpArgs false

set_option maxHeartbeats 4000000 in
theorem AccountOpens_walk (K : KcOpen) (m : Int) (w : World) (hm : (Lit.int .i64 m).wf = true) : Calls Try.prog 4 #[.int .i64 m] w fun e w' => e = .returned (.bool true) ∧ Below w.heap.size w w' := by
  have H1K : Hid (Calls Try.prog 13 #[.int .i64 m] w fun e w' => APost w (OpenIs m) e w') := K w m hm
  have H0B : Hid (Below w.heap.size w w) := Below.refl _ _
  go_enter Try.func4, Try.ntmps4
  go_wp2_with fail
  refine H1K.out.mono ?_
  rintro e w4 ⟨b, pb, lb, cb, fb, rfl, hi4, hf4, hb4⟩
  have H1B : Hid (Below w.heap.size w w4) := H0B.out.trans (hb4.mono H0B.out.size)
  have hsw4 : w.heap.size ≤ w4.heap.size := hb4.size
  clear hb4 H0B
  unfold Ac.v Ac.cs
  have H2E : Hid (Came w4 pb lb cb b.ds) := hf4.came
  have HI : Hid (OpenIs m b fb) := hi4
  clear hf4 hi4 H1K
  have H3E : Hid (Came (w4.alloc (.cells #[.int .i64 b.me, .int .i64 b.rv, .int .i64 b.nx, .int .i64 b.mo, .int .i64 b.bo, .int .i64 b.fr, .slice pb lb cb] 32)) pb lb cb b.ds) := H2E.out.below ((Below.refl w4.heap.size w4).alloc (Nat.le_refl _) _)
  have H3a : Hid (Blk (w4.alloc (.cells #[.int .i64 b.me, .int .i64 b.rv, .int .i64 b.nx, .int .i64 b.mo, .int .i64 b.bo, .int .i64 b.fr, .slice pb lb cb] 32)) w4.heap.size #[.int .i64 b.me, .int .i64 b.rv, .int .i64 b.nx, .int .i64 b.mo, .int .i64 b.bo, .int .i64 b.fr, .slice pb lb cb] 32) := Blk.new w4 _ _
  have H3B : Hid (Below w.heap.size w (w4.alloc (.cells #[.int .i64 b.me, .int .i64 b.rv, .int .i64 b.nx, .int .i64 b.mo, .int .i64 b.bo, .int .i64 b.fr, .slice pb lb cb] 32))) := H1B.out.alloc H1B.out.size _
  have hsW5 : w4.heap.size < (w4.alloc (.cells #[.int .i64 b.me, .int .i64 b.rv, .int .i64 b.nx, .int .i64 b.mo, .int .i64 b.bo, .int .i64 b.fr, .slice pb lb cb] 32)).heap.size := (Blk.new w4 #[.int .i64 b.me, .int .i64 b.rv, .int .i64 b.nx, .int .i64 b.mo, .int .i64 b.bo, .int .i64 b.fr, .slice pb lb cb] 32).lt
  clear H2E H1B
  go_upto_region 2 with fail
  generalize (w4.alloc (.cells #[.int .i64 b.me, .int .i64 b.rv, .int .i64 b.nx, .int .i64 b.mo, .int .i64 b.bo, .int .i64 b.fr, .slice pb lb cb] 32)) = W5 at *
  have H2K : Hid (Calls Try.prog 14 #[.int .i64 m] W5 fun e w' => APost W5 (OpenIs m) e w') := ropen m W5
  go_wp2_with (first
    | (refine wp_whole rfl 32 _ rfl (w4.heap.size) rfl 32 #[.int .i64 b.me, .int .i64 b.rv, .int .i64 b.nx, .int .i64 b.mo, .int .i64 b.bo, .int .i64 b.fr, .slice pb lb cb] _ H3a.out Try.underlying32 rfl (by kernel_rfl) ?_)
    | (refine wp_wholeG (by rfl) 32 _ rfl (w4.heap.size) rfl 32 #[.int .i64 b.me, .int .i64 b.rv, .int .i64 b.nx, .int .i64 b.mo, .int .i64 b.bo, .int .i64 b.fr, .slice pb lb cb] _ H3a.out Try.underlying32 rfl (by kernel_rfl) ?_)
    | fail)
  refine H2K.out.mono ?_
  rintro e w6 ⟨b2, pe, le, ce, fe, rfl, hi6, hf6, hb6⟩
  have H4a : Hid (Blk w6 (w4.heap.size) #[.int .i64 b.me, .int .i64 b.rv, .int .i64 b.nx, .int .i64 b.mo, .int .i64 b.bo, .int .i64 b.fr, .slice pb lb cb] 32) := H3a.out.next hb6
  have H4E : Hid (Came w6 pb lb cb b.ds) := H3E.out.below hb6
  have H4B : Hid (Below w.heap.size w w6) := H3B.out.trans (hb6.mono H3B.out.size)
  have hsw6 : W5.heap.size ≤ w6.heap.size := hb6.size
  clear hb6 H3a H3E H3B
  unfold Ac.v Ac.cs
  obtain ⟨rfl, rfl⟩ := HI.out.one hi6
  have hc6 := hf6.came
  obtain rfl : lb = le := by rw [← hc6.row.1, ← H4E.out.row.1]
  have H5G : Hid (Came w6 pe lb ce b.ds) := hc6
  clear hc6 hf6 hi6 HI H2K
  have H6a : Hid (Blk (w6.alloc (.cells #[.int .i64 b.me, .int .i64 b.rv, .int .i64 b.nx, .int .i64 b.mo, .int .i64 b.bo, .int .i64 b.fr, .slice pe lb ce] 32)) (w4.heap.size) #[.int .i64 b.me, .int .i64 b.rv, .int .i64 b.nx, .int .i64 b.mo, .int .i64 b.bo, .int .i64 b.fr, .slice pb lb cb] 32) := H4a.out.alloc _
  have H6E : Hid (Came (w6.alloc (.cells #[.int .i64 b.me, .int .i64 b.rv, .int .i64 b.nx, .int .i64 b.mo, .int .i64 b.bo, .int .i64 b.fr, .slice pe lb ce] 32)) pb lb cb b.ds) := H4E.out.below ((Below.refl w6.heap.size w6).alloc (Nat.le_refl _) _)
  have H6G : Hid (Came (w6.alloc (.cells #[.int .i64 b.me, .int .i64 b.rv, .int .i64 b.nx, .int .i64 b.mo, .int .i64 b.bo, .int .i64 b.fr, .slice pe lb ce] 32)) pe lb ce b.ds) := H5G.out.below ((Below.refl w6.heap.size w6).alloc (Nat.le_refl _) _)
  have H6b : Hid (Blk (w6.alloc (.cells #[.int .i64 b.me, .int .i64 b.rv, .int .i64 b.nx, .int .i64 b.mo, .int .i64 b.bo, .int .i64 b.fr, .slice pe lb ce] 32)) w6.heap.size #[.int .i64 b.me, .int .i64 b.rv, .int .i64 b.nx, .int .i64 b.mo, .int .i64 b.bo, .int .i64 b.fr, .slice pe lb ce] 32) := Blk.new w6 _ _
  have H6B : Hid (Below w.heap.size w (w6.alloc (.cells #[.int .i64 b.me, .int .i64 b.rv, .int .i64 b.nx, .int .i64 b.mo, .int .i64 b.bo, .int .i64 b.fr, .slice pe lb ce] 32))) := H4B.out.alloc H4B.out.size _
  have hsW7 : w6.heap.size < (w6.alloc (.cells #[.int .i64 b.me, .int .i64 b.rv, .int .i64 b.nx, .int .i64 b.mo, .int .i64 b.bo, .int .i64 b.fr, .slice pe lb ce] 32)).heap.size := (Blk.new w6 #[.int .i64 b.me, .int .i64 b.rv, .int .i64 b.nx, .int .i64 b.mo, .int .i64 b.bo, .int .i64 b.fr, .slice pe lb ce] 32).lt
  clear H4a H4E H5G H4B
  go_upto_region 3 with fail
  generalize (w6.alloc (.cells #[.int .i64 b.me, .int .i64 b.rv, .int .i64 b.nx, .int .i64 b.mo, .int .i64 b.bo, .int .i64 b.fr, .slice pe lb ce] 32)) = W7 at *
  have ef : (fb == fb) = true := by simp
  have HS1 : Hid (Calls Try.prog 15 #[.agg #[.int .i64 b.me, .int .i64 b.rv, .int .i64 b.nx, .int .i64 b.mo, .int .i64 b.bo, .int .i64 b.fr, .slice pb lb cb], .agg #[.int .i64 b.me, .int .i64 b.rv, .int .i64 b.nx, .int .i64 b.mo, .int .i64 b.bo, .int .i64 b.fr, .slice pe lb ce]] W7 fun e w' => e = .returned (.bool true) ∧ Below W7.heap.size W7 w') := same_acc b pb pe lb cb ce W7 H6E.out H6G.out
  go_wp2_with (first
    | (refine wp_whole rfl 32 _ rfl (w4.heap.size) rfl 32 #[.int .i64 b.me, .int .i64 b.rv, .int .i64 b.nx, .int .i64 b.mo, .int .i64 b.bo, .int .i64 b.fr, .slice pb lb cb] _ H6a.out Try.underlying32 rfl (by kernel_rfl) ?_)
    | (refine wp_wholeG (by rfl) 32 _ rfl (w4.heap.size) rfl 32 #[.int .i64 b.me, .int .i64 b.rv, .int .i64 b.nx, .int .i64 b.mo, .int .i64 b.bo, .int .i64 b.fr, .slice pb lb cb] _ H6a.out Try.underlying32 rfl (by kernel_rfl) ?_)
    | (refine wp_whole rfl 32 _ rfl (w6.heap.size) rfl 32 #[.int .i64 b.me, .int .i64 b.rv, .int .i64 b.nx, .int .i64 b.mo, .int .i64 b.bo, .int .i64 b.fr, .slice pe lb ce] _ H6b.out Try.underlying32 rfl (by kernel_rfl) ?_)
    | (refine wp_wholeG (by rfl) 32 _ rfl (w6.heap.size) rfl 32 #[.int .i64 b.me, .int .i64 b.rv, .int .i64 b.nx, .int .i64 b.mo, .int .i64 b.bo, .int .i64 b.fr, .slice pe lb ce] _ H6b.out Try.underlying32 rfl (by kernel_rfl) ?_)
    | fail)
  refine HS1.out.mono ?_
  rintro e w8 ⟨rfl, hb8⟩
  have H7a : Hid (Blk w8 (w4.heap.size) #[.int .i64 b.me, .int .i64 b.rv, .int .i64 b.nx, .int .i64 b.mo, .int .i64 b.bo, .int .i64 b.fr, .slice pb lb cb] 32) := H6a.out.next hb8
  have H7b : Hid (Blk w8 (w6.heap.size) #[.int .i64 b.me, .int .i64 b.rv, .int .i64 b.nx, .int .i64 b.mo, .int .i64 b.bo, .int .i64 b.fr, .slice pe lb ce] 32) := H6b.out.next hb8
  have H7E : Hid (Came w8 pb lb cb b.ds) := H6E.out.below hb8
  have H7G : Hid (Came w8 pe lb ce b.ds) := H6G.out.below hb8
  have H7B : Hid (Below w.heap.size w w8) := H6B.out.trans (hb8.mono H6B.out.size)
  have hsw8 : W7.heap.size ≤ w8.heap.size := hb8.size
  clear hb8 H6a H6b H6E H6G H6B
  clear HS1
  go_wp2_with fail
  go_ret
  exact ⟨rfl, H7B.out⟩

end Go.Proofs.Ytlolippocnngcaa.acc
