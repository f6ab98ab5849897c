/- The statement AccountOwes. -/
import Derived.Test.YtlolippocnngcaaKcW
import Derived.Test.YtlolippocnngcaaAcOw
import Derived.Test.YtlolippocnngcaaAcCa
import Derived.Test.YtlolippocnngcaaAcSa
import Derived.Test.YtlolippocnngcaaLetG
import Derived.Deep.DeepCutAuto
namespace Go.Proofs.Ytlolippocnngcaa.acc
open Go.Proofs.Ytlolippocnngcaa.tar (Du du0 Came RowD Ld PairT)
open Go.RowKit
set_option maxRecDepth 100000
set_option linter.unusedVariables false
set_option linter.unusedSimpArgs false

set_option maxHeartbeats 8000000 in
theorem AccountOwes_walk (K : KcOwe) (x : Ac) (p : Option Addr) (len cap : Nat) (q : Du) (w : World) (h : ACame w x p len cap) (hq : (Lit.int .i64 q.a).wf = true ∧ (Lit.int .i64 q.b).wf = true) : Calls Try.prog 8 #[x.v p len cap, .agg #[.int .i64 q.a, .int .i64 q.b]] w fun e w' => e = .returned (.bool true) ∧ Below w.heap.size w w' := by
  have hlen := h.ds.row.1
  have HWF : Hid (wf6 x) := h.wf
  unfold Ac.v Ac.cs
  have H0x : Hid (Blk ((w.alloc (.cells #[.int .i64 x.me, .int .i64 x.rv, .int .i64 x.nx, .int .i64 x.mo, .int .i64 x.bo, .int .i64 x.fr, .slice p len cap] 32)).alloc (.cells #[.int .i64 q.a, .int .i64 q.b] 48)) (w.heap.size) #[.int .i64 x.me, .int .i64 x.rv, .int .i64 x.nx, .int .i64 x.mo, .int .i64 x.bo, .int .i64 x.fr, .slice p len cap] 32) := (Blk.new w _ _).alloc _
  have H0q : Hid (Blk ((w.alloc (.cells #[.int .i64 x.me, .int .i64 x.rv, .int .i64 x.nx, .int .i64 x.mo, .int .i64 x.bo, .int .i64 x.fr, .slice p len cap] 32)).alloc (.cells #[.int .i64 q.a, .int .i64 q.b] 48)) (w.heap.size + 1) #[.int .i64 q.a, .int .i64 q.b] 48) := Blk.new1 w _ _ _
  have H0B : Hid (Below w.heap.size w ((w.alloc (.cells #[.int .i64 x.me, .int .i64 x.rv, .int .i64 x.nx, .int .i64 x.mo, .int .i64 x.bo, .int .i64 x.fr, .slice p len cap] 32)).alloc (.cells #[.int .i64 q.a, .int .i64 q.b] 48))) := ((Below.refl w.heap.size w).alloc (by simp) _).alloc (by simp) _
  have H0C : Hid (ACame ((w.alloc (.cells #[.int .i64 x.me, .int .i64 x.rv, .int .i64 x.nx, .int .i64 x.mo, .int .i64 x.bo, .int .i64 x.fr, .slice p len cap] 32)).alloc (.cells #[.int .i64 q.a, .int .i64 q.b] 48)) x p len cap) := h.below H0B.out
  have hs0 : w.heap.size + 1 < ((w.alloc (.cells #[.int .i64 x.me, .int .i64 x.rv, .int .i64 x.nx, .int .i64 x.mo, .int .i64 x.bo, .int .i64 x.fr, .slice p len cap] 32)).alloc (.cells #[.int .i64 q.a, .int .i64 q.b] 48)).heap.size := H0q.out.lt
  generalize hWW : ((w.alloc (.cells #[.int .i64 x.me, .int .i64 x.rv, .int .i64 x.nx, .int .i64 x.mo, .int .i64 x.bo, .int .i64 x.fr, .slice p len cap] 32)).alloc (.cells #[.int .i64 q.a, .int .i64 q.b] 48)) = W0 at *
  have HWW : Hid (((w.alloc (.cells #[.int .i64 x.me, .int .i64 x.rv, .int .i64 x.nx, .int .i64 x.mo, .int .i64 x.bo, .int .i64 x.fr, .slice p len cap] 32)).alloc (.cells #[.int .i64 q.a, .int .i64 q.b] 48)) = W0) := hWW
  clear hWW
  go_enter Try.func8, Try.ntmps8
  go_upto_region 1 with fail
  rw [HWW.out]
  clear HWW
  have HAC : Hid (Calls Try.prog 16 #[.agg #[.int .i64 x.me, .int .i64 x.rv, .int .i64 x.nx, .int .i64 x.mo, .int .i64 x.bo, .int .i64 x.fr, .slice p len cap]] W0 fun e w' => ∃ p' cap', e = .returned (x.v p' len cap') ∧ deb.Fresh w' W0.heap.size p' len cap' x.ds ∧ Below W0.heap.size W0 w') := accounts_any x p len cap W0 H0C.out
  clear h
  go_wp2_with (first
    | (refine wp_whole rfl 32 _ rfl (w.heap.size) rfl 32 #[.int .i64 x.me, .int .i64 x.rv, .int .i64 x.nx, .int .i64 x.mo, .int .i64 x.bo, .int .i64 x.fr, .slice p len cap] _ H0x.out Try.underlying32 rfl (by kernel_rfl) ?_)
    | (refine wp_wholeG (by rfl) 32 _ rfl (w.heap.size) rfl 32 #[.int .i64 x.me, .int .i64 x.rv, .int .i64 x.nx, .int .i64 x.mo, .int .i64 x.bo, .int .i64 x.fr, .slice p len cap] _ H0x.out Try.underlying32 rfl (by kernel_rfl) ?_)
    | (refine wp_whole rfl 48 _ rfl (w.heap.size + 1) rfl 48 #[.int .i64 q.a, .int .i64 q.b] _ H0q.out Try.underlying48 rfl (by kernel_rfl) ?_)
    | (refine wp_wholeG (by rfl) 48 _ rfl (w.heap.size + 1) rfl 48 #[.int .i64 q.a, .int .i64 q.b] _ H0q.out Try.underlying48 rfl (by kernel_rfl) ?_)
    | fail)
  refine HAC.out.mono ?_
  rintro e w2 ⟨p2, c2, rfl, hf2, hb2⟩
  have H1x : Hid (Blk w2 (w.heap.size) #[.int .i64 x.me, .int .i64 x.rv, .int .i64 x.nx, .int .i64 x.mo, .int .i64 x.bo, .int .i64 x.fr, .slice p len cap] 32) := H0x.out.next hb2
  have H1q : Hid (Blk w2 (w.heap.size + 1) #[.int .i64 q.a, .int .i64 q.b] 48) := H0q.out.next hb2
  have H1C : Hid (ACame w2 x p len cap) := H0C.out.below hb2
  have H1B : Hid (Below w.heap.size w w2) := H0B.out.trans (hb2.mono H0B.out.size)
  have hsw2 : W0.heap.size ≤ w2.heap.size := hb2.size
  clear hb2 H0x H0q H0C H0B
  unfold Ac.v Ac.cs
  have H2D : Hid (ACame w2 x p2 len c2) := ⟨hf2.came, HWF.out⟩
  clear hf2 HAC
  have H3x : Hid (Blk (w2.alloc (.cells #[.int .i64 x.me, .int .i64 x.rv, .int .i64 x.nx, .int .i64 x.mo, .int .i64 x.bo, .int .i64 x.fr, .slice p2 len c2] 32)) (w.heap.size) #[.int .i64 x.me, .int .i64 x.rv, .int .i64 x.nx, .int .i64 x.mo, .int .i64 x.bo, .int .i64 x.fr, .slice p len cap] 32) := H1x.out.alloc _
  have H3q : Hid (Blk (w2.alloc (.cells #[.int .i64 x.me, .int .i64 x.rv, .int .i64 x.nx, .int .i64 x.mo, .int .i64 x.bo, .int .i64 x.fr, .slice p2 len c2] 32)) (w.heap.size + 1) #[.int .i64 q.a, .int .i64 q.b] 48) := H1q.out.alloc _
  have H3C : Hid (ACame (w2.alloc (.cells #[.int .i64 x.me, .int .i64 x.rv, .int .i64 x.nx, .int .i64 x.mo, .int .i64 x.bo, .int .i64 x.fr, .slice p2 len c2] 32)) x p len cap) := H1C.out.below ((Below.refl w2.heap.size w2).alloc (Nat.le_refl _) _)
  have H3D : Hid (ACame (w2.alloc (.cells #[.int .i64 x.me, .int .i64 x.rv, .int .i64 x.nx, .int .i64 x.mo, .int .i64 x.bo, .int .i64 x.fr, .slice p2 len c2] 32)) x p2 len c2) := H2D.out.below ((Below.refl w2.heap.size w2).alloc (Nat.le_refl _) _)
  have H3c : Hid (Blk (w2.alloc (.cells #[.int .i64 x.me, .int .i64 x.rv, .int .i64 x.nx, .int .i64 x.mo, .int .i64 x.bo, .int .i64 x.fr, .slice p2 len c2] 32)) w2.heap.size #[.int .i64 x.me, .int .i64 x.rv, .int .i64 x.nx, .int .i64 x.mo, .int .i64 x.bo, .int .i64 x.fr, .slice p2 len c2] 32) := Blk.new w2 _ _
  have H3B : Hid (Below w.heap.size w (w2.alloc (.cells #[.int .i64 x.me, .int .i64 x.rv, .int .i64 x.nx, .int .i64 x.mo, .int .i64 x.bo, .int .i64 x.fr, .slice p2 len c2] 32))) := H1B.out.alloc H1B.out.size _
  have hsW3 : w2.heap.size < (w2.alloc (.cells #[.int .i64 x.me, .int .i64 x.rv, .int .i64 x.nx, .int .i64 x.mo, .int .i64 x.bo, .int .i64 x.fr, .slice p2 len c2] 32)).heap.size := (Blk.new w2 #[.int .i64 x.me, .int .i64 x.rv, .int .i64 x.nx, .int .i64 x.mo, .int .i64 x.bo, .int .i64 x.fr, .slice p2 len c2] 32).lt
  clear H1x H1q H1C H2D H1B
  go_upto_region 2 with fail
  generalize (w2.alloc (.cells #[.int .i64 x.me, .int .i64 x.rv, .int .i64 x.nx, .int .i64 x.mo, .int .i64 x.bo, .int .i64 x.fr, .slice p2 len c2] 32)) = W3 at *
  have H1K : Hid (Calls Try.prog 23 #[.agg #[.int .i64 x.me, .int .i64 x.rv, .int .i64 x.nx, .int .i64 x.mo, .int .i64 x.bo, .int .i64 x.fr, .slice p2 len c2], .agg #[.int .i64 q.a, .int .i64 q.b]] W3 fun e w' => APost W3 (OweIs x q) e w') := K W3 x p2 len c2 q H3D.out hq
  go_wp2_with (first
    | (refine wp_whole rfl 32 _ rfl (w.heap.size) rfl 32 #[.int .i64 x.me, .int .i64 x.rv, .int .i64 x.nx, .int .i64 x.mo, .int .i64 x.bo, .int .i64 x.fr, .slice p len cap] _ H3x.out Try.underlying32 rfl (by kernel_rfl) ?_)
    | (refine wp_wholeG (by rfl) 32 _ rfl (w.heap.size) rfl 32 #[.int .i64 x.me, .int .i64 x.rv, .int .i64 x.nx, .int .i64 x.mo, .int .i64 x.bo, .int .i64 x.fr, .slice p len cap] _ H3x.out Try.underlying32 rfl (by kernel_rfl) ?_)
    | (refine wp_whole rfl 48 _ rfl (w.heap.size + 1) rfl 48 #[.int .i64 q.a, .int .i64 q.b] _ H3q.out Try.underlying48 rfl (by kernel_rfl) ?_)
    | (refine wp_wholeG (by rfl) 48 _ rfl (w.heap.size + 1) rfl 48 #[.int .i64 q.a, .int .i64 q.b] _ H3q.out Try.underlying48 rfl (by kernel_rfl) ?_)
    | (refine wp_whole rfl 32 _ rfl (w2.heap.size) rfl 32 #[.int .i64 x.me, .int .i64 x.rv, .int .i64 x.nx, .int .i64 x.mo, .int .i64 x.bo, .int .i64 x.fr, .slice p2 len c2] _ H3c.out Try.underlying32 rfl (by kernel_rfl) ?_)
    | (refine wp_wholeG (by rfl) 32 _ rfl (w2.heap.size) rfl 32 #[.int .i64 x.me, .int .i64 x.rv, .int .i64 x.nx, .int .i64 x.mo, .int .i64 x.bo, .int .i64 x.fr, .slice p2 len c2] _ H3c.out Try.underlying32 rfl (by kernel_rfl) ?_)
    | fail)
  refine H1K.out.mono ?_
  rintro e w4 ⟨b, pb, lb, cb, fb, rfl, hi4, hf4, hb4⟩
  have H4x : Hid (Blk w4 (w.heap.size) #[.int .i64 x.me, .int .i64 x.rv, .int .i64 x.nx, .int .i64 x.mo, .int .i64 x.bo, .int .i64 x.fr, .slice p len cap] 32) := H3x.out.next hb4
  have H4q : Hid (Blk w4 (w.heap.size + 1) #[.int .i64 q.a, .int .i64 q.b] 48) := H3q.out.next hb4
  have H4c : Hid (Blk w4 (w2.heap.size) #[.int .i64 x.me, .int .i64 x.rv, .int .i64 x.nx, .int .i64 x.mo, .int .i64 x.bo, .int .i64 x.fr, .slice p2 len c2] 32) := H3c.out.next hb4
  have H4C : Hid (ACame w4 x p len cap) := H3C.out.below hb4
  have H4D : Hid (ACame w4 x p2 len c2) := H3D.out.below hb4
  have H4B : Hid (Below w.heap.size w w4) := H3B.out.trans (hb4.mono H3B.out.size)
  have hsw4 : W3.heap.size ≤ w4.heap.size := hb4.size
  clear hb4 H3x H3q H3c H3C H3D H3B
  unfold Ac.v Ac.cs
  have H5E : Hid (Came w4 pb lb cb b.ds) := hf4.came
  have HI : Hid (OweIs x q b fb) := hi4
  clear hf4 hi4 H1K
  have H6x : Hid (Blk (w4.alloc (.cells #[.int .i64 b.me, .int .i64 b.rv, .int .i64 b.nx, .int .i64 b.mo, .int .i64 b.bo, .int .i64 b.fr, .slice pb lb cb] 32)) (w.heap.size) #[.int .i64 x.me, .int .i64 x.rv, .int .i64 x.nx, .int .i64 x.mo, .int .i64 x.bo, .int .i64 x.fr, .slice p len cap] 32) := H4x.out.alloc _
  have H6q : Hid (Blk (w4.alloc (.cells #[.int .i64 b.me, .int .i64 b.rv, .int .i64 b.nx, .int .i64 b.mo, .int .i64 b.bo, .int .i64 b.fr, .slice pb lb cb] 32)) (w.heap.size + 1) #[.int .i64 q.a, .int .i64 q.b] 48) := H4q.out.alloc _
  have H6c : Hid (Blk (w4.alloc (.cells #[.int .i64 b.me, .int .i64 b.rv, .int .i64 b.nx, .int .i64 b.mo, .int .i64 b.bo, .int .i64 b.fr, .slice pb lb cb] 32)) (w2.heap.size) #[.int .i64 x.me, .int .i64 x.rv, .int .i64 x.nx, .int .i64 x.mo, .int .i64 x.bo, .int .i64 x.fr, .slice p2 len c2] 32) := H4c.out.alloc _
  have H6C : Hid (ACame (w4.alloc (.cells #[.int .i64 b.me, .int .i64 b.rv, .int .i64 b.nx, .int .i64 b.mo, .int .i64 b.bo, .int .i64 b.fr, .slice pb lb cb] 32)) x p len cap) := H4C.out.below ((Below.refl w4.heap.size w4).alloc (Nat.le_refl _) _)
  have H6D : Hid (ACame (w4.alloc (.cells #[.int .i64 b.me, .int .i64 b.rv, .int .i64 b.nx, .int .i64 b.mo, .int .i64 b.bo, .int .i64 b.fr, .slice pb lb cb] 32)) x p2 len c2) := H4D.out.below ((Below.refl w4.heap.size w4).alloc (Nat.le_refl _) _)
  have H6E : Hid (Came (w4.alloc (.cells #[.int .i64 b.me, .int .i64 b.rv, .int .i64 b.nx, .int .i64 b.mo, .int .i64 b.bo, .int .i64 b.fr, .slice pb lb cb] 32)) pb lb cb b.ds) := H5E.out.below ((Below.refl w4.heap.size w4).alloc (Nat.le_refl _) _)
  have H6a : Hid (Blk (w4.alloc (.cells #[.int .i64 b.me, .int .i64 b.rv, .int .i64 b.nx, .int .i64 b.mo, .int .i64 b.bo, .int .i64 b.fr, .slice pb lb cb] 32)) w4.heap.size #[.int .i64 b.me, .int .i64 b.rv, .int .i64 b.nx, .int .i64 b.mo, .int .i64 b.bo, .int .i64 b.fr, .slice pb lb cb] 32) := Blk.new w4 _ _
  have H6B : Hid (Below w.heap.size w (w4.alloc (.cells #[.int .i64 b.me, .int .i64 b.rv, .int .i64 b.nx, .int .i64 b.mo, .int .i64 b.bo, .int .i64 b.fr, .slice pb lb cb] 32))) := H4B.out.alloc H4B.out.size _
  have hsW5 : w4.heap.size < (w4.alloc (.cells #[.int .i64 b.me, .int .i64 b.rv, .int .i64 b.nx, .int .i64 b.mo, .int .i64 b.bo, .int .i64 b.fr, .slice pb lb cb] 32)).heap.size := (Blk.new w4 #[.int .i64 b.me, .int .i64 b.rv, .int .i64 b.nx, .int .i64 b.mo, .int .i64 b.bo, .int .i64 b.fr, .slice pb lb cb] 32).lt
  clear H4x H4q H4c H4C H4D H5E H4B
  go_upto_region 3 with fail
  generalize (w4.alloc (.cells #[.int .i64 b.me, .int .i64 b.rv, .int .i64 b.nx, .int .i64 b.mo, .int .i64 b.bo, .int .i64 b.fr, .slice pb lb cb] 32)) = W5 at *
  have H2K : Hid (Calls Try.prog 24 #[.agg #[.int .i64 x.me, .int .i64 x.rv, .int .i64 x.nx, .int .i64 x.mo, .int .i64 x.bo, .int .i64 x.fr, .slice p len cap], .agg #[.int .i64 q.a, .int .i64 q.b]] W5 fun e w' => APost W5 (OweIs x q) e w') := rowes x p len cap q W5 H6C.out.ds.row H6C.out.ds.most
  go_wp2_with (first
    | (refine wp_whole rfl 32 _ rfl (w.heap.size) rfl 32 #[.int .i64 x.me, .int .i64 x.rv, .int .i64 x.nx, .int .i64 x.mo, .int .i64 x.bo, .int .i64 x.fr, .slice p len cap] _ H6x.out Try.underlying32 rfl (by kernel_rfl) ?_)
    | (refine wp_wholeG (by rfl) 32 _ rfl (w.heap.size) rfl 32 #[.int .i64 x.me, .int .i64 x.rv, .int .i64 x.nx, .int .i64 x.mo, .int .i64 x.bo, .int .i64 x.fr, .slice p len cap] _ H6x.out Try.underlying32 rfl (by kernel_rfl) ?_)
    | (refine wp_whole rfl 48 _ rfl (w.heap.size + 1) rfl 48 #[.int .i64 q.a, .int .i64 q.b] _ H6q.out Try.underlying48 rfl (by kernel_rfl) ?_)
    | (refine wp_wholeG (by rfl) 48 _ rfl (w.heap.size + 1) rfl 48 #[.int .i64 q.a, .int .i64 q.b] _ H6q.out Try.underlying48 rfl (by kernel_rfl) ?_)
    | (refine wp_whole rfl 32 _ rfl (w2.heap.size) rfl 32 #[.int .i64 x.me, .int .i64 x.rv, .int .i64 x.nx, .int .i64 x.mo, .int .i64 x.bo, .int .i64 x.fr, .slice p2 len c2] _ H6c.out Try.underlying32 rfl (by kernel_rfl) ?_)
    | (refine wp_wholeG (by rfl) 32 _ rfl (w2.heap.size) rfl 32 #[.int .i64 x.me, .int .i64 x.rv, .int .i64 x.nx, .int .i64 x.mo, .int .i64 x.bo, .int .i64 x.fr, .slice p2 len c2] _ H6c.out Try.underlying32 rfl (by kernel_rfl) ?_)
    | (refine wp_whole rfl 32 _ rfl (w4.heap.size) rfl 32 #[.int .i64 b.me, .int .i64 b.rv, .int .i64 b.nx, .int .i64 b.mo, .int .i64 b.bo, .int .i64 b.fr, .slice pb lb cb] _ H6a.out Try.underlying32 rfl (by kernel_rfl) ?_)
    | (refine wp_wholeG (by rfl) 32 _ rfl (w4.heap.size) rfl 32 #[.int .i64 b.me, .int .i64 b.rv, .int .i64 b.nx, .int .i64 b.mo, .int .i64 b.bo, .int .i64 b.fr, .slice pb lb cb] _ H6a.out Try.underlying32 rfl (by kernel_rfl) ?_)
    | fail)
  refine H2K.out.mono ?_
  rintro e w6 ⟨b2, pe, le, ce, fe, rfl, hi6, hf6, hb6⟩
  have H7x : Hid (Blk w6 (w.heap.size) #[.int .i64 x.me, .int .i64 x.rv, .int .i64 x.nx, .int .i64 x.mo, .int .i64 x.bo, .int .i64 x.fr, .slice p len cap] 32) := H6x.out.next hb6
  have H7q : Hid (Blk w6 (w.heap.size + 1) #[.int .i64 q.a, .int .i64 q.b] 48) := H6q.out.next hb6
  have H7c : Hid (Blk w6 (w2.heap.size) #[.int .i64 x.me, .int .i64 x.rv, .int .i64 x.nx, .int .i64 x.mo, .int .i64 x.bo, .int .i64 x.fr, .slice p2 len c2] 32) := H6c.out.next hb6
  have H7a : Hid (Blk w6 (w4.heap.size) #[.int .i64 b.me, .int .i64 b.rv, .int .i64 b.nx, .int .i64 b.mo, .int .i64 b.bo, .int .i64 b.fr, .slice pb lb cb] 32) := H6a.out.next hb6
  have H7C : Hid (ACame w6 x p len cap) := H6C.out.below hb6
  have H7D : Hid (ACame w6 x p2 len c2) := H6D.out.below hb6
  have H7E : Hid (Came w6 pb lb cb b.ds) := H6E.out.below hb6
  have H7B : Hid (Below w.heap.size w w6) := H6B.out.trans (hb6.mono H6B.out.size)
  have hsw6 : W5.heap.size ≤ w6.heap.size := hb6.size
  clear hb6 H6x H6q H6c H6a H6C H6D H6E H6B
  unfold Ac.v Ac.cs
  obtain ⟨rfl, rfl⟩ := HI.out.one hi6
  have hc6 := hf6.came
  obtain rfl : lb = le := by rw [← hc6.row.1, ← H7E.out.row.1]
  have H8G : Hid (Came w6 pe lb ce b.ds) := hc6
  clear hc6 hf6 hi6 HI H2K
  have H9x : Hid (Blk (w6.alloc (.cells #[.int .i64 b.me, .int .i64 b.rv, .int .i64 b.nx, .int .i64 b.mo, .int .i64 b.bo, .int .i64 b.fr, .slice pe lb ce] 32)) (w.heap.size) #[.int .i64 x.me, .int .i64 x.rv, .int .i64 x.nx, .int .i64 x.mo, .int .i64 x.bo, .int .i64 x.fr, .slice p len cap] 32) := H7x.out.alloc _
  have H9q : Hid (Blk (w6.alloc (.cells #[.int .i64 b.me, .int .i64 b.rv, .int .i64 b.nx, .int .i64 b.mo, .int .i64 b.bo, .int .i64 b.fr, .slice pe lb ce] 32)) (w.heap.size + 1) #[.int .i64 q.a, .int .i64 q.b] 48) := H7q.out.alloc _
  have H9c : Hid (Blk (w6.alloc (.cells #[.int .i64 b.me, .int .i64 b.rv, .int .i64 b.nx, .int .i64 b.mo, .int .i64 b.bo, .int .i64 b.fr, .slice pe lb ce] 32)) (w2.heap.size) #[.int .i64 x.me, .int .i64 x.rv, .int .i64 x.nx, .int .i64 x.mo, .int .i64 x.bo, .int .i64 x.fr, .slice p2 len c2] 32) := H7c.out.alloc _
  have H9a : Hid (Blk (w6.alloc (.cells #[.int .i64 b.me, .int .i64 b.rv, .int .i64 b.nx, .int .i64 b.mo, .int .i64 b.bo, .int .i64 b.fr, .slice pe lb ce] 32)) (w4.heap.size) #[.int .i64 b.me, .int .i64 b.rv, .int .i64 b.nx, .int .i64 b.mo, .int .i64 b.bo, .int .i64 b.fr, .slice pb lb cb] 32) := H7a.out.alloc _
  have H9C : Hid (ACame (w6.alloc (.cells #[.int .i64 b.me, .int .i64 b.rv, .int .i64 b.nx, .int .i64 b.mo, .int .i64 b.bo, .int .i64 b.fr, .slice pe lb ce] 32)) x p len cap) := H7C.out.below ((Below.refl w6.heap.size w6).alloc (Nat.le_refl _) _)
  have H9D : Hid (ACame (w6.alloc (.cells #[.int .i64 b.me, .int .i64 b.rv, .int .i64 b.nx, .int .i64 b.mo, .int .i64 b.bo, .int .i64 b.fr, .slice pe lb ce] 32)) x p2 len c2) := H7D.out.below ((Below.refl w6.heap.size w6).alloc (Nat.le_refl _) _)
  have H9E : Hid (Came (w6.alloc (.cells #[.int .i64 b.me, .int .i64 b.rv, .int .i64 b.nx, .int .i64 b.mo, .int .i64 b.bo, .int .i64 b.fr, .slice pe lb ce] 32)) pb lb cb b.ds) := H7E.out.below ((Below.refl w6.heap.size w6).alloc (Nat.le_refl _) _)
  have H9G : Hid (Came (w6.alloc (.cells #[.int .i64 b.me, .int .i64 b.rv, .int .i64 b.nx, .int .i64 b.mo, .int .i64 b.bo, .int .i64 b.fr, .slice pe lb ce] 32)) pe lb ce b.ds) := H8G.out.below ((Below.refl w6.heap.size w6).alloc (Nat.le_refl _) _)
  have H9b : Hid (Blk (w6.alloc (.cells #[.int .i64 b.me, .int .i64 b.rv, .int .i64 b.nx, .int .i64 b.mo, .int .i64 b.bo, .int .i64 b.fr, .slice pe lb ce] 32)) w6.heap.size #[.int .i64 b.me, .int .i64 b.rv, .int .i64 b.nx, .int .i64 b.mo, .int .i64 b.bo, .int .i64 b.fr, .slice pe lb ce] 32) := Blk.new w6 _ _
  have H9B : Hid (Below w.heap.size w (w6.alloc (.cells #[.int .i64 b.me, .int .i64 b.rv, .int .i64 b.nx, .int .i64 b.mo, .int .i64 b.bo, .int .i64 b.fr, .slice pe lb ce] 32))) := H7B.out.alloc H7B.out.size _
  have hsW7 : w6.heap.size < (w6.alloc (.cells #[.int .i64 b.me, .int .i64 b.rv, .int .i64 b.nx, .int .i64 b.mo, .int .i64 b.bo, .int .i64 b.fr, .slice pe lb ce] 32)).heap.size := (Blk.new w6 #[.int .i64 b.me, .int .i64 b.rv, .int .i64 b.nx, .int .i64 b.mo, .int .i64 b.bo, .int .i64 b.fr, .slice pe lb ce] 32).lt
  clear H7x H7q H7c H7a H7C H7D H7E H8G H7B
  go_upto_region 4 with fail
  generalize (w6.alloc (.cells #[.int .i64 b.me, .int .i64 b.rv, .int .i64 b.nx, .int .i64 b.mo, .int .i64 b.bo, .int .i64 b.fr, .slice pe lb ce] 32)) = W7 at *
  have ef : (fb == fb) = true := by simp
  have HS1 : Hid (Calls Try.prog 15 #[.agg #[.int .i64 b.me, .int .i64 b.rv, .int .i64 b.nx, .int .i64 b.mo, .int .i64 b.bo, .int .i64 b.fr, .slice pb lb cb], .agg #[.int .i64 b.me, .int .i64 b.rv, .int .i64 b.nx, .int .i64 b.mo, .int .i64 b.bo, .int .i64 b.fr, .slice pe lb ce]] W7 fun e w' => e = .returned (.bool true) ∧ Below W7.heap.size W7 w') := same_acc b pb pe lb cb ce W7 H9E.out H9G.out
  go_wp2_with (first
    | (refine wp_whole rfl 32 _ rfl (w.heap.size) rfl 32 #[.int .i64 x.me, .int .i64 x.rv, .int .i64 x.nx, .int .i64 x.mo, .int .i64 x.bo, .int .i64 x.fr, .slice p len cap] _ H9x.out Try.underlying32 rfl (by kernel_rfl) ?_)
    | (refine wp_wholeG (by rfl) 32 _ rfl (w.heap.size) rfl 32 #[.int .i64 x.me, .int .i64 x.rv, .int .i64 x.nx, .int .i64 x.mo, .int .i64 x.bo, .int .i64 x.fr, .slice p len cap] _ H9x.out Try.underlying32 rfl (by kernel_rfl) ?_)
    | (refine wp_whole rfl 48 _ rfl (w.heap.size + 1) rfl 48 #[.int .i64 q.a, .int .i64 q.b] _ H9q.out Try.underlying48 rfl (by kernel_rfl) ?_)
    | (refine wp_wholeG (by rfl) 48 _ rfl (w.heap.size + 1) rfl 48 #[.int .i64 q.a, .int .i64 q.b] _ H9q.out Try.underlying48 rfl (by kernel_rfl) ?_)
    | (refine wp_whole rfl 32 _ rfl (w2.heap.size) rfl 32 #[.int .i64 x.me, .int .i64 x.rv, .int .i64 x.nx, .int .i64 x.mo, .int .i64 x.bo, .int .i64 x.fr, .slice p2 len c2] _ H9c.out Try.underlying32 rfl (by kernel_rfl) ?_)
    | (refine wp_wholeG (by rfl) 32 _ rfl (w2.heap.size) rfl 32 #[.int .i64 x.me, .int .i64 x.rv, .int .i64 x.nx, .int .i64 x.mo, .int .i64 x.bo, .int .i64 x.fr, .slice p2 len c2] _ H9c.out Try.underlying32 rfl (by kernel_rfl) ?_)
    | (refine wp_whole rfl 32 _ rfl (w4.heap.size) rfl 32 #[.int .i64 b.me, .int .i64 b.rv, .int .i64 b.nx, .int .i64 b.mo, .int .i64 b.bo, .int .i64 b.fr, .slice pb lb cb] _ H9a.out Try.underlying32 rfl (by kernel_rfl) ?_)
    | (refine wp_wholeG (by rfl) 32 _ rfl (w4.heap.size) rfl 32 #[.int .i64 b.me, .int .i64 b.rv, .int .i64 b.nx, .int .i64 b.mo, .int .i64 b.bo, .int .i64 b.fr, .slice pb lb cb] _ H9a.out Try.underlying32 rfl (by kernel_rfl) ?_)
    | (refine wp_whole rfl 32 _ rfl (w6.heap.size) rfl 32 #[.int .i64 b.me, .int .i64 b.rv, .int .i64 b.nx, .int .i64 b.mo, .int .i64 b.bo, .int .i64 b.fr, .slice pe lb ce] _ H9b.out Try.underlying32 rfl (by kernel_rfl) ?_)
    | (refine wp_wholeG (by rfl) 32 _ rfl (w6.heap.size) rfl 32 #[.int .i64 b.me, .int .i64 b.rv, .int .i64 b.nx, .int .i64 b.mo, .int .i64 b.bo, .int .i64 b.fr, .slice pe lb ce] _ H9b.out Try.underlying32 rfl (by kernel_rfl) ?_)
    | fail)
  refine HS1.out.mono ?_
  rintro e w8 ⟨rfl, hb8⟩
  have H10x : Hid (Blk w8 (w.heap.size) #[.int .i64 x.me, .int .i64 x.rv, .int .i64 x.nx, .int .i64 x.mo, .int .i64 x.bo, .int .i64 x.fr, .slice p len cap] 32) := H9x.out.next hb8
  have H10q : Hid (Blk w8 (w.heap.size + 1) #[.int .i64 q.a, .int .i64 q.b] 48) := H9q.out.next hb8
  have H10c : Hid (Blk w8 (w2.heap.size) #[.int .i64 x.me, .int .i64 x.rv, .int .i64 x.nx, .int .i64 x.mo, .int .i64 x.bo, .int .i64 x.fr, .slice p2 len c2] 32) := H9c.out.next hb8
  have H10a : Hid (Blk w8 (w4.heap.size) #[.int .i64 b.me, .int .i64 b.rv, .int .i64 b.nx, .int .i64 b.mo, .int .i64 b.bo, .int .i64 b.fr, .slice pb lb cb] 32) := H9a.out.next hb8
  have H10b : Hid (Blk w8 (w6.heap.size) #[.int .i64 b.me, .int .i64 b.rv, .int .i64 b.nx, .int .i64 b.mo, .int .i64 b.bo, .int .i64 b.fr, .slice pe lb ce] 32) := H9b.out.next hb8
  have H10C : Hid (ACame w8 x p len cap) := H9C.out.below hb8
  have H10D : Hid (ACame w8 x p2 len c2) := H9D.out.below hb8
  have H10E : Hid (Came w8 pb lb cb b.ds) := H9E.out.below hb8
  have H10G : Hid (Came w8 pe lb ce b.ds) := H9G.out.below hb8
  have H10B : Hid (Below w.heap.size w w8) := H9B.out.trans (hb8.mono H9B.out.size)
  have hsw8 : W7.heap.size ≤ w8.heap.size := hb8.size
  clear hb8 H9x H9q H9c H9a H9b H9C H9D H9E H9G H9B
  clear HS1
  have HS2 : Hid (Calls Try.prog 15 #[.agg #[.int .i64 x.me, .int .i64 x.rv, .int .i64 x.nx, .int .i64 x.mo, .int .i64 x.bo, .int .i64 x.fr, .slice p2 len c2], .agg #[.int .i64 x.me, .int .i64 x.rv, .int .i64 x.nx, .int .i64 x.mo, .int .i64 x.bo, .int .i64 x.fr, .slice p len cap]] w8 fun e w' => e = .returned (.bool true) ∧ Below w8.heap.size w8 w') := same_acc x p2 p len c2 cap w8 H10D.out.ds H10C.out.ds
  go_wp2_with (first
    | (refine wp_whole rfl 32 _ rfl (w.heap.size) rfl 32 #[.int .i64 x.me, .int .i64 x.rv, .int .i64 x.nx, .int .i64 x.mo, .int .i64 x.bo, .int .i64 x.fr, .slice p len cap] _ H10x.out Try.underlying32 rfl (by kernel_rfl) ?_)
    | (refine wp_wholeG (by rfl) 32 _ rfl (w.heap.size) rfl 32 #[.int .i64 x.me, .int .i64 x.rv, .int .i64 x.nx, .int .i64 x.mo, .int .i64 x.bo, .int .i64 x.fr, .slice p len cap] _ H10x.out Try.underlying32 rfl (by kernel_rfl) ?_)
    | (refine wp_whole rfl 48 _ rfl (w.heap.size + 1) rfl 48 #[.int .i64 q.a, .int .i64 q.b] _ H10q.out Try.underlying48 rfl (by kernel_rfl) ?_)
    | (refine wp_wholeG (by rfl) 48 _ rfl (w.heap.size + 1) rfl 48 #[.int .i64 q.a, .int .i64 q.b] _ H10q.out Try.underlying48 rfl (by kernel_rfl) ?_)
    | (refine wp_whole rfl 32 _ rfl (w2.heap.size) rfl 32 #[.int .i64 x.me, .int .i64 x.rv, .int .i64 x.nx, .int .i64 x.mo, .int .i64 x.bo, .int .i64 x.fr, .slice p2 len c2] _ H10c.out Try.underlying32 rfl (by kernel_rfl) ?_)
    | (refine wp_wholeG (by rfl) 32 _ rfl (w2.heap.size) rfl 32 #[.int .i64 x.me, .int .i64 x.rv, .int .i64 x.nx, .int .i64 x.mo, .int .i64 x.bo, .int .i64 x.fr, .slice p2 len c2] _ H10c.out Try.underlying32 rfl (by kernel_rfl) ?_)
    | (refine wp_whole rfl 32 _ rfl (w4.heap.size) rfl 32 #[.int .i64 b.me, .int .i64 b.rv, .int .i64 b.nx, .int .i64 b.mo, .int .i64 b.bo, .int .i64 b.fr, .slice pb lb cb] _ H10a.out Try.underlying32 rfl (by kernel_rfl) ?_)
    | (refine wp_wholeG (by rfl) 32 _ rfl (w4.heap.size) rfl 32 #[.int .i64 b.me, .int .i64 b.rv, .int .i64 b.nx, .int .i64 b.mo, .int .i64 b.bo, .int .i64 b.fr, .slice pb lb cb] _ H10a.out Try.underlying32 rfl (by kernel_rfl) ?_)
    | (refine wp_whole rfl 32 _ rfl (w6.heap.size) rfl 32 #[.int .i64 b.me, .int .i64 b.rv, .int .i64 b.nx, .int .i64 b.mo, .int .i64 b.bo, .int .i64 b.fr, .slice pe lb ce] _ H10b.out Try.underlying32 rfl (by kernel_rfl) ?_)
    | (refine wp_wholeG (by rfl) 32 _ rfl (w6.heap.size) rfl 32 #[.int .i64 b.me, .int .i64 b.rv, .int .i64 b.nx, .int .i64 b.mo, .int .i64 b.bo, .int .i64 b.fr, .slice pe lb ce] _ H10b.out Try.underlying32 rfl (by kernel_rfl) ?_)
    | fail)
  refine HS2.out.mono ?_
  rintro e w9 ⟨rfl, hb9⟩
  have H11x : Hid (Blk w9 (w.heap.size) #[.int .i64 x.me, .int .i64 x.rv, .int .i64 x.nx, .int .i64 x.mo, .int .i64 x.bo, .int .i64 x.fr, .slice p len cap] 32) := H10x.out.next hb9
  have H11q : Hid (Blk w9 (w.heap.size + 1) #[.int .i64 q.a, .int .i64 q.b] 48) := H10q.out.next hb9
  have H11c : Hid (Blk w9 (w2.heap.size) #[.int .i64 x.me, .int .i64 x.rv, .int .i64 x.nx, .int .i64 x.mo, .int .i64 x.bo, .int .i64 x.fr, .slice p2 len c2] 32) := H10c.out.next hb9
  have H11a : Hid (Blk w9 (w4.heap.size) #[.int .i64 b.me, .int .i64 b.rv, .int .i64 b.nx, .int .i64 b.mo, .int .i64 b.bo, .int .i64 b.fr, .slice pb lb cb] 32) := H10a.out.next hb9
  have H11b : Hid (Blk w9 (w6.heap.size) #[.int .i64 b.me, .int .i64 b.rv, .int .i64 b.nx, .int .i64 b.mo, .int .i64 b.bo, .int .i64 b.fr, .slice pe lb ce] 32) := H10b.out.next hb9
  have H11C : Hid (ACame w9 x p len cap) := H10C.out.below hb9
  have H11D : Hid (ACame w9 x p2 len c2) := H10D.out.below hb9
  have H11E : Hid (Came w9 pb lb cb b.ds) := H10E.out.below hb9
  have H11G : Hid (Came w9 pe lb ce b.ds) := H10G.out.below hb9
  have H11B : Hid (Below w.heap.size w w9) := H10B.out.trans (hb9.mono H10B.out.size)
  have hsw9 : w8.heap.size ≤ w9.heap.size := hb9.size
  clear hb9 H10x H10q H10c H10a H10b H10C H10D H10E H10G H10B
  clear HS2
  go_wp2_with fail
  go_ret
  exact ⟨rfl, H11B.out⟩

end Go.Proofs.Ytlolippocnngcaa.acc
