/- The statement AccountChecks. -/
import Derived.Test.YtlolippocnngcaaKcC
import Derived.Test.YtlolippocnngcaaAcTf
import Derived.Test.YtlolippocnngcaaAcCt
import Derived.Test.YtlolippocnngcaaAcSt
import Derived.Test.YtlolippocnngcaaLetG
import Derived.Deep.DeepCutAuto
namespace Go.Proofs.Ytlolippocnngcaa.acc
open Go.Proofs.Ytlolippocnngcaa.tar (Du du0 Came RowD Ld PairT)
open Go.RowKit
set_option maxRecDepth 100000
set_option linter.unusedVariables false
set_option linter.unusedSimpArgs false

set_option maxHeartbeats 4000000 in
theorem AccountChecks_walk (K : KcCheck) (t : Tm) (pt : Option Addr) (lt ct : Nat) (w : World) (h : TCame w t pt lt ct) : Calls Try.prog 3 #[t.v pt lt ct] w fun e w' => e = .returned (.bool true) ∧ Below w.heap.size w w' := by
  have HWF : Hid (wf4 t) := h.wf
  unfold Tm.v
  have H0x : Hid (Blk (w.alloc (.cells #[.slice pt lt ct, .int .i64 t.ff, .int .i64 t.fb, .int .i64 t.db, .int .i64 t.al] 24)) (w.heap.size) #[.slice pt lt ct, .int .i64 t.ff, .int .i64 t.fb, .int .i64 t.db, .int .i64 t.al] 24) := Blk.new w _ _
  have H0B : Hid (Below w.heap.size w (w.alloc (.cells #[.slice pt lt ct, .int .i64 t.ff, .int .i64 t.fb, .int .i64 t.db, .int .i64 t.al] 24))) := (Below.refl w.heap.size w).alloc (by simp) _
  have H0C : Hid (TCame (w.alloc (.cells #[.slice pt lt ct, .int .i64 t.ff, .int .i64 t.fb, .int .i64 t.db, .int .i64 t.al] 24)) t pt lt ct) := h.below H0B.out
  have hs0 : w.heap.size < (w.alloc (.cells #[.slice pt lt ct, .int .i64 t.ff, .int .i64 t.fb, .int .i64 t.db, .int .i64 t.al] 24)).heap.size := H0x.out.lt
  generalize hWW : (w.alloc (.cells #[.slice pt lt ct, .int .i64 t.ff, .int .i64 t.fb, .int .i64 t.db, .int .i64 t.al] 24)) = W0 at *
  have HWW : Hid ((w.alloc (.cells #[.slice pt lt ct, .int .i64 t.ff, .int .i64 t.fb, .int .i64 t.db, .int .i64 t.al] 24)) = W0) := hWW
  clear hWW
  go_enter Try.func3, Try.ntmps3
  go_upto_region 1 with fail
  rw [HWW.out]
  clear HWW
  have HAC : Hid (Calls Try.prog 9 #[.agg #[.slice pt lt ct, .int .i64 t.ff, .int .i64 t.fb, .int .i64 t.db, .int .i64 t.al]] W0 fun e w' => ∃ p' cap', e = .returned (t.v p' lt cap') ∧ deb.Fresh w' W0.heap.size p' lt cap' t.ts ∧ Below W0.heap.size W0 w') := terms_any t pt lt ct W0 H0C.out
  clear h
  go_wp2_with (first
    | (refine wp_whole rfl 24 _ rfl (w.heap.size) rfl 24 #[.slice pt lt ct, .int .i64 t.ff, .int .i64 t.fb, .int .i64 t.db, .int .i64 t.al] _ H0x.out Try.underlying24 rfl (by kernel_rfl) ?_)
    | (refine wp_wholeG (by rfl) 24 _ rfl (w.heap.size) rfl 24 #[.slice pt lt ct, .int .i64 t.ff, .int .i64 t.fb, .int .i64 t.db, .int .i64 t.al] _ H0x.out Try.underlying24 rfl (by kernel_rfl) ?_)
    | fail)
  refine HAC.out.mono ?_
  rintro e w2 ⟨p2, c2, rfl, hf2, hb2⟩
  have H1x : Hid (Blk w2 (w.heap.size) #[.slice pt lt ct, .int .i64 t.ff, .int .i64 t.fb, .int .i64 t.db, .int .i64 t.al] 24) := H0x.out.next hb2
  have H1C : Hid (TCame w2 t pt lt ct) := H0C.out.below hb2
  have H1B : Hid (Below w.heap.size w w2) := H0B.out.trans (hb2.mono H0B.out.size)
  have hsw2 : W0.heap.size ≤ w2.heap.size := hb2.size
  clear hb2 H0x H0C H0B
  unfold Tm.v
  have H2D : Hid (TCame w2 t p2 lt c2) := ⟨hf2.came, HWF.out⟩
  clear hf2 HAC
  have H3x : Hid (Blk (w2.alloc (.cells #[.slice p2 lt c2, .int .i64 t.ff, .int .i64 t.fb, .int .i64 t.db, .int .i64 t.al] 24)) (w.heap.size) #[.slice pt lt ct, .int .i64 t.ff, .int .i64 t.fb, .int .i64 t.db, .int .i64 t.al] 24) := H1x.out.alloc _
  have H3C : Hid (TCame (w2.alloc (.cells #[.slice p2 lt c2, .int .i64 t.ff, .int .i64 t.fb, .int .i64 t.db, .int .i64 t.al] 24)) t pt lt ct) := H1C.out.below ((Below.refl w2.heap.size w2).alloc (Nat.le_refl _) _)
  have H3D : Hid (TCame (w2.alloc (.cells #[.slice p2 lt c2, .int .i64 t.ff, .int .i64 t.fb, .int .i64 t.db, .int .i64 t.al] 24)) t p2 lt c2) := H2D.out.below ((Below.refl w2.heap.size w2).alloc (Nat.le_refl _) _)
  have H3c : Hid (Blk (w2.alloc (.cells #[.slice p2 lt c2, .int .i64 t.ff, .int .i64 t.fb, .int .i64 t.db, .int .i64 t.al] 24)) w2.heap.size #[.slice p2 lt c2, .int .i64 t.ff, .int .i64 t.fb, .int .i64 t.db, .int .i64 t.al] 24) := Blk.new w2 _ _
  have H3B : Hid (Below w.heap.size w (w2.alloc (.cells #[.slice p2 lt c2, .int .i64 t.ff, .int .i64 t.fb, .int .i64 t.db, .int .i64 t.al] 24))) := H1B.out.alloc H1B.out.size _
  have hsW3 : w2.heap.size < (w2.alloc (.cells #[.slice p2 lt c2, .int .i64 t.ff, .int .i64 t.fb, .int .i64 t.db, .int .i64 t.al] 24)).heap.size := (Blk.new w2 #[.slice p2 lt c2, .int .i64 t.ff, .int .i64 t.fb, .int .i64 t.db, .int .i64 t.al] 24).lt
  clear H1x H1C H2D H1B
  go_upto_region 2 with fail
  generalize (w2.alloc (.cells #[.slice p2 lt c2, .int .i64 t.ff, .int .i64 t.fb, .int .i64 t.db, .int .i64 t.al] 24)) = W3 at *
  have H1K : Hid (Calls Try.prog 10 #[.agg #[.slice p2 lt c2, .int .i64 t.ff, .int .i64 t.fb, .int .i64 t.db, .int .i64 t.al]] W3 fun e w' => tar.ErrPost W3 (TFault t) e w') := K W3 t p2 lt c2 H3D.out
  go_wp2_with (first
    | (refine wp_whole rfl 24 _ rfl (w.heap.size) rfl 24 #[.slice pt lt ct, .int .i64 t.ff, .int .i64 t.fb, .int .i64 t.db, .int .i64 t.al] _ H3x.out Try.underlying24 rfl (by kernel_rfl) ?_)
    | (refine wp_wholeG (by rfl) 24 _ rfl (w.heap.size) rfl 24 #[.slice pt lt ct, .int .i64 t.ff, .int .i64 t.fb, .int .i64 t.db, .int .i64 t.al] _ H3x.out Try.underlying24 rfl (by kernel_rfl) ?_)
    | (refine wp_whole rfl 24 _ rfl (w2.heap.size) rfl 24 #[.slice p2 lt c2, .int .i64 t.ff, .int .i64 t.fb, .int .i64 t.db, .int .i64 t.al] _ H3c.out Try.underlying24 rfl (by kernel_rfl) ?_)
    | (refine wp_wholeG (by rfl) 24 _ rfl (w2.heap.size) rfl 24 #[.slice p2 lt c2, .int .i64 t.ff, .int .i64 t.fb, .int .i64 t.db, .int .i64 t.al] _ H3c.out Try.underlying24 rfl (by kernel_rfl) ?_)
    | fail)
  refine H1K.out.mono ?_
  rintro e w4 ⟨f1, rfl, hi4, hb4⟩
  have H4x : Hid (Blk w4 (w.heap.size) #[.slice pt lt ct, .int .i64 t.ff, .int .i64 t.fb, .int .i64 t.db, .int .i64 t.al] 24) := H3x.out.next hb4
  have H4c : Hid (Blk w4 (w2.heap.size) #[.slice p2 lt c2, .int .i64 t.ff, .int .i64 t.fb, .int .i64 t.db, .int .i64 t.al] 24) := H3c.out.next hb4
  have H4C : Hid (TCame w4 t pt lt ct) := H3C.out.below hb4
  have H4D : Hid (TCame w4 t p2 lt c2) := H3D.out.below hb4
  have H4B : Hid (Below w.heap.size w w4) := H3B.out.trans (hb4.mono H3B.out.size)
  have hsw4 : W3.heap.size ≤ w4.heap.size := hb4.size
  clear hb4 H3x H3c H3C H3D H3B
  have HI : Hid (TFault t f1) := hi4
  clear hi4 H1K
  have H2K : Hid (Calls Try.prog 11 #[.agg #[.slice pt lt ct, .int .i64 t.ff, .int .i64 t.fb, .int .i64 t.db, .int .i64 t.al]] w4 fun e w' => tar.ErrPost w4 (TFault t) e w') := rterms t pt lt ct w4 H4C.out.ts.row H4C.out.ts.most
  go_wp2_with (first
    | (refine wp_whole rfl 24 _ rfl (w.heap.size) rfl 24 #[.slice pt lt ct, .int .i64 t.ff, .int .i64 t.fb, .int .i64 t.db, .int .i64 t.al] _ H4x.out Try.underlying24 rfl (by kernel_rfl) ?_)
    | (refine wp_wholeG (by rfl) 24 _ rfl (w.heap.size) rfl 24 #[.slice pt lt ct, .int .i64 t.ff, .int .i64 t.fb, .int .i64 t.db, .int .i64 t.al] _ H4x.out Try.underlying24 rfl (by kernel_rfl) ?_)
    | (refine wp_whole rfl 24 _ rfl (w2.heap.size) rfl 24 #[.slice p2 lt c2, .int .i64 t.ff, .int .i64 t.fb, .int .i64 t.db, .int .i64 t.al] _ H4c.out Try.underlying24 rfl (by kernel_rfl) ?_)
    | (refine wp_wholeG (by rfl) 24 _ rfl (w2.heap.size) rfl 24 #[.slice p2 lt c2, .int .i64 t.ff, .int .i64 t.fb, .int .i64 t.db, .int .i64 t.al] _ H4c.out Try.underlying24 rfl (by kernel_rfl) ?_)
    | fail)
  refine H2K.out.mono ?_
  rintro e w5 ⟨f2, rfl, hi5, hb5⟩
  have H5x : Hid (Blk w5 (w.heap.size) #[.slice pt lt ct, .int .i64 t.ff, .int .i64 t.fb, .int .i64 t.db, .int .i64 t.al] 24) := H4x.out.next hb5
  have H5c : Hid (Blk w5 (w2.heap.size) #[.slice p2 lt c2, .int .i64 t.ff, .int .i64 t.fb, .int .i64 t.db, .int .i64 t.al] 24) := H4c.out.next hb5
  have H5C : Hid (TCame w5 t pt lt ct) := H4C.out.below hb5
  have H5D : Hid (TCame w5 t p2 lt c2) := H4D.out.below hb5
  have H5B : Hid (Below w.heap.size w w5) := H4B.out.trans (hb5.mono H4B.out.size)
  have hsw5 : w4.heap.size ≤ w5.heap.size := hb5.size
  clear hb5 H4x H4c H4C H4D H4B
  obtain rfl := HI.out.one hi5
  clear hi5 HI H2K
  have ef : (f1 == f1) = true := by simp
  have HS1 : Hid (Calls Try.prog 12 #[.agg #[.slice p2 lt c2, .int .i64 t.ff, .int .i64 t.fb, .int .i64 t.db, .int .i64 t.al], .agg #[.slice pt lt ct, .int .i64 t.ff, .int .i64 t.fb, .int .i64 t.db, .int .i64 t.al]] w5 fun e w' => e = .returned (.bool true) ∧ Below w5.heap.size w5 w') := same_terms t p2 pt lt c2 ct w5 H5D.out.ts H5C.out.ts
  go_wp2_with (first
    | (refine wp_whole rfl 24 _ rfl (w.heap.size) rfl 24 #[.slice pt lt ct, .int .i64 t.ff, .int .i64 t.fb, .int .i64 t.db, .int .i64 t.al] _ H5x.out Try.underlying24 rfl (by kernel_rfl) ?_)
    | (refine wp_wholeG (by rfl) 24 _ rfl (w.heap.size) rfl 24 #[.slice pt lt ct, .int .i64 t.ff, .int .i64 t.fb, .int .i64 t.db, .int .i64 t.al] _ H5x.out Try.underlying24 rfl (by kernel_rfl) ?_)
    | (refine wp_whole rfl 24 _ rfl (w2.heap.size) rfl 24 #[.slice p2 lt c2, .int .i64 t.ff, .int .i64 t.fb, .int .i64 t.db, .int .i64 t.al] _ H5c.out Try.underlying24 rfl (by kernel_rfl) ?_)
    | (refine wp_wholeG (by rfl) 24 _ rfl (w2.heap.size) rfl 24 #[.slice p2 lt c2, .int .i64 t.ff, .int .i64 t.fb, .int .i64 t.db, .int .i64 t.al] _ H5c.out Try.underlying24 rfl (by kernel_rfl) ?_)
    | fail)
  refine HS1.out.mono ?_
  rintro e w8 ⟨rfl, hb8⟩
  have H6x : Hid (Blk w8 (w.heap.size) #[.slice pt lt ct, .int .i64 t.ff, .int .i64 t.fb, .int .i64 t.db, .int .i64 t.al] 24) := H5x.out.next hb8
  have H6c : Hid (Blk w8 (w2.heap.size) #[.slice p2 lt c2, .int .i64 t.ff, .int .i64 t.fb, .int .i64 t.db, .int .i64 t.al] 24) := H5c.out.next hb8
  have H6C : Hid (TCame w8 t pt lt ct) := H5C.out.below hb8
  have H6D : Hid (TCame w8 t p2 lt c2) := H5D.out.below hb8
  have H6B : Hid (Below w.heap.size w w8) := H5B.out.trans (hb8.mono H5B.out.size)
  have hsw8 : w5.heap.size ≤ w8.heap.size := hb8.size
  clear hb8 H5x H5c H5C H5D H5B
  clear HS1
  go_wp2_with fail
  go_ret
  exact ⟨rfl, H6B.out⟩

end Go.Proofs.Ytlolippocnngcaa.acc
