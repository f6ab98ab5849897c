/- The statement AccountSells. -/
import Derived.Test.YtlolippocnngcaaKcS
import Derived.Test.YtlolippocnngcaaAcSo
import Derived.Test.YtlolippocnngcaaAcEb
import Derived.Test.YtlolippocnngcaaAcCt
import Derived.Test.YtlolippocnngcaaAcSt
import Derived.Test.YtlolippocnngcaaAcCa
import Derived.Test.YtlolippocnngcaaAcSa
import Derived.Test.YtlolippocnngcaaLetG
import Derived.Deep.DeepCutAuto
namespace Go.Proofs.Ytlolippocnngcaa.acc
open Go.Proofs.Ytlolippocnngcaa.tar (Du du0 Came RowD Ld PairT)
open Go.RowKit
set_option maxRecDepth 100000
set_option linter.unusedVariables false
set_option linter.unusedSimpArgs false

set_option maxHeartbeats 8000000 in
theorem AccountSells_walk (K : KcSell) (x : Ac) (p : Option Addr) (len cap : Nat) (t : Tm) (pt : Option Addr) (lt ct : Nat) (te m : Int) (w : World) (h : ACame w x p len cap) (ht : TCame w t pt lt ct) (hte : (Lit.int .i64 te).wf = true) (hm : (Lit.int .i64 m).wf = true) : Calls Try.prog 6 #[x.v p len cap, t.v pt lt ct, .int .i64 te, .int .i64 m] w fun e w' => e = .returned (.bool true) ∧ Below w.heap.size w w' := by
  have HWF : Hid (wf6 x) := h.wf
  have HWT : Hid (wf4 t) := ht.wf
  unfold Ac.v Ac.cs Tm.v
  have H0x : Hid (Blk ((w.alloc (.cells #[.int .i64 x.me, .int .i64 x.rv, .int .i64 x.nx, .int .i64 x.mo, .int .i64 x.bo, .int .i64 x.fr, .slice p len cap] 32)).alloc (.cells #[.slice pt lt ct, .int .i64 t.ff, .int .i64 t.fb, .int .i64 t.db, .int .i64 t.al] 24)) (w.heap.size) #[.int .i64 x.me, .int .i64 x.rv, .int .i64 x.nx, .int .i64 x.mo, .int .i64 x.bo, .int .i64 x.fr, .slice p len cap] 32) := (Blk.new w _ _).alloc _
  have H0t : Hid (Blk ((w.alloc (.cells #[.int .i64 x.me, .int .i64 x.rv, .int .i64 x.nx, .int .i64 x.mo, .int .i64 x.bo, .int .i64 x.fr, .slice p len cap] 32)).alloc (.cells #[.slice pt lt ct, .int .i64 t.ff, .int .i64 t.fb, .int .i64 t.db, .int .i64 t.al] 24)) (w.heap.size + 1) #[.slice pt lt ct, .int .i64 t.ff, .int .i64 t.fb, .int .i64 t.db, .int .i64 t.al] 24) := Blk.new1 w _ _ _
  have H0B : Hid (Below w.heap.size w ((w.alloc (.cells #[.int .i64 x.me, .int .i64 x.rv, .int .i64 x.nx, .int .i64 x.mo, .int .i64 x.bo, .int .i64 x.fr, .slice p len cap] 32)).alloc (.cells #[.slice pt lt ct, .int .i64 t.ff, .int .i64 t.fb, .int .i64 t.db, .int .i64 t.al] 24))) := ((Below.refl w.heap.size w).alloc (by simp) _).alloc (by simp) _
  have H0C : Hid (ACame ((w.alloc (.cells #[.int .i64 x.me, .int .i64 x.rv, .int .i64 x.nx, .int .i64 x.mo, .int .i64 x.bo, .int .i64 x.fr, .slice p len cap] 32)).alloc (.cells #[.slice pt lt ct, .int .i64 t.ff, .int .i64 t.fb, .int .i64 t.db, .int .i64 t.al] 24)) x p len cap) := h.below H0B.out
  have H0T : Hid (TCame ((w.alloc (.cells #[.int .i64 x.me, .int .i64 x.rv, .int .i64 x.nx, .int .i64 x.mo, .int .i64 x.bo, .int .i64 x.fr, .slice p len cap] 32)).alloc (.cells #[.slice pt lt ct, .int .i64 t.ff, .int .i64 t.fb, .int .i64 t.db, .int .i64 t.al] 24)) t pt lt ct) := ht.below H0B.out
  have hs0 : w.heap.size + 1 < ((w.alloc (.cells #[.int .i64 x.me, .int .i64 x.rv, .int .i64 x.nx, .int .i64 x.mo, .int .i64 x.bo, .int .i64 x.fr, .slice p len cap] 32)).alloc (.cells #[.slice pt lt ct, .int .i64 t.ff, .int .i64 t.fb, .int .i64 t.db, .int .i64 t.al] 24)).heap.size := H0t.out.lt
  generalize hWW : ((w.alloc (.cells #[.int .i64 x.me, .int .i64 x.rv, .int .i64 x.nx, .int .i64 x.mo, .int .i64 x.bo, .int .i64 x.fr, .slice p len cap] 32)).alloc (.cells #[.slice pt lt ct, .int .i64 t.ff, .int .i64 t.fb, .int .i64 t.db, .int .i64 t.al] 24)) = W0 at *
  have HWW : Hid (((w.alloc (.cells #[.int .i64 x.me, .int .i64 x.rv, .int .i64 x.nx, .int .i64 x.mo, .int .i64 x.bo, .int .i64 x.fr, .slice p len cap] 32)).alloc (.cells #[.slice pt lt ct, .int .i64 t.ff, .int .i64 t.fb, .int .i64 t.db, .int .i64 t.al] 24)) = W0) := hWW
  clear hWW
  go_enter Try.func6, Try.ntmps6
  go_upto_region 1 with fail
  rw [HWW.out]
  clear HWW
  have HAC : Hid (Calls Try.prog 16 #[.agg #[.int .i64 x.me, .int .i64 x.rv, .int .i64 x.nx, .int .i64 x.mo, .int .i64 x.bo, .int .i64 x.fr, .slice p len cap]] W0 fun e w' => ∃ p' cap', e = .returned (x.v p' len cap') ∧ deb.Fresh w' W0.heap.size p' len cap' x.ds ∧ Below W0.heap.size W0 w') := accounts_any x p len cap W0 H0C.out
  clear h ht
  go_wp2_with (first
    | (refine wp_whole rfl 32 _ rfl (w.heap.size) rfl 32 #[.int .i64 x.me, .int .i64 x.rv, .int .i64 x.nx, .int .i64 x.mo, .int .i64 x.bo, .int .i64 x.fr, .slice p len cap] _ H0x.out Try.underlying32 rfl (by kernel_rfl) ?_)
    | (refine wp_wholeG (by rfl) 32 _ rfl (w.heap.size) rfl 32 #[.int .i64 x.me, .int .i64 x.rv, .int .i64 x.nx, .int .i64 x.mo, .int .i64 x.bo, .int .i64 x.fr, .slice p len cap] _ H0x.out Try.underlying32 rfl (by kernel_rfl) ?_)
    | (refine wp_whole rfl 24 _ rfl (w.heap.size + 1) rfl 24 #[.slice pt lt ct, .int .i64 t.ff, .int .i64 t.fb, .int .i64 t.db, .int .i64 t.al] _ H0t.out Try.underlying24 rfl (by kernel_rfl) ?_)
    | (refine wp_wholeG (by rfl) 24 _ rfl (w.heap.size + 1) rfl 24 #[.slice pt lt ct, .int .i64 t.ff, .int .i64 t.fb, .int .i64 t.db, .int .i64 t.al] _ H0t.out Try.underlying24 rfl (by kernel_rfl) ?_)
    | fail)
  refine HAC.out.mono ?_
  rintro e w2 ⟨p2, c2, rfl, hf2, hb2⟩
  have H1x : Hid (Blk w2 (w.heap.size) #[.int .i64 x.me, .int .i64 x.rv, .int .i64 x.nx, .int .i64 x.mo, .int .i64 x.bo, .int .i64 x.fr, .slice p len cap] 32) := H0x.out.next hb2
  have H1t : Hid (Blk w2 (w.heap.size + 1) #[.slice pt lt ct, .int .i64 t.ff, .int .i64 t.fb, .int .i64 t.db, .int .i64 t.al] 24) := H0t.out.next hb2
  have H1C : Hid (ACame w2 x p len cap) := H0C.out.below hb2
  have H1T : Hid (TCame w2 t pt lt ct) := H0T.out.below hb2
  have H1B : Hid (Below w.heap.size w w2) := H0B.out.trans (hb2.mono H0B.out.size)
  have hsw2 : W0.heap.size ≤ w2.heap.size := hb2.size
  clear hb2 H0x H0t H0C H0T H0B
  unfold Ac.v Ac.cs
  have H2D : Hid (ACame w2 x p2 len c2) := ⟨hf2.came, HWF.out⟩
  clear hf2 HAC
  have H3x : Hid (Blk (w2.alloc (.cells #[.int .i64 x.me, .int .i64 x.rv, .int .i64 x.nx, .int .i64 x.mo, .int .i64 x.bo, .int .i64 x.fr, .slice p2 len c2] 32)) (w.heap.size) #[.int .i64 x.me, .int .i64 x.rv, .int .i64 x.nx, .int .i64 x.mo, .int .i64 x.bo, .int .i64 x.fr, .slice p len cap] 32) := H1x.out.alloc _
  have H3t : Hid (Blk (w2.alloc (.cells #[.int .i64 x.me, .int .i64 x.rv, .int .i64 x.nx, .int .i64 x.mo, .int .i64 x.bo, .int .i64 x.fr, .slice p2 len c2] 32)) (w.heap.size + 1) #[.slice pt lt ct, .int .i64 t.ff, .int .i64 t.fb, .int .i64 t.db, .int .i64 t.al] 24) := H1t.out.alloc _
  have H3C : Hid (ACame (w2.alloc (.cells #[.int .i64 x.me, .int .i64 x.rv, .int .i64 x.nx, .int .i64 x.mo, .int .i64 x.bo, .int .i64 x.fr, .slice p2 len c2] 32)) x p len cap) := H1C.out.below ((Below.refl w2.heap.size w2).alloc (Nat.le_refl _) _)
  have H3T : Hid (TCame (w2.alloc (.cells #[.int .i64 x.me, .int .i64 x.rv, .int .i64 x.nx, .int .i64 x.mo, .int .i64 x.bo, .int .i64 x.fr, .slice p2 len c2] 32)) t pt lt ct) := H1T.out.below ((Below.refl w2.heap.size w2).alloc (Nat.le_refl _) _)
  have H3D : Hid (ACame (w2.alloc (.cells #[.int .i64 x.me, .int .i64 x.rv, .int .i64 x.nx, .int .i64 x.mo, .int .i64 x.bo, .int .i64 x.fr, .slice p2 len c2] 32)) x p2 len c2) := H2D.out.below ((Below.refl w2.heap.size w2).alloc (Nat.le_refl _) _)
  have H3c : Hid (Blk (w2.alloc (.cells #[.int .i64 x.me, .int .i64 x.rv, .int .i64 x.nx, .int .i64 x.mo, .int .i64 x.bo, .int .i64 x.fr, .slice p2 len c2] 32)) w2.heap.size #[.int .i64 x.me, .int .i64 x.rv, .int .i64 x.nx, .int .i64 x.mo, .int .i64 x.bo, .int .i64 x.fr, .slice p2 len c2] 32) := Blk.new w2 _ _
  have H3B : Hid (Below w.heap.size w (w2.alloc (.cells #[.int .i64 x.me, .int .i64 x.rv, .int .i64 x.nx, .int .i64 x.mo, .int .i64 x.bo, .int .i64 x.fr, .slice p2 len c2] 32))) := H1B.out.alloc H1B.out.size _
  have hsW3 : w2.heap.size < (w2.alloc (.cells #[.int .i64 x.me, .int .i64 x.rv, .int .i64 x.nx, .int .i64 x.mo, .int .i64 x.bo, .int .i64 x.fr, .slice p2 len c2] 32)).heap.size := (Blk.new w2 #[.int .i64 x.me, .int .i64 x.rv, .int .i64 x.nx, .int .i64 x.mo, .int .i64 x.bo, .int .i64 x.fr, .slice p2 len c2] 32).lt
  clear H1x H1t H1C H1T H2D H1B
  go_upto_region 2 with fail
  generalize (w2.alloc (.cells #[.int .i64 x.me, .int .i64 x.rv, .int .i64 x.nx, .int .i64 x.mo, .int .i64 x.bo, .int .i64 x.fr, .slice p2 len c2] 32)) = W3 at *
  have HTC : Hid (Calls Try.prog 9 #[.agg #[.slice pt lt ct, .int .i64 t.ff, .int .i64 t.fb, .int .i64 t.db, .int .i64 t.al]] W3 fun e w' => ∃ p' cap', e = .returned (t.v p' lt cap') ∧ deb.Fresh w' W3.heap.size p' lt cap' t.ts ∧ Below W3.heap.size W3 w') := terms_any t pt lt ct W3 H3T.out
  go_wp2_with (first
    | (refine wp_whole rfl 32 _ rfl (w.heap.size) rfl 32 #[.int .i64 x.me, .int .i64 x.rv, .int .i64 x.nx, .int .i64 x.mo, .int .i64 x.bo, .int .i64 x.fr, .slice p len cap] _ H3x.out Try.underlying32 rfl (by kernel_rfl) ?_)
    | (refine wp_wholeG (by rfl) 32 _ rfl (w.heap.size) rfl 32 #[.int .i64 x.me, .int .i64 x.rv, .int .i64 x.nx, .int .i64 x.mo, .int .i64 x.bo, .int .i64 x.fr, .slice p len cap] _ H3x.out Try.underlying32 rfl (by kernel_rfl) ?_)
    | (refine wp_whole rfl 24 _ rfl (w.heap.size + 1) rfl 24 #[.slice pt lt ct, .int .i64 t.ff, .int .i64 t.fb, .int .i64 t.db, .int .i64 t.al] _ H3t.out Try.underlying24 rfl (by kernel_rfl) ?_)
    | (refine wp_wholeG (by rfl) 24 _ rfl (w.heap.size + 1) rfl 24 #[.slice pt lt ct, .int .i64 t.ff, .int .i64 t.fb, .int .i64 t.db, .int .i64 t.al] _ H3t.out Try.underlying24 rfl (by kernel_rfl) ?_)
    | (refine wp_whole rfl 32 _ rfl (w2.heap.size) rfl 32 #[.int .i64 x.me, .int .i64 x.rv, .int .i64 x.nx, .int .i64 x.mo, .int .i64 x.bo, .int .i64 x.fr, .slice p2 len c2] _ H3c.out Try.underlying32 rfl (by kernel_rfl) ?_)
    | (refine wp_wholeG (by rfl) 32 _ rfl (w2.heap.size) rfl 32 #[.int .i64 x.me, .int .i64 x.rv, .int .i64 x.nx, .int .i64 x.mo, .int .i64 x.bo, .int .i64 x.fr, .slice p2 len c2] _ H3c.out Try.underlying32 rfl (by kernel_rfl) ?_)
    | fail)
  refine HTC.out.mono ?_
  rintro e w4 ⟨p4, c4, rfl, hf4, hb4⟩
  have H4x : Hid (Blk w4 (w.heap.size) #[.int .i64 x.me, .int .i64 x.rv, .int .i64 x.nx, .int .i64 x.mo, .int .i64 x.bo, .int .i64 x.fr, .slice p len cap] 32) := H3x.out.next hb4
  have H4t : Hid (Blk w4 (w.heap.size + 1) #[.slice pt lt ct, .int .i64 t.ff, .int .i64 t.fb, .int .i64 t.db, .int .i64 t.al] 24) := H3t.out.next hb4
  have H4c : Hid (Blk w4 (w2.heap.size) #[.int .i64 x.me, .int .i64 x.rv, .int .i64 x.nx, .int .i64 x.mo, .int .i64 x.bo, .int .i64 x.fr, .slice p2 len c2] 32) := H3c.out.next hb4
  have H4C : Hid (ACame w4 x p len cap) := H3C.out.below hb4
  have H4T : Hid (TCame w4 t pt lt ct) := H3T.out.below hb4
  have H4D : Hid (ACame w4 x p2 len c2) := H3D.out.below hb4
  have H4B : Hid (Below w.heap.size w w4) := H3B.out.trans (hb4.mono H3B.out.size)
  have hsw4 : W3.heap.size ≤ w4.heap.size := hb4.size
  clear hb4 H3x H3t H3c H3C H3T H3D H3B
  unfold Tm.v
  have H5U : Hid (TCame w4 t p4 lt c4) := ⟨hf4.came, HWT.out⟩
  clear hf4 HTC
  have H6x : Hid (Blk (w4.alloc (.cells #[.slice p4 lt c4, .int .i64 t.ff, .int .i64 t.fb, .int .i64 t.db, .int .i64 t.al] 24)) (w.heap.size) #[.int .i64 x.me, .int .i64 x.rv, .int .i64 x.nx, .int .i64 x.mo, .int .i64 x.bo, .int .i64 x.fr, .slice p len cap] 32) := H4x.out.alloc _
  have H6t : Hid (Blk (w4.alloc (.cells #[.slice p4 lt c4, .int .i64 t.ff, .int .i64 t.fb, .int .i64 t.db, .int .i64 t.al] 24)) (w.heap.size + 1) #[.slice pt lt ct, .int .i64 t.ff, .int .i64 t.fb, .int .i64 t.db, .int .i64 t.al] 24) := H4t.out.alloc _
  have H6c : Hid (Blk (w4.alloc (.cells #[.slice p4 lt c4, .int .i64 t.ff, .int .i64 t.fb, .int .i64 t.db, .int .i64 t.al] 24)) (w2.heap.size) #[.int .i64 x.me, .int .i64 x.rv, .int .i64 x.nx, .int .i64 x.mo, .int .i64 x.bo, .int .i64 x.fr, .slice p2 len c2] 32) := H4c.out.alloc _
  have H6C : Hid (ACame (w4.alloc (.cells #[.slice p4 lt c4, .int .i64 t.ff, .int .i64 t.fb, .int .i64 t.db, .int .i64 t.al] 24)) x p len cap) := H4C.out.below ((Below.refl w4.heap.size w4).alloc (Nat.le_refl _) _)
  have H6T : Hid (TCame (w4.alloc (.cells #[.slice p4 lt c4, .int .i64 t.ff, .int .i64 t.fb, .int .i64 t.db, .int .i64 t.al] 24)) t pt lt ct) := H4T.out.below ((Below.refl w4.heap.size w4).alloc (Nat.le_refl _) _)
  have H6D : Hid (ACame (w4.alloc (.cells #[.slice p4 lt c4, .int .i64 t.ff, .int .i64 t.fb, .int .i64 t.db, .int .i64 t.al] 24)) x p2 len c2) := H4D.out.below ((Below.refl w4.heap.size w4).alloc (Nat.le_refl _) _)
  have H6U : Hid (TCame (w4.alloc (.cells #[.slice p4 lt c4, .int .i64 t.ff, .int .i64 t.fb, .int .i64 t.db, .int .i64 t.al] 24)) t p4 lt c4) := H5U.out.below ((Below.refl w4.heap.size w4).alloc (Nat.le_refl _) _)
  have H6u : Hid (Blk (w4.alloc (.cells #[.slice p4 lt c4, .int .i64 t.ff, .int .i64 t.fb, .int .i64 t.db, .int .i64 t.al] 24)) w4.heap.size #[.slice p4 lt c4, .int .i64 t.ff, .int .i64 t.fb, .int .i64 t.db, .int .i64 t.al] 24) := Blk.new w4 _ _
  have H6B : Hid (Below w.heap.size w (w4.alloc (.cells #[.slice p4 lt c4, .int .i64 t.ff, .int .i64 t.fb, .int .i64 t.db, .int .i64 t.al] 24))) := H4B.out.alloc H4B.out.size _
  have hsW5 : w4.heap.size < (w4.alloc (.cells #[.slice p4 lt c4, .int .i64 t.ff, .int .i64 t.fb, .int .i64 t.db, .int .i64 t.al] 24)).heap.size := (Blk.new w4 #[.slice p4 lt c4, .int .i64 t.ff, .int .i64 t.fb, .int .i64 t.db, .int .i64 t.al] 24).lt
  clear H4x H4t H4c H4C H4T H4D H5U H4B
  go_upto_region 3 with fail
  generalize (w4.alloc (.cells #[.slice p4 lt c4, .int .i64 t.ff, .int .i64 t.fb, .int .i64 t.db, .int .i64 t.al] 24)) = W5 at *
  have H1K : Hid (Calls Try.prog 19 #[.agg #[.int .i64 x.me, .int .i64 x.rv, .int .i64 x.nx, .int .i64 x.mo, .int .i64 x.bo, .int .i64 x.fr, .slice p2 len c2], .agg #[.slice p4 lt c4, .int .i64 t.ff, .int .i64 t.fb, .int .i64 t.db, .int .i64 t.al], .int .i64 te, .int .i64 m] W5 fun e w' => BPost W5 (SellIs x t te m) e w') := K W5 x p2 len c2 t p4 lt c4 te m H6D.out H6U.out hte hm
  go_wp2_with (first
    | (refine wp_whole rfl 32 _ rfl (w.heap.size) rfl 32 #[.int .i64 x.me, .int .i64 x.rv, .int .i64 x.nx, .int .i64 x.mo, .int .i64 x.bo, .int .i64 x.fr, .slice p len cap] _ H6x.out Try.underlying32 rfl (by kernel_rfl) ?_)
    | (refine wp_wholeG (by rfl) 32 _ rfl (w.heap.size) rfl 32 #[.int .i64 x.me, .int .i64 x.rv, .int .i64 x.nx, .int .i64 x.mo, .int .i64 x.bo, .int .i64 x.fr, .slice p len cap] _ H6x.out Try.underlying32 rfl (by kernel_rfl) ?_)
    | (refine wp_whole rfl 24 _ rfl (w.heap.size + 1) rfl 24 #[.slice pt lt ct, .int .i64 t.ff, .int .i64 t.fb, .int .i64 t.db, .int .i64 t.al] _ H6t.out Try.underlying24 rfl (by kernel_rfl) ?_)
    | (refine wp_wholeG (by rfl) 24 _ rfl (w.heap.size + 1) rfl 24 #[.slice pt lt ct, .int .i64 t.ff, .int .i64 t.fb, .int .i64 t.db, .int .i64 t.al] _ H6t.out Try.underlying24 rfl (by kernel_rfl) ?_)
    | (refine wp_whole rfl 32 _ rfl (w2.heap.size) rfl 32 #[.int .i64 x.me, .int .i64 x.rv, .int .i64 x.nx, .int .i64 x.mo, .int .i64 x.bo, .int .i64 x.fr, .slice p2 len c2] _ H6c.out Try.underlying32 rfl (by kernel_rfl) ?_)
    | (refine wp_wholeG (by rfl) 32 _ rfl (w2.heap.size) rfl 32 #[.int .i64 x.me, .int .i64 x.rv, .int .i64 x.nx, .int .i64 x.mo, .int .i64 x.bo, .int .i64 x.fr, .slice p2 len c2] _ H6c.out Try.underlying32 rfl (by kernel_rfl) ?_)
    | (refine wp_whole rfl 24 _ rfl (w4.heap.size) rfl 24 #[.slice p4 lt c4, .int .i64 t.ff, .int .i64 t.fb, .int .i64 t.db, .int .i64 t.al] _ H6u.out Try.underlying24 rfl (by kernel_rfl) ?_)
    | (refine wp_wholeG (by rfl) 24 _ rfl (w4.heap.size) rfl 24 #[.slice p4 lt c4, .int .i64 t.ff, .int .i64 t.fb, .int .i64 t.db, .int .i64 t.al] _ H6u.out Try.underlying24 rfl (by kernel_rfl) ?_)
    | fail)
  refine H1K.out.mono ?_
  rintro e w6 ⟨b, l, pb, lb, cb, fb, rfl, hi6, hf6, hb6⟩
  have H7x : Hid (Blk w6 (w.heap.size) #[.int .i64 x.me, .int .i64 x.rv, .int .i64 x.nx, .int .i64 x.mo, .int .i64 x.bo, .int .i64 x.fr, .slice p len cap] 32) := H6x.out.next hb6
  have H7t : Hid (Blk w6 (w.heap.size + 1) #[.slice pt lt ct, .int .i64 t.ff, .int .i64 t.fb, .int .i64 t.db, .int .i64 t.al] 24) := H6t.out.next hb6
  have H7c : Hid (Blk w6 (w2.heap.size) #[.int .i64 x.me, .int .i64 x.rv, .int .i64 x.nx, .int .i64 x.mo, .int .i64 x.bo, .int .i64 x.fr, .slice p2 len c2] 32) := H6c.out.next hb6
  have H7u : Hid (Blk w6 (w4.heap.size) #[.slice p4 lt c4, .int .i64 t.ff, .int .i64 t.fb, .int .i64 t.db, .int .i64 t.al] 24) := H6u.out.next hb6
  have H7C : Hid (ACame w6 x p len cap) := H6C.out.below hb6
  have H7T : Hid (TCame w6 t pt lt ct) := H6T.out.below hb6
  have H7D : Hid (ACame w6 x p2 len c2) := H6D.out.below hb6
  have H7U : Hid (TCame w6 t p4 lt c4) := H6U.out.below hb6
  have H7B : Hid (Below w.heap.size w w6) := H6B.out.trans (hb6.mono H6B.out.size)
  have hsw6 : W5.heap.size ≤ w6.heap.size := hb6.size
  clear hb6 H6x H6t H6c H6u H6C H6T H6D H6U H6B
  unfold Ac.v Ac.cs Bi.v
  have H8E : Hid (Came w6 pb lb cb b.ds) := hf6.came
  have HI : Hid (SellIs x t te m b l fb) := hi6
  clear hf6 hi6 H1K
  have H9x : Hid (Blk ((w6.alloc (.cells #[.int .i64 b.me, .int .i64 b.rv, .int .i64 b.nx, .int .i64 b.mo, .int .i64 b.bo, .int .i64 b.fr, .slice pb lb cb] 32)).alloc (.cells #[.int .i64 l.id, .int .i64 l.te, .int .i64 l.de, .int .i64 l.fe, .int .i64 l.pr, .int .i64 l.ch, .int .i64 l.un] 41)) (w.heap.size) #[.int .i64 x.me, .int .i64 x.rv, .int .i64 x.nx, .int .i64 x.mo, .int .i64 x.bo, .int .i64 x.fr, .slice p len cap] 32) := (H7x.out.alloc _).alloc _
  have H9t : Hid (Blk ((w6.alloc (.cells #[.int .i64 b.me, .int .i64 b.rv, .int .i64 b.nx, .int .i64 b.mo, .int .i64 b.bo, .int .i64 b.fr, .slice pb lb cb] 32)).alloc (.cells #[.int .i64 l.id, .int .i64 l.te, .int .i64 l.de, .int .i64 l.fe, .int .i64 l.pr, .int .i64 l.ch, .int .i64 l.un] 41)) (w.heap.size + 1) #[.slice pt lt ct, .int .i64 t.ff, .int .i64 t.fb, .int .i64 t.db, .int .i64 t.al] 24) := (H7t.out.alloc _).alloc _
  have H9c : Hid (Blk ((w6.alloc (.cells #[.int .i64 b.me, .int .i64 b.rv, .int .i64 b.nx, .int .i64 b.mo, .int .i64 b.bo, .int .i64 b.fr, .slice pb lb cb] 32)).alloc (.cells #[.int .i64 l.id, .int .i64 l.te, .int .i64 l.de, .int .i64 l.fe, .int .i64 l.pr, .int .i64 l.ch, .int .i64 l.un] 41)) (w2.heap.size) #[.int .i64 x.me, .int .i64 x.rv, .int .i64 x.nx, .int .i64 x.mo, .int .i64 x.bo, .int .i64 x.fr, .slice p2 len c2] 32) := (H7c.out.alloc _).alloc _
  have H9u : Hid (Blk ((w6.alloc (.cells #[.int .i64 b.me, .int .i64 b.rv, .int .i64 b.nx, .int .i64 b.mo, .int .i64 b.bo, .int .i64 b.fr, .slice pb lb cb] 32)).alloc (.cells #[.int .i64 l.id, .int .i64 l.te, .int .i64 l.de, .int .i64 l.fe, .int .i64 l.pr, .int .i64 l.ch, .int .i64 l.un] 41)) (w4.heap.size) #[.slice p4 lt c4, .int .i64 t.ff, .int .i64 t.fb, .int .i64 t.db, .int .i64 t.al] 24) := (H7u.out.alloc _).alloc _
  have H9C : Hid (ACame ((w6.alloc (.cells #[.int .i64 b.me, .int .i64 b.rv, .int .i64 b.nx, .int .i64 b.mo, .int .i64 b.bo, .int .i64 b.fr, .slice pb lb cb] 32)).alloc (.cells #[.int .i64 l.id, .int .i64 l.te, .int .i64 l.de, .int .i64 l.fe, .int .i64 l.pr, .int .i64 l.ch, .int .i64 l.un] 41)) x p len cap) := H7C.out.below (((Below.refl w6.heap.size w6).alloc (by simp) _).alloc (by simp) _)
  have H9T : Hid (TCame ((w6.alloc (.cells #[.int .i64 b.me, .int .i64 b.rv, .int .i64 b.nx, .int .i64 b.mo, .int .i64 b.bo, .int .i64 b.fr, .slice pb lb cb] 32)).alloc (.cells #[.int .i64 l.id, .int .i64 l.te, .int .i64 l.de, .int .i64 l.fe, .int .i64 l.pr, .int .i64 l.ch, .int .i64 l.un] 41)) t pt lt ct) := H7T.out.below (((Below.refl w6.heap.size w6).alloc (by simp) _).alloc (by simp) _)
  have H9D : Hid (ACame ((w6.alloc (.cells #[.int .i64 b.me, .int .i64 b.rv, .int .i64 b.nx, .int .i64 b.mo, .int .i64 b.bo, .int .i64 b.fr, .slice pb lb cb] 32)).alloc (.cells #[.int .i64 l.id, .int .i64 l.te, .int .i64 l.de, .int .i64 l.fe, .int .i64 l.pr, .int .i64 l.ch, .int .i64 l.un] 41)) x p2 len c2) := H7D.out.below (((Below.refl w6.heap.size w6).alloc (by simp) _).alloc (by simp) _)
  have H9U : Hid (TCame ((w6.alloc (.cells #[.int .i64 b.me, .int .i64 b.rv, .int .i64 b.nx, .int .i64 b.mo, .int .i64 b.bo, .int .i64 b.fr, .slice pb lb cb] 32)).alloc (.cells #[.int .i64 l.id, .int .i64 l.te, .int .i64 l.de, .int .i64 l.fe, .int .i64 l.pr, .int .i64 l.ch, .int .i64 l.un] 41)) t p4 lt c4) := H7U.out.below (((Below.refl w6.heap.size w6).alloc (by simp) _).alloc (by simp) _)
  have H9E : Hid (Came ((w6.alloc (.cells #[.int .i64 b.me, .int .i64 b.rv, .int .i64 b.nx, .int .i64 b.mo, .int .i64 b.bo, .int .i64 b.fr, .slice pb lb cb] 32)).alloc (.cells #[.int .i64 l.id, .int .i64 l.te, .int .i64 l.de, .int .i64 l.fe, .int .i64 l.pr, .int .i64 l.ch, .int .i64 l.un] 41)) pb lb cb b.ds) := H8E.out.below (((Below.refl w6.heap.size w6).alloc (by simp) _).alloc (by simp) _)
  have H9a : Hid (Blk ((w6.alloc (.cells #[.int .i64 b.me, .int .i64 b.rv, .int .i64 b.nx, .int .i64 b.mo, .int .i64 b.bo, .int .i64 b.fr, .slice pb lb cb] 32)).alloc (.cells #[.int .i64 l.id, .int .i64 l.te, .int .i64 l.de, .int .i64 l.fe, .int .i64 l.pr, .int .i64 l.ch, .int .i64 l.un] 41)) w6.heap.size #[.int .i64 b.me, .int .i64 b.rv, .int .i64 b.nx, .int .i64 b.mo, .int .i64 b.bo, .int .i64 b.fr, .slice pb lb cb] 32) := (Blk.new w6 _ _).alloc _
  have H9m : Hid (Blk ((w6.alloc (.cells #[.int .i64 b.me, .int .i64 b.rv, .int .i64 b.nx, .int .i64 b.mo, .int .i64 b.bo, .int .i64 b.fr, .slice pb lb cb] 32)).alloc (.cells #[.int .i64 l.id, .int .i64 l.te, .int .i64 l.de, .int .i64 l.fe, .int .i64 l.pr, .int .i64 l.ch, .int .i64 l.un] 41)) (w6.heap.size + 1) #[.int .i64 l.id, .int .i64 l.te, .int .i64 l.de, .int .i64 l.fe, .int .i64 l.pr, .int .i64 l.ch, .int .i64 l.un] 41) := Blk.new1 w6 _ _ _
  have H9B : Hid (Below w.heap.size w ((w6.alloc (.cells #[.int .i64 b.me, .int .i64 b.rv, .int .i64 b.nx, .int .i64 b.mo, .int .i64 b.bo, .int .i64 b.fr, .slice pb lb cb] 32)).alloc (.cells #[.int .i64 l.id, .int .i64 l.te, .int .i64 l.de, .int .i64 l.fe, .int .i64 l.pr, .int .i64 l.ch, .int .i64 l.un] 41))) := (H7B.out.alloc H7B.out.size _).alloc (Nat.le_trans H7B.out.size (by simp)) _
  have hsW7 : w6.heap.size + 1 < ((w6.alloc (.cells #[.int .i64 b.me, .int .i64 b.rv, .int .i64 b.nx, .int .i64 b.mo, .int .i64 b.bo, .int .i64 b.fr, .slice pb lb cb] 32)).alloc (.cells #[.int .i64 l.id, .int .i64 l.te, .int .i64 l.de, .int .i64 l.fe, .int .i64 l.pr, .int .i64 l.ch, .int .i64 l.un] 41)).heap.size := (Blk.new1 w6 _ #[.int .i64 l.id, .int .i64 l.te, .int .i64 l.de, .int .i64 l.fe, .int .i64 l.pr, .int .i64 l.ch, .int .i64 l.un] 41).lt
  clear H7x H7t H7c H7u H7C H7T H7D H7U H8E H7B
  go_upto_region 4 with fail
  generalize ((w6.alloc (.cells #[.int .i64 b.me, .int .i64 b.rv, .int .i64 b.nx, .int .i64 b.mo, .int .i64 b.bo, .int .i64 b.fr, .slice pb lb cb] 32)).alloc (.cells #[.int .i64 l.id, .int .i64 l.te, .int .i64 l.de, .int .i64 l.fe, .int .i64 l.pr, .int .i64 l.ch, .int .i64 l.un] 41)) = W7 at *
  have H2K : Hid (Calls Try.prog 20 #[.agg #[.int .i64 x.me, .int .i64 x.rv, .int .i64 x.nx, .int .i64 x.mo, .int .i64 x.bo, .int .i64 x.fr, .slice p len cap], .agg #[.slice pt lt ct, .int .i64 t.ff, .int .i64 t.fb, .int .i64 t.db, .int .i64 t.al], .int .i64 te, .int .i64 m] W7 fun e w' => BPost W7 (SellIs x t te m) e w') := rsold x p len cap t pt lt ct te m W7 H9C.out.ds.row H9C.out.ds.most H9T.out.ts.row H9T.out.ts.most
  go_wp2_with (first
    | (refine wp_whole rfl 32 _ rfl (w.heap.size) rfl 32 #[.int .i64 x.me, .int .i64 x.rv, .int .i64 x.nx, .int .i64 x.mo, .int .i64 x.bo, .int .i64 x.fr, .slice p len cap] _ H9x.out Try.underlying32 rfl (by kernel_rfl) ?_)
    | (refine wp_wholeG (by rfl) 32 _ rfl (w.heap.size) rfl 32 #[.int .i64 x.me, .int .i64 x.rv, .int .i64 x.nx, .int .i64 x.mo, .int .i64 x.bo, .int .i64 x.fr, .slice p len cap] _ H9x.out Try.underlying32 rfl (by kernel_rfl) ?_)
    | (refine wp_whole rfl 24 _ rfl (w.heap.size + 1) rfl 24 #[.slice pt lt ct, .int .i64 t.ff, .int .i64 t.fb, .int .i64 t.db, .int .i64 t.al] _ H9t.out Try.underlying24 rfl (by kernel_rfl) ?_)
    | (refine wp_wholeG (by rfl) 24 _ rfl (w.heap.size + 1) rfl 24 #[.slice pt lt ct, .int .i64 t.ff, .int .i64 t.fb, .int .i64 t.db, .int .i64 t.al] _ H9t.out Try.underlying24 rfl (by kernel_rfl) ?_)
    | (refine wp_whole rfl 32 _ rfl (w2.heap.size) rfl 32 #[.int .i64 x.me, .int .i64 x.rv, .int .i64 x.nx, .int .i64 x.mo, .int .i64 x.bo, .int .i64 x.fr, .slice p2 len c2] _ H9c.out Try.underlying32 rfl (by kernel_rfl) ?_)
    | (refine wp_wholeG (by rfl) 32 _ rfl (w2.heap.size) rfl 32 #[.int .i64 x.me, .int .i64 x.rv, .int .i64 x.nx, .int .i64 x.mo, .int .i64 x.bo, .int .i64 x.fr, .slice p2 len c2] _ H9c.out Try.underlying32 rfl (by kernel_rfl) ?_)
    | (refine wp_whole rfl 24 _ rfl (w4.heap.size) rfl 24 #[.slice p4 lt c4, .int .i64 t.ff, .int .i64 t.fb, .int .i64 t.db, .int .i64 t.al] _ H9u.out Try.underlying24 rfl (by kernel_rfl) ?_)
    | (refine wp_wholeG (by rfl) 24 _ rfl (w4.heap.size) rfl 24 #[.slice p4 lt c4, .int .i64 t.ff, .int .i64 t.fb, .int .i64 t.db, .int .i64 t.al] _ H9u.out Try.underlying24 rfl (by kernel_rfl) ?_)
    | (refine wp_whole rfl 32 _ rfl (w6.heap.size) rfl 32 #[.int .i64 b.me, .int .i64 b.rv, .int .i64 b.nx, .int .i64 b.mo, .int .i64 b.bo, .int .i64 b.fr, .slice pb lb cb] _ H9a.out Try.underlying32 rfl (by kernel_rfl) ?_)
    | (refine wp_wholeG (by rfl) 32 _ rfl (w6.heap.size) rfl 32 #[.int .i64 b.me, .int .i64 b.rv, .int .i64 b.nx, .int .i64 b.mo, .int .i64 b.bo, .int .i64 b.fr, .slice pb lb cb] _ H9a.out Try.underlying32 rfl (by kernel_rfl) ?_)
    | (refine wp_whole rfl 41 _ rfl (w6.heap.size + 1) rfl 41 #[.int .i64 l.id, .int .i64 l.te, .int .i64 l.de, .int .i64 l.fe, .int .i64 l.pr, .int .i64 l.ch, .int .i64 l.un] _ H9m.out Try.underlying41 rfl (by kernel_rfl) ?_)
    | (refine wp_wholeG (by rfl) 41 _ rfl (w6.heap.size + 1) rfl 41 #[.int .i64 l.id, .int .i64 l.te, .int .i64 l.de, .int .i64 l.fe, .int .i64 l.pr, .int .i64 l.ch, .int .i64 l.un] _ H9m.out Try.underlying41 rfl (by kernel_rfl) ?_)
    | fail)
  refine H2K.out.mono ?_
  rintro e w8 ⟨b2, l2, pe, le, ce, fe, rfl, hi8, hf8, hb8⟩
  have H10x : Hid (Blk w8 (w.heap.size) #[.int .i64 x.me, .int .i64 x.rv, .int .i64 x.nx, .int .i64 x.mo, .int .i64 x.bo, .int .i64 x.fr, .slice p len cap] 32) := H9x.out.next hb8
  have H10t : Hid (Blk w8 (w.heap.size + 1) #[.slice pt lt ct, .int .i64 t.ff, .int .i64 t.fb, .int .i64 t.db, .int .i64 t.al] 24) := H9t.out.next hb8
  have H10c : Hid (Blk w8 (w2.heap.size) #[.int .i64 x.me, .int .i64 x.rv, .int .i64 x.nx, .int .i64 x.mo, .int .i64 x.bo, .int .i64 x.fr, .slice p2 len c2] 32) := H9c.out.next hb8
  have H10u : Hid (Blk w8 (w4.heap.size) #[.slice p4 lt c4, .int .i64 t.ff, .int .i64 t.fb, .int .i64 t.db, .int .i64 t.al] 24) := H9u.out.next hb8
  have H10a : Hid (Blk w8 (w6.heap.size) #[.int .i64 b.me, .int .i64 b.rv, .int .i64 b.nx, .int .i64 b.mo, .int .i64 b.bo, .int .i64 b.fr, .slice pb lb cb] 32) := H9a.out.next hb8
  have H10m : Hid (Blk w8 (w6.heap.size + 1) #[.int .i64 l.id, .int .i64 l.te, .int .i64 l.de, .int .i64 l.fe, .int .i64 l.pr, .int .i64 l.ch, .int .i64 l.un] 41) := H9m.out.next hb8
  have H10C : Hid (ACame w8 x p len cap) := H9C.out.below hb8
  have H10T : Hid (TCame w8 t pt lt ct) := H9T.out.below hb8
  have H10D : Hid (ACame w8 x p2 len c2) := H9D.out.below hb8
  have H10U : Hid (TCame w8 t p4 lt c4) := H9U.out.below hb8
  have H10E : Hid (Came w8 pb lb cb b.ds) := H9E.out.below hb8
  have H10B : Hid (Below w.heap.size w w8) := H9B.out.trans (hb8.mono H9B.out.size)
  have hsw8 : W7.heap.size ≤ w8.heap.size := hb8.size
  clear hb8 H9x H9t H9c H9u H9a H9m H9C H9T H9D H9U H9E H9B
  unfold Ac.v Ac.cs Bi.v
  obtain ⟨rfl, rfl, rfl⟩ := HI.out.one hi8
  have hc8 := hf8.came
  obtain rfl : lb = le := by rw [← hc8.row.1, ← H10E.out.row.1]
  have H11G : Hid (Came w8 pe lb ce b.ds) := hc8
  clear hc8 hf8 hi8 HI H2K
  have H12x : Hid (Blk ((w8.alloc (.cells #[.int .i64 b.me, .int .i64 b.rv, .int .i64 b.nx, .int .i64 b.mo, .int .i64 b.bo, .int .i64 b.fr, .slice pe lb ce] 32)).alloc (.cells #[.int .i64 l.id, .int .i64 l.te, .int .i64 l.de, .int .i64 l.fe, .int .i64 l.pr, .int .i64 l.ch, .int .i64 l.un] 41)) (w.heap.size) #[.int .i64 x.me, .int .i64 x.rv, .int .i64 x.nx, .int .i64 x.mo, .int .i64 x.bo, .int .i64 x.fr, .slice p len cap] 32) := (H10x.out.alloc _).alloc _
  have H12t : Hid (Blk ((w8.alloc (.cells #[.int .i64 b.me, .int .i64 b.rv, .int .i64 b.nx, .int .i64 b.mo, .int .i64 b.bo, .int .i64 b.fr, .slice pe lb ce] 32)).alloc (.cells #[.int .i64 l.id, .int .i64 l.te, .int .i64 l.de, .int .i64 l.fe, .int .i64 l.pr, .int .i64 l.ch, .int .i64 l.un] 41)) (w.heap.size + 1) #[.slice pt lt ct, .int .i64 t.ff, .int .i64 t.fb, .int .i64 t.db, .int .i64 t.al] 24) := (H10t.out.alloc _).alloc _
  have H12c : Hid (Blk ((w8.alloc (.cells #[.int .i64 b.me, .int .i64 b.rv, .int .i64 b.nx, .int .i64 b.mo, .int .i64 b.bo, .int .i64 b.fr, .slice pe lb ce] 32)).alloc (.cells #[.int .i64 l.id, .int .i64 l.te, .int .i64 l.de, .int .i64 l.fe, .int .i64 l.pr, .int .i64 l.ch, .int .i64 l.un] 41)) (w2.heap.size) #[.int .i64 x.me, .int .i64 x.rv, .int .i64 x.nx, .int .i64 x.mo, .int .i64 x.bo, .int .i64 x.fr, .slice p2 len c2] 32) := (H10c.out.alloc _).alloc _
  have H12u : Hid (Blk ((w8.alloc (.cells #[.int .i64 b.me, .int .i64 b.rv, .int .i64 b.nx, .int .i64 b.mo, .int .i64 b.bo, .int .i64 b.fr, .slice pe lb ce] 32)).alloc (.cells #[.int .i64 l.id, .int .i64 l.te, .int .i64 l.de, .int .i64 l.fe, .int .i64 l.pr, .int .i64 l.ch, .int .i64 l.un] 41)) (w4.heap.size) #[.slice p4 lt c4, .int .i64 t.ff, .int .i64 t.fb, .int .i64 t.db, .int .i64 t.al] 24) := (H10u.out.alloc _).alloc _
  have H12a : Hid (Blk ((w8.alloc (.cells #[.int .i64 b.me, .int .i64 b.rv, .int .i64 b.nx, .int .i64 b.mo, .int .i64 b.bo, .int .i64 b.fr, .slice pe lb ce] 32)).alloc (.cells #[.int .i64 l.id, .int .i64 l.te, .int .i64 l.de, .int .i64 l.fe, .int .i64 l.pr, .int .i64 l.ch, .int .i64 l.un] 41)) (w6.heap.size) #[.int .i64 b.me, .int .i64 b.rv, .int .i64 b.nx, .int .i64 b.mo, .int .i64 b.bo, .int .i64 b.fr, .slice pb lb cb] 32) := (H10a.out.alloc _).alloc _
  have H12m : Hid (Blk ((w8.alloc (.cells #[.int .i64 b.me, .int .i64 b.rv, .int .i64 b.nx, .int .i64 b.mo, .int .i64 b.bo, .int .i64 b.fr, .slice pe lb ce] 32)).alloc (.cells #[.int .i64 l.id, .int .i64 l.te, .int .i64 l.de, .int .i64 l.fe, .int .i64 l.pr, .int .i64 l.ch, .int .i64 l.un] 41)) (w6.heap.size + 1) #[.int .i64 l.id, .int .i64 l.te, .int .i64 l.de, .int .i64 l.fe, .int .i64 l.pr, .int .i64 l.ch, .int .i64 l.un] 41) := (H10m.out.alloc _).alloc _
  have H12C : Hid (ACame ((w8.alloc (.cells #[.int .i64 b.me, .int .i64 b.rv, .int .i64 b.nx, .int .i64 b.mo, .int .i64 b.bo, .int .i64 b.fr, .slice pe lb ce] 32)).alloc (.cells #[.int .i64 l.id, .int .i64 l.te, .int .i64 l.de, .int .i64 l.fe, .int .i64 l.pr, .int .i64 l.ch, .int .i64 l.un] 41)) x p len cap) := H10C.out.below (((Below.refl w8.heap.size w8).alloc (by simp) _).alloc (by simp) _)
  have H12T : Hid (TCame ((w8.alloc (.cells #[.int .i64 b.me, .int .i64 b.rv, .int .i64 b.nx, .int .i64 b.mo, .int .i64 b.bo, .int .i64 b.fr, .slice pe lb ce] 32)).alloc (.cells #[.int .i64 l.id, .int .i64 l.te, .int .i64 l.de, .int .i64 l.fe, .int .i64 l.pr, .int .i64 l.ch, .int .i64 l.un] 41)) t pt lt ct) := H10T.out.below (((Below.refl w8.heap.size w8).alloc (by simp) _).alloc (by simp) _)
  have H12D : Hid (ACame ((w8.alloc (.cells #[.int .i64 b.me, .int .i64 b.rv, .int .i64 b.nx, .int .i64 b.mo, .int .i64 b.bo, .int .i64 b.fr, .slice pe lb ce] 32)).alloc (.cells #[.int .i64 l.id, .int .i64 l.te, .int .i64 l.de, .int .i64 l.fe, .int .i64 l.pr, .int .i64 l.ch, .int .i64 l.un] 41)) x p2 len c2) := H10D.out.below (((Below.refl w8.heap.size w8).alloc (by simp) _).alloc (by simp) _)
  have H12U : Hid (TCame ((w8.alloc (.cells #[.int .i64 b.me, .int .i64 b.rv, .int .i64 b.nx, .int .i64 b.mo, .int .i64 b.bo, .int .i64 b.fr, .slice pe lb ce] 32)).alloc (.cells #[.int .i64 l.id, .int .i64 l.te, .int .i64 l.de, .int .i64 l.fe, .int .i64 l.pr, .int .i64 l.ch, .int .i64 l.un] 41)) t p4 lt c4) := H10U.out.below (((Below.refl w8.heap.size w8).alloc (by simp) _).alloc (by simp) _)
  have H12E : Hid (Came ((w8.alloc (.cells #[.int .i64 b.me, .int .i64 b.rv, .int .i64 b.nx, .int .i64 b.mo, .int .i64 b.bo, .int .i64 b.fr, .slice pe lb ce] 32)).alloc (.cells #[.int .i64 l.id, .int .i64 l.te, .int .i64 l.de, .int .i64 l.fe, .int .i64 l.pr, .int .i64 l.ch, .int .i64 l.un] 41)) pb lb cb b.ds) := H10E.out.below (((Below.refl w8.heap.size w8).alloc (by simp) _).alloc (by simp) _)
  have H12G : Hid (Came ((w8.alloc (.cells #[.int .i64 b.me, .int .i64 b.rv, .int .i64 b.nx, .int .i64 b.mo, .int .i64 b.bo, .int .i64 b.fr, .slice pe lb ce] 32)).alloc (.cells #[.int .i64 l.id, .int .i64 l.te, .int .i64 l.de, .int .i64 l.fe, .int .i64 l.pr, .int .i64 l.ch, .int .i64 l.un] 41)) pe lb ce b.ds) := H11G.out.below (((Below.refl w8.heap.size w8).alloc (by simp) _).alloc (by simp) _)
  have H12b : Hid (Blk ((w8.alloc (.cells #[.int .i64 b.me, .int .i64 b.rv, .int .i64 b.nx, .int .i64 b.mo, .int .i64 b.bo, .int .i64 b.fr, .slice pe lb ce] 32)).alloc (.cells #[.int .i64 l.id, .int .i64 l.te, .int .i64 l.de, .int .i64 l.fe, .int .i64 l.pr, .int .i64 l.ch, .int .i64 l.un] 41)) w8.heap.size #[.int .i64 b.me, .int .i64 b.rv, .int .i64 b.nx, .int .i64 b.mo, .int .i64 b.bo, .int .i64 b.fr, .slice pe lb ce] 32) := (Blk.new w8 _ _).alloc _
  have H12n : Hid (Blk ((w8.alloc (.cells #[.int .i64 b.me, .int .i64 b.rv, .int .i64 b.nx, .int .i64 b.mo, .int .i64 b.bo, .int .i64 b.fr, .slice pe lb ce] 32)).alloc (.cells #[.int .i64 l.id, .int .i64 l.te, .int .i64 l.de, .int .i64 l.fe, .int .i64 l.pr, .int .i64 l.ch, .int .i64 l.un] 41)) (w8.heap.size + 1) #[.int .i64 l.id, .int .i64 l.te, .int .i64 l.de, .int .i64 l.fe, .int .i64 l.pr, .int .i64 l.ch, .int .i64 l.un] 41) := Blk.new1 w8 _ _ _
  have H12B : Hid (Below w.heap.size w ((w8.alloc (.cells #[.int .i64 b.me, .int .i64 b.rv, .int .i64 b.nx, .int .i64 b.mo, .int .i64 b.bo, .int .i64 b.fr, .slice pe lb ce] 32)).alloc (.cells #[.int .i64 l.id, .int .i64 l.te, .int .i64 l.de, .int .i64 l.fe, .int .i64 l.pr, .int .i64 l.ch, .int .i64 l.un] 41))) := (H10B.out.alloc H10B.out.size _).alloc (Nat.le_trans H10B.out.size (by simp)) _
  have hsW9 : w8.heap.size + 1 < ((w8.alloc (.cells #[.int .i64 b.me, .int .i64 b.rv, .int .i64 b.nx, .int .i64 b.mo, .int .i64 b.bo, .int .i64 b.fr, .slice pe lb ce] 32)).alloc (.cells #[.int .i64 l.id, .int .i64 l.te, .int .i64 l.de, .int .i64 l.fe, .int .i64 l.pr, .int .i64 l.ch, .int .i64 l.un] 41)).heap.size := (Blk.new1 w8 _ #[.int .i64 l.id, .int .i64 l.te, .int .i64 l.de, .int .i64 l.fe, .int .i64 l.pr, .int .i64 l.ch, .int .i64 l.un] 41).lt
  clear H10x H10t H10c H10u H10a H10m H10C H10T H10D H10U H10E H11G H10B
  go_upto_region 5 with fail
  generalize ((w8.alloc (.cells #[.int .i64 b.me, .int .i64 b.rv, .int .i64 b.nx, .int .i64 b.mo, .int .i64 b.bo, .int .i64 b.fr, .slice pe lb ce] 32)).alloc (.cells #[.int .i64 l.id, .int .i64 l.te, .int .i64 l.de, .int .i64 l.fe, .int .i64 l.pr, .int .i64 l.ch, .int .i64 l.un] 41)) = W9 at *
  have ef : (fb == fb) = true := by simp
  have eb : ∀ wz : World, (Op.equalIn 10000 41 (.agg #[.int .i64 l.id, .int .i64 l.te, .int .i64 l.de, .int .i64 l.fe, .int .i64 l.pr, .int .i64 l.ch, .int .i64 l.un]) (.agg #[.int .i64 l.id, .int .i64 l.te, .int .i64 l.de, .int .i64 l.fe, .int .i64 l.pr, .int .i64 l.ch, .int .i64 l.un])).run Try.prog wz = .ok true wz := fun wz => eqBill _ _ _ _ _ _ _ wz
  have HS1 : Hid (Calls Try.prog 15 #[.agg #[.int .i64 b.me, .int .i64 b.rv, .int .i64 b.nx, .int .i64 b.mo, .int .i64 b.bo, .int .i64 b.fr, .slice pb lb cb], .agg #[.int .i64 b.me, .int .i64 b.rv, .int .i64 b.nx, .int .i64 b.mo, .int .i64 b.bo, .int .i64 b.fr, .slice pe lb ce]] W9 fun e w' => e = .returned (.bool true) ∧ Below W9.heap.size W9 w') := same_acc b pb pe lb cb ce W9 H12E.out H12G.out
  go_wp2_with (first
    | (refine wp_whole rfl 32 _ rfl (w.heap.size) rfl 32 #[.int .i64 x.me, .int .i64 x.rv, .int .i64 x.nx, .int .i64 x.mo, .int .i64 x.bo, .int .i64 x.fr, .slice p len cap] _ H12x.out Try.underlying32 rfl (by kernel_rfl) ?_)
    | (refine wp_wholeG (by rfl) 32 _ rfl (w.heap.size) rfl 32 #[.int .i64 x.me, .int .i64 x.rv, .int .i64 x.nx, .int .i64 x.mo, .int .i64 x.bo, .int .i64 x.fr, .slice p len cap] _ H12x.out Try.underlying32 rfl (by kernel_rfl) ?_)
    | (refine wp_whole rfl 24 _ rfl (w.heap.size + 1) rfl 24 #[.slice pt lt ct, .int .i64 t.ff, .int .i64 t.fb, .int .i64 t.db, .int .i64 t.al] _ H12t.out Try.underlying24 rfl (by kernel_rfl) ?_)
    | (refine wp_wholeG (by rfl) 24 _ rfl (w.heap.size + 1) rfl 24 #[.slice pt lt ct, .int .i64 t.ff, .int .i64 t.fb, .int .i64 t.db, .int .i64 t.al] _ H12t.out Try.underlying24 rfl (by kernel_rfl) ?_)
    | (refine wp_whole rfl 32 _ rfl (w2.heap.size) rfl 32 #[.int .i64 x.me, .int .i64 x.rv, .int .i64 x.nx, .int .i64 x.mo, .int .i64 x.bo, .int .i64 x.fr, .slice p2 len c2] _ H12c.out Try.underlying32 rfl (by kernel_rfl) ?_)
    | (refine wp_wholeG (by rfl) 32 _ rfl (w2.heap.size) rfl 32 #[.int .i64 x.me, .int .i64 x.rv, .int .i64 x.nx, .int .i64 x.mo, .int .i64 x.bo, .int .i64 x.fr, .slice p2 len c2] _ H12c.out Try.underlying32 rfl (by kernel_rfl) ?_)
    | (refine wp_whole rfl 24 _ rfl (w4.heap.size) rfl 24 #[.slice p4 lt c4, .int .i64 t.ff, .int .i64 t.fb, .int .i64 t.db, .int .i64 t.al] _ H12u.out Try.underlying24 rfl (by kernel_rfl) ?_)
    | (refine wp_wholeG (by rfl) 24 _ rfl (w4.heap.size) rfl 24 #[.slice p4 lt c4, .int .i64 t.ff, .int .i64 t.fb, .int .i64 t.db, .int .i64 t.al] _ H12u.out Try.underlying24 rfl (by kernel_rfl) ?_)
    | (refine wp_whole rfl 32 _ rfl (w6.heap.size) rfl 32 #[.int .i64 b.me, .int .i64 b.rv, .int .i64 b.nx, .int .i64 b.mo, .int .i64 b.bo, .int .i64 b.fr, .slice pb lb cb] _ H12a.out Try.underlying32 rfl (by kernel_rfl) ?_)
    | (refine wp_wholeG (by rfl) 32 _ rfl (w6.heap.size) rfl 32 #[.int .i64 b.me, .int .i64 b.rv, .int .i64 b.nx, .int .i64 b.mo, .int .i64 b.bo, .int .i64 b.fr, .slice pb lb cb] _ H12a.out Try.underlying32 rfl (by kernel_rfl) ?_)
    | (refine wp_whole rfl 41 _ rfl (w6.heap.size + 1) rfl 41 #[.int .i64 l.id, .int .i64 l.te, .int .i64 l.de, .int .i64 l.fe, .int .i64 l.pr, .int .i64 l.ch, .int .i64 l.un] _ H12m.out Try.underlying41 rfl (by kernel_rfl) ?_)
    | (refine wp_wholeG (by rfl) 41 _ rfl (w6.heap.size + 1) rfl 41 #[.int .i64 l.id, .int .i64 l.te, .int .i64 l.de, .int .i64 l.fe, .int .i64 l.pr, .int .i64 l.ch, .int .i64 l.un] _ H12m.out Try.underlying41 rfl (by kernel_rfl) ?_)
    | (refine wp_whole rfl 32 _ rfl (w8.heap.size) rfl 32 #[.int .i64 b.me, .int .i64 b.rv, .int .i64 b.nx, .int .i64 b.mo, .int .i64 b.bo, .int .i64 b.fr, .slice pe lb ce] _ H12b.out Try.underlying32 rfl (by kernel_rfl) ?_)
    | (refine wp_wholeG (by rfl) 32 _ rfl (w8.heap.size) rfl 32 #[.int .i64 b.me, .int .i64 b.rv, .int .i64 b.nx, .int .i64 b.mo, .int .i64 b.bo, .int .i64 b.fr, .slice pe lb ce] _ H12b.out Try.underlying32 rfl (by kernel_rfl) ?_)
    | (refine wp_whole rfl 41 _ rfl (w8.heap.size + 1) rfl 41 #[.int .i64 l.id, .int .i64 l.te, .int .i64 l.de, .int .i64 l.fe, .int .i64 l.pr, .int .i64 l.ch, .int .i64 l.un] _ H12n.out Try.underlying41 rfl (by kernel_rfl) ?_)
    | (refine wp_wholeG (by rfl) 41 _ rfl (w8.heap.size + 1) rfl 41 #[.int .i64 l.id, .int .i64 l.te, .int .i64 l.de, .int .i64 l.fe, .int .i64 l.pr, .int .i64 l.ch, .int .i64 l.un] _ H12n.out Try.underlying41 rfl (by kernel_rfl) ?_)
    | fail)
  refine HS1.out.mono ?_
  rintro e wa ⟨rfl, hba⟩
  have H13x : Hid (Blk wa (w.heap.size) #[.int .i64 x.me, .int .i64 x.rv, .int .i64 x.nx, .int .i64 x.mo, .int .i64 x.bo, .int .i64 x.fr, .slice p len cap] 32) := H12x.out.next hba
  have H13t : Hid (Blk wa (w.heap.size + 1) #[.slice pt lt ct, .int .i64 t.ff, .int .i64 t.fb, .int .i64 t.db, .int .i64 t.al] 24) := H12t.out.next hba
  have H13c : Hid (Blk wa (w2.heap.size) #[.int .i64 x.me, .int .i64 x.rv, .int .i64 x.nx, .int .i64 x.mo, .int .i64 x.bo, .int .i64 x.fr, .slice p2 len c2] 32) := H12c.out.next hba
  have H13u : Hid (Blk wa (w4.heap.size) #[.slice p4 lt c4, .int .i64 t.ff, .int .i64 t.fb, .int .i64 t.db, .int .i64 t.al] 24) := H12u.out.next hba
  have H13a : Hid (Blk wa (w6.heap.size) #[.int .i64 b.me, .int .i64 b.rv, .int .i64 b.nx, .int .i64 b.mo, .int .i64 b.bo, .int .i64 b.fr, .slice pb lb cb] 32) := H12a.out.next hba
  have H13m : Hid (Blk wa (w6.heap.size + 1) #[.int .i64 l.id, .int .i64 l.te, .int .i64 l.de, .int .i64 l.fe, .int .i64 l.pr, .int .i64 l.ch, .int .i64 l.un] 41) := H12m.out.next hba
  have H13b : Hid (Blk wa (w8.heap.size) #[.int .i64 b.me, .int .i64 b.rv, .int .i64 b.nx, .int .i64 b.mo, .int .i64 b.bo, .int .i64 b.fr, .slice pe lb ce] 32) := H12b.out.next hba
  have H13n : Hid (Blk wa (w8.heap.size + 1) #[.int .i64 l.id, .int .i64 l.te, .int .i64 l.de, .int .i64 l.fe, .int .i64 l.pr, .int .i64 l.ch, .int .i64 l.un] 41) := H12n.out.next hba
  have H13C : Hid (ACame wa x p len cap) := H12C.out.below hba
  have H13T : Hid (TCame wa t pt lt ct) := H12T.out.below hba
  have H13D : Hid (ACame wa x p2 len c2) := H12D.out.below hba
  have H13U : Hid (TCame wa t p4 lt c4) := H12U.out.below hba
  have H13E : Hid (Came wa pb lb cb b.ds) := H12E.out.below hba
  have H13G : Hid (Came wa pe lb ce b.ds) := H12G.out.below hba
  have H13B : Hid (Below w.heap.size w wa) := H12B.out.trans (hba.mono H12B.out.size)
  have hswa : W9.heap.size ≤ wa.heap.size := hba.size
  clear hba H12x H12t H12c H12u H12a H12m H12b H12n H12C H12T H12D H12U H12E H12G H12B
  clear HS1
  have HS2 : Hid (Calls Try.prog 15 #[.agg #[.int .i64 x.me, .int .i64 x.rv, .int .i64 x.nx, .int .i64 x.mo, .int .i64 x.bo, .int .i64 x.fr, .slice p2 len c2], .agg #[.int .i64 x.me, .int .i64 x.rv, .int .i64 x.nx, .int .i64 x.mo, .int .i64 x.bo, .int .i64 x.fr, .slice p len cap]] wa fun e w' => e = .returned (.bool true) ∧ Below wa.heap.size wa w') := same_acc x p2 p len c2 cap wa H13D.out.ds H13C.out.ds
  go_wp2_with (first
    | (refine wp_whole rfl 32 _ rfl (w.heap.size) rfl 32 #[.int .i64 x.me, .int .i64 x.rv, .int .i64 x.nx, .int .i64 x.mo, .int .i64 x.bo, .int .i64 x.fr, .slice p len cap] _ H13x.out Try.underlying32 rfl (by kernel_rfl) ?_)
    | (refine wp_wholeG (by rfl) 32 _ rfl (w.heap.size) rfl 32 #[.int .i64 x.me, .int .i64 x.rv, .int .i64 x.nx, .int .i64 x.mo, .int .i64 x.bo, .int .i64 x.fr, .slice p len cap] _ H13x.out Try.underlying32 rfl (by kernel_rfl) ?_)
    | (refine wp_whole rfl 24 _ rfl (w.heap.size + 1) rfl 24 #[.slice pt lt ct, .int .i64 t.ff, .int .i64 t.fb, .int .i64 t.db, .int .i64 t.al] _ H13t.out Try.underlying24 rfl (by kernel_rfl) ?_)
    | (refine wp_wholeG (by rfl) 24 _ rfl (w.heap.size + 1) rfl 24 #[.slice pt lt ct, .int .i64 t.ff, .int .i64 t.fb, .int .i64 t.db, .int .i64 t.al] _ H13t.out Try.underlying24 rfl (by kernel_rfl) ?_)
    | (refine wp_whole rfl 32 _ rfl (w2.heap.size) rfl 32 #[.int .i64 x.me, .int .i64 x.rv, .int .i64 x.nx, .int .i64 x.mo, .int .i64 x.bo, .int .i64 x.fr, .slice p2 len c2] _ H13c.out Try.underlying32 rfl (by kernel_rfl) ?_)
    | (refine wp_wholeG (by rfl) 32 _ rfl (w2.heap.size) rfl 32 #[.int .i64 x.me, .int .i64 x.rv, .int .i64 x.nx, .int .i64 x.mo, .int .i64 x.bo, .int .i64 x.fr, .slice p2 len c2] _ H13c.out Try.underlying32 rfl (by kernel_rfl) ?_)
    | (refine wp_whole rfl 24 _ rfl (w4.heap.size) rfl 24 #[.slice p4 lt c4, .int .i64 t.ff, .int .i64 t.fb, .int .i64 t.db, .int .i64 t.al] _ H13u.out Try.underlying24 rfl (by kernel_rfl) ?_)
    | (refine wp_wholeG (by rfl) 24 _ rfl (w4.heap.size) rfl 24 #[.slice p4 lt c4, .int .i64 t.ff, .int .i64 t.fb, .int .i64 t.db, .int .i64 t.al] _ H13u.out Try.underlying24 rfl (by kernel_rfl) ?_)
    | (refine wp_whole rfl 32 _ rfl (w6.heap.size) rfl 32 #[.int .i64 b.me, .int .i64 b.rv, .int .i64 b.nx, .int .i64 b.mo, .int .i64 b.bo, .int .i64 b.fr, .slice pb lb cb] _ H13a.out Try.underlying32 rfl (by kernel_rfl) ?_)
    | (refine wp_wholeG (by rfl) 32 _ rfl (w6.heap.size) rfl 32 #[.int .i64 b.me, .int .i64 b.rv, .int .i64 b.nx, .int .i64 b.mo, .int .i64 b.bo, .int .i64 b.fr, .slice pb lb cb] _ H13a.out Try.underlying32 rfl (by kernel_rfl) ?_)
    | (refine wp_whole rfl 41 _ rfl (w6.heap.size + 1) rfl 41 #[.int .i64 l.id, .int .i64 l.te, .int .i64 l.de, .int .i64 l.fe, .int .i64 l.pr, .int .i64 l.ch, .int .i64 l.un] _ H13m.out Try.underlying41 rfl (by kernel_rfl) ?_)
    | (refine wp_wholeG (by rfl) 41 _ rfl (w6.heap.size + 1) rfl 41 #[.int .i64 l.id, .int .i64 l.te, .int .i64 l.de, .int .i64 l.fe, .int .i64 l.pr, .int .i64 l.ch, .int .i64 l.un] _ H13m.out Try.underlying41 rfl (by kernel_rfl) ?_)
    | (refine wp_whole rfl 32 _ rfl (w8.heap.size) rfl 32 #[.int .i64 b.me, .int .i64 b.rv, .int .i64 b.nx, .int .i64 b.mo, .int .i64 b.bo, .int .i64 b.fr, .slice pe lb ce] _ H13b.out Try.underlying32 rfl (by kernel_rfl) ?_)
    | (refine wp_wholeG (by rfl) 32 _ rfl (w8.heap.size) rfl 32 #[.int .i64 b.me, .int .i64 b.rv, .int .i64 b.nx, .int .i64 b.mo, .int .i64 b.bo, .int .i64 b.fr, .slice pe lb ce] _ H13b.out Try.underlying32 rfl (by kernel_rfl) ?_)
    | (refine wp_whole rfl 41 _ rfl (w8.heap.size + 1) rfl 41 #[.int .i64 l.id, .int .i64 l.te, .int .i64 l.de, .int .i64 l.fe, .int .i64 l.pr, .int .i64 l.ch, .int .i64 l.un] _ H13n.out Try.underlying41 rfl (by kernel_rfl) ?_)
    | (refine wp_wholeG (by rfl) 41 _ rfl (w8.heap.size + 1) rfl 41 #[.int .i64 l.id, .int .i64 l.te, .int .i64 l.de, .int .i64 l.fe, .int .i64 l.pr, .int .i64 l.ch, .int .i64 l.un] _ H13n.out Try.underlying41 rfl (by kernel_rfl) ?_)
    | fail)
  refine HS2.out.mono ?_
  rintro e wb ⟨rfl, hbb⟩
  have H14x : Hid (Blk wb (w.heap.size) #[.int .i64 x.me, .int .i64 x.rv, .int .i64 x.nx, .int .i64 x.mo, .int .i64 x.bo, .int .i64 x.fr, .slice p len cap] 32) := H13x.out.next hbb
  have H14t : Hid (Blk wb (w.heap.size + 1) #[.slice pt lt ct, .int .i64 t.ff, .int .i64 t.fb, .int .i64 t.db, .int .i64 t.al] 24) := H13t.out.next hbb
  have H14c : Hid (Blk wb (w2.heap.size) #[.int .i64 x.me, .int .i64 x.rv, .int .i64 x.nx, .int .i64 x.mo, .int .i64 x.bo, .int .i64 x.fr, .slice p2 len c2] 32) := H13c.out.next hbb
  have H14u : Hid (Blk wb (w4.heap.size) #[.slice p4 lt c4, .int .i64 t.ff, .int .i64 t.fb, .int .i64 t.db, .int .i64 t.al] 24) := H13u.out.next hbb
  have H14a : Hid (Blk wb (w6.heap.size) #[.int .i64 b.me, .int .i64 b.rv, .int .i64 b.nx, .int .i64 b.mo, .int .i64 b.bo, .int .i64 b.fr, .slice pb lb cb] 32) := H13a.out.next hbb
  have H14m : Hid (Blk wb (w6.heap.size + 1) #[.int .i64 l.id, .int .i64 l.te, .int .i64 l.de, .int .i64 l.fe, .int .i64 l.pr, .int .i64 l.ch, .int .i64 l.un] 41) := H13m.out.next hbb
  have H14b : Hid (Blk wb (w8.heap.size) #[.int .i64 b.me, .int .i64 b.rv, .int .i64 b.nx, .int .i64 b.mo, .int .i64 b.bo, .int .i64 b.fr, .slice pe lb ce] 32) := H13b.out.next hbb
  have H14n : Hid (Blk wb (w8.heap.size + 1) #[.int .i64 l.id, .int .i64 l.te, .int .i64 l.de, .int .i64 l.fe, .int .i64 l.pr, .int .i64 l.ch, .int .i64 l.un] 41) := H13n.out.next hbb
  have H14C : Hid (ACame wb x p len cap) := H13C.out.below hbb
  have H14T : Hid (TCame wb t pt lt ct) := H13T.out.below hbb
  have H14D : Hid (ACame wb x p2 len c2) := H13D.out.below hbb
  have H14U : Hid (TCame wb t p4 lt c4) := H13U.out.below hbb
  have H14E : Hid (Came wb pb lb cb b.ds) := H13E.out.below hbb
  have H14G : Hid (Came wb pe lb ce b.ds) := H13G.out.below hbb
  have H14B : Hid (Below w.heap.size w wb) := H13B.out.trans (hbb.mono H13B.out.size)
  have hswb : wa.heap.size ≤ wb.heap.size := hbb.size
  clear hbb H13x H13t H13c H13u H13a H13m H13b H13n H13C H13T H13D H13U H13E H13G H13B
  clear HS2
  have HS3 : Hid (Calls Try.prog 12 #[.agg #[.slice p4 lt c4, .int .i64 t.ff, .int .i64 t.fb, .int .i64 t.db, .int .i64 t.al], .agg #[.slice pt lt ct, .int .i64 t.ff, .int .i64 t.fb, .int .i64 t.db, .int .i64 t.al]] wb fun e w' => e = .returned (.bool true) ∧ Below wb.heap.size wb w') := same_terms t p4 pt lt c4 ct wb H14U.out.ts H14T.out.ts
  go_wp2_with (first
    | (refine wp_whole rfl 32 _ rfl (w.heap.size) rfl 32 #[.int .i64 x.me, .int .i64 x.rv, .int .i64 x.nx, .int .i64 x.mo, .int .i64 x.bo, .int .i64 x.fr, .slice p len cap] _ H14x.out Try.underlying32 rfl (by kernel_rfl) ?_)
    | (refine wp_wholeG (by rfl) 32 _ rfl (w.heap.size) rfl 32 #[.int .i64 x.me, .int .i64 x.rv, .int .i64 x.nx, .int .i64 x.mo, .int .i64 x.bo, .int .i64 x.fr, .slice p len cap] _ H14x.out Try.underlying32 rfl (by kernel_rfl) ?_)
    | (refine wp_whole rfl 24 _ rfl (w.heap.size + 1) rfl 24 #[.slice pt lt ct, .int .i64 t.ff, .int .i64 t.fb, .int .i64 t.db, .int .i64 t.al] _ H14t.out Try.underlying24 rfl (by kernel_rfl) ?_)
    | (refine wp_wholeG (by rfl) 24 _ rfl (w.heap.size + 1) rfl 24 #[.slice pt lt ct, .int .i64 t.ff, .int .i64 t.fb, .int .i64 t.db, .int .i64 t.al] _ H14t.out Try.underlying24 rfl (by kernel_rfl) ?_)
    | (refine wp_whole rfl 32 _ rfl (w2.heap.size) rfl 32 #[.int .i64 x.me, .int .i64 x.rv, .int .i64 x.nx, .int .i64 x.mo, .int .i64 x.bo, .int .i64 x.fr, .slice p2 len c2] _ H14c.out Try.underlying32 rfl (by kernel_rfl) ?_)
    | (refine wp_wholeG (by rfl) 32 _ rfl (w2.heap.size) rfl 32 #[.int .i64 x.me, .int .i64 x.rv, .int .i64 x.nx, .int .i64 x.mo, .int .i64 x.bo, .int .i64 x.fr, .slice p2 len c2] _ H14c.out Try.underlying32 rfl (by kernel_rfl) ?_)
    | (refine wp_whole rfl 24 _ rfl (w4.heap.size) rfl 24 #[.slice p4 lt c4, .int .i64 t.ff, .int .i64 t.fb, .int .i64 t.db, .int .i64 t.al] _ H14u.out Try.underlying24 rfl (by kernel_rfl) ?_)
    | (refine wp_wholeG (by rfl) 24 _ rfl (w4.heap.size) rfl 24 #[.slice p4 lt c4, .int .i64 t.ff, .int .i64 t.fb, .int .i64 t.db, .int .i64 t.al] _ H14u.out Try.underlying24 rfl (by kernel_rfl) ?_)
    | (refine wp_whole rfl 32 _ rfl (w6.heap.size) rfl 32 #[.int .i64 b.me, .int .i64 b.rv, .int .i64 b.nx, .int .i64 b.mo, .int .i64 b.bo, .int .i64 b.fr, .slice pb lb cb] _ H14a.out Try.underlying32 rfl (by kernel_rfl) ?_)
    | (refine wp_wholeG (by rfl) 32 _ rfl (w6.heap.size) rfl 32 #[.int .i64 b.me, .int .i64 b.rv, .int .i64 b.nx, .int .i64 b.mo, .int .i64 b.bo, .int .i64 b.fr, .slice pb lb cb] _ H14a.out Try.underlying32 rfl (by kernel_rfl) ?_)
    | (refine wp_whole rfl 41 _ rfl (w6.heap.size + 1) rfl 41 #[.int .i64 l.id, .int .i64 l.te, .int .i64 l.de, .int .i64 l.fe, .int .i64 l.pr, .int .i64 l.ch, .int .i64 l.un] _ H14m.out Try.underlying41 rfl (by kernel_rfl) ?_)
    | (refine wp_wholeG (by rfl) 41 _ rfl (w6.heap.size + 1) rfl 41 #[.int .i64 l.id, .int .i64 l.te, .int .i64 l.de, .int .i64 l.fe, .int .i64 l.pr, .int .i64 l.ch, .int .i64 l.un] _ H14m.out Try.underlying41 rfl (by kernel_rfl) ?_)
    | (refine wp_whole rfl 32 _ rfl (w8.heap.size) rfl 32 #[.int .i64 b.me, .int .i64 b.rv, .int .i64 b.nx, .int .i64 b.mo, .int .i64 b.bo, .int .i64 b.fr, .slice pe lb ce] _ H14b.out Try.underlying32 rfl (by kernel_rfl) ?_)
    | (refine wp_wholeG (by rfl) 32 _ rfl (w8.heap.size) rfl 32 #[.int .i64 b.me, .int .i64 b.rv, .int .i64 b.nx, .int .i64 b.mo, .int .i64 b.bo, .int .i64 b.fr, .slice pe lb ce] _ H14b.out Try.underlying32 rfl (by kernel_rfl) ?_)
    | (refine wp_whole rfl 41 _ rfl (w8.heap.size + 1) rfl 41 #[.int .i64 l.id, .int .i64 l.te, .int .i64 l.de, .int .i64 l.fe, .int .i64 l.pr, .int .i64 l.ch, .int .i64 l.un] _ H14n.out Try.underlying41 rfl (by kernel_rfl) ?_)
    | (refine wp_wholeG (by rfl) 41 _ rfl (w8.heap.size + 1) rfl 41 #[.int .i64 l.id, .int .i64 l.te, .int .i64 l.de, .int .i64 l.fe, .int .i64 l.pr, .int .i64 l.ch, .int .i64 l.un] _ H14n.out Try.underlying41 rfl (by kernel_rfl) ?_)
    | fail)
  refine HS3.out.mono ?_
  rintro e wc ⟨rfl, hbc⟩
  have H15x : Hid (Blk wc (w.heap.size) #[.int .i64 x.me, .int .i64 x.rv, .int .i64 x.nx, .int .i64 x.mo, .int .i64 x.bo, .int .i64 x.fr, .slice p len cap] 32) := H14x.out.next hbc
  have H15t : Hid (Blk wc (w.heap.size + 1) #[.slice pt lt ct, .int .i64 t.ff, .int .i64 t.fb, .int .i64 t.db, .int .i64 t.al] 24) := H14t.out.next hbc
  have H15c : Hid (Blk wc (w2.heap.size) #[.int .i64 x.me, .int .i64 x.rv, .int .i64 x.nx, .int .i64 x.mo, .int .i64 x.bo, .int .i64 x.fr, .slice p2 len c2] 32) := H14c.out.next hbc
  have H15u : Hid (Blk wc (w4.heap.size) #[.slice p4 lt c4, .int .i64 t.ff, .int .i64 t.fb, .int .i64 t.db, .int .i64 t.al] 24) := H14u.out.next hbc
  have H15a : Hid (Blk wc (w6.heap.size) #[.int .i64 b.me, .int .i64 b.rv, .int .i64 b.nx, .int .i64 b.mo, .int .i64 b.bo, .int .i64 b.fr, .slice pb lb cb] 32) := H14a.out.next hbc
  have H15m : Hid (Blk wc (w6.heap.size + 1) #[.int .i64 l.id, .int .i64 l.te, .int .i64 l.de, .int .i64 l.fe, .int .i64 l.pr, .int .i64 l.ch, .int .i64 l.un] 41) := H14m.out.next hbc
  have H15b : Hid (Blk wc (w8.heap.size) #[.int .i64 b.me, .int .i64 b.rv, .int .i64 b.nx, .int .i64 b.mo, .int .i64 b.bo, .int .i64 b.fr, .slice pe lb ce] 32) := H14b.out.next hbc
  have H15n : Hid (Blk wc (w8.heap.size + 1) #[.int .i64 l.id, .int .i64 l.te, .int .i64 l.de, .int .i64 l.fe, .int .i64 l.pr, .int .i64 l.ch, .int .i64 l.un] 41) := H14n.out.next hbc
  have H15C : Hid (ACame wc x p len cap) := H14C.out.below hbc
  have H15T : Hid (TCame wc t pt lt ct) := H14T.out.below hbc
  have H15D : Hid (ACame wc x p2 len c2) := H14D.out.below hbc
  have H15U : Hid (TCame wc t p4 lt c4) := H14U.out.below hbc
  have H15E : Hid (Came wc pb lb cb b.ds) := H14E.out.below hbc
  have H15G : Hid (Came wc pe lb ce b.ds) := H14G.out.below hbc
  have H15B : Hid (Below w.heap.size w wc) := H14B.out.trans (hbc.mono H14B.out.size)
  have hswc : wb.heap.size ≤ wc.heap.size := hbc.size
  clear hbc H14x H14t H14c H14u H14a H14m H14b H14n H14C H14T H14D H14U H14E H14G H14B
  clear HS3
  go_wp2_with fail
  go_ret
  exact ⟨rfl, H15B.out⟩

end Go.Proofs.Ytlolippocnngcaa.acc
