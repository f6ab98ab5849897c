/- The statement GrantOnce. -/
import Derived.Test.YtlolippocnngcabKcG
import Derived.Test.YtlolippocnngcabAxN
import Derived.Test.YtlolippocnngcabAcEb
import Derived.Test.YtlolippocnngcabTfMax
import Derived.Test.YtlolippocnngcabAcGo
import Derived.Test.YtlolippocnngcabAcAg
import Derived.Test.YtlolippocnngcabAcX
import Derived.Test.YtlolippocnngcabLetG
import Derived.Deep.DeepCutAuto
namespace Go.Proofs.Ytlolippocnngcab.acc
open Go.Proofs.Ytlolippocnngcab.tar (Du du0 Came RowD Ld PairT)
open Go.RowKit
set_option maxRecDepth 100000
set_option linter.unusedVariables false
set_option linter.unusedSimpArgs false

set_option maxHeartbeats 16000000 in
theorem GrantOnce_walk (KG : KcGrant) (x : Ac) (p : Option Addr) (len cap : Nat) (t : Tm) (pt : Option Addr) (lt ct : Nat) (la : Int) (w : World) (h : ACame w x p len cap) (ht : TCame w t pt lt ct) (hla : (Lit.int .i64 la).wf = true) : Calls Try.prog 8 #[x.v p len cap, t.v pt lt ct, .int .i64 la] w fun e w' => e = .returned (.bool true) ∧ Below w.heap.size w w' := by
  unfold Ac.v Ac.cs Tm.v
  have H0x : Hid (Blk ((w.alloc (.cells #[.int .i64 x.me, .int .i64 x.rv, .int .i64 x.nx, .int .i64 x.mo, .int .i64 x.bo, .int .i64 x.fr, .slice p len cap] 35)).alloc (.cells #[.slice pt lt ct, .int .i64 t.ff, .int .i64 t.fb, .int .i64 t.db, .int .i64 t.al] 38)) (w.heap.size) #[.int .i64 x.me, .int .i64 x.rv, .int .i64 x.nx, .int .i64 x.mo, .int .i64 x.bo, .int .i64 x.fr, .slice p len cap] 35) := (Blk.new w _ _).alloc _
  have H0d : Hid (Blk ((w.alloc (.cells #[.int .i64 x.me, .int .i64 x.rv, .int .i64 x.nx, .int .i64 x.mo, .int .i64 x.bo, .int .i64 x.fr, .slice p len cap] 35)).alloc (.cells #[.slice pt lt ct, .int .i64 t.ff, .int .i64 t.fb, .int .i64 t.db, .int .i64 t.al] 38)) (w.heap.size + 1) #[.slice pt lt ct, .int .i64 t.ff, .int .i64 t.fb, .int .i64 t.db, .int .i64 t.al] 38) := Blk.new1 w _ _ _
  have H0B : Hid (Below w.heap.size w ((w.alloc (.cells #[.int .i64 x.me, .int .i64 x.rv, .int .i64 x.nx, .int .i64 x.mo, .int .i64 x.bo, .int .i64 x.fr, .slice p len cap] 35)).alloc (.cells #[.slice pt lt ct, .int .i64 t.ff, .int .i64 t.fb, .int .i64 t.db, .int .i64 t.al] 38))) := ((Below.refl w.heap.size w).alloc (by simp) _).alloc (by simp) _
  have H0X : Hid (ACame ((w.alloc (.cells #[.int .i64 x.me, .int .i64 x.rv, .int .i64 x.nx, .int .i64 x.mo, .int .i64 x.bo, .int .i64 x.fr, .slice p len cap] 35)).alloc (.cells #[.slice pt lt ct, .int .i64 t.ff, .int .i64 t.fb, .int .i64 t.db, .int .i64 t.al] 38)) x p len cap) := h.below H0B.out
  have H0D : Hid (TCame ((w.alloc (.cells #[.int .i64 x.me, .int .i64 x.rv, .int .i64 x.nx, .int .i64 x.mo, .int .i64 x.bo, .int .i64 x.fr, .slice p len cap] 35)).alloc (.cells #[.slice pt lt ct, .int .i64 t.ff, .int .i64 t.fb, .int .i64 t.db, .int .i64 t.al] 38)) t pt lt ct) := ht.below H0B.out
  have hs0 : w.heap.size + 1 < ((w.alloc (.cells #[.int .i64 x.me, .int .i64 x.rv, .int .i64 x.nx, .int .i64 x.mo, .int .i64 x.bo, .int .i64 x.fr, .slice p len cap] 35)).alloc (.cells #[.slice pt lt ct, .int .i64 t.ff, .int .i64 t.fb, .int .i64 t.db, .int .i64 t.al] 38)).heap.size := H0d.out.lt
  generalize hWW : ((w.alloc (.cells #[.int .i64 x.me, .int .i64 x.rv, .int .i64 x.nx, .int .i64 x.mo, .int .i64 x.bo, .int .i64 x.fr, .slice p len cap] 35)).alloc (.cells #[.slice pt lt ct, .int .i64 t.ff, .int .i64 t.fb, .int .i64 t.db, .int .i64 t.al] 38)) = W0 at *
  have HWW : Hid (((w.alloc (.cells #[.int .i64 x.me, .int .i64 x.rv, .int .i64 x.nx, .int .i64 x.mo, .int .i64 x.bo, .int .i64 x.fr, .slice p len cap] 35)).alloc (.cells #[.slice pt lt ct, .int .i64 t.ff, .int .i64 t.fb, .int .i64 t.db, .int .i64 t.al] 38)) = W0) := hWW
  clear hWW
  go_enter Try.func8, Try.ntmps8
  go_upto_region 1 with fail
  rw [HWW.out]
  clear HWW
  have HGO : Hid (Calls Try.prog 13 #[.agg #[.int .i64 x.me, .int .i64 x.rv, .int .i64 x.nx, .int .i64 x.mo, .int .i64 x.bo, .int .i64 x.fr, .slice p len cap]] W0 fun e w' => GaveA W0 e w') := gone_any x p len cap W0 H0X.out
  clear h ht
  go_wp2_with (first
    | (refine wp_whole rfl 35 _ rfl (w.heap.size) rfl 35 #[.int .i64 x.me, .int .i64 x.rv, .int .i64 x.nx, .int .i64 x.mo, .int .i64 x.bo, .int .i64 x.fr, .slice p len cap] _ H0x.out Try.underlying35 rfl (by kernel_rfl) ?_)
    | (refine wp_wholeG (by rfl) 35 _ rfl (w.heap.size) rfl 35 #[.int .i64 x.me, .int .i64 x.rv, .int .i64 x.nx, .int .i64 x.mo, .int .i64 x.bo, .int .i64 x.fr, .slice p len cap] _ H0x.out Try.underlying35 rfl (by kernel_rfl) ?_)
    | (refine wp_whole rfl 38 _ rfl (w.heap.size + 1) rfl 38 #[.slice pt lt ct, .int .i64 t.ff, .int .i64 t.fb, .int .i64 t.db, .int .i64 t.al] _ H0d.out Try.underlying38 rfl (by kernel_rfl) ?_)
    | (refine wp_wholeG (by rfl) 38 _ rfl (w.heap.size + 1) rfl 38 #[.slice pt lt ct, .int .i64 t.ff, .int .i64 t.fb, .int .i64 t.db, .int .i64 t.al] _ H0d.out Try.underlying38 rfl (by kernel_rfl) ?_)
    | fail)
  refine HGO.out.mono ?_
  rintro e w1 ⟨a, pa, na, ca, rfl, ham, hnx, hmo1, hfa, hb1⟩
  have H1x : Hid (Blk w1 (w.heap.size) #[.int .i64 x.me, .int .i64 x.rv, .int .i64 x.nx, .int .i64 x.mo, .int .i64 x.bo, .int .i64 x.fr, .slice p len cap] 35) := H0x.out.next hb1
  have H1d : Hid (Blk w1 (w.heap.size + 1) #[.slice pt lt ct, .int .i64 t.ff, .int .i64 t.fb, .int .i64 t.db, .int .i64 t.al] 38) := H0d.out.next hb1
  have H1X : Hid (ACame w1 x p len cap) := H0X.out.below hb1
  have H1D : Hid (TCame w1 t pt lt ct) := H0D.out.below hb1
  have H1B : Hid (Below w.heap.size w w1) := H0B.out.trans (hb1.mono H0B.out.size)
  have hsw1 : W0.heap.size ≤ w1.heap.size := hb1.size
  clear hb1 H0x H0d H0X H0D H0B
  unfold Ac.v Ac.cs
  have H2A : Hid (ACame w1 a pa na ca) := ⟨hfa.came, amay_wf ham⟩
  have HAM : Hid (AMay a) := ham
  have hmo0 : 0 ≤ a.mo := ham.2.2.2.2.1.1
  have HNX : Hid (1 ≤ a.nx ∧ a.nx ≤ 1048574) := ⟨ham.2.2.2.1.1, hnx⟩
  have HNA : Hid (na = a.ds.length) := hfa.came.row.1.symm
  clear hfa ham hnx HGO
  clear H1x
  clear H1X
  have H3d : Hid (Blk (w1.alloc (.cells #[.int .i64 a.me, .int .i64 a.rv, .int .i64 a.nx, .int .i64 a.mo, .int .i64 a.bo, .int .i64 a.fr, .slice pa na ca] 24)) (w.heap.size + 1) #[.slice pt lt ct, .int .i64 t.ff, .int .i64 t.fb, .int .i64 t.db, .int .i64 t.al] 38) := H1d.out.alloc _
  have H3D : Hid (TCame (w1.alloc (.cells #[.int .i64 a.me, .int .i64 a.rv, .int .i64 a.nx, .int .i64 a.mo, .int .i64 a.bo, .int .i64 a.fr, .slice pa na ca] 24)) t pt lt ct) := H1D.out.below ((Below.refl w1.heap.size w1).alloc (Nat.le_refl _) _)
  have H3A : Hid (ACame (w1.alloc (.cells #[.int .i64 a.me, .int .i64 a.rv, .int .i64 a.nx, .int .i64 a.mo, .int .i64 a.bo, .int .i64 a.fr, .slice pa na ca] 24)) a pa na ca) := H2A.out.below ((Below.refl w1.heap.size w1).alloc (Nat.le_refl _) _)
  have H3a : Hid (Blk (w1.alloc (.cells #[.int .i64 a.me, .int .i64 a.rv, .int .i64 a.nx, .int .i64 a.mo, .int .i64 a.bo, .int .i64 a.fr, .slice pa na ca] 24)) w1.heap.size #[.int .i64 a.me, .int .i64 a.rv, .int .i64 a.nx, .int .i64 a.mo, .int .i64 a.bo, .int .i64 a.fr, .slice pa na ca] 24) := Blk.new w1 _ _
  have H3B : Hid (Below w.heap.size w (w1.alloc (.cells #[.int .i64 a.me, .int .i64 a.rv, .int .i64 a.nx, .int .i64 a.mo, .int .i64 a.bo, .int .i64 a.fr, .slice pa na ca] 24))) := H1B.out.alloc H1B.out.size _
  have hsW1 : w1.heap.size < (w1.alloc (.cells #[.int .i64 a.me, .int .i64 a.rv, .int .i64 a.nx, .int .i64 a.mo, .int .i64 a.bo, .int .i64 a.fr, .slice pa na ca] 24)).heap.size := (Blk.new w1 #[.int .i64 a.me, .int .i64 a.rv, .int .i64 a.nx, .int .i64 a.mo, .int .i64 a.bo, .int .i64 a.fr, .slice pa na ca] 24).lt
  clear H1d H1D H2A H1B
  go_upto_region 2 with fail
  generalize (w1.alloc (.cells #[.int .i64 a.me, .int .i64 a.rv, .int .i64 a.nx, .int .i64 a.mo, .int .i64 a.bo, .int .i64 a.fr, .slice pa na ca] 24)) = W1 at *
  have HAG : Hid (Calls Try.prog 14 #[.agg #[.slice pt lt ct, .int .i64 t.ff, .int .i64 t.fb, .int .i64 t.db, .int .i64 t.al]] W1 fun e w' => GaveT W1 e w') := agreed_any t pt lt ct W1 H3D.out
  go_wp2_with (first
    | (refine wp_whole rfl 38 _ rfl (w.heap.size + 1) rfl 38 #[.slice pt lt ct, .int .i64 t.ff, .int .i64 t.fb, .int .i64 t.db, .int .i64 t.al] _ H3d.out Try.underlying38 rfl (by kernel_rfl) ?_)
    | (refine wp_wholeG (by rfl) 38 _ rfl (w.heap.size + 1) rfl 38 #[.slice pt lt ct, .int .i64 t.ff, .int .i64 t.fb, .int .i64 t.db, .int .i64 t.al] _ H3d.out Try.underlying38 rfl (by kernel_rfl) ?_)
    | (refine wp_whole rfl 24 _ rfl (w1.heap.size) rfl 24 #[.int .i64 a.me, .int .i64 a.rv, .int .i64 a.nx, .int .i64 a.mo, .int .i64 a.bo, .int .i64 a.fr, .slice pa na ca] _ H3a.out Try.underlying24 rfl (by kernel_rfl) ?_)
    | (refine wp_wholeG (by rfl) 24 _ rfl (w1.heap.size) rfl 24 #[.int .i64 a.me, .int .i64 a.rv, .int .i64 a.nx, .int .i64 a.mo, .int .i64 a.bo, .int .i64 a.fr, .slice pa na ca] _ H3a.out Try.underlying24 rfl (by kernel_rfl) ?_)
    | fail)
  refine HAG.out.mono ?_
  rintro e w2 ⟨u, pu, nu, cu, rfl, htr, hcm, _, hb2⟩
  have H4d : Hid (Blk w2 (w.heap.size + 1) #[.slice pt lt ct, .int .i64 t.ff, .int .i64 t.fb, .int .i64 t.db, .int .i64 t.al] 38) := H3d.out.next hb2
  have H4a : Hid (Blk w2 (w1.heap.size) #[.int .i64 a.me, .int .i64 a.rv, .int .i64 a.nx, .int .i64 a.mo, .int .i64 a.bo, .int .i64 a.fr, .slice pa na ca] 24) := H3a.out.next hb2
  have H4D : Hid (TCame w2 t pt lt ct) := H3D.out.below hb2
  have H4A : Hid (ACame w2 a pa na ca) := H3A.out.below hb2
  have H4B : Hid (Below w.heap.size w w2) := H3B.out.trans (hb2.mono H3B.out.size)
  have hsw2 : W1.heap.size ≤ w2.heap.size := hb2.size
  clear hb2 H3d H3a H3D H3A H3B
  unfold Tm.v
  have H5U : Hid (TCame w2 u pu nu cu) := ⟨hcm, tright_wf htr⟩
  have HTR : Hid (TRight u) := htr
  clear hcm htr HAG
  clear H4d
  clear H4D
  have HLA : Hid (0 < na → ∀ y, pa = some y → y.block ≠ w2.heap.size) := fun hn y hy => Nat.ne_of_lt (came_lt H4A.out.ds hn y hy)
  have HLU : Hid (0 < nu → ∀ y, pu = some y → y.block ≠ w2.heap.size) := fun hn y hy => Nat.ne_of_lt (came_lt H5U.out.ts hn y hy)
  have H6a : Hid (Blk (w2.alloc (.cells #[.slice pu nu cu, .int .i64 u.ff, .int .i64 u.fb, .int .i64 u.db, .int .i64 u.al] 42)) (w1.heap.size) #[.int .i64 a.me, .int .i64 a.rv, .int .i64 a.nx, .int .i64 a.mo, .int .i64 a.bo, .int .i64 a.fr, .slice pa na ca] 24) := H4a.out.alloc _
  have H6A : Hid (ACame (w2.alloc (.cells #[.slice pu nu cu, .int .i64 u.ff, .int .i64 u.fb, .int .i64 u.db, .int .i64 u.al] 42)) a pa na ca) := H4A.out.below ((Below.refl w2.heap.size w2).alloc (Nat.le_refl _) _)
  have H6U : Hid (TCame (w2.alloc (.cells #[.slice pu nu cu, .int .i64 u.ff, .int .i64 u.fb, .int .i64 u.db, .int .i64 u.al] 42)) u pu nu cu) := H5U.out.below ((Below.refl w2.heap.size w2).alloc (Nat.le_refl _) _)
  have H6u : Hid (Blk (w2.alloc (.cells #[.slice pu nu cu, .int .i64 u.ff, .int .i64 u.fb, .int .i64 u.db, .int .i64 u.al] 42)) w2.heap.size #[.slice pu nu cu, .int .i64 u.ff, .int .i64 u.fb, .int .i64 u.db, .int .i64 u.al] 42) := Blk.new w2 _ _
  have H6B : Hid (Below w.heap.size w (w2.alloc (.cells #[.slice pu nu cu, .int .i64 u.ff, .int .i64 u.fb, .int .i64 u.db, .int .i64 u.al] 42))) := H4B.out.alloc H4B.out.size _
  have hsW2 : w2.heap.size < (w2.alloc (.cells #[.slice pu nu cu, .int .i64 u.ff, .int .i64 u.fb, .int .i64 u.db, .int .i64 u.al] 42)).heap.size := (Blk.new w2 #[.slice pu nu cu, .int .i64 u.ff, .int .i64 u.fb, .int .i64 u.db, .int .i64 u.al] 42).lt
  clear H4a H4A H5U H4B
  go_upto_region 3 with fail
  generalize (w2.alloc (.cells #[.slice pu nu cu, .int .i64 u.ff, .int .i64 u.fb, .int .i64 u.db, .int .i64 u.al] 42)) = W2 at *
  have hal0 := HTR.out.2.2.2.2.1
  have hal1 := HTR.out.2.2.2.2.2
  have hmax := tar.run_max u.al 1 _ rfl
  have hal2 : 1 ≤ max u.al 1 := by omega
  have hal3 : max u.al 1 ≤ 2097151 := by omega
  have HT2 : Hid (TRight ⟨u.ts, u.ff, u.fb, u.db, max u.al 1⟩) := ⟨HTR.out.1, HTR.out.2.1, HTR.out.2.2.1, HTR.out.2.2.2.1, by show 0 ≤ max u.al 1; omega, hal3⟩
  generalize max u.al 1 = al at *
  have qu4 : W2.cell? ⟨w2.heap.size, 4, none⟩ = some (.int .i64 u.al) := H6u.out.cell 4
  go_wp2_with (first
    | (refine wp_let1 rfl 3 _ _ rfl (w2.heap.size) 4 rfl .i64 al rfl (by kernel_rfl) #[.slice pu nu cu, .int .i64 u.ff, .int .i64 u.fb, .int .i64 u.db, .int .i64 u.al] 42 H6u.out (by simp) ?_)
    | fail)
  clear qu4
  intro W2b hU
  have HUU : Hid (Blk W2b (w2.heap.size) #[.slice pu nu cu, .int .i64 u.ff, .int .i64 u.fb, .int .i64 u.db, .int .i64 al] 42) := hU.blk
  have HUA : Hid (Blk W2b (w1.heap.size) #[.int .i64 a.me, .int .i64 a.rv, .int .i64 a.nx, .int .i64 a.mo, .int .i64 a.bo, .int .i64 a.fr, .slice pa na ca] 24) := hU.keep H6a.out (by omega)
  have HRA : Hid (ACame W2b a pa na ca) := ⟨came_upd H6A.out.ds hU HLA.out, H6A.out.wf⟩
  have HRU : Hid (TCame W2b ⟨u.ts, u.ff, u.fb, u.db, al⟩ pu nu cu) := ⟨came_upd H6U.out.ts hU HLU.out, tright_wf HT2.out⟩
  have HBB : Hid (Below w.heap.size w W2b) := hU.bel _ _ (by omega) H6B.out
  clear hU H6u H6a H6A H6U H6B hmax
  generalize w1.heap.size = ga at *
  generalize w2.heap.size = gu at *
  have HPL : Hid (∀ W, Calls Try.prog 15 #[.int .i64 la, .int .i64 (2399 - a.mo)] W fun e w' => e = .returned (.int .i64 (check.pick la (2399 - a.mo))) ∧ w' = W) := fun W => check.picked_any la (2399 - a.mo) W hla (by omega) (by omega)
  have hpl0 := check.pick_nonneg la (2399 - a.mo) (by omega)
  have hpl1 := check.pick_lt la (2399 - a.mo) (by omega)
  generalize (check.pick la (2399 - a.mo)) = zl at *
  go_wp2_with (first
    | (refine wp_whole rfl 24 _ rfl (ga) rfl 24 #[.int .i64 a.me, .int .i64 a.rv, .int .i64 a.nx, .int .i64 a.mo, .int .i64 a.bo, .int .i64 a.fr, .slice pa na ca] _ HUA.out Try.underlying24 rfl (by kernel_rfl) ?_)
    | (refine wp_wholeG (by rfl) 24 _ rfl (ga) rfl 24 #[.int .i64 a.me, .int .i64 a.rv, .int .i64 a.nx, .int .i64 a.mo, .int .i64 a.bo, .int .i64 a.fr, .slice pa na ca] _ HUA.out Try.underlying24 rfl (by kernel_rfl) ?_)
    | (refine wp_whole rfl 42 _ rfl (gu) rfl 42 #[.slice pu nu cu, .int .i64 u.ff, .int .i64 u.fb, .int .i64 u.db, .int .i64 al] _ HUU.out Try.underlying42 rfl (by kernel_rfl) ?_)
    | (refine wp_wholeG (by rfl) 42 _ rfl (gu) rfl 42 #[.slice pu nu cu, .int .i64 u.ff, .int .i64 u.fb, .int .i64 u.db, .int .i64 al] _ HUU.out Try.underlying42 rfl (by kernel_rfl) ?_)
    | fail)
  refine wp_region_held_drew (S := fun v => Blk v (ga) #[.int .i64 a.me, .int .i64 a.rv, .int .i64 a.nx, .int .i64 a.mo, .int .i64 a.bo, .int .i64 a.fr, .slice pa na ca] 24) (by kernel_rfl) (Blk.drew HUA.out 1) (fun hHeld => ?_)
  refine take_at 0 27 (.pointer (some ⟨ga, 3, none⟩)) _ rfl rfl (by kernel_rfl) (by kernel_rfl) (by kernel_rfl) (fun _ _ _ h => h) (Or.inl ⟨by rfl, fun v hv => by skip; clear hv; go_simp⟩) hHeld ?_
  simp only [Act.put, List.setIfInBounds_toArray, List.set_cons_zero, List.set_cons_succ]
  refine take_at 1 28 (.int .i64 a.mo) _ rfl rfl (by kernel_rfl) (by kernel_rfl) (by kernel_rfl) (fun _ _ _ h => h) (Or.inl ⟨by rfl, fun v hv => by have h2 := hv.cell 3; simp at h2; clear hv; go_simp⟩) hHeld ?_
  simp only [Act.put, List.setIfInBounds_toArray, List.set_cons_zero, List.set_cons_succ]
  refine take_at 2 29 (.int .i64 la) _ rfl rfl (by kernel_rfl) (by kernel_rfl) (by kernel_rfl) (fun _ _ _ h => h) (Or.inl ⟨by rfl, fun v hv => by skip; clear hv; go_simp⟩) hHeld ?_
  simp only [Act.put, List.setIfInBounds_toArray, List.set_cons_zero, List.set_cons_succ]
  refine take_at 3 30 (.pointer (some ⟨ga, 3, none⟩)) _ rfl rfl (by kernel_rfl) (by kernel_rfl) (by kernel_rfl) (fun _ _ _ h => h) (Or.inl ⟨by rfl, fun v hv => by skip; clear hv; go_simp⟩) hHeld ?_
  simp only [Act.put, List.setIfInBounds_toArray, List.set_cons_zero, List.set_cons_succ]
  refine take_at 4 31 (.int .i64 a.mo) _ rfl rfl (by kernel_rfl) (by kernel_rfl) (by kernel_rfl) (fun _ _ _ h => h) (Or.inl ⟨by rfl, fun v hv => by have h2 := hv.cell 3; simp at h2; clear hv; go_simp⟩) hHeld ?_
  simp only [Act.put, List.setIfInBounds_toArray, List.set_cons_zero, List.set_cons_succ]
  refine take_at 5 32 (.int .i64 (2399 - a.mo)) _ rfl rfl (by kernel_rfl) (by kernel_rfl) (by kernel_rfl) (fun _ _ _ h => h) (Or.inl ⟨by rfl, fun v hv => by have hq : IntKind.i64.wrap (2399 - a.mo) = 2399 - a.mo := (by rw [IntKind.wrap_i64]; omega); clear hv; go_simp⟩) hHeld ?_
  simp only [Act.put, List.setIfInBounds_toArray, List.set_cons_zero, List.set_cons_succ]
  refine call_at 6 33 (.int .i64 zl) _ rfl rfl (by kernel_rfl) (by kernel_rfl) (by kernel_rfl) (fun _ _ _ h => h) 15 #[.int .i64 la, .int .i64 (2399 - a.mo)] ⟨by rfl, fun v hv => by clear hv; go_simp⟩ (fun v _ => HPL.out v) hHeld ?_
  simp only [Act.put, List.setIfInBounds_toArray, List.set_cons_zero, List.set_cons_succ]
  refine take_at 7 34 (.int .i64 (a.mo + zl)) _ rfl rfl (by kernel_rfl) (by kernel_rfl) (by kernel_rfl) (fun _ _ _ h => h) (Or.inl ⟨by rfl, fun v hv => by have hq : IntKind.i64.wrap (a.mo + zl) = a.mo + zl := (by rw [IntKind.wrap_i64]; omega); clear hv; go_simp⟩) hHeld ?_
  simp only [Act.put, List.setIfInBounds_toArray, List.set_cons_zero, List.set_cons_succ]
  refine take_at 8 9 (.int .i64 (a.mo + zl)) _ rfl rfl (by kernel_rfl) (by kernel_rfl) (by kernel_rfl) (fun _ _ _ h => h) (Or.inl ⟨by rfl, fun v hv => by skip; clear hv; go_simp⟩) hHeld ?_
  simp only [Act.put, List.setIfInBounds_toArray, List.set_cons_zero, List.set_cons_succ]
  refine wpAnyH_done (by kernel_rfl) ?_ _
  clear hHeld HPL
  have H7a : Hid (Blk W2b.drew (ga) #[.int .i64 a.me, .int .i64 a.rv, .int .i64 a.nx, .int .i64 a.mo, .int .i64 a.bo, .int .i64 a.fr, .slice pa na ca] 24) := HUA.out.next (Below.drew (Below.refl _ W2b))
  have H7u : Hid (Blk W2b.drew (gu) #[.slice pu nu cu, .int .i64 u.ff, .int .i64 u.fb, .int .i64 u.db, .int .i64 al] 42) := HUU.out.next (Below.drew (Below.refl _ W2b))
  have H7A : Hid (ACame W2b.drew a pa na ca) := HRA.out.below (Below.drew (Below.refl _ W2b))
  have H7U : Hid (TCame W2b.drew ⟨u.ts, u.ff, u.fb, u.db, al⟩ pu nu cu) := HRU.out.below (Below.drew (Below.refl _ W2b))
  have H7B : Hid (Below w.heap.size w W2b.drew) := HBB.out.trans (Below.mono (Below.drew (Below.refl _ W2b)) HBB.out.size)
  clear HUA HUU HRA HRU HBB
  have hszd : W2b.heap.size ≤ W2b.drew.heap.size := Nat.le_refl _
  generalize W2b.drew = W3 at *
  have hm0 : a.mo ≤ a.mo + zl := by omega
  have hm1 : a.mo + zl ≤ 2399 := by omega
  have hm2 : a.mo + zl ≤ 2398 := by omega
  generalize a.mo + zl = mm at *
  clear hpl0 hpl1
  have HRM : Hid (RMay a mm) := ⟨⟨by omega, hm1⟩, hm0⟩
  have HWM : Hid ((Lit.int .i64 mm).wf = true) := tar.wf_mid (by omega) (by omega)
  have HRY : Hid (Ready a ⟨u.ts, u.ff, u.fb, u.db, al⟩ mm) := ⟨HAM.out, HT2.out, HRM.out⟩
  have hnx0 := HNX.out.1
  have hnx1 := HNX.out.2
  have HG1 : Hid (Calls Try.prog 23 #[.agg #[.int .i64 a.me, .int .i64 a.rv, .int .i64 a.nx, .int .i64 a.mo, .int .i64 a.bo, .int .i64 a.fr, .slice pa na ca], .agg #[.slice pu nu cu, .int .i64 u.ff, .int .i64 u.fb, .int .i64 u.db, .int .i64 al], .int .i64 mm] W3 fun e w' => BPost W3 (GrantIs a ⟨u.ts, u.ff, u.fb, u.db, al⟩ mm) e w') := KG W3 a pa na ca ⟨u.ts, u.ff, u.fb, u.db, al⟩ pu nu cu mm H7A.out H7U.out HWM.out
  go_wp2_with (first
    | (refine wp_whole rfl 24 _ rfl (ga) rfl 24 #[.int .i64 a.me, .int .i64 a.rv, .int .i64 a.nx, .int .i64 a.mo, .int .i64 a.bo, .int .i64 a.fr, .slice pa na ca] _ H7a.out Try.underlying24 rfl (by kernel_rfl) ?_)
    | (refine wp_wholeG (by rfl) 24 _ rfl (ga) rfl 24 #[.int .i64 a.me, .int .i64 a.rv, .int .i64 a.nx, .int .i64 a.mo, .int .i64 a.bo, .int .i64 a.fr, .slice pa na ca] _ H7a.out Try.underlying24 rfl (by kernel_rfl) ?_)
    | (refine wp_whole rfl 42 _ rfl (gu) rfl 42 #[.slice pu nu cu, .int .i64 u.ff, .int .i64 u.fb, .int .i64 u.db, .int .i64 al] _ H7u.out Try.underlying42 rfl (by kernel_rfl) ?_)
    | (refine wp_wholeG (by rfl) 42 _ rfl (gu) rfl 42 #[.slice pu nu cu, .int .i64 u.ff, .int .i64 u.fb, .int .i64 u.db, .int .i64 al] _ H7u.out Try.underlying42 rfl (by kernel_rfl) ?_)
    | fail)
  refine HG1.out.mono ?_
  rintro e wg1 ⟨b, l, pb, lb, cb, fb, rfl, hib, hfb, hb3⟩
  have H8a : Hid (Blk wg1 (ga) #[.int .i64 a.me, .int .i64 a.rv, .int .i64 a.nx, .int .i64 a.mo, .int .i64 a.bo, .int .i64 a.fr, .slice pa na ca] 24) := H7a.out.next hb3
  have H8u : Hid (Blk wg1 (gu) #[.slice pu nu cu, .int .i64 u.ff, .int .i64 u.fb, .int .i64 u.db, .int .i64 al] 42) := H7u.out.next hb3
  have H8A : Hid (ACame wg1 a pa na ca) := H7A.out.below hb3
  have H8U : Hid (TCame wg1 ⟨u.ts, u.ff, u.fb, u.db, al⟩ pu nu cu) := H7U.out.below hb3
  have H8B : Hid (Below w.heap.size w wg1) := H7B.out.trans (hb3.mono H7B.out.size)
  have hswg1 : W3.heap.size ≤ wg1.heap.size := hb3.size
  clear hb3 H7a H7u H7A H7U H7B
  unfold Ac.v Ac.cs Bi.v
  clear HG1
  have H9E : Hid (Came wg1 pb lb cb b.ds) := hfb.came
  have HGC : Hid _ := grant_cases hib HRY.out (by omega) hal2
  clear hib hfb
  have H10a : Hid (Blk ((wg1.alloc (.cells #[.int .i64 b.me, .int .i64 b.rv, .int .i64 b.nx, .int .i64 b.mo, .int .i64 b.bo, .int .i64 b.fr, .slice pb lb cb] 24)).alloc (.cells #[.int .i64 l.id, .int .i64 l.te, .int .i64 l.de, .int .i64 l.fe, .int .i64 l.pr, .int .i64 l.ch, .int .i64 l.un] 27)) (ga) #[.int .i64 a.me, .int .i64 a.rv, .int .i64 a.nx, .int .i64 a.mo, .int .i64 a.bo, .int .i64 a.fr, .slice pa na ca] 24) := (H8a.out.alloc _).alloc _
  have H10u : Hid (Blk ((wg1.alloc (.cells #[.int .i64 b.me, .int .i64 b.rv, .int .i64 b.nx, .int .i64 b.mo, .int .i64 b.bo, .int .i64 b.fr, .slice pb lb cb] 24)).alloc (.cells #[.int .i64 l.id, .int .i64 l.te, .int .i64 l.de, .int .i64 l.fe, .int .i64 l.pr, .int .i64 l.ch, .int .i64 l.un] 27)) (gu) #[.slice pu nu cu, .int .i64 u.ff, .int .i64 u.fb, .int .i64 u.db, .int .i64 al] 42) := (H8u.out.alloc _).alloc _
  have H10A : Hid (ACame ((wg1.alloc (.cells #[.int .i64 b.me, .int .i64 b.rv, .int .i64 b.nx, .int .i64 b.mo, .int .i64 b.bo, .int .i64 b.fr, .slice pb lb cb] 24)).alloc (.cells #[.int .i64 l.id, .int .i64 l.te, .int .i64 l.de, .int .i64 l.fe, .int .i64 l.pr, .int .i64 l.ch, .int .i64 l.un] 27)) a pa na ca) := H8A.out.below (((Below.refl wg1.heap.size wg1).alloc (by simp) _).alloc (by simp) _)
  have H10U : Hid (TCame ((wg1.alloc (.cells #[.int .i64 b.me, .int .i64 b.rv, .int .i64 b.nx, .int .i64 b.mo, .int .i64 b.bo, .int .i64 b.fr, .slice pb lb cb] 24)).alloc (.cells #[.int .i64 l.id, .int .i64 l.te, .int .i64 l.de, .int .i64 l.fe, .int .i64 l.pr, .int .i64 l.ch, .int .i64 l.un] 27)) ⟨u.ts, u.ff, u.fb, u.db, al⟩ pu nu cu) := H8U.out.below (((Below.refl wg1.heap.size wg1).alloc (by simp) _).alloc (by simp) _)
  have H10E : Hid (Came ((wg1.alloc (.cells #[.int .i64 b.me, .int .i64 b.rv, .int .i64 b.nx, .int .i64 b.mo, .int .i64 b.bo, .int .i64 b.fr, .slice pb lb cb] 24)).alloc (.cells #[.int .i64 l.id, .int .i64 l.te, .int .i64 l.de, .int .i64 l.fe, .int .i64 l.pr, .int .i64 l.ch, .int .i64 l.un] 27)) pb lb cb b.ds) := H9E.out.below (((Below.refl wg1.heap.size wg1).alloc (by simp) _).alloc (by simp) _)
  have H10b : Hid (Blk ((wg1.alloc (.cells #[.int .i64 b.me, .int .i64 b.rv, .int .i64 b.nx, .int .i64 b.mo, .int .i64 b.bo, .int .i64 b.fr, .slice pb lb cb] 24)).alloc (.cells #[.int .i64 l.id, .int .i64 l.te, .int .i64 l.de, .int .i64 l.fe, .int .i64 l.pr, .int .i64 l.ch, .int .i64 l.un] 27)) wg1.heap.size #[.int .i64 b.me, .int .i64 b.rv, .int .i64 b.nx, .int .i64 b.mo, .int .i64 b.bo, .int .i64 b.fr, .slice pb lb cb] 24) := (Blk.new wg1 _ _).alloc _
  have H10m : Hid (Blk ((wg1.alloc (.cells #[.int .i64 b.me, .int .i64 b.rv, .int .i64 b.nx, .int .i64 b.mo, .int .i64 b.bo, .int .i64 b.fr, .slice pb lb cb] 24)).alloc (.cells #[.int .i64 l.id, .int .i64 l.te, .int .i64 l.de, .int .i64 l.fe, .int .i64 l.pr, .int .i64 l.ch, .int .i64 l.un] 27)) (wg1.heap.size + 1) #[.int .i64 l.id, .int .i64 l.te, .int .i64 l.de, .int .i64 l.fe, .int .i64 l.pr, .int .i64 l.ch, .int .i64 l.un] 27) := Blk.new1 wg1 _ _ _
  have H10B : Hid (Below w.heap.size w ((wg1.alloc (.cells #[.int .i64 b.me, .int .i64 b.rv, .int .i64 b.nx, .int .i64 b.mo, .int .i64 b.bo, .int .i64 b.fr, .slice pb lb cb] 24)).alloc (.cells #[.int .i64 l.id, .int .i64 l.te, .int .i64 l.de, .int .i64 l.fe, .int .i64 l.pr, .int .i64 l.ch, .int .i64 l.un] 27))) := (H8B.out.alloc H8B.out.size _).alloc (Nat.le_trans H8B.out.size (by simp)) _
  have hsW4 : wg1.heap.size + 1 < ((wg1.alloc (.cells #[.int .i64 b.me, .int .i64 b.rv, .int .i64 b.nx, .int .i64 b.mo, .int .i64 b.bo, .int .i64 b.fr, .slice pb lb cb] 24)).alloc (.cells #[.int .i64 l.id, .int .i64 l.te, .int .i64 l.de, .int .i64 l.fe, .int .i64 l.pr, .int .i64 l.ch, .int .i64 l.un] 27)).heap.size := (Blk.new1 wg1 _ #[.int .i64 l.id, .int .i64 l.te, .int .i64 l.de, .int .i64 l.fe, .int .i64 l.pr, .int .i64 l.ch, .int .i64 l.un] 27).lt
  clear H8a H8u H8A H8U H9E H8B
  go_upto_region 6 with fail
  generalize ((wg1.alloc (.cells #[.int .i64 b.me, .int .i64 b.rv, .int .i64 b.nx, .int .i64 b.mo, .int .i64 b.bo, .int .i64 b.fr, .slice pb lb cb] 24)).alloc (.cells #[.int .i64 l.id, .int .i64 l.te, .int .i64 l.de, .int .i64 l.fe, .int .i64 l.pr, .int .i64 l.ch, .int .i64 l.un] 27)) = W4 at *
  have HGC2 := HGC.out
  clear HGC
  rcases HGC2 with ⟨hfr, rfl, rfl, rfl⟩ | ⟨hfr, rfl, rfl, rfl⟩
  · have m1 : (a.fr == mm) = true := by rw [hfr]; simp
    have HMM : Hid (Blk W4 (wg1.heap.size + 1) #[.int .i64 0, .int .i64 0, .int .i64 0, .int .i64 0, .int .i64 0, .int .i64 0, .int .i64 0] 27) := H10m.out
    clear hfr H10m H10b
    have eb : ∀ wz : World, (Op.equalIn 10000 27 (.agg #[.int .i64 0, .int .i64 0, .int .i64 0, .int .i64 0, .int .i64 0, .int .i64 0, .int .i64 0]) (.agg #[.int .i64 0, .int .i64 0, .int .i64 0, .int .i64 0, .int .i64 0, .int .i64 0, .int .i64 0])).run Try.prog wz = .ok true wz := fun wz => eqBill _ _ _ _ _ _ _ wz
    have qa5 : W4.cell? ⟨ga, 5, none⟩ = some (.int .i64 a.fr) := H10a.out.cell 5
    go_wp2_with (first
      | (refine wp_whole rfl 24 _ rfl (ga) rfl 24 #[.int .i64 a.me, .int .i64 a.rv, .int .i64 a.nx, .int .i64 a.mo, .int .i64 a.bo, .int .i64 a.fr, .slice pa na ca] _ H10a.out Try.underlying24 rfl (by kernel_rfl) ?_)
      | (refine wp_wholeG (by rfl) 24 _ rfl (ga) rfl 24 #[.int .i64 a.me, .int .i64 a.rv, .int .i64 a.nx, .int .i64 a.mo, .int .i64 a.bo, .int .i64 a.fr, .slice pa na ca] _ H10a.out Try.underlying24 rfl (by kernel_rfl) ?_)
      | (refine wp_whole rfl 42 _ rfl (gu) rfl 42 #[.slice pu nu cu, .int .i64 u.ff, .int .i64 u.fb, .int .i64 u.db, .int .i64 al] _ H10u.out Try.underlying42 rfl (by kernel_rfl) ?_)
      | (refine wp_wholeG (by rfl) 42 _ rfl (gu) rfl 42 #[.slice pu nu cu, .int .i64 u.ff, .int .i64 u.fb, .int .i64 u.db, .int .i64 al] _ H10u.out Try.underlying42 rfl (by kernel_rfl) ?_)
      | (refine wp_whole rfl 27 _ rfl (wg1.heap.size + 1) rfl 27 #[.int .i64 0, .int .i64 0, .int .i64 0, .int .i64 0, .int .i64 0, .int .i64 0, .int .i64 0] _ HMM.out Try.underlying27 rfl (by kernel_rfl) ?_)
      | (refine wp_wholeG (by rfl) 27 _ rfl (wg1.heap.size + 1) rfl 27 #[.int .i64 0, .int .i64 0, .int .i64 0, .int .i64 0, .int .i64 0, .int .i64 0, .int .i64 0] _ HMM.out Try.underlying27 rfl (by kernel_rfl) ?_)
      | fail)
    go_ret
    exact ⟨rfl, H10B.out⟩
  · have m1 : (a.fr == mm) = false := by simpa using hfr
    obtain ⟨bb, hbb⟩ : ∃ bb, granted a mm = bb := ⟨_, rfl⟩
    have HMB : Hid (AMay bb) := by show AMay bb; rw [← hbb]; exact granted_may HAM.out HRM.out (by omega)
    have e0 : bb.nx = a.nx + 1 ∧ bb.mo = mm ∧ bb.fr = mm := by rw [← hbb]; exact ⟨rfl, rfl, rfl⟩
    rw [hbb] at H10b H10E
    clear hbb hfr
    have HBL : Hid (Blk W4 (wg1.heap.size + 1) #[.int .i64 a.nx, .int .i64 0, .int .i64 0, .int .i64 0, .int .i64 0, .int .i64 0, .int .i64 al] 27) := H10m.out
    clear H10m
    have hbm : bb.mo = mm := e0.2.1
    have HE0 : Hid (bb.nx = a.nx + 1 ∧ bb.fr = mm) := ⟨e0.1, e0.2.2⟩
    have H11F : Hid (ACame W4 bb pb lb cb) := ⟨H10E.out, amay_wf HMB.out⟩
    clear H10E
    have HR1 : Hid (Ready bb ⟨u.ts, u.ff, u.fb, u.db, al⟩ mm) := ⟨HMB.out, HT2.out, ⟨by omega, hm1⟩, by omega⟩
    have HR2 : Hid (Ready bb ⟨u.ts, u.ff, u.fb, u.db, al⟩ (mm + 1)) := ⟨HMB.out, HT2.out, ⟨by omega, by omega⟩, by omega⟩
    clear hbm e0
    have HG2 : Hid (Calls Try.prog 23 #[.agg #[.int .i64 bb.me, .int .i64 bb.rv, .int .i64 bb.nx, .int .i64 bb.mo, .int .i64 bb.bo, .int .i64 bb.fr, .slice pb lb cb], .agg #[.slice pu nu cu, .int .i64 u.ff, .int .i64 u.fb, .int .i64 u.db, .int .i64 al], .int .i64 mm] W4 fun e w' => BPost W4 (GrantIs bb ⟨u.ts, u.ff, u.fb, u.db, al⟩ mm) e w') := KG W4 bb pb lb cb ⟨u.ts, u.ff, u.fb, u.db, al⟩ pu nu cu mm H11F.out H10U.out HWM.out
    have qa5 : W4.cell? ⟨ga, 5, none⟩ = some (.int .i64 a.fr) := H10a.out.cell 5
    go_wp2_with (first
      | (refine wp_whole rfl 24 _ rfl (ga) rfl 24 #[.int .i64 a.me, .int .i64 a.rv, .int .i64 a.nx, .int .i64 a.mo, .int .i64 a.bo, .int .i64 a.fr, .slice pa na ca] _ H10a.out Try.underlying24 rfl (by kernel_rfl) ?_)
      | (refine wp_wholeG (by rfl) 24 _ rfl (ga) rfl 24 #[.int .i64 a.me, .int .i64 a.rv, .int .i64 a.nx, .int .i64 a.mo, .int .i64 a.bo, .int .i64 a.fr, .slice pa na ca] _ H10a.out Try.underlying24 rfl (by kernel_rfl) ?_)
      | (refine wp_whole rfl 42 _ rfl (gu) rfl 42 #[.slice pu nu cu, .int .i64 u.ff, .int .i64 u.fb, .int .i64 u.db, .int .i64 al] _ H10u.out Try.underlying42 rfl (by kernel_rfl) ?_)
      | (refine wp_wholeG (by rfl) 42 _ rfl (gu) rfl 42 #[.slice pu nu cu, .int .i64 u.ff, .int .i64 u.fb, .int .i64 u.db, .int .i64 al] _ H10u.out Try.underlying42 rfl (by kernel_rfl) ?_)
      | (refine wp_whole rfl 24 _ rfl (wg1.heap.size) rfl 24 #[.int .i64 bb.me, .int .i64 bb.rv, .int .i64 bb.nx, .int .i64 bb.mo, .int .i64 bb.bo, .int .i64 bb.fr, .slice pb lb cb] _ H10b.out Try.underlying24 rfl (by kernel_rfl) ?_)
      | (refine wp_wholeG (by rfl) 24 _ rfl (wg1.heap.size) rfl 24 #[.int .i64 bb.me, .int .i64 bb.rv, .int .i64 bb.nx, .int .i64 bb.mo, .int .i64 bb.bo, .int .i64 bb.fr, .slice pb lb cb] _ H10b.out Try.underlying24 rfl (by kernel_rfl) ?_)
      | (refine wp_whole rfl 27 _ rfl (wg1.heap.size + 1) rfl 27 #[.int .i64 a.nx, .int .i64 0, .int .i64 0, .int .i64 0, .int .i64 0, .int .i64 0, .int .i64 al] _ HBL.out Try.underlying27 rfl (by kernel_rfl) ?_)
      | (refine wp_wholeG (by rfl) 27 _ rfl (wg1.heap.size + 1) rfl 27 #[.int .i64 a.nx, .int .i64 0, .int .i64 0, .int .i64 0, .int .i64 0, .int .i64 0, .int .i64 al] _ HBL.out Try.underlying27 rfl (by kernel_rfl) ?_)
      | fail)
    refine HG2.out.mono ?_
    rintro e w6 ⟨b2, l2, p2, n2, c2, f2, rfl, hi2, hf2, hbq2⟩
    have H12a : Hid (Blk w6 (ga) #[.int .i64 a.me, .int .i64 a.rv, .int .i64 a.nx, .int .i64 a.mo, .int .i64 a.bo, .int .i64 a.fr, .slice pa na ca] 24) := H10a.out.next hbq2
    have H12u : Hid (Blk w6 (gu) #[.slice pu nu cu, .int .i64 u.ff, .int .i64 u.fb, .int .i64 u.db, .int .i64 al] 42) := H10u.out.next hbq2
    have H12b : Hid (Blk w6 (wg1.heap.size) #[.int .i64 bb.me, .int .i64 bb.rv, .int .i64 bb.nx, .int .i64 bb.mo, .int .i64 bb.bo, .int .i64 bb.fr, .slice pb lb cb] 24) := H10b.out.next hbq2
    have H12m : Hid (Blk w6 (wg1.heap.size + 1) #[.int .i64 a.nx, .int .i64 0, .int .i64 0, .int .i64 0, .int .i64 0, .int .i64 0, .int .i64 al] 27) := HBL.out.next hbq2
    have H12A : Hid (ACame w6 a pa na ca) := H10A.out.below hbq2
    have H12U : Hid (TCame w6 ⟨u.ts, u.ff, u.fb, u.db, al⟩ pu nu cu) := H10U.out.below hbq2
    have H12F : Hid (ACame w6 bb pb lb cb) := H11F.out.below hbq2
    have H12B : Hid (Below w.heap.size w w6) := H10B.out.trans (hbq2.mono H10B.out.size)
    have hsw6 : W4.heap.size ≤ w6.heap.size := hbq2.size
    clear hbq2 H10a H10u H10b HBL H10A H10U H11F H10B
    clear qa5
    unfold Ac.v Ac.cs Bi.v
    obtain rfl : f2 = 21 := by rcases grant_cases hi2 HR1.out (by have := HE0.out.1; omega) hal2 with ⟨_, h, _⟩ | ⟨h, _⟩; exact h; exact absurd HE0.out.2 h
    clear HG2 hi2 hf2
    have H13a : Hid (Blk ((w6.alloc (.cells #[.int .i64 b2.me, .int .i64 b2.rv, .int .i64 b2.nx, .int .i64 b2.mo, .int .i64 b2.bo, .int .i64 b2.fr, .slice p2 n2 c2] 24)).alloc (.cells #[.int .i64 l2.id, .int .i64 l2.te, .int .i64 l2.de, .int .i64 l2.fe, .int .i64 l2.pr, .int .i64 l2.ch, .int .i64 l2.un] 27)) (ga) #[.int .i64 a.me, .int .i64 a.rv, .int .i64 a.nx, .int .i64 a.mo, .int .i64 a.bo, .int .i64 a.fr, .slice pa na ca] 24) := (H12a.out.alloc _).alloc _
    have H13u : Hid (Blk ((w6.alloc (.cells #[.int .i64 b2.me, .int .i64 b2.rv, .int .i64 b2.nx, .int .i64 b2.mo, .int .i64 b2.bo, .int .i64 b2.fr, .slice p2 n2 c2] 24)).alloc (.cells #[.int .i64 l2.id, .int .i64 l2.te, .int .i64 l2.de, .int .i64 l2.fe, .int .i64 l2.pr, .int .i64 l2.ch, .int .i64 l2.un] 27)) (gu) #[.slice pu nu cu, .int .i64 u.ff, .int .i64 u.fb, .int .i64 u.db, .int .i64 al] 42) := (H12u.out.alloc _).alloc _
    have H13b : Hid (Blk ((w6.alloc (.cells #[.int .i64 b2.me, .int .i64 b2.rv, .int .i64 b2.nx, .int .i64 b2.mo, .int .i64 b2.bo, .int .i64 b2.fr, .slice p2 n2 c2] 24)).alloc (.cells #[.int .i64 l2.id, .int .i64 l2.te, .int .i64 l2.de, .int .i64 l2.fe, .int .i64 l2.pr, .int .i64 l2.ch, .int .i64 l2.un] 27)) (wg1.heap.size) #[.int .i64 bb.me, .int .i64 bb.rv, .int .i64 bb.nx, .int .i64 bb.mo, .int .i64 bb.bo, .int .i64 bb.fr, .slice pb lb cb] 24) := (H12b.out.alloc _).alloc _
    have H13m : Hid (Blk ((w6.alloc (.cells #[.int .i64 b2.me, .int .i64 b2.rv, .int .i64 b2.nx, .int .i64 b2.mo, .int .i64 b2.bo, .int .i64 b2.fr, .slice p2 n2 c2] 24)).alloc (.cells #[.int .i64 l2.id, .int .i64 l2.te, .int .i64 l2.de, .int .i64 l2.fe, .int .i64 l2.pr, .int .i64 l2.ch, .int .i64 l2.un] 27)) (wg1.heap.size + 1) #[.int .i64 a.nx, .int .i64 0, .int .i64 0, .int .i64 0, .int .i64 0, .int .i64 0, .int .i64 al] 27) := (H12m.out.alloc _).alloc _
    have H13A : Hid (ACame ((w6.alloc (.cells #[.int .i64 b2.me, .int .i64 b2.rv, .int .i64 b2.nx, .int .i64 b2.mo, .int .i64 b2.bo, .int .i64 b2.fr, .slice p2 n2 c2] 24)).alloc (.cells #[.int .i64 l2.id, .int .i64 l2.te, .int .i64 l2.de, .int .i64 l2.fe, .int .i64 l2.pr, .int .i64 l2.ch, .int .i64 l2.un] 27)) a pa na ca) := H12A.out.below (((Below.refl w6.heap.size w6).alloc (by simp) _).alloc (by simp) _)
    have H13U : Hid (TCame ((w6.alloc (.cells #[.int .i64 b2.me, .int .i64 b2.rv, .int .i64 b2.nx, .int .i64 b2.mo, .int .i64 b2.bo, .int .i64 b2.fr, .slice p2 n2 c2] 24)).alloc (.cells #[.int .i64 l2.id, .int .i64 l2.te, .int .i64 l2.de, .int .i64 l2.fe, .int .i64 l2.pr, .int .i64 l2.ch, .int .i64 l2.un] 27)) ⟨u.ts, u.ff, u.fb, u.db, al⟩ pu nu cu) := H12U.out.below (((Below.refl w6.heap.size w6).alloc (by simp) _).alloc (by simp) _)
    have H13F : Hid (ACame ((w6.alloc (.cells #[.int .i64 b2.me, .int .i64 b2.rv, .int .i64 b2.nx, .int .i64 b2.mo, .int .i64 b2.bo, .int .i64 b2.fr, .slice p2 n2 c2] 24)).alloc (.cells #[.int .i64 l2.id, .int .i64 l2.te, .int .i64 l2.de, .int .i64 l2.fe, .int .i64 l2.pr, .int .i64 l2.ch, .int .i64 l2.un] 27)) bb pb lb cb) := H12F.out.below (((Below.refl w6.heap.size w6).alloc (by simp) _).alloc (by simp) _)
    have H13e : Hid (Blk ((w6.alloc (.cells #[.int .i64 b2.me, .int .i64 b2.rv, .int .i64 b2.nx, .int .i64 b2.mo, .int .i64 b2.bo, .int .i64 b2.fr, .slice p2 n2 c2] 24)).alloc (.cells #[.int .i64 l2.id, .int .i64 l2.te, .int .i64 l2.de, .int .i64 l2.fe, .int .i64 l2.pr, .int .i64 l2.ch, .int .i64 l2.un] 27)) w6.heap.size #[.int .i64 b2.me, .int .i64 b2.rv, .int .i64 b2.nx, .int .i64 b2.mo, .int .i64 b2.bo, .int .i64 b2.fr, .slice p2 n2 c2] 24) := (Blk.new w6 _ _).alloc _
    have H13f : Hid (Blk ((w6.alloc (.cells #[.int .i64 b2.me, .int .i64 b2.rv, .int .i64 b2.nx, .int .i64 b2.mo, .int .i64 b2.bo, .int .i64 b2.fr, .slice p2 n2 c2] 24)).alloc (.cells #[.int .i64 l2.id, .int .i64 l2.te, .int .i64 l2.de, .int .i64 l2.fe, .int .i64 l2.pr, .int .i64 l2.ch, .int .i64 l2.un] 27)) (w6.heap.size + 1) #[.int .i64 l2.id, .int .i64 l2.te, .int .i64 l2.de, .int .i64 l2.fe, .int .i64 l2.pr, .int .i64 l2.ch, .int .i64 l2.un] 27) := Blk.new1 w6 _ _ _
    have H13B : Hid (Below w.heap.size w ((w6.alloc (.cells #[.int .i64 b2.me, .int .i64 b2.rv, .int .i64 b2.nx, .int .i64 b2.mo, .int .i64 b2.bo, .int .i64 b2.fr, .slice p2 n2 c2] 24)).alloc (.cells #[.int .i64 l2.id, .int .i64 l2.te, .int .i64 l2.de, .int .i64 l2.fe, .int .i64 l2.pr, .int .i64 l2.ch, .int .i64 l2.un] 27))) := (H12B.out.alloc H12B.out.size _).alloc (Nat.le_trans H12B.out.size (by simp)) _
    have hsW6 : w6.heap.size + 1 < ((w6.alloc (.cells #[.int .i64 b2.me, .int .i64 b2.rv, .int .i64 b2.nx, .int .i64 b2.mo, .int .i64 b2.bo, .int .i64 b2.fr, .slice p2 n2 c2] 24)).alloc (.cells #[.int .i64 l2.id, .int .i64 l2.te, .int .i64 l2.de, .int .i64 l2.fe, .int .i64 l2.pr, .int .i64 l2.ch, .int .i64 l2.un] 27)).heap.size := (Blk.new1 w6 _ #[.int .i64 l2.id, .int .i64 l2.te, .int .i64 l2.de, .int .i64 l2.fe, .int .i64 l2.pr, .int .i64 l2.ch, .int .i64 l2.un] 27).lt
    clear H12a H12u H12b H12m H12A H12U H12F H12B
    go_upto_region 9 with fail
    generalize ((w6.alloc (.cells #[.int .i64 b2.me, .int .i64 b2.rv, .int .i64 b2.nx, .int .i64 b2.mo, .int .i64 b2.bo, .int .i64 b2.fr, .slice p2 n2 c2] 24)).alloc (.cells #[.int .i64 l2.id, .int .i64 l2.te, .int .i64 l2.de, .int .i64 l2.fe, .int .i64 l2.pr, .int .i64 l2.ch, .int .i64 l2.un] 27)) = W6 at *
    clear H13e
    clear H13f
    have HG3 : Hid (Calls Try.prog 23 #[.agg #[.int .i64 bb.me, .int .i64 bb.rv, .int .i64 bb.nx, .int .i64 bb.mo, .int .i64 bb.bo, .int .i64 bb.fr, .slice pb lb cb], .agg #[.slice pu nu cu, .int .i64 u.ff, .int .i64 u.fb, .int .i64 u.db, .int .i64 al], .int .i64 (mm + 1)] W6 fun e w' => BPost W6 (GrantIs bb ⟨u.ts, u.ff, u.fb, u.db, al⟩ (mm + 1)) e w') := KG W6 bb pb lb cb ⟨u.ts, u.ff, u.fb, u.db, al⟩ pu nu cu (mm + 1) H13F.out H13U.out (tar.wf_mid (by omega) (by omega))
    go_wp2_with (first
      | (refine wp_whole rfl 24 _ rfl (ga) rfl 24 #[.int .i64 a.me, .int .i64 a.rv, .int .i64 a.nx, .int .i64 a.mo, .int .i64 a.bo, .int .i64 a.fr, .slice pa na ca] _ H13a.out Try.underlying24 rfl (by kernel_rfl) ?_)
      | (refine wp_wholeG (by rfl) 24 _ rfl (ga) rfl 24 #[.int .i64 a.me, .int .i64 a.rv, .int .i64 a.nx, .int .i64 a.mo, .int .i64 a.bo, .int .i64 a.fr, .slice pa na ca] _ H13a.out Try.underlying24 rfl (by kernel_rfl) ?_)
      | (refine wp_whole rfl 42 _ rfl (gu) rfl 42 #[.slice pu nu cu, .int .i64 u.ff, .int .i64 u.fb, .int .i64 u.db, .int .i64 al] _ H13u.out Try.underlying42 rfl (by kernel_rfl) ?_)
      | (refine wp_wholeG (by rfl) 42 _ rfl (gu) rfl 42 #[.slice pu nu cu, .int .i64 u.ff, .int .i64 u.fb, .int .i64 u.db, .int .i64 al] _ H13u.out Try.underlying42 rfl (by kernel_rfl) ?_)
      | (refine wp_whole rfl 24 _ rfl (wg1.heap.size) rfl 24 #[.int .i64 bb.me, .int .i64 bb.rv, .int .i64 bb.nx, .int .i64 bb.mo, .int .i64 bb.bo, .int .i64 bb.fr, .slice pb lb cb] _ H13b.out Try.underlying24 rfl (by kernel_rfl) ?_)
      | (refine wp_wholeG (by rfl) 24 _ rfl (wg1.heap.size) rfl 24 #[.int .i64 bb.me, .int .i64 bb.rv, .int .i64 bb.nx, .int .i64 bb.mo, .int .i64 bb.bo, .int .i64 bb.fr, .slice pb lb cb] _ H13b.out Try.underlying24 rfl (by kernel_rfl) ?_)
      | (refine wp_whole rfl 27 _ rfl (wg1.heap.size + 1) rfl 27 #[.int .i64 a.nx, .int .i64 0, .int .i64 0, .int .i64 0, .int .i64 0, .int .i64 0, .int .i64 al] _ H13m.out Try.underlying27 rfl (by kernel_rfl) ?_)
      | (refine wp_wholeG (by rfl) 27 _ rfl (wg1.heap.size + 1) rfl 27 #[.int .i64 a.nx, .int .i64 0, .int .i64 0, .int .i64 0, .int .i64 0, .int .i64 0, .int .i64 al] _ H13m.out Try.underlying27 rfl (by kernel_rfl) ?_)
      | fail)
    refine HG3.out.mono ?_
    rintro e w7 ⟨b3, l3, p3, n3, c3, f3, rfl, hi3, hf3, hbq3⟩
    have H14a : Hid (Blk w7 (ga) #[.int .i64 a.me, .int .i64 a.rv, .int .i64 a.nx, .int .i64 a.mo, .int .i64 a.bo, .int .i64 a.fr, .slice pa na ca] 24) := H13a.out.next hbq3
    have H14u : Hid (Blk w7 (gu) #[.slice pu nu cu, .int .i64 u.ff, .int .i64 u.fb, .int .i64 u.db, .int .i64 al] 42) := H13u.out.next hbq3
    have H14b : Hid (Blk w7 (wg1.heap.size) #[.int .i64 bb.me, .int .i64 bb.rv, .int .i64 bb.nx, .int .i64 bb.mo, .int .i64 bb.bo, .int .i64 bb.fr, .slice pb lb cb] 24) := H13b.out.next hbq3
    have H14m : Hid (Blk w7 (wg1.heap.size + 1) #[.int .i64 a.nx, .int .i64 0, .int .i64 0, .int .i64 0, .int .i64 0, .int .i64 0, .int .i64 al] 27) := H13m.out.next hbq3
    have H14A : Hid (ACame w7 a pa na ca) := H13A.out.below hbq3
    have H14U : Hid (TCame w7 ⟨u.ts, u.ff, u.fb, u.db, al⟩ pu nu cu) := H13U.out.below hbq3
    have H14F : Hid (ACame w7 bb pb lb cb) := H13F.out.below hbq3
    have H14B : Hid (Below w.heap.size w w7) := H13B.out.trans (hbq3.mono H13B.out.size)
    have hsw7 : W6.heap.size ≤ w7.heap.size := hbq3.size
    clear hbq3 H13a H13u H13b H13m H13A H13U H13F H13B
    unfold Ac.v Ac.cs Bi.v
    obtain ⟨rfl, h3f, h3i⟩ : f3 = 0 ∧ b3.fr = mm + 1 ∧ l3.id = a.nx + 1 := by
      rcases grant_cases hi3 HR2.out (by have := HE0.out.1; omega) hal2 with ⟨h, _⟩ | ⟨_, h1, h2, h3⟩
      · have := HE0.out.2; omega
      · subst h2; subst h3; exact ⟨h1, rfl, HE0.out.1⟩
    rw [h3f, h3i]
    clear HG3 hi3 hf3 h3f h3i
    have H15a : Hid (Blk ((w7.alloc (.cells #[.int .i64 b3.me, .int .i64 b3.rv, .int .i64 b3.nx, .int .i64 b3.mo, .int .i64 b3.bo, .int .i64 (mm + 1), .slice p3 n3 c3] 24)).alloc (.cells #[.int .i64 (a.nx + 1), .int .i64 l3.te, .int .i64 l3.de, .int .i64 l3.fe, .int .i64 l3.pr, .int .i64 l3.ch, .int .i64 l3.un] 27)) (ga) #[.int .i64 a.me, .int .i64 a.rv, .int .i64 a.nx, .int .i64 a.mo, .int .i64 a.bo, .int .i64 a.fr, .slice pa na ca] 24) := (H14a.out.alloc _).alloc _
    have H15u : Hid (Blk ((w7.alloc (.cells #[.int .i64 b3.me, .int .i64 b3.rv, .int .i64 b3.nx, .int .i64 b3.mo, .int .i64 b3.bo, .int .i64 (mm + 1), .slice p3 n3 c3] 24)).alloc (.cells #[.int .i64 (a.nx + 1), .int .i64 l3.te, .int .i64 l3.de, .int .i64 l3.fe, .int .i64 l3.pr, .int .i64 l3.ch, .int .i64 l3.un] 27)) (gu) #[.slice pu nu cu, .int .i64 u.ff, .int .i64 u.fb, .int .i64 u.db, .int .i64 al] 42) := (H14u.out.alloc _).alloc _
    have H15b : Hid (Blk ((w7.alloc (.cells #[.int .i64 b3.me, .int .i64 b3.rv, .int .i64 b3.nx, .int .i64 b3.mo, .int .i64 b3.bo, .int .i64 (mm + 1), .slice p3 n3 c3] 24)).alloc (.cells #[.int .i64 (a.nx + 1), .int .i64 l3.te, .int .i64 l3.de, .int .i64 l3.fe, .int .i64 l3.pr, .int .i64 l3.ch, .int .i64 l3.un] 27)) (wg1.heap.size) #[.int .i64 bb.me, .int .i64 bb.rv, .int .i64 bb.nx, .int .i64 bb.mo, .int .i64 bb.bo, .int .i64 bb.fr, .slice pb lb cb] 24) := (H14b.out.alloc _).alloc _
    have H15m : Hid (Blk ((w7.alloc (.cells #[.int .i64 b3.me, .int .i64 b3.rv, .int .i64 b3.nx, .int .i64 b3.mo, .int .i64 b3.bo, .int .i64 (mm + 1), .slice p3 n3 c3] 24)).alloc (.cells #[.int .i64 (a.nx + 1), .int .i64 l3.te, .int .i64 l3.de, .int .i64 l3.fe, .int .i64 l3.pr, .int .i64 l3.ch, .int .i64 l3.un] 27)) (wg1.heap.size + 1) #[.int .i64 a.nx, .int .i64 0, .int .i64 0, .int .i64 0, .int .i64 0, .int .i64 0, .int .i64 al] 27) := (H14m.out.alloc _).alloc _
    have H15A : Hid (ACame ((w7.alloc (.cells #[.int .i64 b3.me, .int .i64 b3.rv, .int .i64 b3.nx, .int .i64 b3.mo, .int .i64 b3.bo, .int .i64 (mm + 1), .slice p3 n3 c3] 24)).alloc (.cells #[.int .i64 (a.nx + 1), .int .i64 l3.te, .int .i64 l3.de, .int .i64 l3.fe, .int .i64 l3.pr, .int .i64 l3.ch, .int .i64 l3.un] 27)) a pa na ca) := H14A.out.below (((Below.refl w7.heap.size w7).alloc (by simp) _).alloc (by simp) _)
    have H15U : Hid (TCame ((w7.alloc (.cells #[.int .i64 b3.me, .int .i64 b3.rv, .int .i64 b3.nx, .int .i64 b3.mo, .int .i64 b3.bo, .int .i64 (mm + 1), .slice p3 n3 c3] 24)).alloc (.cells #[.int .i64 (a.nx + 1), .int .i64 l3.te, .int .i64 l3.de, .int .i64 l3.fe, .int .i64 l3.pr, .int .i64 l3.ch, .int .i64 l3.un] 27)) ⟨u.ts, u.ff, u.fb, u.db, al⟩ pu nu cu) := H14U.out.below (((Below.refl w7.heap.size w7).alloc (by simp) _).alloc (by simp) _)
    have H15F : Hid (ACame ((w7.alloc (.cells #[.int .i64 b3.me, .int .i64 b3.rv, .int .i64 b3.nx, .int .i64 b3.mo, .int .i64 b3.bo, .int .i64 (mm + 1), .slice p3 n3 c3] 24)).alloc (.cells #[.int .i64 (a.nx + 1), .int .i64 l3.te, .int .i64 l3.de, .int .i64 l3.fe, .int .i64 l3.pr, .int .i64 l3.ch, .int .i64 l3.un] 27)) bb pb lb cb) := H14F.out.below (((Below.refl w7.heap.size w7).alloc (by simp) _).alloc (by simp) _)
    have H15g : Hid (Blk ((w7.alloc (.cells #[.int .i64 b3.me, .int .i64 b3.rv, .int .i64 b3.nx, .int .i64 b3.mo, .int .i64 b3.bo, .int .i64 (mm + 1), .slice p3 n3 c3] 24)).alloc (.cells #[.int .i64 (a.nx + 1), .int .i64 l3.te, .int .i64 l3.de, .int .i64 l3.fe, .int .i64 l3.pr, .int .i64 l3.ch, .int .i64 l3.un] 27)) w7.heap.size #[.int .i64 b3.me, .int .i64 b3.rv, .int .i64 b3.nx, .int .i64 b3.mo, .int .i64 b3.bo, .int .i64 (mm + 1), .slice p3 n3 c3] 24) := (Blk.new w7 _ _).alloc _
    have H15h : Hid (Blk ((w7.alloc (.cells #[.int .i64 b3.me, .int .i64 b3.rv, .int .i64 b3.nx, .int .i64 b3.mo, .int .i64 b3.bo, .int .i64 (mm + 1), .slice p3 n3 c3] 24)).alloc (.cells #[.int .i64 (a.nx + 1), .int .i64 l3.te, .int .i64 l3.de, .int .i64 l3.fe, .int .i64 l3.pr, .int .i64 l3.ch, .int .i64 l3.un] 27)) (w7.heap.size + 1) #[.int .i64 (a.nx + 1), .int .i64 l3.te, .int .i64 l3.de, .int .i64 l3.fe, .int .i64 l3.pr, .int .i64 l3.ch, .int .i64 l3.un] 27) := Blk.new1 w7 _ _ _
    have H15B : Hid (Below w.heap.size w ((w7.alloc (.cells #[.int .i64 b3.me, .int .i64 b3.rv, .int .i64 b3.nx, .int .i64 b3.mo, .int .i64 b3.bo, .int .i64 (mm + 1), .slice p3 n3 c3] 24)).alloc (.cells #[.int .i64 (a.nx + 1), .int .i64 l3.te, .int .i64 l3.de, .int .i64 l3.fe, .int .i64 l3.pr, .int .i64 l3.ch, .int .i64 l3.un] 27))) := (H14B.out.alloc H14B.out.size _).alloc (Nat.le_trans H14B.out.size (by simp)) _
    have hsW7 : w7.heap.size + 1 < ((w7.alloc (.cells #[.int .i64 b3.me, .int .i64 b3.rv, .int .i64 b3.nx, .int .i64 b3.mo, .int .i64 b3.bo, .int .i64 (mm + 1), .slice p3 n3 c3] 24)).alloc (.cells #[.int .i64 (a.nx + 1), .int .i64 l3.te, .int .i64 l3.de, .int .i64 l3.fe, .int .i64 l3.pr, .int .i64 l3.ch, .int .i64 l3.un] 27)).heap.size := (Blk.new1 w7 _ #[.int .i64 (a.nx + 1), .int .i64 l3.te, .int .i64 l3.de, .int .i64 l3.fe, .int .i64 l3.pr, .int .i64 l3.ch, .int .i64 l3.un] 27).lt
    clear H14a H14u H14b H14m H14A H14U H14F H14B
    go_upto_region 10 with fail
    generalize ((w7.alloc (.cells #[.int .i64 b3.me, .int .i64 b3.rv, .int .i64 b3.nx, .int .i64 b3.mo, .int .i64 b3.bo, .int .i64 (mm + 1), .slice p3 n3 c3] 24)).alloc (.cells #[.int .i64 (a.nx + 1), .int .i64 l3.te, .int .i64 l3.de, .int .i64 l3.fe, .int .i64 l3.pr, .int .i64 l3.ch, .int .i64 l3.un] 27)) = W7 at *
    have eb : ∀ wz : World, (Op.equalIn 10000 27 (.agg #[.int .i64 a.nx, .int .i64 0, .int .i64 0, .int .i64 0, .int .i64 0, .int .i64 0, .int .i64 al]) (.agg #[.int .i64 a.nx, .int .i64 0, .int .i64 0, .int .i64 0, .int .i64 0, .int .i64 0, .int .i64 al])).run Try.prog wz = .ok true wz := fun wz => eqBill _ _ _ _ _ _ _ wz
    have m2 : (a.nx + 1 == a.nx + 1) = true := by simp
    have m3 : (mm + 1 == mm + 1) = true := by simp
    clear H15b
    have qa2 : W7.cell? ⟨ga, 2, none⟩ = some (.int .i64 a.nx) := H15a.out.cell 2
    have qu4 : W7.cell? ⟨gu, 4, none⟩ = some (.int .i64 al) := H15u.out.cell 4
    have qh0 : W7.cell? ⟨w7.heap.size + 1, 0, none⟩ = some (.int .i64 (a.nx + 1)) := H15h.out.cell 0
    have qg5 : W7.cell? ⟨w7.heap.size, 5, none⟩ = some (.int .i64 (mm + 1)) := H15g.out.cell 5
    go_wp2_with (first
      | (refine wp_wholeG (by rfl) 27 _ rfl (wg1.heap.size + 1) rfl 27 #[.int .i64 a.nx, .int .i64 0, .int .i64 0, .int .i64 0, .int .i64 0, .int .i64 0, .int .i64 al] _ H15m.out Try.underlying27 rfl (by kernel_rfl) ?_)
      | fail)
    go_ret
    exact ⟨rfl, H15B.out⟩

end Go.Proofs.Ytlolippocnngcab.acc
