/- The statement SellMoves. -/
import Derived.Test.YtlolippocnngcabKcS
import Derived.Test.YtlolippocnngcabKcR
import Derived.Test.YtlolippocnngcabKdT
import Derived.Test.YtlolippocnngcabAxN
import Derived.Test.YtlolippocnngcabOpAt
import Derived.Deep.RegionHeld
import Derived.Test.YtlolippocnngcabAcGo
import Derived.Test.YtlolippocnngcabAcAg
import Derived.Test.YtlolippocnngcabAcX
import Derived.Test.YtlolippocnngcabLetG
import Derived.Deep.DeepCutAuto
namespace Go.Proofs.Ytlolippocnngcab.acc
open Go.Proofs.Ytlolippocnngcab.tar (Du du0 Came RowD Ld PairT)
open Go.RowKit
set_option maxRecDepth 100000
set_option linter.unusedVariables false
set_option linter.unusedSimpArgs false

set_option maxHeartbeats 16000000 in
theorem SellMoves_walk (KS : KcSell) (KR : KcRoll) (KT : deb.KdTotal) (x : Ac) (p : Option Addr) (len cap : Nat) (t : Tm) (pt : Option Addr) (lt ct : Nat) (te : Int) (la : Int) (w : World) (h : ACame w x p len cap) (ht : TCame w t pt lt ct) (hte : (Lit.int .i64 te).wf = true) (hla : (Lit.int .i64 la).wf = true) : Calls Try.prog 6 #[x.v p len cap, t.v pt lt ct, .int .i64 te, .int .i64 la] w fun e w' => e = .returned (.bool true) ∧ Below w.heap.size w w' := by
  unfold Ac.v Ac.cs Tm.v
  have H0x : Hid (Blk ((w.alloc (.cells #[.int .i64 x.me, .int .i64 x.rv, .int .i64 x.nx, .int .i64 x.mo, .int .i64 x.bo, .int .i64 x.fr, .slice p len cap] 35)).alloc (.cells #[.slice pt lt ct, .int .i64 t.ff, .int .i64 t.fb, .int .i64 t.db, .int .i64 t.al] 38)) (w.heap.size) #[.int .i64 x.me, .int .i64 x.rv, .int .i64 x.nx, .int .i64 x.mo, .int .i64 x.bo, .int .i64 x.fr, .slice p len cap] 35) := (Blk.new w _ _).alloc _
  have H0d : Hid (Blk ((w.alloc (.cells #[.int .i64 x.me, .int .i64 x.rv, .int .i64 x.nx, .int .i64 x.mo, .int .i64 x.bo, .int .i64 x.fr, .slice p len cap] 35)).alloc (.cells #[.slice pt lt ct, .int .i64 t.ff, .int .i64 t.fb, .int .i64 t.db, .int .i64 t.al] 38)) (w.heap.size + 1) #[.slice pt lt ct, .int .i64 t.ff, .int .i64 t.fb, .int .i64 t.db, .int .i64 t.al] 38) := Blk.new1 w _ _ _
  have H0B : Hid (Below w.heap.size w ((w.alloc (.cells #[.int .i64 x.me, .int .i64 x.rv, .int .i64 x.nx, .int .i64 x.mo, .int .i64 x.bo, .int .i64 x.fr, .slice p len cap] 35)).alloc (.cells #[.slice pt lt ct, .int .i64 t.ff, .int .i64 t.fb, .int .i64 t.db, .int .i64 t.al] 38))) := ((Below.refl w.heap.size w).alloc (by simp) _).alloc (by simp) _
  have H0X : Hid (ACame ((w.alloc (.cells #[.int .i64 x.me, .int .i64 x.rv, .int .i64 x.nx, .int .i64 x.mo, .int .i64 x.bo, .int .i64 x.fr, .slice p len cap] 35)).alloc (.cells #[.slice pt lt ct, .int .i64 t.ff, .int .i64 t.fb, .int .i64 t.db, .int .i64 t.al] 38)) x p len cap) := h.below H0B.out
  have H0D : Hid (TCame ((w.alloc (.cells #[.int .i64 x.me, .int .i64 x.rv, .int .i64 x.nx, .int .i64 x.mo, .int .i64 x.bo, .int .i64 x.fr, .slice p len cap] 35)).alloc (.cells #[.slice pt lt ct, .int .i64 t.ff, .int .i64 t.fb, .int .i64 t.db, .int .i64 t.al] 38)) t pt lt ct) := ht.below H0B.out
  have hs0 : w.heap.size + 1 < ((w.alloc (.cells #[.int .i64 x.me, .int .i64 x.rv, .int .i64 x.nx, .int .i64 x.mo, .int .i64 x.bo, .int .i64 x.fr, .slice p len cap] 35)).alloc (.cells #[.slice pt lt ct, .int .i64 t.ff, .int .i64 t.fb, .int .i64 t.db, .int .i64 t.al] 38)).heap.size := H0d.out.lt
  generalize hWW : ((w.alloc (.cells #[.int .i64 x.me, .int .i64 x.rv, .int .i64 x.nx, .int .i64 x.mo, .int .i64 x.bo, .int .i64 x.fr, .slice p len cap] 35)).alloc (.cells #[.slice pt lt ct, .int .i64 t.ff, .int .i64 t.fb, .int .i64 t.db, .int .i64 t.al] 38)) = W0 at *
  have HWW : Hid (((w.alloc (.cells #[.int .i64 x.me, .int .i64 x.rv, .int .i64 x.nx, .int .i64 x.mo, .int .i64 x.bo, .int .i64 x.fr, .slice p len cap] 35)).alloc (.cells #[.slice pt lt ct, .int .i64 t.ff, .int .i64 t.fb, .int .i64 t.db, .int .i64 t.al] 38)) = W0) := hWW
  clear hWW
  go_enter Try.func6, Try.ntmps6
  go_upto_region 1 with fail
  rw [HWW.out]
  clear HWW
  have HGO : Hid (Calls Try.prog 13 #[.agg #[.int .i64 x.me, .int .i64 x.rv, .int .i64 x.nx, .int .i64 x.mo, .int .i64 x.bo, .int .i64 x.fr, .slice p len cap]] W0 fun e w' => GaveA W0 e w') := gone_any x p len cap W0 H0X.out
  clear h ht
  go_wp2_with (first
    | (refine wp_whole rfl 35 _ rfl (w.heap.size) rfl 35 #[.int .i64 x.me, .int .i64 x.rv, .int .i64 x.nx, .int .i64 x.mo, .int .i64 x.bo, .int .i64 x.fr, .slice p len cap] _ H0x.out Try.underlying35 rfl (by kernel_rfl) ?_)
    | (refine wp_wholeG (by rfl) 35 _ rfl (w.heap.size) rfl 35 #[.int .i64 x.me, .int .i64 x.rv, .int .i64 x.nx, .int .i64 x.mo, .int .i64 x.bo, .int .i64 x.fr, .slice p len cap] _ H0x.out Try.underlying35 rfl (by kernel_rfl) ?_)
    | (refine wp_whole rfl 38 _ rfl (w.heap.size + 1) rfl 38 #[.slice pt lt ct, .int .i64 t.ff, .int .i64 t.fb, .int .i64 t.db, .int .i64 t.al] _ H0d.out Try.underlying38 rfl (by kernel_rfl) ?_)
    | (refine wp_wholeG (by rfl) 38 _ rfl (w.heap.size + 1) rfl 38 #[.slice pt lt ct, .int .i64 t.ff, .int .i64 t.fb, .int .i64 t.db, .int .i64 t.al] _ H0d.out Try.underlying38 rfl (by kernel_rfl) ?_)
    | fail)
  refine HGO.out.mono ?_
  rintro e w1 ⟨a, pa, na, ca, rfl, ham, hnx, hmo1, hfa, hb1⟩
  have H1x : Hid (Blk w1 (w.heap.size) #[.int .i64 x.me, .int .i64 x.rv, .int .i64 x.nx, .int .i64 x.mo, .int .i64 x.bo, .int .i64 x.fr, .slice p len cap] 35) := H0x.out.next hb1
  have H1d : Hid (Blk w1 (w.heap.size + 1) #[.slice pt lt ct, .int .i64 t.ff, .int .i64 t.fb, .int .i64 t.db, .int .i64 t.al] 38) := H0d.out.next hb1
  have H1X : Hid (ACame w1 x p len cap) := H0X.out.below hb1
  have H1D : Hid (TCame w1 t pt lt ct) := H0D.out.below hb1
  have H1B : Hid (Below w.heap.size w w1) := H0B.out.trans (hb1.mono H0B.out.size)
  have hsw1 : W0.heap.size ≤ w1.heap.size := hb1.size
  clear hb1 H0x H0d H0X H0D H0B
  unfold Ac.v Ac.cs
  have H2A : Hid (ACame w1 a pa na ca) := ⟨hfa.came, amay_wf ham⟩
  have HAM : Hid (AMay a) := ham
  have hmo0 : 0 ≤ a.mo := ham.2.2.2.2.1.1
  have HNX : Hid (1 ≤ a.nx ∧ a.nx ≤ 1048574) := ⟨ham.2.2.2.1.1, hnx⟩
  have HNA : Hid (na = a.ds.length) := hfa.came.row.1.symm
  clear hfa ham hnx HGO
  clear H1x
  clear H1X
  have H3d : Hid (Blk (w1.alloc (.cells #[.int .i64 a.me, .int .i64 a.rv, .int .i64 a.nx, .int .i64 a.mo, .int .i64 a.bo, .int .i64 a.fr, .slice pa na ca] 24)) (w.heap.size + 1) #[.slice pt lt ct, .int .i64 t.ff, .int .i64 t.fb, .int .i64 t.db, .int .i64 t.al] 38) := H1d.out.alloc _
  have H3D : Hid (TCame (w1.alloc (.cells #[.int .i64 a.me, .int .i64 a.rv, .int .i64 a.nx, .int .i64 a.mo, .int .i64 a.bo, .int .i64 a.fr, .slice pa na ca] 24)) t pt lt ct) := H1D.out.below ((Below.refl w1.heap.size w1).alloc (Nat.le_refl _) _)
  have H3A : Hid (ACame (w1.alloc (.cells #[.int .i64 a.me, .int .i64 a.rv, .int .i64 a.nx, .int .i64 a.mo, .int .i64 a.bo, .int .i64 a.fr, .slice pa na ca] 24)) a pa na ca) := H2A.out.below ((Below.refl w1.heap.size w1).alloc (Nat.le_refl _) _)
  have H3a : Hid (Blk (w1.alloc (.cells #[.int .i64 a.me, .int .i64 a.rv, .int .i64 a.nx, .int .i64 a.mo, .int .i64 a.bo, .int .i64 a.fr, .slice pa na ca] 24)) w1.heap.size #[.int .i64 a.me, .int .i64 a.rv, .int .i64 a.nx, .int .i64 a.mo, .int .i64 a.bo, .int .i64 a.fr, .slice pa na ca] 24) := Blk.new w1 _ _
  have H3B : Hid (Below w.heap.size w (w1.alloc (.cells #[.int .i64 a.me, .int .i64 a.rv, .int .i64 a.nx, .int .i64 a.mo, .int .i64 a.bo, .int .i64 a.fr, .slice pa na ca] 24))) := H1B.out.alloc H1B.out.size _
  have hsW1 : w1.heap.size < (w1.alloc (.cells #[.int .i64 a.me, .int .i64 a.rv, .int .i64 a.nx, .int .i64 a.mo, .int .i64 a.bo, .int .i64 a.fr, .slice pa na ca] 24)).heap.size := (Blk.new w1 #[.int .i64 a.me, .int .i64 a.rv, .int .i64 a.nx, .int .i64 a.mo, .int .i64 a.bo, .int .i64 a.fr, .slice pa na ca] 24).lt
  clear H1d H1D H2A H1B
  go_upto_region 2 with fail
  generalize (w1.alloc (.cells #[.int .i64 a.me, .int .i64 a.rv, .int .i64 a.nx, .int .i64 a.mo, .int .i64 a.bo, .int .i64 a.fr, .slice pa na ca] 24)) = W1 at *
  have HAG : Hid (Calls Try.prog 14 #[.agg #[.slice pt lt ct, .int .i64 t.ff, .int .i64 t.fb, .int .i64 t.db, .int .i64 t.al]] W1 fun e w' => GaveT W1 e w') := agreed_any t pt lt ct W1 H3D.out
  go_wp2_with (first
    | (refine wp_whole rfl 38 _ rfl (w.heap.size + 1) rfl 38 #[.slice pt lt ct, .int .i64 t.ff, .int .i64 t.fb, .int .i64 t.db, .int .i64 t.al] _ H3d.out Try.underlying38 rfl (by kernel_rfl) ?_)
    | (refine wp_wholeG (by rfl) 38 _ rfl (w.heap.size + 1) rfl 38 #[.slice pt lt ct, .int .i64 t.ff, .int .i64 t.fb, .int .i64 t.db, .int .i64 t.al] _ H3d.out Try.underlying38 rfl (by kernel_rfl) ?_)
    | (refine wp_whole rfl 24 _ rfl (w1.heap.size) rfl 24 #[.int .i64 a.me, .int .i64 a.rv, .int .i64 a.nx, .int .i64 a.mo, .int .i64 a.bo, .int .i64 a.fr, .slice pa na ca] _ H3a.out Try.underlying24 rfl (by kernel_rfl) ?_)
    | (refine wp_wholeG (by rfl) 24 _ rfl (w1.heap.size) rfl 24 #[.int .i64 a.me, .int .i64 a.rv, .int .i64 a.nx, .int .i64 a.mo, .int .i64 a.bo, .int .i64 a.fr, .slice pa na ca] _ H3a.out Try.underlying24 rfl (by kernel_rfl) ?_)
    | fail)
  refine HAG.out.mono ?_
  rintro e w2 ⟨u, pu, nu, cu, rfl, htr, hcm, _, hb2⟩
  have H4d : Hid (Blk w2 (w.heap.size + 1) #[.slice pt lt ct, .int .i64 t.ff, .int .i64 t.fb, .int .i64 t.db, .int .i64 t.al] 38) := H3d.out.next hb2
  have H4a : Hid (Blk w2 (w1.heap.size) #[.int .i64 a.me, .int .i64 a.rv, .int .i64 a.nx, .int .i64 a.mo, .int .i64 a.bo, .int .i64 a.fr, .slice pa na ca] 24) := H3a.out.next hb2
  have H4D : Hid (TCame w2 t pt lt ct) := H3D.out.below hb2
  have H4A : Hid (ACame w2 a pa na ca) := H3A.out.below hb2
  have H4B : Hid (Below w.heap.size w w2) := H3B.out.trans (hb2.mono H3B.out.size)
  have hsw2 : W1.heap.size ≤ w2.heap.size := hb2.size
  clear hb2 H3d H3a H3D H3A H3B
  unfold Tm.v
  have H5U : Hid (TCame w2 u pu nu cu) := ⟨hcm, tright_wf htr⟩
  have HTR : Hid (TRight u) := htr
  clear hcm htr HAG
  clear H4d
  clear H4D
  have HLA : Hid (0 < na → ∀ y, pa = some y → y.block ≠ w2.heap.size) := fun hn y hy => Nat.ne_of_lt (came_lt H4A.out.ds hn y hy)
  have HLU : Hid (0 < nu → ∀ y, pu = some y → y.block ≠ w2.heap.size) := fun hn y hy => Nat.ne_of_lt (came_lt H5U.out.ts hn y hy)
  have H6a : Hid (Blk (w2.alloc (.cells #[.slice pu nu cu, .int .i64 u.ff, .int .i64 u.fb, .int .i64 u.db, .int .i64 u.al] 42)) (w1.heap.size) #[.int .i64 a.me, .int .i64 a.rv, .int .i64 a.nx, .int .i64 a.mo, .int .i64 a.bo, .int .i64 a.fr, .slice pa na ca] 24) := H4a.out.alloc _
  have H6A : Hid (ACame (w2.alloc (.cells #[.slice pu nu cu, .int .i64 u.ff, .int .i64 u.fb, .int .i64 u.db, .int .i64 u.al] 42)) a pa na ca) := H4A.out.below ((Below.refl w2.heap.size w2).alloc (Nat.le_refl _) _)
  have H6U : Hid (TCame (w2.alloc (.cells #[.slice pu nu cu, .int .i64 u.ff, .int .i64 u.fb, .int .i64 u.db, .int .i64 u.al] 42)) u pu nu cu) := H5U.out.below ((Below.refl w2.heap.size w2).alloc (Nat.le_refl _) _)
  have H6u : Hid (Blk (w2.alloc (.cells #[.slice pu nu cu, .int .i64 u.ff, .int .i64 u.fb, .int .i64 u.db, .int .i64 u.al] 42)) w2.heap.size #[.slice pu nu cu, .int .i64 u.ff, .int .i64 u.fb, .int .i64 u.db, .int .i64 u.al] 42) := Blk.new w2 _ _
  have H6B : Hid (Below w.heap.size w (w2.alloc (.cells #[.slice pu nu cu, .int .i64 u.ff, .int .i64 u.fb, .int .i64 u.db, .int .i64 u.al] 42))) := H4B.out.alloc H4B.out.size _
  have hsW2 : w2.heap.size < (w2.alloc (.cells #[.slice pu nu cu, .int .i64 u.ff, .int .i64 u.fb, .int .i64 u.db, .int .i64 u.al] 42)).heap.size := (Blk.new w2 #[.slice pu nu cu, .int .i64 u.ff, .int .i64 u.fb, .int .i64 u.db, .int .i64 u.al] 42).lt
  clear H4a H4A H5U H4B
  go_upto_region 3 with fail
  generalize (w2.alloc (.cells #[.slice pu nu cu, .int .i64 u.ff, .int .i64 u.fb, .int .i64 u.db, .int .i64 u.al] 42)) = W2 at *
  have HPL : Hid (∀ W, Calls Try.prog 15 #[.int .i64 la, .int .i64 (2399 - a.mo + 1)] W fun e w' => e = .returned (.int .i64 (check.pick la (2399 - a.mo + 1))) ∧ w' = W) := fun W => check.picked_any la (2399 - a.mo + 1) W hla (by omega) (by omega)
  have hpl0 := check.pick_nonneg la (2399 - a.mo + 1) (by omega)
  have hpl1 := check.pick_lt la (2399 - a.mo + 1) (by omega)
  generalize (check.pick la (2399 - a.mo + 1)) = zl at *
  go_wp2_with (first
    | (refine wp_whole rfl 24 _ rfl (w1.heap.size) rfl 24 #[.int .i64 a.me, .int .i64 a.rv, .int .i64 a.nx, .int .i64 a.mo, .int .i64 a.bo, .int .i64 a.fr, .slice pa na ca] _ H6a.out Try.underlying24 rfl (by kernel_rfl) ?_)
    | (refine wp_wholeG (by rfl) 24 _ rfl (w1.heap.size) rfl 24 #[.int .i64 a.me, .int .i64 a.rv, .int .i64 a.nx, .int .i64 a.mo, .int .i64 a.bo, .int .i64 a.fr, .slice pa na ca] _ H6a.out Try.underlying24 rfl (by kernel_rfl) ?_)
    | (refine wp_whole rfl 42 _ rfl (w2.heap.size) rfl 42 #[.slice pu nu cu, .int .i64 u.ff, .int .i64 u.fb, .int .i64 u.db, .int .i64 u.al] _ H6u.out Try.underlying42 rfl (by kernel_rfl) ?_)
    | (refine wp_wholeG (by rfl) 42 _ rfl (w2.heap.size) rfl 42 #[.slice pu nu cu, .int .i64 u.ff, .int .i64 u.fb, .int .i64 u.db, .int .i64 u.al] _ H6u.out Try.underlying42 rfl (by kernel_rfl) ?_)
    | fail)
  refine wp_region_held_drew (S := fun v => Blk v (w1.heap.size) #[.int .i64 a.me, .int .i64 a.rv, .int .i64 a.nx, .int .i64 a.mo, .int .i64 a.bo, .int .i64 a.fr, .slice pa na ca] 24) (by kernel_rfl) (Blk.drew H6a.out 1) (fun hHeld => ?_)
  refine take_at 0 25 (.pointer (some ⟨w1.heap.size, 3, none⟩)) _ rfl rfl (by kernel_rfl) (by kernel_rfl) (by kernel_rfl) (fun _ _ _ h => h) (Or.inl ⟨by rfl, fun v hv => by skip; clear hv; go_simp⟩) hHeld ?_
  simp only [Act.put, List.setIfInBounds_toArray, List.set_cons_zero, List.set_cons_succ]
  refine take_at 1 26 (.int .i64 a.mo) _ rfl rfl (by kernel_rfl) (by kernel_rfl) (by kernel_rfl) (fun _ _ _ h => h) (Or.inl ⟨by rfl, fun v hv => by have h2 := hv.cell 3; simp at h2; clear hv; go_simp⟩) hHeld ?_
  simp only [Act.put, List.setIfInBounds_toArray, List.set_cons_zero, List.set_cons_succ]
  refine take_at 2 27 (.int .i64 la) _ rfl rfl (by kernel_rfl) (by kernel_rfl) (by kernel_rfl) (fun _ _ _ h => h) (Or.inl ⟨by rfl, fun v hv => by skip; clear hv; go_simp⟩) hHeld ?_
  simp only [Act.put, List.setIfInBounds_toArray, List.set_cons_zero, List.set_cons_succ]
  refine take_at 3 28 (.pointer (some ⟨w1.heap.size, 3, none⟩)) _ rfl rfl (by kernel_rfl) (by kernel_rfl) (by kernel_rfl) (fun _ _ _ h => h) (Or.inl ⟨by rfl, fun v hv => by skip; clear hv; go_simp⟩) hHeld ?_
  simp only [Act.put, List.setIfInBounds_toArray, List.set_cons_zero, List.set_cons_succ]
  refine take_at 4 29 (.int .i64 a.mo) _ rfl rfl (by kernel_rfl) (by kernel_rfl) (by kernel_rfl) (fun _ _ _ h => h) (Or.inl ⟨by rfl, fun v hv => by have h2 := hv.cell 3; simp at h2; clear hv; go_simp⟩) hHeld ?_
  simp only [Act.put, List.setIfInBounds_toArray, List.set_cons_zero, List.set_cons_succ]
  refine take_at 5 30 (.int .i64 (2399 - a.mo)) _ rfl rfl (by kernel_rfl) (by kernel_rfl) (by kernel_rfl) (fun _ _ _ h => h) (Or.inl ⟨by rfl, fun v hv => by have hq : IntKind.i64.wrap (2399 - a.mo) = 2399 - a.mo := (by rw [IntKind.wrap_i64]; omega); clear hv; go_simp⟩) hHeld ?_
  simp only [Act.put, List.setIfInBounds_toArray, List.set_cons_zero, List.set_cons_succ]
  refine take_at 6 31 (.int .i64 (2399 - a.mo + 1)) _ rfl rfl (by kernel_rfl) (by kernel_rfl) (by kernel_rfl) (fun _ _ _ h => h) (Or.inl ⟨by rfl, fun v hv => by have hq : IntKind.i64.wrap (2399 - a.mo + 1) = 2399 - a.mo + 1 := (by rw [IntKind.wrap_i64]; omega); clear hv; go_simp⟩) hHeld ?_
  simp only [Act.put, List.setIfInBounds_toArray, List.set_cons_zero, List.set_cons_succ]
  refine call_at 7 32 (.int .i64 zl) _ rfl rfl (by kernel_rfl) (by kernel_rfl) (by kernel_rfl) (fun _ _ _ h => h) 15 #[.int .i64 la, .int .i64 (2399 - a.mo + 1)] ⟨by rfl, fun v hv => by clear hv; go_simp⟩ (fun v _ => HPL.out v) hHeld ?_
  simp only [Act.put, List.setIfInBounds_toArray, List.set_cons_zero, List.set_cons_succ]
  refine take_at 8 33 (.int .i64 (a.mo + zl)) _ rfl rfl (by kernel_rfl) (by kernel_rfl) (by kernel_rfl) (fun _ _ _ h => h) (Or.inl ⟨by rfl, fun v hv => by have hq : IntKind.i64.wrap (a.mo + zl) = a.mo + zl := (by rw [IntKind.wrap_i64]; omega); clear hv; go_simp⟩) hHeld ?_
  simp only [Act.put, List.setIfInBounds_toArray, List.set_cons_zero, List.set_cons_succ]
  refine take_at 9 11 (.int .i64 (a.mo + zl)) _ rfl rfl (by kernel_rfl) (by kernel_rfl) (by kernel_rfl) (fun _ _ _ h => h) (Or.inl ⟨by rfl, fun v hv => by skip; clear hv; go_simp⟩) hHeld ?_
  simp only [Act.put, List.setIfInBounds_toArray, List.set_cons_zero, List.set_cons_succ]
  refine wpAnyH_done (by kernel_rfl) ?_ _
  clear hHeld HPL
  have H7a : Hid (Blk W2.drew (w1.heap.size) #[.int .i64 a.me, .int .i64 a.rv, .int .i64 a.nx, .int .i64 a.mo, .int .i64 a.bo, .int .i64 a.fr, .slice pa na ca] 24) := H6a.out.next (Below.drew (Below.refl _ W2))
  have H7u : Hid (Blk W2.drew (w2.heap.size) #[.slice pu nu cu, .int .i64 u.ff, .int .i64 u.fb, .int .i64 u.db, .int .i64 u.al] 42) := H6u.out.next (Below.drew (Below.refl _ W2))
  have H7A : Hid (ACame W2.drew a pa na ca) := H6A.out.below (Below.drew (Below.refl _ W2))
  have H7U : Hid (TCame W2.drew u pu nu cu) := H6U.out.below (Below.drew (Below.refl _ W2))
  have H7B : Hid (Below w.heap.size w W2.drew) := H6B.out.trans (Below.mono (Below.drew (Below.refl _ W2)) H6B.out.size)
  clear H6a H6u H6A H6U H6B
  have hszd : W2.heap.size ≤ W2.drew.heap.size := Nat.le_refl _
  generalize W2.drew = W3 at *
  have hm0 : a.mo ≤ a.mo + zl := by omega
  have hm1 : a.mo + zl ≤ 2399 := by omega
  generalize a.mo + zl = mm at *
  clear hpl0 hpl1
  have HRM : Hid (RMay a mm) := ⟨⟨by omega, hm1⟩, hm0⟩
  have HWM : Hid ((Lit.int .i64 mm).wf = true) := tar.wf_mid (by omega) (by omega)
  have HRY : Hid (Ready a u mm) := ⟨HAM.out, HTR.out, HRM.out⟩
  have HPM : Hid (∀ W, Calls Try.prog 15 #[.int .i64 te, .int .i64 100000000] W fun e w' => e = .returned (.int .i64 (check.pick te 100000000)) ∧ w' = W) := fun W => check.picked_any te 100000000 W hte (by decide) (by decide)
  have hz0 := check.pick_nonneg te 100000000 (by decide)
  have hz1 := check.pick_lt te 100000000 (by decide)
  generalize (check.pick te 100000000) = z1 at *
  have ht0 : 1 ≤ 1 + z1 := by omega
  have ht1 : 1 + z1 ≤ 100000000 := by omega
  obtain ⟨tn, htn⟩ : ∃ tn, 1 + z1 = tn := ⟨_, rfl⟩
  rw [htn] at ht0 ht1
  have HTN : Hid (tn = 1 + z1) := htn.symm
  clear htn
  have HWN : Hid ((Lit.int .i64 tn).wf = true) := tar.wf_mid (by omega) (by omega)
  have HSL : Hid (∀ W, Below W3.heap.size W3 W → Calls Try.prog 16 #[.agg #[.int .i64 a.me, .int .i64 a.rv, .int .i64 a.nx, .int .i64 a.mo, .int .i64 a.bo, .int .i64 a.fr, .slice pa na ca], .agg #[.slice pu nu cu, .int .i64 u.ff, .int .i64 u.fb, .int .i64 u.db, .int .i64 u.al], .int .i64 tn, .int .i64 mm] W fun e w' => BPost W (SellIs a u tn mm) e w') := fun W hW => KS W a pa na ca u pu nu cu tn mm (H7A.out.below hW) (H7U.out.below hW) HWN.out HWM.out
  go_wp2_with (first
    | (refine wp_whole rfl 24 _ rfl (w1.heap.size) rfl 24 #[.int .i64 a.me, .int .i64 a.rv, .int .i64 a.nx, .int .i64 a.mo, .int .i64 a.bo, .int .i64 a.fr, .slice pa na ca] _ H7a.out Try.underlying24 rfl (by kernel_rfl) ?_)
    | (refine wp_wholeG (by rfl) 24 _ rfl (w1.heap.size) rfl 24 #[.int .i64 a.me, .int .i64 a.rv, .int .i64 a.nx, .int .i64 a.mo, .int .i64 a.bo, .int .i64 a.fr, .slice pa na ca] _ H7a.out Try.underlying24 rfl (by kernel_rfl) ?_)
    | (refine wp_whole rfl 42 _ rfl (w2.heap.size) rfl 42 #[.slice pu nu cu, .int .i64 u.ff, .int .i64 u.fb, .int .i64 u.db, .int .i64 u.al] _ H7u.out Try.underlying42 rfl (by kernel_rfl) ?_)
    | (refine wp_wholeG (by rfl) 42 _ rfl (w2.heap.size) rfl 42 #[.slice pu nu cu, .int .i64 u.ff, .int .i64 u.fb, .int .i64 u.db, .int .i64 u.al] _ H7u.out Try.underlying42 rfl (by kernel_rfl) ?_)
    | fail)
  go_cut [12, 13, 14] (fun v8 v9 v10 wc => ∃ (g8 g9 : Nat) (b : Ac) (l : Bi) (pb : Option Addr) (lb cb : Nat) (fb : Int), v8 = .pointer (some ⟨g8, 0, none⟩) ∧ v9 = .pointer (some ⟨g9, 0, none⟩) ∧ v10 = .int .i64 fb ∧ Blk wc g8 #[.int .i64 b.me, .int .i64 b.rv, .int .i64 b.nx, .int .i64 b.mo, .int .i64 b.bo, .int .i64 b.fr, .slice pb lb cb] 24 ∧ Blk wc g9 #[.int .i64 l.id, .int .i64 l.te, .int .i64 l.de, .int .i64 l.fe, .int .i64 l.pr, .int .i64 l.ch, .int .i64 l.un] 27 ∧ SellIs a u tn mm b l fb ∧ Came wc pb lb cb b.ds ∧ Below W3.heap.size W3 wc)
  case first =>
    clear H7A H7U H7B
    have HB0 : Hid (Below W3.heap.size W3 W3.drew) := (Below.refl _ _).drew
    refine wp_region_held_drew (S := fun v => Below W3.heap.size W3 v) (by kernel_rfl) HB0.out (fun hHeld => ?_)
    refine take_at 0 35 (.agg #[.int .i64 a.me, .int .i64 a.rv, .int .i64 a.nx, .int .i64 a.mo, .int .i64 a.bo, .int .i64 a.fr, .slice pa na ca]) _ rfl rfl (by kernel_rfl) (by kernel_rfl) (by kernel_rfl) (fun _ _ _ h => h) (yieldsIf_whole (by rfl) 24 _ rfl (w1.heap.size) rfl 24 #[.int .i64 a.me, .int .i64 a.rv, .int .i64 a.nx, .int .i64 a.mo, .int .i64 a.bo, .int .i64 a.fr, .slice pa na ca] _ (fun v hv => H7a.out.next hv) Try.underlying24 rfl (by kernel_rfl)) hHeld ?_
    simp only [Act.put, List.setIfInBounds_toArray, List.set_cons_zero, List.set_cons_succ]
    refine take_at 1 36 (.agg #[.slice pu nu cu, .int .i64 u.ff, .int .i64 u.fb, .int .i64 u.db, .int .i64 u.al]) _ rfl rfl (by kernel_rfl) (by kernel_rfl) (by kernel_rfl) (fun _ _ _ h => h) (yieldsIf_whole (by rfl) 42 _ rfl (w2.heap.size) rfl 42 #[.slice pu nu cu, .int .i64 u.ff, .int .i64 u.fb, .int .i64 u.db, .int .i64 u.al] _ (fun v hv => H7u.out.next hv) Try.underlying42 rfl (by kernel_rfl)) hHeld ?_
    simp only [Act.put, List.setIfInBounds_toArray, List.set_cons_zero, List.set_cons_succ]
    refine take_at 2 37 (.int .i64 te) _ rfl rfl (by kernel_rfl) (by kernel_rfl) (by kernel_rfl) (fun _ _ _ h => h) (Or.inl ⟨by rfl, fun v hv => by clear hv; go_simp⟩) hHeld ?_
    simp only [Act.put, List.setIfInBounds_toArray, List.set_cons_zero, List.set_cons_succ]
    generalize W3.drew = U0 at *
    refine call_at 3 38 (.int .i64 z1) _ rfl rfl (by kernel_rfl) (by kernel_rfl) (by kernel_rfl) (fun _ _ _ h => h) 15 #[.int .i64 te, .int .i64 100000000] ⟨by rfl, fun v hv => by clear hv; go_simp⟩ (fun v _ => HPM.out v) hHeld ?_
    simp only [Act.put, List.setIfInBounds_toArray, List.set_cons_zero, List.set_cons_succ]
    refine take_at 4 39 (.int .i64 tn) _ rfl rfl (by kernel_rfl) (by kernel_rfl) (by kernel_rfl) (fun _ _ _ h => h) (Or.inl ⟨by rfl, fun v hv => by have hq : IntKind.i64.wrap (1 + z1) = tn := (by rw [IntKind.wrap_i64, HTN.out]; omega); clear hv; go_simp⟩) hHeld ?_
    simp only [Act.put, List.setIfInBounds_toArray, List.set_cons_zero, List.set_cons_succ]
    refine take_at 5 40 (.int .i64 mm) _ rfl rfl (by kernel_rfl) (by kernel_rfl) (by kernel_rfl) (fun _ _ _ h => h) (Or.inl ⟨by rfl, fun v hv => by skip; clear hv; go_simp⟩) hHeld ?_
    simp only [Act.put, List.setIfInBounds_toArray, List.set_cons_zero, List.set_cons_succ]
    clear HPM H7a H7u
    refine wpAnyH_ready (rs := [6, 11, 12]) (by kernel_rfl) (by simp) (AllReadyH.cons rfl (fun K hK => ?_) (AllReadyH.cons rfl (fun K hK => ?_) (AllReadyH.cons rfl (fun K hK => ?_) AllReadyH.nil)))
    · rw [if_pos (by rfl)]
      refine wp_callOp 41 rfl (by clear hK; go_simp) (HSL.out U0 HB0.out) ?_
      rintro e U1 ⟨b, l, pb, lb, cb, fb, rfl, hi, hf, hb⟩
      have HB1 : Hid (Below W3.heap.size W3 U1) := bel_step HB0.out hb
      have FE1 : Hid (Came U1 pb lb cb b.ds) := hf.came
      have HI : Hid (SellIs a u tn mm b l fb) := hi
      refine ⟨_, rfl, hK.out _ _ HB1.out (fun hHeld => ?_)⟩
      clear hK hi hf hb HB0
      simp only [Act.put, List.setIfInBounds_toArray, List.set_cons_zero, List.set_cons_succ]
      unfold Ac.v Ac.cs Bi.v
      refine take_at 7 34 (.tuple #[.agg #[.int .i64 b.me, .int .i64 b.rv, .int .i64 b.nx, .int .i64 b.mo, .int .i64 b.bo, .int .i64 b.fr, .slice pb lb cb], .agg #[.int .i64 l.id, .int .i64 l.te, .int .i64 l.de, .int .i64 l.fe, .int .i64 l.pr, .int .i64 l.ch, .int .i64 l.un], .int .i64 fb]) _ rfl rfl (by kernel_rfl) (by kernel_rfl) (by kernel_rfl) (fun _ _ _ h => h) (Or.inl ⟨by rfl, fun v hv => by clear hv; go_simp⟩) hHeld ?_
      simp only [Act.put, List.setIfInBounds_toArray, List.set_cons_zero, List.set_cons_succ]
      refine take_at 8 42 (.agg #[.int .i64 b.me, .int .i64 b.rv, .int .i64 b.nx, .int .i64 b.mo, .int .i64 b.bo, .int .i64 b.fr, .slice pb lb cb]) _ rfl rfl (by kernel_rfl) (by kernel_rfl) (by kernel_rfl) (fun _ _ _ h => h) (Or.inl ⟨by rfl, fun v hv => by clear hv; go_simp⟩) hHeld ?_
      simp only [Act.put, List.setIfInBounds_toArray, List.set_cons_zero, List.set_cons_succ]
      refine take_at 9 43 (.agg #[.int .i64 l.id, .int .i64 l.te, .int .i64 l.de, .int .i64 l.fe, .int .i64 l.pr, .int .i64 l.ch, .int .i64 l.un]) _ rfl rfl (by kernel_rfl) (by kernel_rfl) (by kernel_rfl) (fun _ _ _ h => h) (Or.inl ⟨by rfl, fun v hv => by clear hv; go_simp⟩) hHeld ?_
      simp only [Act.put, List.setIfInBounds_toArray, List.set_cons_zero, List.set_cons_succ]
      refine take_at 10 44 (.int .i64 fb) _ rfl rfl (by kernel_rfl) (by kernel_rfl) (by kernel_rfl) (fun _ _ _ h => h) (Or.inl ⟨by rfl, fun v hv => by clear hv; go_simp⟩) hHeld ?_
      simp only [Act.put, List.setIfInBounds_toArray, List.set_cons_zero, List.set_cons_succ]
      refine wpAnyH_ready (rs := [11, 12]) (by kernel_rfl) (by simp) (AllReadyH.cons rfl (fun K hK => ?_) (AllReadyH.cons rfl (fun K hK => ?_) AllReadyH.nil))
      · rw [if_pos (by rfl)]
        have HB2 : Hid (Below W3.heap.size W3 (U1.alloc (.cells #[.int .i64 0, .int .i64 0, .int .i64 0, .int .i64 0, .int .i64 0, .int .i64 0, .slice none 0 0] 24))) := HB1.out.alloc HB1.out.size _
        have HG11 : Hid (W3.heap.size ≤ U1.heap.size) := HB1.out.size
        have FE2 : Hid (Came (U1.alloc (.cells #[.int .i64 0, .int .i64 0, .int .i64 0, .int .i64 0, .int .i64 0, .int .i64 0, .slice none 0 0] 24)) pb lb cb b.ds) := FE1.out.below ((Below.refl _ _).alloc (Nat.le_refl _) _)
        have HEE11 : Hid (0 < lb → ∀ y, pb = some y → y.block ≠ U1.heap.size) := fun hn y hy => Nat.ne_of_lt (came_lt FE1.out hn y hy)
        have G112 : Hid (Blk (U1.alloc (.cells #[.int .i64 0, .int .i64 0, .int .i64 0, .int .i64 0, .int .i64 0, .int .i64 0, .slice none 0 0] 24)) U1.heap.size #[.int .i64 0, .int .i64 0, .int .i64 0, .int .i64 0, .int .i64 0, .int .i64 0, .slice none 0 0] 24) := Blk.new _ _ _
        refine wp_runOp (v := .pointer (some ⟨U1.heap.size, 0, none⟩)) (w' := (U1.alloc (.cells #[.int .i64 0, .int .i64 0, .int .i64 0, .int .i64 0, .int .i64 0, .int .i64 0, .slice none 0 0] 24))) 12 rfl (by clear hK; go_simp) ?_
        refine hK.out _ _ HB2.out (fun hHeld => ?_)
        clear hK HB1 FE1
        simp only [Act.put, List.setIfInBounds_toArray, List.set_cons_zero, List.set_cons_succ]
        generalize U1.heap.size = g11 at *
        generalize U1.alloc _ = U2 at *
        refine wpAnyH_ready (rs := [12]) (by kernel_rfl) (by simp) (AllReadyH.cons rfl (fun K hK => ?_) AllReadyH.nil)
        rw [if_pos (by rfl)]
        have HB3 : Hid (Below W3.heap.size W3 (U2.alloc (.cells #[.int .i64 0, .int .i64 0, .int .i64 0, .int .i64 0, .int .i64 0, .int .i64 0, .int .i64 0] 27))) := HB2.out.alloc HB2.out.size _
        have HG12 : Hid (W3.heap.size ≤ U2.heap.size) := HB2.out.size
        have FE3 : Hid (Came (U2.alloc (.cells #[.int .i64 0, .int .i64 0, .int .i64 0, .int .i64 0, .int .i64 0, .int .i64 0, .int .i64 0] 27)) pb lb cb b.ds) := FE2.out.below ((Below.refl _ _).alloc (Nat.le_refl _) _)
        have HEE12 : Hid (0 < lb → ∀ y, pb = some y → y.block ≠ U2.heap.size) := fun hn y hy => Nat.ne_of_lt (came_lt FE2.out hn y hy)
        have HD1112 : Hid (g11 ≠ U2.heap.size) := Nat.ne_of_lt G112.out.lt
        have G113 : Hid (Blk (U2.alloc (.cells #[.int .i64 0, .int .i64 0, .int .i64 0, .int .i64 0, .int .i64 0, .int .i64 0, .int .i64 0] 27)) g11 #[.int .i64 0, .int .i64 0, .int .i64 0, .int .i64 0, .int .i64 0, .int .i64 0, .slice none 0 0] 24) := G112.out.alloc _
        have G123 : Hid (Blk (U2.alloc (.cells #[.int .i64 0, .int .i64 0, .int .i64 0, .int .i64 0, .int .i64 0, .int .i64 0, .int .i64 0] 27)) U2.heap.size #[.int .i64 0, .int .i64 0, .int .i64 0, .int .i64 0, .int .i64 0, .int .i64 0, .int .i64 0] 27) := Blk.new _ _ _
        refine wp_runOp (v := .pointer (some ⟨U2.heap.size, 0, none⟩)) (w' := (U2.alloc (.cells #[.int .i64 0, .int .i64 0, .int .i64 0, .int .i64 0, .int .i64 0, .int .i64 0, .int .i64 0] 27))) 13 rfl (by clear hK; go_simp) ?_
        refine hK.out _ _ HB3.out (fun hHeld => ?_)
        clear hK HB2 FE2 G112
        simp only [Act.put, List.setIfInBounds_toArray, List.set_cons_zero, List.set_cons_succ]
        generalize U2.heap.size = g12 at *
        generalize U2.alloc _ = U3 at *
        refine wpAnyH_ready (rs := [13]) (by kernel_rfl) (by simp) (AllReadyH.cons rfl (fun K hK => ?_) AllReadyH.nil)
        rw [if_pos (by rfl)]
        refine wp_letOp 24 _ _ rfl g11 rfl #[.int .i64 b.me, .int .i64 b.rv, .int .i64 b.nx, .int .i64 b.mo, .int .i64 b.bo, .int .i64 b.fr, .slice pb lb cb] rfl (by kernel_rfl) (by simp [Value.oneCell']) #[.int .i64 0, .int .i64 0, .int .i64 0, .int .i64 0, .int .i64 0, .int .i64 0, .slice none 0 0] 24 G113.out rfl rfl ?_
        intro U4 hU
        have HB4 : Hid (Below W3.heap.size W3 U4) := hU.bel _ _ HG11.out HB3.out
        have FE4 : Hid (Came U4 pb lb cb b.ds) := came_upd FE3.out hU HEE11.out
        have G114 : Hid (Blk U4 g11 #[.int .i64 b.me, .int .i64 b.rv, .int .i64 b.nx, .int .i64 b.mo, .int .i64 b.bo, .int .i64 b.fr, .slice pb lb cb] 24) := hU.blk
        have G124 : Hid (Blk U4 g12 #[.int .i64 0, .int .i64 0, .int .i64 0, .int .i64 0, .int .i64 0, .int .i64 0, .int .i64 0] 27) := hU.keep G123.out (by have := HD1112.out; omega)
        refine hK.out _ _ HB4.out (fun hHeld => ?_)
        clear hK hU HB3 FE3 G113 G123
        refine wpAnyH_ready (rs := [14]) (by kernel_rfl) (by simp) (AllReadyH.cons rfl (fun K hK => ?_) AllReadyH.nil)
        rw [if_pos (by rfl)]
        refine wp_letOp 27 _ _ rfl g12 rfl #[.int .i64 l.id, .int .i64 l.te, .int .i64 l.de, .int .i64 l.fe, .int .i64 l.pr, .int .i64 l.ch, .int .i64 l.un] rfl (by kernel_rfl) (by simp [Value.oneCell']) #[.int .i64 0, .int .i64 0, .int .i64 0, .int .i64 0, .int .i64 0, .int .i64 0, .int .i64 0] 27 G124.out rfl rfl ?_
        intro U5 hU
        have HB5 : Hid (Below W3.heap.size W3 U5) := hU.bel _ _ HG12.out HB4.out
        have FE5 : Hid (Came U5 pb lb cb b.ds) := came_upd FE4.out hU HEE12.out
        have G115 : Hid (Blk U5 g11 #[.int .i64 b.me, .int .i64 b.rv, .int .i64 b.nx, .int .i64 b.mo, .int .i64 b.bo, .int .i64 b.fr, .slice pb lb cb] 24) := hU.keep G114.out (by have := HD1112.out; omega)
        have G125 : Hid (Blk U5 g12 #[.int .i64 l.id, .int .i64 l.te, .int .i64 l.de, .int .i64 l.fe, .int .i64 l.pr, .int .i64 l.ch, .int .i64 l.un] 27) := hU.blk
        refine hK.out _ _ HB5.out (fun hHeld => ?_)
        clear hK hU HB4 FE4 G114 G124
        refine take_at 15 14 (.int .i64 fb) _ rfl rfl (by kernel_rfl) (by kernel_rfl) (by kernel_rfl) (fun _ _ _ h => h) (Or.inl ⟨by rfl, fun v hv => by clear hv; go_simp⟩) hHeld ?_
        simp only [Act.put, List.setIfInBounds_toArray, List.set_cons_zero, List.set_cons_succ]
        refine wpAnyH_done (by kernel_rfl) ?_ _
        clear hHeld
        go_wp2_with fail
        go_meet
        case rel => exact ⟨g11, g12, b, l, pb, lb, cb, fb, rfl, rfl, rfl, G115.out, G125.out, HI.out, FE5.out, HB5.out⟩
      · rw [if_pos (by rfl)]
        have HB2 : Hid (Below W3.heap.size W3 (U1.alloc (.cells #[.int .i64 0, .int .i64 0, .int .i64 0, .int .i64 0, .int .i64 0, .int .i64 0, .int .i64 0] 27))) := HB1.out.alloc HB1.out.size _
        have HG12 : Hid (W3.heap.size ≤ U1.heap.size) := HB1.out.size
        have FE2 : Hid (Came (U1.alloc (.cells #[.int .i64 0, .int .i64 0, .int .i64 0, .int .i64 0, .int .i64 0, .int .i64 0, .int .i64 0] 27)) pb lb cb b.ds) := FE1.out.below ((Below.refl _ _).alloc (Nat.le_refl _) _)
        have HEE12 : Hid (0 < lb → ∀ y, pb = some y → y.block ≠ U1.heap.size) := fun hn y hy => Nat.ne_of_lt (came_lt FE1.out hn y hy)
        have G122 : Hid (Blk (U1.alloc (.cells #[.int .i64 0, .int .i64 0, .int .i64 0, .int .i64 0, .int .i64 0, .int .i64 0, .int .i64 0] 27)) U1.heap.size #[.int .i64 0, .int .i64 0, .int .i64 0, .int .i64 0, .int .i64 0, .int .i64 0, .int .i64 0] 27) := Blk.new _ _ _
        refine wp_runOp (v := .pointer (some ⟨U1.heap.size, 0, none⟩)) (w' := (U1.alloc (.cells #[.int .i64 0, .int .i64 0, .int .i64 0, .int .i64 0, .int .i64 0, .int .i64 0, .int .i64 0] 27))) 13 rfl (by clear hK; go_simp) ?_
        refine hK.out _ _ HB2.out (fun hHeld => ?_)
        clear hK HB1 FE1
        simp only [Act.put, List.setIfInBounds_toArray, List.set_cons_zero, List.set_cons_succ]
        generalize U1.heap.size = g12 at *
        generalize U1.alloc _ = U2 at *
        refine wpAnyH_ready (rs := [11]) (by kernel_rfl) (by simp) (AllReadyH.cons rfl (fun K hK => ?_) AllReadyH.nil)
        rw [if_pos (by rfl)]
        have HB3 : Hid (Below W3.heap.size W3 (U2.alloc (.cells #[.int .i64 0, .int .i64 0, .int .i64 0, .int .i64 0, .int .i64 0, .int .i64 0, .slice none 0 0] 24))) := HB2.out.alloc HB2.out.size _
        have HG11 : Hid (W3.heap.size ≤ U2.heap.size) := HB2.out.size
        have FE3 : Hid (Came (U2.alloc (.cells #[.int .i64 0, .int .i64 0, .int .i64 0, .int .i64 0, .int .i64 0, .int .i64 0, .slice none 0 0] 24)) pb lb cb b.ds) := FE2.out.below ((Below.refl _ _).alloc (Nat.le_refl _) _)
        have HEE11 : Hid (0 < lb → ∀ y, pb = some y → y.block ≠ U2.heap.size) := fun hn y hy => Nat.ne_of_lt (came_lt FE2.out hn y hy)
        have HD1211 : Hid (g12 ≠ U2.heap.size) := Nat.ne_of_lt G122.out.lt
        have G123 : Hid (Blk (U2.alloc (.cells #[.int .i64 0, .int .i64 0, .int .i64 0, .int .i64 0, .int .i64 0, .int .i64 0, .slice none 0 0] 24)) g12 #[.int .i64 0, .int .i64 0, .int .i64 0, .int .i64 0, .int .i64 0, .int .i64 0, .int .i64 0] 27) := G122.out.alloc _
        have G113 : Hid (Blk (U2.alloc (.cells #[.int .i64 0, .int .i64 0, .int .i64 0, .int .i64 0, .int .i64 0, .int .i64 0, .slice none 0 0] 24)) U2.heap.size #[.int .i64 0, .int .i64 0, .int .i64 0, .int .i64 0, .int .i64 0, .int .i64 0, .slice none 0 0] 24) := Blk.new _ _ _
        refine wp_runOp (v := .pointer (some ⟨U2.heap.size, 0, none⟩)) (w' := (U2.alloc (.cells #[.int .i64 0, .int .i64 0, .int .i64 0, .int .i64 0, .int .i64 0, .int .i64 0, .slice none 0 0] 24))) 12 rfl (by clear hK; go_simp) ?_
        refine hK.out _ _ HB3.out (fun hHeld => ?_)
        clear hK HB2 FE2 G122
        simp only [Act.put, List.setIfInBounds_toArray, List.set_cons_zero, List.set_cons_succ]
        generalize U2.heap.size = g11 at *
        generalize U2.alloc _ = U3 at *
        refine wpAnyH_ready (rs := [13]) (by kernel_rfl) (by simp) (AllReadyH.cons rfl (fun K hK => ?_) AllReadyH.nil)
        rw [if_pos (by rfl)]
        refine wp_letOp 24 _ _ rfl g11 rfl #[.int .i64 b.me, .int .i64 b.rv, .int .i64 b.nx, .int .i64 b.mo, .int .i64 b.bo, .int .i64 b.fr, .slice pb lb cb] rfl (by kernel_rfl) (by simp [Value.oneCell']) #[.int .i64 0, .int .i64 0, .int .i64 0, .int .i64 0, .int .i64 0, .int .i64 0, .slice none 0 0] 24 G113.out rfl rfl ?_
        intro U4 hU
        have HB4 : Hid (Below W3.heap.size W3 U4) := hU.bel _ _ HG11.out HB3.out
        have FE4 : Hid (Came U4 pb lb cb b.ds) := came_upd FE3.out hU HEE11.out
        have G124 : Hid (Blk U4 g12 #[.int .i64 0, .int .i64 0, .int .i64 0, .int .i64 0, .int .i64 0, .int .i64 0, .int .i64 0] 27) := hU.keep G123.out (by have := HD1211.out; omega)
        have G114 : Hid (Blk U4 g11 #[.int .i64 b.me, .int .i64 b.rv, .int .i64 b.nx, .int .i64 b.mo, .int .i64 b.bo, .int .i64 b.fr, .slice pb lb cb] 24) := hU.blk
        refine hK.out _ _ HB4.out (fun hHeld => ?_)
        clear hK hU HB3 FE3 G123 G113
        refine wpAnyH_ready (rs := [14]) (by kernel_rfl) (by simp) (AllReadyH.cons rfl (fun K hK => ?_) AllReadyH.nil)
        rw [if_pos (by rfl)]
        refine wp_letOp 27 _ _ rfl g12 rfl #[.int .i64 l.id, .int .i64 l.te, .int .i64 l.de, .int .i64 l.fe, .int .i64 l.pr, .int .i64 l.ch, .int .i64 l.un] rfl (by kernel_rfl) (by simp [Value.oneCell']) #[.int .i64 0, .int .i64 0, .int .i64 0, .int .i64 0, .int .i64 0, .int .i64 0, .int .i64 0] 27 G124.out rfl rfl ?_
        intro U5 hU
        have HB5 : Hid (Below W3.heap.size W3 U5) := hU.bel _ _ HG12.out HB4.out
        have FE5 : Hid (Came U5 pb lb cb b.ds) := came_upd FE4.out hU HEE12.out
        have G125 : Hid (Blk U5 g12 #[.int .i64 l.id, .int .i64 l.te, .int .i64 l.de, .int .i64 l.fe, .int .i64 l.pr, .int .i64 l.ch, .int .i64 l.un] 27) := hU.blk
        have G115 : Hid (Blk U5 g11 #[.int .i64 b.me, .int .i64 b.rv, .int .i64 b.nx, .int .i64 b.mo, .int .i64 b.bo, .int .i64 b.fr, .slice pb lb cb] 24) := hU.keep G114.out (by have := HD1211.out; omega)
        refine hK.out _ _ HB5.out (fun hHeld => ?_)
        clear hK hU HB4 FE4 G124 G114
        refine take_at 15 14 (.int .i64 fb) _ rfl rfl (by kernel_rfl) (by kernel_rfl) (by kernel_rfl) (fun _ _ _ h => h) (Or.inl ⟨by rfl, fun v hv => by clear hv; go_simp⟩) hHeld ?_
        simp only [Act.put, List.setIfInBounds_toArray, List.set_cons_zero, List.set_cons_succ]
        refine wpAnyH_done (by kernel_rfl) ?_ _
        clear hHeld
        go_wp2_with fail
        go_meet
        case rel => exact ⟨g11, g12, b, l, pb, lb, cb, fb, rfl, rfl, rfl, G115.out, G125.out, HI.out, FE5.out, HB5.out⟩
    · rw [if_pos (by rfl)]
      have HB1 : Hid (Below W3.heap.size W3 (U0.alloc (.cells #[.int .i64 0, .int .i64 0, .int .i64 0, .int .i64 0, .int .i64 0, .int .i64 0, .slice none 0 0] 24))) := HB0.out.alloc HB0.out.size _
      have HG11 : Hid (W3.heap.size ≤ U0.heap.size) := HB0.out.size
      have G111 : Hid (Blk (U0.alloc (.cells #[.int .i64 0, .int .i64 0, .int .i64 0, .int .i64 0, .int .i64 0, .int .i64 0, .slice none 0 0] 24)) U0.heap.size #[.int .i64 0, .int .i64 0, .int .i64 0, .int .i64 0, .int .i64 0, .int .i64 0, .slice none 0 0] 24) := Blk.new _ _ _
      refine wp_runOp (v := .pointer (some ⟨U0.heap.size, 0, none⟩)) (w' := (U0.alloc (.cells #[.int .i64 0, .int .i64 0, .int .i64 0, .int .i64 0, .int .i64 0, .int .i64 0, .slice none 0 0] 24))) 12 rfl (by clear hK; go_simp) ?_
      refine hK.out _ _ HB1.out (fun hHeld => ?_)
      clear hK HB0
      simp only [Act.put, List.setIfInBounds_toArray, List.set_cons_zero, List.set_cons_succ]
      generalize U0.heap.size = g11 at *
      generalize U0.alloc _ = U1 at *
      refine wpAnyH_ready (rs := [6, 12]) (by kernel_rfl) (by simp) (AllReadyH.cons rfl (fun K hK => ?_) (AllReadyH.cons rfl (fun K hK => ?_) AllReadyH.nil))
      · rw [if_pos (by rfl)]
        refine wp_callOp 41 rfl (by clear hK; go_simp) (HSL.out U1 HB1.out) ?_
        rintro e U2 ⟨b, l, pb, lb, cb, fb, rfl, hi, hf, hb⟩
        have HB2 : Hid (Below W3.heap.size W3 U2) := bel_step HB1.out hb
        have FE2 : Hid (Came U2 pb lb cb b.ds) := hf.came
        have HEE11 : Hid (0 < lb → ∀ y, pb = some y → y.block ≠ g11) := fun hn y hy => by have h1 := hf.new hn y hy; have h2 := G111.out.lt; omega
        have G112 : Hid (Blk U2 g11 #[.int .i64 0, .int .i64 0, .int .i64 0, .int .i64 0, .int .i64 0, .int .i64 0, .slice none 0 0] 24) := G111.out.next hb
        have HI : Hid (SellIs a u tn mm b l fb) := hi
        refine ⟨_, rfl, hK.out _ _ HB2.out (fun hHeld => ?_)⟩
        clear hK hi hf hb HB1 G111
        simp only [Act.put, List.setIfInBounds_toArray, List.set_cons_zero, List.set_cons_succ]
        unfold Ac.v Ac.cs Bi.v
        refine take_at 7 34 (.tuple #[.agg #[.int .i64 b.me, .int .i64 b.rv, .int .i64 b.nx, .int .i64 b.mo, .int .i64 b.bo, .int .i64 b.fr, .slice pb lb cb], .agg #[.int .i64 l.id, .int .i64 l.te, .int .i64 l.de, .int .i64 l.fe, .int .i64 l.pr, .int .i64 l.ch, .int .i64 l.un], .int .i64 fb]) _ rfl rfl (by kernel_rfl) (by kernel_rfl) (by kernel_rfl) (fun _ _ _ h => h) (Or.inl ⟨by rfl, fun v hv => by clear hv; go_simp⟩) hHeld ?_
        simp only [Act.put, List.setIfInBounds_toArray, List.set_cons_zero, List.set_cons_succ]
        refine take_at 8 42 (.agg #[.int .i64 b.me, .int .i64 b.rv, .int .i64 b.nx, .int .i64 b.mo, .int .i64 b.bo, .int .i64 b.fr, .slice pb lb cb]) _ rfl rfl (by kernel_rfl) (by kernel_rfl) (by kernel_rfl) (fun _ _ _ h => h) (Or.inl ⟨by rfl, fun v hv => by clear hv; go_simp⟩) hHeld ?_
        simp only [Act.put, List.setIfInBounds_toArray, List.set_cons_zero, List.set_cons_succ]
        refine take_at 9 43 (.agg #[.int .i64 l.id, .int .i64 l.te, .int .i64 l.de, .int .i64 l.fe, .int .i64 l.pr, .int .i64 l.ch, .int .i64 l.un]) _ rfl rfl (by kernel_rfl) (by kernel_rfl) (by kernel_rfl) (fun _ _ _ h => h) (Or.inl ⟨by rfl, fun v hv => by clear hv; go_simp⟩) hHeld ?_
        simp only [Act.put, List.setIfInBounds_toArray, List.set_cons_zero, List.set_cons_succ]
        refine take_at 10 44 (.int .i64 fb) _ rfl rfl (by kernel_rfl) (by kernel_rfl) (by kernel_rfl) (fun _ _ _ h => h) (Or.inl ⟨by rfl, fun v hv => by clear hv; go_simp⟩) hHeld ?_
        simp only [Act.put, List.setIfInBounds_toArray, List.set_cons_zero, List.set_cons_succ]
        refine wpAnyH_ready (rs := [12]) (by kernel_rfl) (by simp) (AllReadyH.cons rfl (fun K hK => ?_) AllReadyH.nil)
        rw [if_pos (by rfl)]
        have HB3 : Hid (Below W3.heap.size W3 (U2.alloc (.cells #[.int .i64 0, .int .i64 0, .int .i64 0, .int .i64 0, .int .i64 0, .int .i64 0, .int .i64 0] 27))) := HB2.out.alloc HB2.out.size _
        have HG12 : Hid (W3.heap.size ≤ U2.heap.size) := HB2.out.size
        have FE3 : Hid (Came (U2.alloc (.cells #[.int .i64 0, .int .i64 0, .int .i64 0, .int .i64 0, .int .i64 0, .int .i64 0, .int .i64 0] 27)) pb lb cb b.ds) := FE2.out.below ((Below.refl _ _).alloc (Nat.le_refl _) _)
        have HEE12 : Hid (0 < lb → ∀ y, pb = some y → y.block ≠ U2.heap.size) := fun hn y hy => Nat.ne_of_lt (came_lt FE2.out hn y hy)
        have HD1112 : Hid (g11 ≠ U2.heap.size) := Nat.ne_of_lt G112.out.lt
        have G113 : Hid (Blk (U2.alloc (.cells #[.int .i64 0, .int .i64 0, .int .i64 0, .int .i64 0, .int .i64 0, .int .i64 0, .int .i64 0] 27)) g11 #[.int .i64 0, .int .i64 0, .int .i64 0, .int .i64 0, .int .i64 0, .int .i64 0, .slice none 0 0] 24) := G112.out.alloc _
        have G123 : Hid (Blk (U2.alloc (.cells #[.int .i64 0, .int .i64 0, .int .i64 0, .int .i64 0, .int .i64 0, .int .i64 0, .int .i64 0] 27)) U2.heap.size #[.int .i64 0, .int .i64 0, .int .i64 0, .int .i64 0, .int .i64 0, .int .i64 0, .int .i64 0] 27) := Blk.new _ _ _
        refine wp_runOp (v := .pointer (some ⟨U2.heap.size, 0, none⟩)) (w' := (U2.alloc (.cells #[.int .i64 0, .int .i64 0, .int .i64 0, .int .i64 0, .int .i64 0, .int .i64 0, .int .i64 0] 27))) 13 rfl (by clear hK; go_simp) ?_
        refine hK.out _ _ HB3.out (fun hHeld => ?_)
        clear hK HB2 FE2 G112
        simp only [Act.put, List.setIfInBounds_toArray, List.set_cons_zero, List.set_cons_succ]
        generalize U2.heap.size = g12 at *
        generalize U2.alloc _ = U3 at *
        refine wpAnyH_ready (rs := [13]) (by kernel_rfl) (by simp) (AllReadyH.cons rfl (fun K hK => ?_) AllReadyH.nil)
        rw [if_pos (by rfl)]
        refine wp_letOp 24 _ _ rfl g11 rfl #[.int .i64 b.me, .int .i64 b.rv, .int .i64 b.nx, .int .i64 b.mo, .int .i64 b.bo, .int .i64 b.fr, .slice pb lb cb] rfl (by kernel_rfl) (by simp [Value.oneCell']) #[.int .i64 0, .int .i64 0, .int .i64 0, .int .i64 0, .int .i64 0, .int .i64 0, .slice none 0 0] 24 G113.out rfl rfl ?_
        intro U4 hU
        have HB4 : Hid (Below W3.heap.size W3 U4) := hU.bel _ _ HG11.out HB3.out
        have FE4 : Hid (Came U4 pb lb cb b.ds) := came_upd FE3.out hU HEE11.out
        have G114 : Hid (Blk U4 g11 #[.int .i64 b.me, .int .i64 b.rv, .int .i64 b.nx, .int .i64 b.mo, .int .i64 b.bo, .int .i64 b.fr, .slice pb lb cb] 24) := hU.blk
        have G124 : Hid (Blk U4 g12 #[.int .i64 0, .int .i64 0, .int .i64 0, .int .i64 0, .int .i64 0, .int .i64 0, .int .i64 0] 27) := hU.keep G123.out (by have := HD1112.out; omega)
        refine hK.out _ _ HB4.out (fun hHeld => ?_)
        clear hK hU HB3 FE3 G113 G123
        refine wpAnyH_ready (rs := [14]) (by kernel_rfl) (by simp) (AllReadyH.cons rfl (fun K hK => ?_) AllReadyH.nil)
        rw [if_pos (by rfl)]
        refine wp_letOp 27 _ _ rfl g12 rfl #[.int .i64 l.id, .int .i64 l.te, .int .i64 l.de, .int .i64 l.fe, .int .i64 l.pr, .int .i64 l.ch, .int .i64 l.un] rfl (by kernel_rfl) (by simp [Value.oneCell']) #[.int .i64 0, .int .i64 0, .int .i64 0, .int .i64 0, .int .i64 0, .int .i64 0, .int .i64 0] 27 G124.out rfl rfl ?_
        intro U5 hU
        have HB5 : Hid (Below W3.heap.size W3 U5) := hU.bel _ _ HG12.out HB4.out
        have FE5 : Hid (Came U5 pb lb cb b.ds) := came_upd FE4.out hU HEE12.out
        have G115 : Hid (Blk U5 g11 #[.int .i64 b.me, .int .i64 b.rv, .int .i64 b.nx, .int .i64 b.mo, .int .i64 b.bo, .int .i64 b.fr, .slice pb lb cb] 24) := hU.keep G114.out (by have := HD1112.out; omega)
        have G125 : Hid (Blk U5 g12 #[.int .i64 l.id, .int .i64 l.te, .int .i64 l.de, .int .i64 l.fe, .int .i64 l.pr, .int .i64 l.ch, .int .i64 l.un] 27) := hU.blk
        refine hK.out _ _ HB5.out (fun hHeld => ?_)
        clear hK hU HB4 FE4 G114 G124
        refine take_at 15 14 (.int .i64 fb) _ rfl rfl (by kernel_rfl) (by kernel_rfl) (by kernel_rfl) (fun _ _ _ h => h) (Or.inl ⟨by rfl, fun v hv => by clear hv; go_simp⟩) hHeld ?_
        simp only [Act.put, List.setIfInBounds_toArray, List.set_cons_zero, List.set_cons_succ]
        refine wpAnyH_done (by kernel_rfl) ?_ _
        clear hHeld
        go_wp2_with fail
        go_meet
        case rel => exact ⟨g11, g12, b, l, pb, lb, cb, fb, rfl, rfl, rfl, G115.out, G125.out, HI.out, FE5.out, HB5.out⟩
      · rw [if_pos (by rfl)]
        have HB2 : Hid (Below W3.heap.size W3 (U1.alloc (.cells #[.int .i64 0, .int .i64 0, .int .i64 0, .int .i64 0, .int .i64 0, .int .i64 0, .int .i64 0] 27))) := HB1.out.alloc HB1.out.size _
        have HG12 : Hid (W3.heap.size ≤ U1.heap.size) := HB1.out.size
        have HD1112 : Hid (g11 ≠ U1.heap.size) := Nat.ne_of_lt G111.out.lt
        have G112 : Hid (Blk (U1.alloc (.cells #[.int .i64 0, .int .i64 0, .int .i64 0, .int .i64 0, .int .i64 0, .int .i64 0, .int .i64 0] 27)) g11 #[.int .i64 0, .int .i64 0, .int .i64 0, .int .i64 0, .int .i64 0, .int .i64 0, .slice none 0 0] 24) := G111.out.alloc _
        have G122 : Hid (Blk (U1.alloc (.cells #[.int .i64 0, .int .i64 0, .int .i64 0, .int .i64 0, .int .i64 0, .int .i64 0, .int .i64 0] 27)) U1.heap.size #[.int .i64 0, .int .i64 0, .int .i64 0, .int .i64 0, .int .i64 0, .int .i64 0, .int .i64 0] 27) := Blk.new _ _ _
        refine wp_runOp (v := .pointer (some ⟨U1.heap.size, 0, none⟩)) (w' := (U1.alloc (.cells #[.int .i64 0, .int .i64 0, .int .i64 0, .int .i64 0, .int .i64 0, .int .i64 0, .int .i64 0] 27))) 13 rfl (by clear hK; go_simp) ?_
        refine hK.out _ _ HB2.out (fun hHeld => ?_)
        clear hK HB1 G111
        simp only [Act.put, List.setIfInBounds_toArray, List.set_cons_zero, List.set_cons_succ]
        generalize U1.heap.size = g12 at *
        generalize U1.alloc _ = U2 at *
        refine wpAnyH_ready (rs := [6]) (by kernel_rfl) (by simp) (AllReadyH.cons rfl (fun K hK => ?_) AllReadyH.nil)
        rw [if_pos (by rfl)]
        refine wp_callOp 41 rfl (by clear hK; go_simp) (HSL.out U2 HB2.out) ?_
        rintro e U3 ⟨b, l, pb, lb, cb, fb, rfl, hi, hf, hb⟩
        have HB3 : Hid (Below W3.heap.size W3 U3) := bel_step HB2.out hb
        have FE3 : Hid (Came U3 pb lb cb b.ds) := hf.came
        have HEE11 : Hid (0 < lb → ∀ y, pb = some y → y.block ≠ g11) := fun hn y hy => by have h1 := hf.new hn y hy; have h2 := G112.out.lt; omega
        have G113 : Hid (Blk U3 g11 #[.int .i64 0, .int .i64 0, .int .i64 0, .int .i64 0, .int .i64 0, .int .i64 0, .slice none 0 0] 24) := G112.out.next hb
        have HEE12 : Hid (0 < lb → ∀ y, pb = some y → y.block ≠ g12) := fun hn y hy => by have h1 := hf.new hn y hy; have h2 := G122.out.lt; omega
        have G123 : Hid (Blk U3 g12 #[.int .i64 0, .int .i64 0, .int .i64 0, .int .i64 0, .int .i64 0, .int .i64 0, .int .i64 0] 27) := G122.out.next hb
        have HI : Hid (SellIs a u tn mm b l fb) := hi
        refine ⟨_, rfl, hK.out _ _ HB3.out (fun hHeld => ?_)⟩
        clear hK hi hf hb HB2 G112 G122
        simp only [Act.put, List.setIfInBounds_toArray, List.set_cons_zero, List.set_cons_succ]
        unfold Ac.v Ac.cs Bi.v
        refine take_at 7 34 (.tuple #[.agg #[.int .i64 b.me, .int .i64 b.rv, .int .i64 b.nx, .int .i64 b.mo, .int .i64 b.bo, .int .i64 b.fr, .slice pb lb cb], .agg #[.int .i64 l.id, .int .i64 l.te, .int .i64 l.de, .int .i64 l.fe, .int .i64 l.pr, .int .i64 l.ch, .int .i64 l.un], .int .i64 fb]) _ rfl rfl (by kernel_rfl) (by kernel_rfl) (by kernel_rfl) (fun _ _ _ h => h) (Or.inl ⟨by rfl, fun v hv => by clear hv; go_simp⟩) hHeld ?_
        simp only [Act.put, List.setIfInBounds_toArray, List.set_cons_zero, List.set_cons_succ]
        refine take_at 8 42 (.agg #[.int .i64 b.me, .int .i64 b.rv, .int .i64 b.nx, .int .i64 b.mo, .int .i64 b.bo, .int .i64 b.fr, .slice pb lb cb]) _ rfl rfl (by kernel_rfl) (by kernel_rfl) (by kernel_rfl) (fun _ _ _ h => h) (Or.inl ⟨by rfl, fun v hv => by clear hv; go_simp⟩) hHeld ?_
        simp only [Act.put, List.setIfInBounds_toArray, List.set_cons_zero, List.set_cons_succ]
        refine take_at 9 43 (.agg #[.int .i64 l.id, .int .i64 l.te, .int .i64 l.de, .int .i64 l.fe, .int .i64 l.pr, .int .i64 l.ch, .int .i64 l.un]) _ rfl rfl (by kernel_rfl) (by kernel_rfl) (by kernel_rfl) (fun _ _ _ h => h) (Or.inl ⟨by rfl, fun v hv => by clear hv; go_simp⟩) hHeld ?_
        simp only [Act.put, List.setIfInBounds_toArray, List.set_cons_zero, List.set_cons_succ]
        refine take_at 10 44 (.int .i64 fb) _ rfl rfl (by kernel_rfl) (by kernel_rfl) (by kernel_rfl) (fun _ _ _ h => h) (Or.inl ⟨by rfl, fun v hv => by clear hv; go_simp⟩) hHeld ?_
        simp only [Act.put, List.setIfInBounds_toArray, List.set_cons_zero, List.set_cons_succ]
        refine wpAnyH_ready (rs := [13]) (by kernel_rfl) (by simp) (AllReadyH.cons rfl (fun K hK => ?_) AllReadyH.nil)
        rw [if_pos (by rfl)]
        refine wp_letOp 24 _ _ rfl g11 rfl #[.int .i64 b.me, .int .i64 b.rv, .int .i64 b.nx, .int .i64 b.mo, .int .i64 b.bo, .int .i64 b.fr, .slice pb lb cb] rfl (by kernel_rfl) (by simp [Value.oneCell']) #[.int .i64 0, .int .i64 0, .int .i64 0, .int .i64 0, .int .i64 0, .int .i64 0, .slice none 0 0] 24 G113.out rfl rfl ?_
        intro U4 hU
        have HB4 : Hid (Below W3.heap.size W3 U4) := hU.bel _ _ HG11.out HB3.out
        have FE4 : Hid (Came U4 pb lb cb b.ds) := came_upd FE3.out hU HEE11.out
        have G114 : Hid (Blk U4 g11 #[.int .i64 b.me, .int .i64 b.rv, .int .i64 b.nx, .int .i64 b.mo, .int .i64 b.bo, .int .i64 b.fr, .slice pb lb cb] 24) := hU.blk
        have G124 : Hid (Blk U4 g12 #[.int .i64 0, .int .i64 0, .int .i64 0, .int .i64 0, .int .i64 0, .int .i64 0, .int .i64 0] 27) := hU.keep G123.out (by have := HD1112.out; omega)
        refine hK.out _ _ HB4.out (fun hHeld => ?_)
        clear hK hU HB3 FE3 G113 G123
        refine wpAnyH_ready (rs := [14]) (by kernel_rfl) (by simp) (AllReadyH.cons rfl (fun K hK => ?_) AllReadyH.nil)
        rw [if_pos (by rfl)]
        refine wp_letOp 27 _ _ rfl g12 rfl #[.int .i64 l.id, .int .i64 l.te, .int .i64 l.de, .int .i64 l.fe, .int .i64 l.pr, .int .i64 l.ch, .int .i64 l.un] rfl (by kernel_rfl) (by simp [Value.oneCell']) #[.int .i64 0, .int .i64 0, .int .i64 0, .int .i64 0, .int .i64 0, .int .i64 0, .int .i64 0] 27 G124.out rfl rfl ?_
        intro U5 hU
        have HB5 : Hid (Below W3.heap.size W3 U5) := hU.bel _ _ HG12.out HB4.out
        have FE5 : Hid (Came U5 pb lb cb b.ds) := came_upd FE4.out hU HEE12.out
        have G115 : Hid (Blk U5 g11 #[.int .i64 b.me, .int .i64 b.rv, .int .i64 b.nx, .int .i64 b.mo, .int .i64 b.bo, .int .i64 b.fr, .slice pb lb cb] 24) := hU.keep G114.out (by have := HD1112.out; omega)
        have G125 : Hid (Blk U5 g12 #[.int .i64 l.id, .int .i64 l.te, .int .i64 l.de, .int .i64 l.fe, .int .i64 l.pr, .int .i64 l.ch, .int .i64 l.un] 27) := hU.blk
        refine hK.out _ _ HB5.out (fun hHeld => ?_)
        clear hK hU HB4 FE4 G114 G124
        refine take_at 15 14 (.int .i64 fb) _ rfl rfl (by kernel_rfl) (by kernel_rfl) (by kernel_rfl) (fun _ _ _ h => h) (Or.inl ⟨by rfl, fun v hv => by clear hv; go_simp⟩) hHeld ?_
        simp only [Act.put, List.setIfInBounds_toArray, List.set_cons_zero, List.set_cons_succ]
        refine wpAnyH_done (by kernel_rfl) ?_ _
        clear hHeld
        go_wp2_with fail
        go_meet
        case rel => exact ⟨g11, g12, b, l, pb, lb, cb, fb, rfl, rfl, rfl, G115.out, G125.out, HI.out, FE5.out, HB5.out⟩
    · rw [if_pos (by rfl)]
      have HB1 : Hid (Below W3.heap.size W3 (U0.alloc (.cells #[.int .i64 0, .int .i64 0, .int .i64 0, .int .i64 0, .int .i64 0, .int .i64 0, .int .i64 0] 27))) := HB0.out.alloc HB0.out.size _
      have HG12 : Hid (W3.heap.size ≤ U0.heap.size) := HB0.out.size
      have G121 : Hid (Blk (U0.alloc (.cells #[.int .i64 0, .int .i64 0, .int .i64 0, .int .i64 0, .int .i64 0, .int .i64 0, .int .i64 0] 27)) U0.heap.size #[.int .i64 0, .int .i64 0, .int .i64 0, .int .i64 0, .int .i64 0, .int .i64 0, .int .i64 0] 27) := Blk.new _ _ _
      refine wp_runOp (v := .pointer (some ⟨U0.heap.size, 0, none⟩)) (w' := (U0.alloc (.cells #[.int .i64 0, .int .i64 0, .int .i64 0, .int .i64 0, .int .i64 0, .int .i64 0, .int .i64 0] 27))) 13 rfl (by clear hK; go_simp) ?_
      refine hK.out _ _ HB1.out (fun hHeld => ?_)
      clear hK HB0
      simp only [Act.put, List.setIfInBounds_toArray, List.set_cons_zero, List.set_cons_succ]
      generalize U0.heap.size = g12 at *
      generalize U0.alloc _ = U1 at *
      refine wpAnyH_ready (rs := [6, 11]) (by kernel_rfl) (by simp) (AllReadyH.cons rfl (fun K hK => ?_) (AllReadyH.cons rfl (fun K hK => ?_) AllReadyH.nil))
      · rw [if_pos (by rfl)]
        refine wp_callOp 41 rfl (by clear hK; go_simp) (HSL.out U1 HB1.out) ?_
        rintro e U2 ⟨b, l, pb, lb, cb, fb, rfl, hi, hf, hb⟩
        have HB2 : Hid (Below W3.heap.size W3 U2) := bel_step HB1.out hb
        have FE2 : Hid (Came U2 pb lb cb b.ds) := hf.came
        have HEE12 : Hid (0 < lb → ∀ y, pb = some y → y.block ≠ g12) := fun hn y hy => by have h1 := hf.new hn y hy; have h2 := G121.out.lt; omega
        have G122 : Hid (Blk U2 g12 #[.int .i64 0, .int .i64 0, .int .i64 0, .int .i64 0, .int .i64 0, .int .i64 0, .int .i64 0] 27) := G121.out.next hb
        have HI : Hid (SellIs a u tn mm b l fb) := hi
        refine ⟨_, rfl, hK.out _ _ HB2.out (fun hHeld => ?_)⟩
        clear hK hi hf hb HB1 G121
        simp only [Act.put, List.setIfInBounds_toArray, List.set_cons_zero, List.set_cons_succ]
        unfold Ac.v Ac.cs Bi.v
        refine take_at 7 34 (.tuple #[.agg #[.int .i64 b.me, .int .i64 b.rv, .int .i64 b.nx, .int .i64 b.mo, .int .i64 b.bo, .int .i64 b.fr, .slice pb lb cb], .agg #[.int .i64 l.id, .int .i64 l.te, .int .i64 l.de, .int .i64 l.fe, .int .i64 l.pr, .int .i64 l.ch, .int .i64 l.un], .int .i64 fb]) _ rfl rfl (by kernel_rfl) (by kernel_rfl) (by kernel_rfl) (fun _ _ _ h => h) (Or.inl ⟨by rfl, fun v hv => by clear hv; go_simp⟩) hHeld ?_
        simp only [Act.put, List.setIfInBounds_toArray, List.set_cons_zero, List.set_cons_succ]
        refine take_at 8 42 (.agg #[.int .i64 b.me, .int .i64 b.rv, .int .i64 b.nx, .int .i64 b.mo, .int .i64 b.bo, .int .i64 b.fr, .slice pb lb cb]) _ rfl rfl (by kernel_rfl) (by kernel_rfl) (by kernel_rfl) (fun _ _ _ h => h) (Or.inl ⟨by rfl, fun v hv => by clear hv; go_simp⟩) hHeld ?_
        simp only [Act.put, List.setIfInBounds_toArray, List.set_cons_zero, List.set_cons_succ]
        refine take_at 9 43 (.agg #[.int .i64 l.id, .int .i64 l.te, .int .i64 l.de, .int .i64 l.fe, .int .i64 l.pr, .int .i64 l.ch, .int .i64 l.un]) _ rfl rfl (by kernel_rfl) (by kernel_rfl) (by kernel_rfl) (fun _ _ _ h => h) (Or.inl ⟨by rfl, fun v hv => by clear hv; go_simp⟩) hHeld ?_
        simp only [Act.put, List.setIfInBounds_toArray, List.set_cons_zero, List.set_cons_succ]
        refine take_at 10 44 (.int .i64 fb) _ rfl rfl (by kernel_rfl) (by kernel_rfl) (by kernel_rfl) (fun _ _ _ h => h) (Or.inl ⟨by rfl, fun v hv => by clear hv; go_simp⟩) hHeld ?_
        simp only [Act.put, List.setIfInBounds_toArray, List.set_cons_zero, List.set_cons_succ]
        refine wpAnyH_ready (rs := [11]) (by kernel_rfl) (by simp) (AllReadyH.cons rfl (fun K hK => ?_) AllReadyH.nil)
        rw [if_pos (by rfl)]
        have HB3 : Hid (Below W3.heap.size W3 (U2.alloc (.cells #[.int .i64 0, .int .i64 0, .int .i64 0, .int .i64 0, .int .i64 0, .int .i64 0, .slice none 0 0] 24))) := HB2.out.alloc HB2.out.size _
        have HG11 : Hid (W3.heap.size ≤ U2.heap.size) := HB2.out.size
        have FE3 : Hid (Came (U2.alloc (.cells #[.int .i64 0, .int .i64 0, .int .i64 0, .int .i64 0, .int .i64 0, .int .i64 0, .slice none 0 0] 24)) pb lb cb b.ds) := FE2.out.below ((Below.refl _ _).alloc (Nat.le_refl _) _)
        have HEE11 : Hid (0 < lb → ∀ y, pb = some y → y.block ≠ U2.heap.size) := fun hn y hy => Nat.ne_of_lt (came_lt FE2.out hn y hy)
        have HD1211 : Hid (g12 ≠ U2.heap.size) := Nat.ne_of_lt G122.out.lt
        have G123 : Hid (Blk (U2.alloc (.cells #[.int .i64 0, .int .i64 0, .int .i64 0, .int .i64 0, .int .i64 0, .int .i64 0, .slice none 0 0] 24)) g12 #[.int .i64 0, .int .i64 0, .int .i64 0, .int .i64 0, .int .i64 0, .int .i64 0, .int .i64 0] 27) := G122.out.alloc _
        have G113 : Hid (Blk (U2.alloc (.cells #[.int .i64 0, .int .i64 0, .int .i64 0, .int .i64 0, .int .i64 0, .int .i64 0, .slice none 0 0] 24)) U2.heap.size #[.int .i64 0, .int .i64 0, .int .i64 0, .int .i64 0, .int .i64 0, .int .i64 0, .slice none 0 0] 24) := Blk.new _ _ _
        refine wp_runOp (v := .pointer (some ⟨U2.heap.size, 0, none⟩)) (w' := (U2.alloc (.cells #[.int .i64 0, .int .i64 0, .int .i64 0, .int .i64 0, .int .i64 0, .int .i64 0, .slice none 0 0] 24))) 12 rfl (by clear hK; go_simp) ?_
        refine hK.out _ _ HB3.out (fun hHeld => ?_)
        clear hK HB2 FE2 G122
        simp only [Act.put, List.setIfInBounds_toArray, List.set_cons_zero, List.set_cons_succ]
        generalize U2.heap.size = g11 at *
        generalize U2.alloc _ = U3 at *
        refine wpAnyH_ready (rs := [13]) (by kernel_rfl) (by simp) (AllReadyH.cons rfl (fun K hK => ?_) AllReadyH.nil)
        rw [if_pos (by rfl)]
        refine wp_letOp 24 _ _ rfl g11 rfl #[.int .i64 b.me, .int .i64 b.rv, .int .i64 b.nx, .int .i64 b.mo, .int .i64 b.bo, .int .i64 b.fr, .slice pb lb cb] rfl (by kernel_rfl) (by simp [Value.oneCell']) #[.int .i64 0, .int .i64 0, .int .i64 0, .int .i64 0, .int .i64 0, .int .i64 0, .slice none 0 0] 24 G113.out rfl rfl ?_
        intro U4 hU
        have HB4 : Hid (Below W3.heap.size W3 U4) := hU.bel _ _ HG11.out HB3.out
        have FE4 : Hid (Came U4 pb lb cb b.ds) := came_upd FE3.out hU HEE11.out
        have G124 : Hid (Blk U4 g12 #[.int .i64 0, .int .i64 0, .int .i64 0, .int .i64 0, .int .i64 0, .int .i64 0, .int .i64 0] 27) := hU.keep G123.out (by have := HD1211.out; omega)
        have G114 : Hid (Blk U4 g11 #[.int .i64 b.me, .int .i64 b.rv, .int .i64 b.nx, .int .i64 b.mo, .int .i64 b.bo, .int .i64 b.fr, .slice pb lb cb] 24) := hU.blk
        refine hK.out _ _ HB4.out (fun hHeld => ?_)
        clear hK hU HB3 FE3 G123 G113
        refine wpAnyH_ready (rs := [14]) (by kernel_rfl) (by simp) (AllReadyH.cons rfl (fun K hK => ?_) AllReadyH.nil)
        rw [if_pos (by rfl)]
        refine wp_letOp 27 _ _ rfl g12 rfl #[.int .i64 l.id, .int .i64 l.te, .int .i64 l.de, .int .i64 l.fe, .int .i64 l.pr, .int .i64 l.ch, .int .i64 l.un] rfl (by kernel_rfl) (by simp [Value.oneCell']) #[.int .i64 0, .int .i64 0, .int .i64 0, .int .i64 0, .int .i64 0, .int .i64 0, .int .i64 0] 27 G124.out rfl rfl ?_
        intro U5 hU
        have HB5 : Hid (Below W3.heap.size W3 U5) := hU.bel _ _ HG12.out HB4.out
        have FE5 : Hid (Came U5 pb lb cb b.ds) := came_upd FE4.out hU HEE12.out
        have G125 : Hid (Blk U5 g12 #[.int .i64 l.id, .int .i64 l.te, .int .i64 l.de, .int .i64 l.fe, .int .i64 l.pr, .int .i64 l.ch, .int .i64 l.un] 27) := hU.blk
        have G115 : Hid (Blk U5 g11 #[.int .i64 b.me, .int .i64 b.rv, .int .i64 b.nx, .int .i64 b.mo, .int .i64 b.bo, .int .i64 b.fr, .slice pb lb cb] 24) := hU.keep G114.out (by have := HD1211.out; omega)
        refine hK.out _ _ HB5.out (fun hHeld => ?_)
        clear hK hU HB4 FE4 G124 G114
        refine take_at 15 14 (.int .i64 fb) _ rfl rfl (by kernel_rfl) (by kernel_rfl) (by kernel_rfl) (fun _ _ _ h => h) (Or.inl ⟨by rfl, fun v hv => by clear hv; go_simp⟩) hHeld ?_
        simp only [Act.put, List.setIfInBounds_toArray, List.set_cons_zero, List.set_cons_succ]
        refine wpAnyH_done (by kernel_rfl) ?_ _
        clear hHeld
        go_wp2_with fail
        go_meet
        case rel => exact ⟨g11, g12, b, l, pb, lb, cb, fb, rfl, rfl, rfl, G115.out, G125.out, HI.out, FE5.out, HB5.out⟩
      · rw [if_pos (by rfl)]
        have HB2 : Hid (Below W3.heap.size W3 (U1.alloc (.cells #[.int .i64 0, .int .i64 0, .int .i64 0, .int .i64 0, .int .i64 0, .int .i64 0, .slice none 0 0] 24))) := HB1.out.alloc HB1.out.size _
        have HG11 : Hid (W3.heap.size ≤ U1.heap.size) := HB1.out.size
        have HD1211 : Hid (g12 ≠ U1.heap.size) := Nat.ne_of_lt G121.out.lt
        have G122 : Hid (Blk (U1.alloc (.cells #[.int .i64 0, .int .i64 0, .int .i64 0, .int .i64 0, .int .i64 0, .int .i64 0, .slice none 0 0] 24)) g12 #[.int .i64 0, .int .i64 0, .int .i64 0, .int .i64 0, .int .i64 0, .int .i64 0, .int .i64 0] 27) := G121.out.alloc _
        have G112 : Hid (Blk (U1.alloc (.cells #[.int .i64 0, .int .i64 0, .int .i64 0, .int .i64 0, .int .i64 0, .int .i64 0, .slice none 0 0] 24)) U1.heap.size #[.int .i64 0, .int .i64 0, .int .i64 0, .int .i64 0, .int .i64 0, .int .i64 0, .slice none 0 0] 24) := Blk.new _ _ _
        refine wp_runOp (v := .pointer (some ⟨U1.heap.size, 0, none⟩)) (w' := (U1.alloc (.cells #[.int .i64 0, .int .i64 0, .int .i64 0, .int .i64 0, .int .i64 0, .int .i64 0, .slice none 0 0] 24))) 12 rfl (by clear hK; go_simp) ?_
        refine hK.out _ _ HB2.out (fun hHeld => ?_)
        clear hK HB1 G121
        simp only [Act.put, List.setIfInBounds_toArray, List.set_cons_zero, List.set_cons_succ]
        generalize U1.heap.size = g11 at *
        generalize U1.alloc _ = U2 at *
        refine wpAnyH_ready (rs := [6]) (by kernel_rfl) (by simp) (AllReadyH.cons rfl (fun K hK => ?_) AllReadyH.nil)
        rw [if_pos (by rfl)]
        refine wp_callOp 41 rfl (by clear hK; go_simp) (HSL.out U2 HB2.out) ?_
        rintro e U3 ⟨b, l, pb, lb, cb, fb, rfl, hi, hf, hb⟩
        have HB3 : Hid (Below W3.heap.size W3 U3) := bel_step HB2.out hb
        have FE3 : Hid (Came U3 pb lb cb b.ds) := hf.came
        have HEE12 : Hid (0 < lb → ∀ y, pb = some y → y.block ≠ g12) := fun hn y hy => by have h1 := hf.new hn y hy; have h2 := G122.out.lt; omega
        have G123 : Hid (Blk U3 g12 #[.int .i64 0, .int .i64 0, .int .i64 0, .int .i64 0, .int .i64 0, .int .i64 0, .int .i64 0] 27) := G122.out.next hb
        have HEE11 : Hid (0 < lb → ∀ y, pb = some y → y.block ≠ g11) := fun hn y hy => by have h1 := hf.new hn y hy; have h2 := G112.out.lt; omega
        have G113 : Hid (Blk U3 g11 #[.int .i64 0, .int .i64 0, .int .i64 0, .int .i64 0, .int .i64 0, .int .i64 0, .slice none 0 0] 24) := G112.out.next hb
        have HI : Hid (SellIs a u tn mm b l fb) := hi
        refine ⟨_, rfl, hK.out _ _ HB3.out (fun hHeld => ?_)⟩
        clear hK hi hf hb HB2 G122 G112
        simp only [Act.put, List.setIfInBounds_toArray, List.set_cons_zero, List.set_cons_succ]
        unfold Ac.v Ac.cs Bi.v
        refine take_at 7 34 (.tuple #[.agg #[.int .i64 b.me, .int .i64 b.rv, .int .i64 b.nx, .int .i64 b.mo, .int .i64 b.bo, .int .i64 b.fr, .slice pb lb cb], .agg #[.int .i64 l.id, .int .i64 l.te, .int .i64 l.de, .int .i64 l.fe, .int .i64 l.pr, .int .i64 l.ch, .int .i64 l.un], .int .i64 fb]) _ rfl rfl (by kernel_rfl) (by kernel_rfl) (by kernel_rfl) (fun _ _ _ h => h) (Or.inl ⟨by rfl, fun v hv => by clear hv; go_simp⟩) hHeld ?_
        simp only [Act.put, List.setIfInBounds_toArray, List.set_cons_zero, List.set_cons_succ]
        refine take_at 8 42 (.agg #[.int .i64 b.me, .int .i64 b.rv, .int .i64 b.nx, .int .i64 b.mo, .int .i64 b.bo, .int .i64 b.fr, .slice pb lb cb]) _ rfl rfl (by kernel_rfl) (by kernel_rfl) (by kernel_rfl) (fun _ _ _ h => h) (Or.inl ⟨by rfl, fun v hv => by clear hv; go_simp⟩) hHeld ?_
        simp only [Act.put, List.setIfInBounds_toArray, List.set_cons_zero, List.set_cons_succ]
        refine take_at 9 43 (.agg #[.int .i64 l.id, .int .i64 l.te, .int .i64 l.de, .int .i64 l.fe, .int .i64 l.pr, .int .i64 l.ch, .int .i64 l.un]) _ rfl rfl (by kernel_rfl) (by kernel_rfl) (by kernel_rfl) (fun _ _ _ h => h) (Or.inl ⟨by rfl, fun v hv => by clear hv; go_simp⟩) hHeld ?_
        simp only [Act.put, List.setIfInBounds_toArray, List.set_cons_zero, List.set_cons_succ]
        refine take_at 10 44 (.int .i64 fb) _ rfl rfl (by kernel_rfl) (by kernel_rfl) (by kernel_rfl) (fun _ _ _ h => h) (Or.inl ⟨by rfl, fun v hv => by clear hv; go_simp⟩) hHeld ?_
        simp only [Act.put, List.setIfInBounds_toArray, List.set_cons_zero, List.set_cons_succ]
        refine wpAnyH_ready (rs := [13]) (by kernel_rfl) (by simp) (AllReadyH.cons rfl (fun K hK => ?_) AllReadyH.nil)
        rw [if_pos (by rfl)]
        refine wp_letOp 24 _ _ rfl g11 rfl #[.int .i64 b.me, .int .i64 b.rv, .int .i64 b.nx, .int .i64 b.mo, .int .i64 b.bo, .int .i64 b.fr, .slice pb lb cb] rfl (by kernel_rfl) (by simp [Value.oneCell']) #[.int .i64 0, .int .i64 0, .int .i64 0, .int .i64 0, .int .i64 0, .int .i64 0, .slice none 0 0] 24 G113.out rfl rfl ?_
        intro U4 hU
        have HB4 : Hid (Below W3.heap.size W3 U4) := hU.bel _ _ HG11.out HB3.out
        have FE4 : Hid (Came U4 pb lb cb b.ds) := came_upd FE3.out hU HEE11.out
        have G124 : Hid (Blk U4 g12 #[.int .i64 0, .int .i64 0, .int .i64 0, .int .i64 0, .int .i64 0, .int .i64 0, .int .i64 0] 27) := hU.keep G123.out (by have := HD1211.out; omega)
        have G114 : Hid (Blk U4 g11 #[.int .i64 b.me, .int .i64 b.rv, .int .i64 b.nx, .int .i64 b.mo, .int .i64 b.bo, .int .i64 b.fr, .slice pb lb cb] 24) := hU.blk
        refine hK.out _ _ HB4.out (fun hHeld => ?_)
        clear hK hU HB3 FE3 G123 G113
        refine wpAnyH_ready (rs := [14]) (by kernel_rfl) (by simp) (AllReadyH.cons rfl (fun K hK => ?_) AllReadyH.nil)
        rw [if_pos (by rfl)]
        refine wp_letOp 27 _ _ rfl g12 rfl #[.int .i64 l.id, .int .i64 l.te, .int .i64 l.de, .int .i64 l.fe, .int .i64 l.pr, .int .i64 l.ch, .int .i64 l.un] rfl (by kernel_rfl) (by simp [Value.oneCell']) #[.int .i64 0, .int .i64 0, .int .i64 0, .int .i64 0, .int .i64 0, .int .i64 0, .int .i64 0] 27 G124.out rfl rfl ?_
        intro U5 hU
        have HB5 : Hid (Below W3.heap.size W3 U5) := hU.bel _ _ HG12.out HB4.out
        have FE5 : Hid (Came U5 pb lb cb b.ds) := came_upd FE4.out hU HEE12.out
        have G125 : Hid (Blk U5 g12 #[.int .i64 l.id, .int .i64 l.te, .int .i64 l.de, .int .i64 l.fe, .int .i64 l.pr, .int .i64 l.ch, .int .i64 l.un] 27) := hU.blk
        have G115 : Hid (Blk U5 g11 #[.int .i64 b.me, .int .i64 b.rv, .int .i64 b.nx, .int .i64 b.mo, .int .i64 b.bo, .int .i64 b.fr, .slice pb lb cb] 24) := hU.keep G114.out (by have := HD1211.out; omega)
        refine hK.out _ _ HB5.out (fun hHeld => ?_)
        clear hK hU HB4 FE4 G124 G114
        refine take_at 15 14 (.int .i64 fb) _ rfl rfl (by kernel_rfl) (by kernel_rfl) (by kernel_rfl) (fun _ _ _ h => h) (Or.inl ⟨by rfl, fun v hv => by clear hv; go_simp⟩) hHeld ?_
        simp only [Act.put, List.setIfInBounds_toArray, List.set_cons_zero, List.set_cons_succ]
        refine wpAnyH_done (by kernel_rfl) ?_ _
        clear hHeld
        go_wp2_with fail
        go_meet
        case rel => exact ⟨g11, g12, b, l, pb, lb, cb, fb, rfl, rfl, rfl, G115.out, G125.out, HI.out, FE5.out, HB5.out⟩
  case rest =>
    obtain ⟨g8, g9, b, l, pb, lb, cb, fb, rfl, rfl, rfl, h8, h9, hib, hc4, hb4⟩ := hcut
    have H8a : Hid (Blk wc (w1.heap.size) #[.int .i64 a.me, .int .i64 a.rv, .int .i64 a.nx, .int .i64 a.mo, .int .i64 a.bo, .int .i64 a.fr, .slice pa na ca] 24) := H7a.out.next hb4
    have H8u : Hid (Blk wc (w2.heap.size) #[.slice pu nu cu, .int .i64 u.ff, .int .i64 u.fb, .int .i64 u.db, .int .i64 u.al] 42) := H7u.out.next hb4
    have H8A : Hid (ACame wc a pa na ca) := H7A.out.below hb4
    have H8U : Hid (TCame wc u pu nu cu) := H7U.out.below hb4
    have H8B : Hid (Below w.heap.size w wc) := H7B.out.trans (Below.mono hb4 H7B.out.size)
    clear H7a H7u H7A H7U H7B
    have HBA : Hid (Blk wc g8 #[.int .i64 b.me, .int .i64 b.rv, .int .i64 b.nx, .int .i64 b.mo, .int .i64 b.bo, .int .i64 b.fr, .slice pb lb cb] 24) := h8
    have HBM : Hid (Blk wc g9 #[.int .i64 l.id, .int .i64 l.te, .int .i64 l.de, .int .i64 l.fe, .int .i64 l.pr, .int .i64 l.ch, .int .i64 l.un] 27) := h9
    have HBE : Hid (Came wc pb lb cb b.ds) := hc4
    have HSC : Hid _ := sell_cases hib HRY.out HNX.out.2 ⟨ht0, ht1⟩
    clear hb4 h8 h9 hc4 hib HSL HPM
    have HRL : Hid (Calls Try.prog 17 #[.agg #[.int .i64 a.me, .int .i64 a.rv, .int .i64 a.nx, .int .i64 a.mo, .int .i64 a.bo, .int .i64 a.fr, .slice pa na ca], .int .i64 mm] wc fun e w' => APost wc (RollIs a mm) e w') := KR wc a pa na ca mm H8A.out HWM.out
    go_wp2_with (first
      | (refine wp_whole rfl 24 _ rfl (w1.heap.size) rfl 24 #[.int .i64 a.me, .int .i64 a.rv, .int .i64 a.nx, .int .i64 a.mo, .int .i64 a.bo, .int .i64 a.fr, .slice pa na ca] _ H8a.out Try.underlying24 rfl (by kernel_rfl) ?_)
      | (refine wp_wholeG (by rfl) 24 _ rfl (w1.heap.size) rfl 24 #[.int .i64 a.me, .int .i64 a.rv, .int .i64 a.nx, .int .i64 a.mo, .int .i64 a.bo, .int .i64 a.fr, .slice pa na ca] _ H8a.out Try.underlying24 rfl (by kernel_rfl) ?_)
      | (refine wp_whole rfl 42 _ rfl (w2.heap.size) rfl 42 #[.slice pu nu cu, .int .i64 u.ff, .int .i64 u.fb, .int .i64 u.db, .int .i64 u.al] _ H8u.out Try.underlying42 rfl (by kernel_rfl) ?_)
      | (refine wp_wholeG (by rfl) 42 _ rfl (w2.heap.size) rfl 42 #[.slice pu nu cu, .int .i64 u.ff, .int .i64 u.fb, .int .i64 u.db, .int .i64 u.al] _ H8u.out Try.underlying42 rfl (by kernel_rfl) ?_)
      | (refine wp_whole rfl 24 _ rfl (g8) rfl 24 #[.int .i64 b.me, .int .i64 b.rv, .int .i64 b.nx, .int .i64 b.mo, .int .i64 b.bo, .int .i64 b.fr, .slice pb lb cb] _ HBA.out Try.underlying24 rfl (by kernel_rfl) ?_)
      | (refine wp_wholeG (by rfl) 24 _ rfl (g8) rfl 24 #[.int .i64 b.me, .int .i64 b.rv, .int .i64 b.nx, .int .i64 b.mo, .int .i64 b.bo, .int .i64 b.fr, .slice pb lb cb] _ HBA.out Try.underlying24 rfl (by kernel_rfl) ?_)
      | (refine wp_whole rfl 27 _ rfl (g9) rfl 27 #[.int .i64 l.id, .int .i64 l.te, .int .i64 l.de, .int .i64 l.fe, .int .i64 l.pr, .int .i64 l.ch, .int .i64 l.un] _ HBM.out Try.underlying27 rfl (by kernel_rfl) ?_)
      | (refine wp_wholeG (by rfl) 27 _ rfl (g9) rfl 27 #[.int .i64 l.id, .int .i64 l.te, .int .i64 l.de, .int .i64 l.fe, .int .i64 l.pr, .int .i64 l.ch, .int .i64 l.un] _ HBM.out Try.underlying27 rfl (by kernel_rfl) ?_)
      | fail)
    refine HRL.out.mono ?_
    rintro e w4 ⟨r, pr, lr, cr, fr, rfl, hir, hfr, hb4⟩
    have H9a : Hid (Blk w4 (w1.heap.size) #[.int .i64 a.me, .int .i64 a.rv, .int .i64 a.nx, .int .i64 a.mo, .int .i64 a.bo, .int .i64 a.fr, .slice pa na ca] 24) := H8a.out.next hb4
    have H9u : Hid (Blk w4 (w2.heap.size) #[.slice pu nu cu, .int .i64 u.ff, .int .i64 u.fb, .int .i64 u.db, .int .i64 u.al] 42) := H8u.out.next hb4
    have H9b : Hid (Blk w4 (g8) #[.int .i64 b.me, .int .i64 b.rv, .int .i64 b.nx, .int .i64 b.mo, .int .i64 b.bo, .int .i64 b.fr, .slice pb lb cb] 24) := HBA.out.next hb4
    have H9m : Hid (Blk w4 (g9) #[.int .i64 l.id, .int .i64 l.te, .int .i64 l.de, .int .i64 l.fe, .int .i64 l.pr, .int .i64 l.ch, .int .i64 l.un] 27) := HBM.out.next hb4
    have H9A : Hid (ACame w4 a pa na ca) := H8A.out.below hb4
    have H9U : Hid (TCame w4 u pu nu cu) := H8U.out.below hb4
    have H9E : Hid (Came w4 pb lb cb b.ds) := HBE.out.below hb4
    have H9B : Hid (Below w.heap.size w w4) := H8B.out.trans (hb4.mono H8B.out.size)
    have hsw4 : wc.heap.size ≤ w4.heap.size := hb4.size
    clear hb4 H8a H8u HBA HBM H8A H8U HBE H8B
    unfold Ac.v Ac.cs
    obtain ⟨hre, rfl⟩ := roll_yes hir HAM.out HRM.out
    obtain ⟨s1, s2, s3, s4, s5⟩ := rolled_same a mm
    rw [← hre] at s1 s2 s3 s4 s5
    rw [s1, s2, s3, s4, s5]
    have HMR : Hid (AMay r) := by show AMay r; rw [hre]; exact rolled_may HAM.out HRM.out
    have H10R : Hid (Came w4 pr lr cr r.ds) := hfr.came
    have HRE : Hid (r = rolled a mm) := hre
    clear hre hir hfr HRL s1 s2 s3 s4 s5
    have H11a : Hid (Blk (w4.alloc (.cells #[.int .i64 a.me, .int .i64 a.rv, .int .i64 a.nx, .int .i64 mm, .int .i64 r.bo, .int .i64 a.fr, .slice pr lr cr] 24)) (w1.heap.size) #[.int .i64 a.me, .int .i64 a.rv, .int .i64 a.nx, .int .i64 a.mo, .int .i64 a.bo, .int .i64 a.fr, .slice pa na ca] 24) := H9a.out.alloc _
    have H11u : Hid (Blk (w4.alloc (.cells #[.int .i64 a.me, .int .i64 a.rv, .int .i64 a.nx, .int .i64 mm, .int .i64 r.bo, .int .i64 a.fr, .slice pr lr cr] 24)) (w2.heap.size) #[.slice pu nu cu, .int .i64 u.ff, .int .i64 u.fb, .int .i64 u.db, .int .i64 u.al] 42) := H9u.out.alloc _
    have H11b : Hid (Blk (w4.alloc (.cells #[.int .i64 a.me, .int .i64 a.rv, .int .i64 a.nx, .int .i64 mm, .int .i64 r.bo, .int .i64 a.fr, .slice pr lr cr] 24)) (g8) #[.int .i64 b.me, .int .i64 b.rv, .int .i64 b.nx, .int .i64 b.mo, .int .i64 b.bo, .int .i64 b.fr, .slice pb lb cb] 24) := H9b.out.alloc _
    have H11m : Hid (Blk (w4.alloc (.cells #[.int .i64 a.me, .int .i64 a.rv, .int .i64 a.nx, .int .i64 mm, .int .i64 r.bo, .int .i64 a.fr, .slice pr lr cr] 24)) (g9) #[.int .i64 l.id, .int .i64 l.te, .int .i64 l.de, .int .i64 l.fe, .int .i64 l.pr, .int .i64 l.ch, .int .i64 l.un] 27) := H9m.out.alloc _
    have H11A : Hid (ACame (w4.alloc (.cells #[.int .i64 a.me, .int .i64 a.rv, .int .i64 a.nx, .int .i64 mm, .int .i64 r.bo, .int .i64 a.fr, .slice pr lr cr] 24)) a pa na ca) := H9A.out.below ((Below.refl w4.heap.size w4).alloc (Nat.le_refl _) _)
    have H11U : Hid (TCame (w4.alloc (.cells #[.int .i64 a.me, .int .i64 a.rv, .int .i64 a.nx, .int .i64 mm, .int .i64 r.bo, .int .i64 a.fr, .slice pr lr cr] 24)) u pu nu cu) := H9U.out.below ((Below.refl w4.heap.size w4).alloc (Nat.le_refl _) _)
    have H11E : Hid (Came (w4.alloc (.cells #[.int .i64 a.me, .int .i64 a.rv, .int .i64 a.nx, .int .i64 mm, .int .i64 r.bo, .int .i64 a.fr, .slice pr lr cr] 24)) pb lb cb b.ds) := H9E.out.below ((Below.refl w4.heap.size w4).alloc (Nat.le_refl _) _)
    have H11R : Hid (Came (w4.alloc (.cells #[.int .i64 a.me, .int .i64 a.rv, .int .i64 a.nx, .int .i64 mm, .int .i64 r.bo, .int .i64 a.fr, .slice pr lr cr] 24)) pr lr cr r.ds) := H10R.out.below ((Below.refl w4.heap.size w4).alloc (Nat.le_refl _) _)
    have H11r : Hid (Blk (w4.alloc (.cells #[.int .i64 a.me, .int .i64 a.rv, .int .i64 a.nx, .int .i64 mm, .int .i64 r.bo, .int .i64 a.fr, .slice pr lr cr] 24)) w4.heap.size #[.int .i64 a.me, .int .i64 a.rv, .int .i64 a.nx, .int .i64 mm, .int .i64 r.bo, .int .i64 a.fr, .slice pr lr cr] 24) := Blk.new w4 _ _
    have H11B : Hid (Below w.heap.size w (w4.alloc (.cells #[.int .i64 a.me, .int .i64 a.rv, .int .i64 a.nx, .int .i64 mm, .int .i64 r.bo, .int .i64 a.fr, .slice pr lr cr] 24))) := H9B.out.alloc H9B.out.size _
    have hsW5 : w4.heap.size < (w4.alloc (.cells #[.int .i64 a.me, .int .i64 a.rv, .int .i64 a.nx, .int .i64 mm, .int .i64 r.bo, .int .i64 a.fr, .slice pr lr cr] 24)).heap.size := (Blk.new w4 #[.int .i64 a.me, .int .i64 a.rv, .int .i64 a.nx, .int .i64 mm, .int .i64 r.bo, .int .i64 a.fr, .slice pr lr cr] 24).lt
    clear H9a H9u H9b H9m H9A H9U H9E H10R H9B
    go_upto_region 6 with fail
    generalize (w4.alloc (.cells #[.int .i64 a.me, .int .i64 a.rv, .int .i64 a.nx, .int .i64 mm, .int .i64 r.bo, .int .i64 a.fr, .slice pr lr cr] 24)) = W5 at *
    have n0 : (mm != mm) = false := by simp
    have m0 : (mm == mm) = true := by simp
    have n1 : (a.nx != a.nx) = false := by simp
    have m1 : (a.nx == a.nx) = true := by simp
    have n2 : (a.me != a.me) = false := by simp
    have m2 : (a.me == a.me) = true := by simp
    have n3 : (a.rv != a.rv) = false := by simp
    have m3 : (a.rv == a.rv) = true := by simp
    have n4 : (a.fr != a.fr) = false := by simp
    have m4 : (a.fr == a.fr) = true := by simp
    have hbo := HMR.out.2.2.2.2.2.1
    obtain ⟨hbo0, hbo1⟩ := hbo
    have HSC2 := HSC.out
    rw [← HRE.out] at HSC2
    clear HSC
    rcases HSC2 with ⟨rfl, _, _, _⟩ | ⟨rfl, v, hv, hv1, hbs, hbl⟩
    · have qr0 : W5.cell? ⟨w4.heap.size, 0, none⟩ = some (.int .i64 a.me) := H11r.out.cell 0
      have qr1 : W5.cell? ⟨w4.heap.size, 1, none⟩ = some (.int .i64 a.rv) := H11r.out.cell 1
      have qr2 : W5.cell? ⟨w4.heap.size, 2, none⟩ = some (.int .i64 a.nx) := H11r.out.cell 2
      have qr3 : W5.cell? ⟨w4.heap.size, 3, none⟩ = some (.int .i64 mm) := H11r.out.cell 3
      have qr5 : W5.cell? ⟨w4.heap.size, 5, none⟩ = some (.int .i64 a.fr) := H11r.out.cell 5
      have qa0 : W5.cell? ⟨w1.heap.size, 0, none⟩ = some (.int .i64 a.me) := H11a.out.cell 0
      have qa1 : W5.cell? ⟨w1.heap.size, 1, none⟩ = some (.int .i64 a.rv) := H11a.out.cell 1
      have qa2 : W5.cell? ⟨w1.heap.size, 2, none⟩ = some (.int .i64 a.nx) := H11a.out.cell 2
      have qa5 : W5.cell? ⟨w1.heap.size, 5, none⟩ = some (.int .i64 a.fr) := H11a.out.cell 5
      go_wp2_with (first
        | fail)
      go_ret
      exact ⟨rfl, H11B.out⟩
    · have hmc := most_cost HTR.out.1 hbo0 hv hv1
      obtain ⟨_, _, g3, g4⟩ := hmc
      have hnx0 := HNX.out.1
      have hnx1 := HNX.out.2
      have hsh := rec_bd (te := tn) (db := u.db) (by omega) ht1 HTR.out.2.2.2.1.1 HTR.out.2.2.2.1.2
      have hds : b.ds = deb.recK r.ds (tn * u.db / 10000) r.ds.length := by rw [hbs, HRE.out]; rfl
      have hde : deb.sumD r.ds - deb.sumD b.ds = l.de := by rw [hds, left_sum HMR.out.1 _ hsh.1, hbl, HRE.out]; rfl
      have HMB : Hid (deb.Mays b.ds) := by show deb.Mays b.ds; rw [hds]; exact left_may HMR.out.1 _
      have hq1 := mays_sum HMR.out.1
      have hq2 := mays_sum HMB.out
      have HBB : Hid (Blk W5 g8 #[.int .i64 a.me, .int .i64 a.rv, .int .i64 (a.nx + 1), .int .i64 mm, .int .i64 (r.bo + v), .int .i64 a.fr, .slice pb lb cb] 24) := by
        have h := H11b.out
        have e0 : b.me = a.me ∧ b.rv = a.rv ∧ b.nx = a.nx + 1 ∧ b.mo = mm ∧ b.bo = r.bo + v ∧ b.fr = a.fr := by rw [hbs, HRE.out]; exact ⟨rfl, rfl, rfl, rfl, rfl, rfl⟩
        obtain ⟨e1, e2, e3, e4, e5, e6⟩ := e0
        rw [e1, e2, e3, e4, e5, e6] at h
        exact h
      have HLL : Hid (Blk W5 g9 #[.int .i64 a.nx, .int .i64 l.te, .int .i64 l.de, .int .i64 l.fe, .int .i64 l.pr, .int .i64 l.ch, .int .i64 v] 27) := by
        have h := H11m.out
        have e0 : l.id = a.nx ∧ l.un = v := by rw [hbl]; exact ⟨rfl, rfl⟩
        obtain ⟨e1, e2⟩ := e0
        rw [e1, e2] at h
        exact h
      clear H11b H11m hbs hbl hds hv hsh
      have HT1 : Hid (Calls Try.prog 21 #[.slice pr lr cr] W5 fun e w' => e = .returned (.tuple #[.int .i64 (deb.sumD r.ds), .int .i64 0]) ∧ Below W5.heap.size W5 w') := (KT W5 pr lr cr r.ds H11R.out).mono (by rintro e w9 ⟨p9, e9, rfl, h9, hb9⟩; obtain ⟨rfl, rfl⟩ := owed_got h9 HMR.out.1; exact ⟨rfl, hb9⟩)
      have HT2 : Hid (∀ W, Came W pb lb cb b.ds → Calls Try.prog 21 #[.slice pb lb cb] W fun e w' => e = .returned (.tuple #[.int .i64 (deb.sumD b.ds), .int .i64 0]) ∧ Below W.heap.size W w') := fun W hW => (KT W pb lb cb b.ds hW).mono (by rintro e w9 ⟨p9, e9, rfl, h9, hb9⟩; obtain ⟨rfl, rfl⟩ := owed_got h9 HMB.out; exact ⟨rfl, hb9⟩)
      obtain ⟨hq10, hq11⟩ := hq1
      obtain ⟨hq20, hq21⟩ := hq2
      generalize deb.sumD r.ds = o1 at *
      generalize deb.sumD b.ds = o2 at *
      generalize l.de = ld at *
      have n7 : (o1 - o2 != ld) = false := by rw [hde]; simp
      have m7 : (a.nx + 1 == a.nx + 1) = true := by simp
      have m8 : (r.bo + v == r.bo + v) = true := by simp
      have hd0 : -8000000000 ≤ o1 - o2 := by omega
      clear hde
      have qr0 : W5.cell? ⟨w4.heap.size, 0, none⟩ = some (.int .i64 a.me) := H11r.out.cell 0
      have qr1 : W5.cell? ⟨w4.heap.size, 1, none⟩ = some (.int .i64 a.rv) := H11r.out.cell 1
      have qr2 : W5.cell? ⟨w4.heap.size, 2, none⟩ = some (.int .i64 a.nx) := H11r.out.cell 2
      have qr3 : W5.cell? ⟨w4.heap.size, 3, none⟩ = some (.int .i64 mm) := H11r.out.cell 3
      have qr5 : W5.cell? ⟨w4.heap.size, 5, none⟩ = some (.int .i64 a.fr) := H11r.out.cell 5
      have qa0 : W5.cell? ⟨w1.heap.size, 0, none⟩ = some (.int .i64 a.me) := H11a.out.cell 0
      have qa1 : W5.cell? ⟨w1.heap.size, 1, none⟩ = some (.int .i64 a.rv) := H11a.out.cell 1
      have qa2 : W5.cell? ⟨w1.heap.size, 2, none⟩ = some (.int .i64 a.nx) := H11a.out.cell 2
      have qa5 : W5.cell? ⟨w1.heap.size, 5, none⟩ = some (.int .i64 a.fr) := H11a.out.cell 5
      have qr6 : W5.cell? ⟨w4.heap.size, 6, none⟩ = some (.slice pr lr cr) := H11r.out.cell 6
      go_wp2_with (first
        | fail)
      refine HT1.out.mono ?_
      rintro e w6 ⟨rfl, hb6⟩
      have H12a : Hid (Blk w6 (w1.heap.size) #[.int .i64 a.me, .int .i64 a.rv, .int .i64 a.nx, .int .i64 a.mo, .int .i64 a.bo, .int .i64 a.fr, .slice pa na ca] 24) := H11a.out.next hb6
      have H12u : Hid (Blk w6 (w2.heap.size) #[.slice pu nu cu, .int .i64 u.ff, .int .i64 u.fb, .int .i64 u.db, .int .i64 u.al] 42) := H11u.out.next hb6
      have H12b : Hid (Blk w6 (g8) #[.int .i64 a.me, .int .i64 a.rv, .int .i64 (a.nx + 1), .int .i64 mm, .int .i64 (r.bo + v), .int .i64 a.fr, .slice pb lb cb] 24) := HBB.out.next hb6
      have H12m : Hid (Blk w6 (g9) #[.int .i64 a.nx, .int .i64 l.te, .int .i64 ld, .int .i64 l.fe, .int .i64 l.pr, .int .i64 l.ch, .int .i64 v] 27) := HLL.out.next hb6
      have H12r : Hid (Blk w6 (w4.heap.size) #[.int .i64 a.me, .int .i64 a.rv, .int .i64 a.nx, .int .i64 mm, .int .i64 r.bo, .int .i64 a.fr, .slice pr lr cr] 24) := H11r.out.next hb6
      have H12A : Hid (ACame w6 a pa na ca) := H11A.out.below hb6
      have H12U : Hid (TCame w6 u pu nu cu) := H11U.out.below hb6
      have H12E : Hid (Came w6 pb lb cb b.ds) := H11E.out.below hb6
      have H12R : Hid (Came w6 pr lr cr r.ds) := H11R.out.below hb6
      have H12B : Hid (Below w.heap.size w w6) := H11B.out.trans (hb6.mono H11B.out.size)
      have hsw6 : W5.heap.size ≤ w6.heap.size := hb6.size
      clear hb6 H11a H11u HBB HLL H11r H11A H11U H11E H11R H11B
      clear qr0 qr1 qr2 qr3 qr5 qa0 qa1 qa2 qa5 qr6
      clear HT1
      have HT3 : Hid (Calls Try.prog 21 #[.slice pb lb cb] w6 fun e w' => e = .returned (.tuple #[.int .i64 o2, .int .i64 0]) ∧ Below w6.heap.size w6 w') := HT2.out w6 H12E.out
      have qb6 : w6.cell? ⟨g8, 6, none⟩ = some (.slice pb lb cb) := H12b.out.cell 6
      go_wp2_with (first
        | fail)
      refine HT3.out.mono ?_
      rintro e w7 ⟨rfl, hb7⟩
      have H13a : Hid (Blk w7 (w1.heap.size) #[.int .i64 a.me, .int .i64 a.rv, .int .i64 a.nx, .int .i64 a.mo, .int .i64 a.bo, .int .i64 a.fr, .slice pa na ca] 24) := H12a.out.next hb7
      have H13u : Hid (Blk w7 (w2.heap.size) #[.slice pu nu cu, .int .i64 u.ff, .int .i64 u.fb, .int .i64 u.db, .int .i64 u.al] 42) := H12u.out.next hb7
      have H13b : Hid (Blk w7 (g8) #[.int .i64 a.me, .int .i64 a.rv, .int .i64 (a.nx + 1), .int .i64 mm, .int .i64 (r.bo + v), .int .i64 a.fr, .slice pb lb cb] 24) := H12b.out.next hb7
      have H13m : Hid (Blk w7 (g9) #[.int .i64 a.nx, .int .i64 l.te, .int .i64 ld, .int .i64 l.fe, .int .i64 l.pr, .int .i64 l.ch, .int .i64 v] 27) := H12m.out.next hb7
      have H13r : Hid (Blk w7 (w4.heap.size) #[.int .i64 a.me, .int .i64 a.rv, .int .i64 a.nx, .int .i64 mm, .int .i64 r.bo, .int .i64 a.fr, .slice pr lr cr] 24) := H12r.out.next hb7
      have H13A : Hid (ACame w7 a pa na ca) := H12A.out.below hb7
      have H13U : Hid (TCame w7 u pu nu cu) := H12U.out.below hb7
      have H13E : Hid (Came w7 pb lb cb b.ds) := H12E.out.below hb7
      have H13R : Hid (Came w7 pr lr cr r.ds) := H12R.out.below hb7
      have H13B : Hid (Below w.heap.size w w7) := H12B.out.trans (hb7.mono H12B.out.size)
      have hsw7 : w6.heap.size ≤ w7.heap.size := hb7.size
      clear hb7 H12a H12u H12b H12m H12r H12A H12U H12E H12R H12B
      clear qb6
      clear HT3 HT2
      have qm0 : w7.cell? ⟨g9, 0, none⟩ = some (.int .i64 a.nx) := H13m.out.cell 0
      have qm2 : w7.cell? ⟨g9, 2, none⟩ = some (.int .i64 ld) := H13m.out.cell 2
      have qm6 : w7.cell? ⟨g9, 6, none⟩ = some (.int .i64 v) := H13m.out.cell 6
      have qb0 : w7.cell? ⟨g8, 0, none⟩ = some (.int .i64 a.me) := H13b.out.cell 0
      have qb1 : w7.cell? ⟨g8, 1, none⟩ = some (.int .i64 a.rv) := H13b.out.cell 1
      have qb2 : w7.cell? ⟨g8, 2, none⟩ = some (.int .i64 (a.nx + 1)) := H13b.out.cell 2
      have qb4 : w7.cell? ⟨g8, 4, none⟩ = some (.int .i64 (r.bo + v)) := H13b.out.cell 4
      have qb5 : w7.cell? ⟨g8, 5, none⟩ = some (.int .i64 a.fr) := H13b.out.cell 5
      have qr4 : w7.cell? ⟨w4.heap.size, 4, none⟩ = some (.int .i64 r.bo) := H13r.out.cell 4
      have qa0 : w7.cell? ⟨w1.heap.size, 0, none⟩ = some (.int .i64 a.me) := H13a.out.cell 0
      have qa1 : w7.cell? ⟨w1.heap.size, 1, none⟩ = some (.int .i64 a.rv) := H13a.out.cell 1
      have qa2 : w7.cell? ⟨w1.heap.size, 2, none⟩ = some (.int .i64 a.nx) := H13a.out.cell 2
      have qa5 : w7.cell? ⟨w1.heap.size, 5, none⟩ = some (.int .i64 a.fr) := H13a.out.cell 5
      go_wp2_with (first
        | fail)
      go_ret
      exact ⟨rfl, H13B.out⟩

end Go.Proofs.Ytlolippocnngcab.acc
