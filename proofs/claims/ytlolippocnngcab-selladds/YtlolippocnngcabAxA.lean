/- The statement SellAdds. -/
import Derived.Test.YtlolippocnngcabKcS
import Derived.Test.YtlolippocnngcabKcR
import Derived.Test.YtlolippocnngcabKdR
import Derived.Test.YtlolippocnngcabKtP
import Derived.Test.YtlolippocnngcabPart
import Derived.Test.YtlolippocnngcabAxN
import Derived.Test.YtlolippocnngcabAcGo
import Derived.Test.YtlolippocnngcabAcAg
import Derived.Test.YtlolippocnngcabAcX
import Derived.Test.YtlolippocnngcabLetG
import Derived.Deep.DeepCutAuto
namespace Go.Proofs.Ytlolippocnngcab.acc
open Go.Proofs.Ytlolippocnngcab.tar (Du du0 Came RowD Ld PairT)
open Go.RowKit
set_option maxRecDepth 100000
set_option linter.unusedVariables false
set_option linter.unusedSimpArgs false

set_option maxHeartbeats 16000000 in
theorem SellAdds_walk (KS : KcSell) (KR : KcRoll) (KC : deb.KdRec) (KP : tar.KtPrice) (x : Ac) (p : Option Addr) (len cap : Nat) (t : Tm) (pt : Option Addr) (lt ct : Nat) (te : Int) (la : Int) (w : World) (h : ACame w x p len cap) (ht : TCame w t pt lt ct) (hte : (Lit.int .i64 te).wf = true) (hla : (Lit.int .i64 la).wf = true) : Calls Try.prog 4 #[x.v p len cap, t.v pt lt ct, .int .i64 te, .int .i64 la] w fun e w' => e = .returned (.bool true) ∧ Below w.heap.size w w' := by
  unfold Ac.v Ac.cs Tm.v
  have H0x : Hid (Blk ((w.alloc (.cells #[.int .i64 x.me, .int .i64 x.rv, .int .i64 x.nx, .int .i64 x.mo, .int .i64 x.bo, .int .i64 x.fr, .slice p len cap] 35)).alloc (.cells #[.slice pt lt ct, .int .i64 t.ff, .int .i64 t.fb, .int .i64 t.db, .int .i64 t.al] 38)) (w.heap.size) #[.int .i64 x.me, .int .i64 x.rv, .int .i64 x.nx, .int .i64 x.mo, .int .i64 x.bo, .int .i64 x.fr, .slice p len cap] 35) := (Blk.new w _ _).alloc _
  have H0d : Hid (Blk ((w.alloc (.cells #[.int .i64 x.me, .int .i64 x.rv, .int .i64 x.nx, .int .i64 x.mo, .int .i64 x.bo, .int .i64 x.fr, .slice p len cap] 35)).alloc (.cells #[.slice pt lt ct, .int .i64 t.ff, .int .i64 t.fb, .int .i64 t.db, .int .i64 t.al] 38)) (w.heap.size + 1) #[.slice pt lt ct, .int .i64 t.ff, .int .i64 t.fb, .int .i64 t.db, .int .i64 t.al] 38) := Blk.new1 w _ _ _
  have H0B : Hid (Below w.heap.size w ((w.alloc (.cells #[.int .i64 x.me, .int .i64 x.rv, .int .i64 x.nx, .int .i64 x.mo, .int .i64 x.bo, .int .i64 x.fr, .slice p len cap] 35)).alloc (.cells #[.slice pt lt ct, .int .i64 t.ff, .int .i64 t.fb, .int .i64 t.db, .int .i64 t.al] 38))) := ((Below.refl w.heap.size w).alloc (by simp) _).alloc (by simp) _
  have H0X : Hid (ACame ((w.alloc (.cells #[.int .i64 x.me, .int .i64 x.rv, .int .i64 x.nx, .int .i64 x.mo, .int .i64 x.bo, .int .i64 x.fr, .slice p len cap] 35)).alloc (.cells #[.slice pt lt ct, .int .i64 t.ff, .int .i64 t.fb, .int .i64 t.db, .int .i64 t.al] 38)) x p len cap) := h.below H0B.out
  have H0D : Hid (TCame ((w.alloc (.cells #[.int .i64 x.me, .int .i64 x.rv, .int .i64 x.nx, .int .i64 x.mo, .int .i64 x.bo, .int .i64 x.fr, .slice p len cap] 35)).alloc (.cells #[.slice pt lt ct, .int .i64 t.ff, .int .i64 t.fb, .int .i64 t.db, .int .i64 t.al] 38)) t pt lt ct) := ht.below H0B.out
  have hs0 : w.heap.size + 1 < ((w.alloc (.cells #[.int .i64 x.me, .int .i64 x.rv, .int .i64 x.nx, .int .i64 x.mo, .int .i64 x.bo, .int .i64 x.fr, .slice p len cap] 35)).alloc (.cells #[.slice pt lt ct, .int .i64 t.ff, .int .i64 t.fb, .int .i64 t.db, .int .i64 t.al] 38)).heap.size := H0d.out.lt
  generalize hWW : ((w.alloc (.cells #[.int .i64 x.me, .int .i64 x.rv, .int .i64 x.nx, .int .i64 x.mo, .int .i64 x.bo, .int .i64 x.fr, .slice p len cap] 35)).alloc (.cells #[.slice pt lt ct, .int .i64 t.ff, .int .i64 t.fb, .int .i64 t.db, .int .i64 t.al] 38)) = W0 at *
  have HWW : Hid (((w.alloc (.cells #[.int .i64 x.me, .int .i64 x.rv, .int .i64 x.nx, .int .i64 x.mo, .int .i64 x.bo, .int .i64 x.fr, .slice p len cap] 35)).alloc (.cells #[.slice pt lt ct, .int .i64 t.ff, .int .i64 t.fb, .int .i64 t.db, .int .i64 t.al] 38)) = W0) := hWW
  clear hWW
  go_enter Try.func4, Try.ntmps4
  go_upto_region 1 with fail
  rw [HWW.out]
  clear HWW
  have HGO : Hid (Calls Try.prog 13 #[.agg #[.int .i64 x.me, .int .i64 x.rv, .int .i64 x.nx, .int .i64 x.mo, .int .i64 x.bo, .int .i64 x.fr, .slice p len cap]] W0 fun e w' => GaveA W0 e w') := gone_any x p len cap W0 H0X.out
  clear h ht
  go_wp2_with (first
    | (refine wp_whole rfl 35 _ rfl (w.heap.size) rfl 35 #[.int .i64 x.me, .int .i64 x.rv, .int .i64 x.nx, .int .i64 x.mo, .int .i64 x.bo, .int .i64 x.fr, .slice p len cap] _ H0x.out Try.underlying35 rfl (by kernel_rfl) ?_)
    | (refine wp_wholeG (by rfl) 35 _ rfl (w.heap.size) rfl 35 #[.int .i64 x.me, .int .i64 x.rv, .int .i64 x.nx, .int .i64 x.mo, .int .i64 x.bo, .int .i64 x.fr, .slice p len cap] _ H0x.out Try.underlying35 rfl (by kernel_rfl) ?_)
    | (refine wp_whole rfl 38 _ rfl (w.heap.size + 1) rfl 38 #[.slice pt lt ct, .int .i64 t.ff, .int .i64 t.fb, .int .i64 t.db, .int .i64 t.al] _ H0d.out Try.underlying38 rfl (by kernel_rfl) ?_)
    | (refine wp_wholeG (by rfl) 38 _ rfl (w.heap.size + 1) rfl 38 #[.slice pt lt ct, .int .i64 t.ff, .int .i64 t.fb, .int .i64 t.db, .int .i64 t.al] _ H0d.out Try.underlying38 rfl (by kernel_rfl) ?_)
    | fail)
  refine HGO.out.mono ?_
  rintro e w1 ⟨a, pa, na, ca, rfl, ham, hnx, hmo1, hfa, hb1⟩
  have H1x : Hid (Blk w1 (w.heap.size) #[.int .i64 x.me, .int .i64 x.rv, .int .i64 x.nx, .int .i64 x.mo, .int .i64 x.bo, .int .i64 x.fr, .slice p len cap] 35) := H0x.out.next hb1
  have H1d : Hid (Blk w1 (w.heap.size + 1) #[.slice pt lt ct, .int .i64 t.ff, .int .i64 t.fb, .int .i64 t.db, .int .i64 t.al] 38) := H0d.out.next hb1
  have H1X : Hid (ACame w1 x p len cap) := H0X.out.below hb1
  have H1D : Hid (TCame w1 t pt lt ct) := H0D.out.below hb1
  have H1B : Hid (Below w.heap.size w w1) := H0B.out.trans (hb1.mono H0B.out.size)
  have hsw1 : W0.heap.size ≤ w1.heap.size := hb1.size
  clear hb1 H0x H0d H0X H0D H0B
  unfold Ac.v Ac.cs
  have H2A : Hid (ACame w1 a pa na ca) := ⟨hfa.came, amay_wf ham⟩
  have HAM : Hid (AMay a) := ham
  have hmo0 : 0 ≤ a.mo := ham.2.2.2.2.1.1
  have HNX : Hid (1 ≤ a.nx ∧ a.nx ≤ 1048574) := ⟨ham.2.2.2.1.1, hnx⟩
  have HNA : Hid (na = a.ds.length) := hfa.came.row.1.symm
  clear hfa ham hnx HGO
  clear H1x
  clear H1X
  have H3d : Hid (Blk (w1.alloc (.cells #[.int .i64 a.me, .int .i64 a.rv, .int .i64 a.nx, .int .i64 a.mo, .int .i64 a.bo, .int .i64 a.fr, .slice pa na ca] 24)) (w.heap.size + 1) #[.slice pt lt ct, .int .i64 t.ff, .int .i64 t.fb, .int .i64 t.db, .int .i64 t.al] 38) := H1d.out.alloc _
  have H3D : Hid (TCame (w1.alloc (.cells #[.int .i64 a.me, .int .i64 a.rv, .int .i64 a.nx, .int .i64 a.mo, .int .i64 a.bo, .int .i64 a.fr, .slice pa na ca] 24)) t pt lt ct) := H1D.out.below ((Below.refl w1.heap.size w1).alloc (Nat.le_refl _) _)
  have H3A : Hid (ACame (w1.alloc (.cells #[.int .i64 a.me, .int .i64 a.rv, .int .i64 a.nx, .int .i64 a.mo, .int .i64 a.bo, .int .i64 a.fr, .slice pa na ca] 24)) a pa na ca) := H2A.out.below ((Below.refl w1.heap.size w1).alloc (Nat.le_refl _) _)
  have H3a : Hid (Blk (w1.alloc (.cells #[.int .i64 a.me, .int .i64 a.rv, .int .i64 a.nx, .int .i64 a.mo, .int .i64 a.bo, .int .i64 a.fr, .slice pa na ca] 24)) w1.heap.size #[.int .i64 a.me, .int .i64 a.rv, .int .i64 a.nx, .int .i64 a.mo, .int .i64 a.bo, .int .i64 a.fr, .slice pa na ca] 24) := Blk.new w1 _ _
  have H3B : Hid (Below w.heap.size w (w1.alloc (.cells #[.int .i64 a.me, .int .i64 a.rv, .int .i64 a.nx, .int .i64 a.mo, .int .i64 a.bo, .int .i64 a.fr, .slice pa na ca] 24))) := H1B.out.alloc H1B.out.size _
  have hsW1 : w1.heap.size < (w1.alloc (.cells #[.int .i64 a.me, .int .i64 a.rv, .int .i64 a.nx, .int .i64 a.mo, .int .i64 a.bo, .int .i64 a.fr, .slice pa na ca] 24)).heap.size := (Blk.new w1 #[.int .i64 a.me, .int .i64 a.rv, .int .i64 a.nx, .int .i64 a.mo, .int .i64 a.bo, .int .i64 a.fr, .slice pa na ca] 24).lt
  clear H1d H1D H2A H1B
  go_upto_region 2 with fail
  generalize (w1.alloc (.cells #[.int .i64 a.me, .int .i64 a.rv, .int .i64 a.nx, .int .i64 a.mo, .int .i64 a.bo, .int .i64 a.fr, .slice pa na ca] 24)) = W1 at *
  have HAG : Hid (Calls Try.prog 14 #[.agg #[.slice pt lt ct, .int .i64 t.ff, .int .i64 t.fb, .int .i64 t.db, .int .i64 t.al]] W1 fun e w' => GaveT W1 e w') := agreed_any t pt lt ct W1 H3D.out
  go_wp2_with (first
    | (refine wp_whole rfl 38 _ rfl (w.heap.size + 1) rfl 38 #[.slice pt lt ct, .int .i64 t.ff, .int .i64 t.fb, .int .i64 t.db, .int .i64 t.al] _ H3d.out Try.underlying38 rfl (by kernel_rfl) ?_)
    | (refine wp_wholeG (by rfl) 38 _ rfl (w.heap.size + 1) rfl 38 #[.slice pt lt ct, .int .i64 t.ff, .int .i64 t.fb, .int .i64 t.db, .int .i64 t.al] _ H3d.out Try.underlying38 rfl (by kernel_rfl) ?_)
    | (refine wp_whole rfl 24 _ rfl (w1.heap.size) rfl 24 #[.int .i64 a.me, .int .i64 a.rv, .int .i64 a.nx, .int .i64 a.mo, .int .i64 a.bo, .int .i64 a.fr, .slice pa na ca] _ H3a.out Try.underlying24 rfl (by kernel_rfl) ?_)
    | (refine wp_wholeG (by rfl) 24 _ rfl (w1.heap.size) rfl 24 #[.int .i64 a.me, .int .i64 a.rv, .int .i64 a.nx, .int .i64 a.mo, .int .i64 a.bo, .int .i64 a.fr, .slice pa na ca] _ H3a.out Try.underlying24 rfl (by kernel_rfl) ?_)
    | fail)
  refine HAG.out.mono ?_
  rintro e w2 ⟨u, pu, nu, cu, rfl, htr, hcm, _, hb2⟩
  have H4d : Hid (Blk w2 (w.heap.size + 1) #[.slice pt lt ct, .int .i64 t.ff, .int .i64 t.fb, .int .i64 t.db, .int .i64 t.al] 38) := H3d.out.next hb2
  have H4a : Hid (Blk w2 (w1.heap.size) #[.int .i64 a.me, .int .i64 a.rv, .int .i64 a.nx, .int .i64 a.mo, .int .i64 a.bo, .int .i64 a.fr, .slice pa na ca] 24) := H3a.out.next hb2
  have H4D : Hid (TCame w2 t pt lt ct) := H3D.out.below hb2
  have H4A : Hid (ACame w2 a pa na ca) := H3A.out.below hb2
  have H4B : Hid (Below w.heap.size w w2) := H3B.out.trans (hb2.mono H3B.out.size)
  have hsw2 : W1.heap.size ≤ w2.heap.size := hb2.size
  clear hb2 H3d H3a H3D H3A H3B
  unfold Tm.v
  have H5U : Hid (TCame w2 u pu nu cu) := ⟨hcm, tright_wf htr⟩
  have HTR : Hid (TRight u) := htr
  clear hcm htr HAG
  clear H4d
  clear H4D
  have HLA : Hid (0 < na → ∀ y, pa = some y → y.block ≠ w2.heap.size) := fun hn y hy => Nat.ne_of_lt (came_lt H4A.out.ds hn y hy)
  have HLU : Hid (0 < nu → ∀ y, pu = some y → y.block ≠ w2.heap.size) := fun hn y hy => Nat.ne_of_lt (came_lt H5U.out.ts hn y hy)
  have H6a : Hid (Blk (w2.alloc (.cells #[.slice pu nu cu, .int .i64 u.ff, .int .i64 u.fb, .int .i64 u.db, .int .i64 u.al] 42)) (w1.heap.size) #[.int .i64 a.me, .int .i64 a.rv, .int .i64 a.nx, .int .i64 a.mo, .int .i64 a.bo, .int .i64 a.fr, .slice pa na ca] 24) := H4a.out.alloc _
  have H6A : Hid (ACame (w2.alloc (.cells #[.slice pu nu cu, .int .i64 u.ff, .int .i64 u.fb, .int .i64 u.db, .int .i64 u.al] 42)) a pa na ca) := H4A.out.below ((Below.refl w2.heap.size w2).alloc (Nat.le_refl _) _)
  have H6U : Hid (TCame (w2.alloc (.cells #[.slice pu nu cu, .int .i64 u.ff, .int .i64 u.fb, .int .i64 u.db, .int .i64 u.al] 42)) u pu nu cu) := H5U.out.below ((Below.refl w2.heap.size w2).alloc (Nat.le_refl _) _)
  have H6u : Hid (Blk (w2.alloc (.cells #[.slice pu nu cu, .int .i64 u.ff, .int .i64 u.fb, .int .i64 u.db, .int .i64 u.al] 42)) w2.heap.size #[.slice pu nu cu, .int .i64 u.ff, .int .i64 u.fb, .int .i64 u.db, .int .i64 u.al] 42) := Blk.new w2 _ _
  have H6B : Hid (Below w.heap.size w (w2.alloc (.cells #[.slice pu nu cu, .int .i64 u.ff, .int .i64 u.fb, .int .i64 u.db, .int .i64 u.al] 42))) := H4B.out.alloc H4B.out.size _
  have hsW2 : w2.heap.size < (w2.alloc (.cells #[.slice pu nu cu, .int .i64 u.ff, .int .i64 u.fb, .int .i64 u.db, .int .i64 u.al] 42)).heap.size := (Blk.new w2 #[.slice pu nu cu, .int .i64 u.ff, .int .i64 u.fb, .int .i64 u.db, .int .i64 u.al] 42).lt
  clear H4a H4A H5U H4B
  go_upto_region 3 with fail
  generalize (w2.alloc (.cells #[.slice pu nu cu, .int .i64 u.ff, .int .i64 u.fb, .int .i64 u.db, .int .i64 u.al] 42)) = W2 at *
  have HPM : Hid (∀ W, Calls Try.prog 15 #[.int .i64 te, .int .i64 100000000] W fun e w' => e = .returned (.int .i64 (check.pick te 100000000)) ∧ w' = W) := fun W => check.picked_any te 100000000 W hte (by decide) (by decide)
  have hz0 := check.pick_nonneg te 100000000 (by decide)
  have hz1 := check.pick_lt te 100000000 (by decide)
  generalize (check.pick te 100000000) = z1 at *
  go_wp2_with (first
    | (refine wp_whole rfl 24 _ rfl (w1.heap.size) rfl 24 #[.int .i64 a.me, .int .i64 a.rv, .int .i64 a.nx, .int .i64 a.mo, .int .i64 a.bo, .int .i64 a.fr, .slice pa na ca] _ H6a.out Try.underlying24 rfl (by kernel_rfl) ?_)
    | (refine wp_wholeG (by rfl) 24 _ rfl (w1.heap.size) rfl 24 #[.int .i64 a.me, .int .i64 a.rv, .int .i64 a.nx, .int .i64 a.mo, .int .i64 a.bo, .int .i64 a.fr, .slice pa na ca] _ H6a.out Try.underlying24 rfl (by kernel_rfl) ?_)
    | (refine wp_whole rfl 42 _ rfl (w2.heap.size) rfl 42 #[.slice pu nu cu, .int .i64 u.ff, .int .i64 u.fb, .int .i64 u.db, .int .i64 u.al] _ H6u.out Try.underlying42 rfl (by kernel_rfl) ?_)
    | (refine wp_wholeG (by rfl) 42 _ rfl (w2.heap.size) rfl 42 #[.slice pu nu cu, .int .i64 u.ff, .int .i64 u.fb, .int .i64 u.db, .int .i64 u.al] _ H6u.out Try.underlying42 rfl (by kernel_rfl) ?_)
    | fail)
  refine (HPM.out _).mono ?_
  rintro e wz ⟨rfl, hwz⟩
  obtain rfl : W2 = wz := hwz.symm
  have ht0 : 1 ≤ 1 + z1 := by omega
  have ht1 : 1 + z1 ≤ 100000000 := by omega
  go_upto_region 4 with fail
  generalize 1 + z1 = tn at *
  clear HPM hz0 hz1
  have HWN : Hid ((Lit.int .i64 tn).wf = true) := tar.wf_mid (by omega) (by omega)
  have HPL : Hid (∀ W, Calls Try.prog 15 #[.int .i64 la, .int .i64 (2399 - a.mo + 1)] W fun e w' => e = .returned (.int .i64 (check.pick la (2399 - a.mo + 1))) ∧ w' = W) := fun W => check.picked_any la (2399 - a.mo + 1) W hla (by omega) (by omega)
  have hpl0 := check.pick_nonneg la (2399 - a.mo + 1) (by omega)
  have hpl1 := check.pick_lt la (2399 - a.mo + 1) (by omega)
  generalize (check.pick la (2399 - a.mo + 1)) = zl at *
  go_wp2_with (first
    | (refine wp_whole rfl 24 _ rfl (w1.heap.size) rfl 24 #[.int .i64 a.me, .int .i64 a.rv, .int .i64 a.nx, .int .i64 a.mo, .int .i64 a.bo, .int .i64 a.fr, .slice pa na ca] _ H6a.out Try.underlying24 rfl (by kernel_rfl) ?_)
    | (refine wp_wholeG (by rfl) 24 _ rfl (w1.heap.size) rfl 24 #[.int .i64 a.me, .int .i64 a.rv, .int .i64 a.nx, .int .i64 a.mo, .int .i64 a.bo, .int .i64 a.fr, .slice pa na ca] _ H6a.out Try.underlying24 rfl (by kernel_rfl) ?_)
    | (refine wp_whole rfl 42 _ rfl (w2.heap.size) rfl 42 #[.slice pu nu cu, .int .i64 u.ff, .int .i64 u.fb, .int .i64 u.db, .int .i64 u.al] _ H6u.out Try.underlying42 rfl (by kernel_rfl) ?_)
    | (refine wp_wholeG (by rfl) 42 _ rfl (w2.heap.size) rfl 42 #[.slice pu nu cu, .int .i64 u.ff, .int .i64 u.fb, .int .i64 u.db, .int .i64 u.al] _ H6u.out Try.underlying42 rfl (by kernel_rfl) ?_)
    | fail)
  refine wp_region_held_drew (S := fun v => Blk v (w1.heap.size) #[.int .i64 a.me, .int .i64 a.rv, .int .i64 a.nx, .int .i64 a.mo, .int .i64 a.bo, .int .i64 a.fr, .slice pa na ca] 24) (by kernel_rfl) (Blk.drew H6a.out 1) (fun hHeld => ?_)
  refine take_at 0 34 (.pointer (some ⟨w1.heap.size, 3, none⟩)) _ rfl rfl (by kernel_rfl) (by kernel_rfl) (by kernel_rfl) (fun _ _ _ h => h) (Or.inl ⟨by rfl, fun v hv => by skip; clear hv; go_simp⟩) hHeld ?_
  simp only [Act.put, List.setIfInBounds_toArray, List.set_cons_zero, List.set_cons_succ]
  refine take_at 1 35 (.int .i64 a.mo) _ rfl rfl (by kernel_rfl) (by kernel_rfl) (by kernel_rfl) (fun _ _ _ h => h) (Or.inl ⟨by rfl, fun v hv => by have h2 := hv.cell 3; simp at h2; clear hv; go_simp⟩) hHeld ?_
  simp only [Act.put, List.setIfInBounds_toArray, List.set_cons_zero, List.set_cons_succ]
  refine take_at 2 36 (.int .i64 la) _ rfl rfl (by kernel_rfl) (by kernel_rfl) (by kernel_rfl) (fun _ _ _ h => h) (Or.inl ⟨by rfl, fun v hv => by skip; clear hv; go_simp⟩) hHeld ?_
  simp only [Act.put, List.setIfInBounds_toArray, List.set_cons_zero, List.set_cons_succ]
  refine take_at 3 37 (.pointer (some ⟨w1.heap.size, 3, none⟩)) _ rfl rfl (by kernel_rfl) (by kernel_rfl) (by kernel_rfl) (fun _ _ _ h => h) (Or.inl ⟨by rfl, fun v hv => by skip; clear hv; go_simp⟩) hHeld ?_
  simp only [Act.put, List.setIfInBounds_toArray, List.set_cons_zero, List.set_cons_succ]
  refine take_at 4 38 (.int .i64 a.mo) _ rfl rfl (by kernel_rfl) (by kernel_rfl) (by kernel_rfl) (fun _ _ _ h => h) (Or.inl ⟨by rfl, fun v hv => by have h2 := hv.cell 3; simp at h2; clear hv; go_simp⟩) hHeld ?_
  simp only [Act.put, List.setIfInBounds_toArray, List.set_cons_zero, List.set_cons_succ]
  refine take_at 5 39 (.int .i64 (2399 - a.mo)) _ rfl rfl (by kernel_rfl) (by kernel_rfl) (by kernel_rfl) (fun _ _ _ h => h) (Or.inl ⟨by rfl, fun v hv => by have hq : IntKind.i64.wrap (2399 - a.mo) = 2399 - a.mo := (by rw [IntKind.wrap_i64]; omega); clear hv; go_simp⟩) hHeld ?_
  simp only [Act.put, List.setIfInBounds_toArray, List.set_cons_zero, List.set_cons_succ]
  refine take_at 6 40 (.int .i64 (2399 - a.mo + 1)) _ rfl rfl (by kernel_rfl) (by kernel_rfl) (by kernel_rfl) (fun _ _ _ h => h) (Or.inl ⟨by rfl, fun v hv => by have hq : IntKind.i64.wrap (2399 - a.mo + 1) = 2399 - a.mo + 1 := (by rw [IntKind.wrap_i64]; omega); clear hv; go_simp⟩) hHeld ?_
  simp only [Act.put, List.setIfInBounds_toArray, List.set_cons_zero, List.set_cons_succ]
  refine call_at 7 41 (.int .i64 zl) _ rfl rfl (by kernel_rfl) (by kernel_rfl) (by kernel_rfl) (fun _ _ _ h => h) 15 #[.int .i64 la, .int .i64 (2399 - a.mo + 1)] ⟨by rfl, fun v hv => by clear hv; go_simp⟩ (fun v _ => HPL.out v) hHeld ?_
  simp only [Act.put, List.setIfInBounds_toArray, List.set_cons_zero, List.set_cons_succ]
  refine take_at 8 42 (.int .i64 (a.mo + zl)) _ rfl rfl (by kernel_rfl) (by kernel_rfl) (by kernel_rfl) (fun _ _ _ h => h) (Or.inl ⟨by rfl, fun v hv => by have hq : IntKind.i64.wrap (a.mo + zl) = a.mo + zl := (by rw [IntKind.wrap_i64]; omega); clear hv; go_simp⟩) hHeld ?_
  simp only [Act.put, List.setIfInBounds_toArray, List.set_cons_zero, List.set_cons_succ]
  refine take_at 9 12 (.int .i64 (a.mo + zl)) _ rfl rfl (by kernel_rfl) (by kernel_rfl) (by kernel_rfl) (fun _ _ _ h => h) (Or.inl ⟨by rfl, fun v hv => by skip; clear hv; go_simp⟩) hHeld ?_
  simp only [Act.put, List.setIfInBounds_toArray, List.set_cons_zero, List.set_cons_succ]
  refine wpAnyH_done (by kernel_rfl) ?_ _
  clear hHeld HPL
  have H7a : Hid (Blk W2.drew (w1.heap.size) #[.int .i64 a.me, .int .i64 a.rv, .int .i64 a.nx, .int .i64 a.mo, .int .i64 a.bo, .int .i64 a.fr, .slice pa na ca] 24) := H6a.out.next (Below.drew (Below.refl _ W2))
  have H7u : Hid (Blk W2.drew (w2.heap.size) #[.slice pu nu cu, .int .i64 u.ff, .int .i64 u.fb, .int .i64 u.db, .int .i64 u.al] 42) := H6u.out.next (Below.drew (Below.refl _ W2))
  have H7A : Hid (ACame W2.drew a pa na ca) := H6A.out.below (Below.drew (Below.refl _ W2))
  have H7U : Hid (TCame W2.drew u pu nu cu) := H6U.out.below (Below.drew (Below.refl _ W2))
  have H7B : Hid (Below w.heap.size w W2.drew) := H6B.out.trans (Below.mono (Below.drew (Below.refl _ W2)) H6B.out.size)
  clear H6a H6u H6A H6U H6B
  have hszd : W2.heap.size ≤ W2.drew.heap.size := Nat.le_refl _
  generalize W2.drew = W3 at *
  have hm0 : a.mo ≤ a.mo + zl := by omega
  have hm1 : a.mo + zl ≤ 2399 := by omega
  generalize a.mo + zl = mm at *
  clear hpl0 hpl1
  have HRM : Hid (RMay a mm) := ⟨⟨by omega, hm1⟩, hm0⟩
  have HWM : Hid ((Lit.int .i64 mm).wf = true) := tar.wf_mid (by omega) (by omega)
  have HRY : Hid (Ready a u mm) := ⟨HAM.out, HTR.out, HRM.out⟩
  have HSL : Hid (Calls Try.prog 16 #[.agg #[.int .i64 a.me, .int .i64 a.rv, .int .i64 a.nx, .int .i64 a.mo, .int .i64 a.bo, .int .i64 a.fr, .slice pa na ca], .agg #[.slice pu nu cu, .int .i64 u.ff, .int .i64 u.fb, .int .i64 u.db, .int .i64 u.al], .int .i64 tn, .int .i64 mm] W3 fun e w' => BPost W3 (SellIs a u tn mm) e w') := KS W3 a pa na ca u pu nu cu tn mm H7A.out H7U.out HWN.out HWM.out
  go_wp2_with (first
    | (refine wp_whole rfl 24 _ rfl (w1.heap.size) rfl 24 #[.int .i64 a.me, .int .i64 a.rv, .int .i64 a.nx, .int .i64 a.mo, .int .i64 a.bo, .int .i64 a.fr, .slice pa na ca] _ H7a.out Try.underlying24 rfl (by kernel_rfl) ?_)
    | (refine wp_wholeG (by rfl) 24 _ rfl (w1.heap.size) rfl 24 #[.int .i64 a.me, .int .i64 a.rv, .int .i64 a.nx, .int .i64 a.mo, .int .i64 a.bo, .int .i64 a.fr, .slice pa na ca] _ H7a.out Try.underlying24 rfl (by kernel_rfl) ?_)
    | (refine wp_whole rfl 42 _ rfl (w2.heap.size) rfl 42 #[.slice pu nu cu, .int .i64 u.ff, .int .i64 u.fb, .int .i64 u.db, .int .i64 u.al] _ H7u.out Try.underlying42 rfl (by kernel_rfl) ?_)
    | (refine wp_wholeG (by rfl) 42 _ rfl (w2.heap.size) rfl 42 #[.slice pu nu cu, .int .i64 u.ff, .int .i64 u.fb, .int .i64 u.db, .int .i64 u.al] _ H7u.out Try.underlying42 rfl (by kernel_rfl) ?_)
    | fail)
  refine HSL.out.mono ?_
  rintro e w3 ⟨b, l, pb, lb, cb, fb, rfl, hib, hfb, hb3⟩
  have H8a : Hid (Blk w3 (w1.heap.size) #[.int .i64 a.me, .int .i64 a.rv, .int .i64 a.nx, .int .i64 a.mo, .int .i64 a.bo, .int .i64 a.fr, .slice pa na ca] 24) := H7a.out.next hb3
  have H8u : Hid (Blk w3 (w2.heap.size) #[.slice pu nu cu, .int .i64 u.ff, .int .i64 u.fb, .int .i64 u.db, .int .i64 u.al] 42) := H7u.out.next hb3
  have H8A : Hid (ACame w3 a pa na ca) := H7A.out.below hb3
  have H8U : Hid (TCame w3 u pu nu cu) := H7U.out.below hb3
  have H8B : Hid (Below w.heap.size w w3) := H7B.out.trans (hb3.mono H7B.out.size)
  have hsw3 : W3.heap.size ≤ w3.heap.size := hb3.size
  clear hb3 H7a H7u H7A H7U H7B
  unfold Ac.v Ac.cs Bi.v
  have HSI := sell_cases hib HRY.out HNX.out.2 ⟨ht0, ht1⟩
  have HSC : Hid _ := HSI
  clear hib hfb HSL HSI
  have H9a : Hid (Blk ((w3.alloc (.cells #[.int .i64 b.me, .int .i64 b.rv, .int .i64 b.nx, .int .i64 b.mo, .int .i64 b.bo, .int .i64 b.fr, .slice pb lb cb] 24)).alloc (.cells #[.int .i64 l.id, .int .i64 l.te, .int .i64 l.de, .int .i64 l.fe, .int .i64 l.pr, .int .i64 l.ch, .int .i64 l.un] 27)) (w1.heap.size) #[.int .i64 a.me, .int .i64 a.rv, .int .i64 a.nx, .int .i64 a.mo, .int .i64 a.bo, .int .i64 a.fr, .slice pa na ca] 24) := (H8a.out.alloc _).alloc _
  have H9u : Hid (Blk ((w3.alloc (.cells #[.int .i64 b.me, .int .i64 b.rv, .int .i64 b.nx, .int .i64 b.mo, .int .i64 b.bo, .int .i64 b.fr, .slice pb lb cb] 24)).alloc (.cells #[.int .i64 l.id, .int .i64 l.te, .int .i64 l.de, .int .i64 l.fe, .int .i64 l.pr, .int .i64 l.ch, .int .i64 l.un] 27)) (w2.heap.size) #[.slice pu nu cu, .int .i64 u.ff, .int .i64 u.fb, .int .i64 u.db, .int .i64 u.al] 42) := (H8u.out.alloc _).alloc _
  have H9A : Hid (ACame ((w3.alloc (.cells #[.int .i64 b.me, .int .i64 b.rv, .int .i64 b.nx, .int .i64 b.mo, .int .i64 b.bo, .int .i64 b.fr, .slice pb lb cb] 24)).alloc (.cells #[.int .i64 l.id, .int .i64 l.te, .int .i64 l.de, .int .i64 l.fe, .int .i64 l.pr, .int .i64 l.ch, .int .i64 l.un] 27)) a pa na ca) := H8A.out.below (((Below.refl w3.heap.size w3).alloc (by simp) _).alloc (by simp) _)
  have H9U : Hid (TCame ((w3.alloc (.cells #[.int .i64 b.me, .int .i64 b.rv, .int .i64 b.nx, .int .i64 b.mo, .int .i64 b.bo, .int .i64 b.fr, .slice pb lb cb] 24)).alloc (.cells #[.int .i64 l.id, .int .i64 l.te, .int .i64 l.de, .int .i64 l.fe, .int .i64 l.pr, .int .i64 l.ch, .int .i64 l.un] 27)) u pu nu cu) := H8U.out.below (((Below.refl w3.heap.size w3).alloc (by simp) _).alloc (by simp) _)
  have H9b : Hid (Blk ((w3.alloc (.cells #[.int .i64 b.me, .int .i64 b.rv, .int .i64 b.nx, .int .i64 b.mo, .int .i64 b.bo, .int .i64 b.fr, .slice pb lb cb] 24)).alloc (.cells #[.int .i64 l.id, .int .i64 l.te, .int .i64 l.de, .int .i64 l.fe, .int .i64 l.pr, .int .i64 l.ch, .int .i64 l.un] 27)) w3.heap.size #[.int .i64 b.me, .int .i64 b.rv, .int .i64 b.nx, .int .i64 b.mo, .int .i64 b.bo, .int .i64 b.fr, .slice pb lb cb] 24) := (Blk.new w3 _ _).alloc _
  have H9m : Hid (Blk ((w3.alloc (.cells #[.int .i64 b.me, .int .i64 b.rv, .int .i64 b.nx, .int .i64 b.mo, .int .i64 b.bo, .int .i64 b.fr, .slice pb lb cb] 24)).alloc (.cells #[.int .i64 l.id, .int .i64 l.te, .int .i64 l.de, .int .i64 l.fe, .int .i64 l.pr, .int .i64 l.ch, .int .i64 l.un] 27)) (w3.heap.size + 1) #[.int .i64 l.id, .int .i64 l.te, .int .i64 l.de, .int .i64 l.fe, .int .i64 l.pr, .int .i64 l.ch, .int .i64 l.un] 27) := Blk.new1 w3 _ _ _
  have H9B : Hid (Below w.heap.size w ((w3.alloc (.cells #[.int .i64 b.me, .int .i64 b.rv, .int .i64 b.nx, .int .i64 b.mo, .int .i64 b.bo, .int .i64 b.fr, .slice pb lb cb] 24)).alloc (.cells #[.int .i64 l.id, .int .i64 l.te, .int .i64 l.de, .int .i64 l.fe, .int .i64 l.pr, .int .i64 l.ch, .int .i64 l.un] 27))) := (H8B.out.alloc H8B.out.size _).alloc (Nat.le_trans H8B.out.size (by simp)) _
  have hsW4 : w3.heap.size + 1 < ((w3.alloc (.cells #[.int .i64 b.me, .int .i64 b.rv, .int .i64 b.nx, .int .i64 b.mo, .int .i64 b.bo, .int .i64 b.fr, .slice pb lb cb] 24)).alloc (.cells #[.int .i64 l.id, .int .i64 l.te, .int .i64 l.de, .int .i64 l.fe, .int .i64 l.pr, .int .i64 l.ch, .int .i64 l.un] 27)).heap.size := (Blk.new1 w3 _ #[.int .i64 l.id, .int .i64 l.te, .int .i64 l.de, .int .i64 l.fe, .int .i64 l.pr, .int .i64 l.ch, .int .i64 l.un] 27).lt
  clear H8a H8u H8A H8U H8B
  go_upto_region 6 with fail
  generalize ((w3.alloc (.cells #[.int .i64 b.me, .int .i64 b.rv, .int .i64 b.nx, .int .i64 b.mo, .int .i64 b.bo, .int .i64 b.fr, .slice pb lb cb] 24)).alloc (.cells #[.int .i64 l.id, .int .i64 l.te, .int .i64 l.de, .int .i64 l.fe, .int .i64 l.pr, .int .i64 l.ch, .int .i64 l.un] 27)) = W4 at *
  clear H9b
  have HRL : Hid (Calls Try.prog 17 #[.agg #[.int .i64 a.me, .int .i64 a.rv, .int .i64 a.nx, .int .i64 a.mo, .int .i64 a.bo, .int .i64 a.fr, .slice pa na ca], .int .i64 mm] W4 fun e w' => APost W4 (RollIs a mm) e w') := KR W4 a pa na ca mm H9A.out HWM.out
  go_wp2_with (first
    | (refine wp_whole rfl 24 _ rfl (w1.heap.size) rfl 24 #[.int .i64 a.me, .int .i64 a.rv, .int .i64 a.nx, .int .i64 a.mo, .int .i64 a.bo, .int .i64 a.fr, .slice pa na ca] _ H9a.out Try.underlying24 rfl (by kernel_rfl) ?_)
    | (refine wp_wholeG (by rfl) 24 _ rfl (w1.heap.size) rfl 24 #[.int .i64 a.me, .int .i64 a.rv, .int .i64 a.nx, .int .i64 a.mo, .int .i64 a.bo, .int .i64 a.fr, .slice pa na ca] _ H9a.out Try.underlying24 rfl (by kernel_rfl) ?_)
    | (refine wp_whole rfl 42 _ rfl (w2.heap.size) rfl 42 #[.slice pu nu cu, .int .i64 u.ff, .int .i64 u.fb, .int .i64 u.db, .int .i64 u.al] _ H9u.out Try.underlying42 rfl (by kernel_rfl) ?_)
    | (refine wp_wholeG (by rfl) 42 _ rfl (w2.heap.size) rfl 42 #[.slice pu nu cu, .int .i64 u.ff, .int .i64 u.fb, .int .i64 u.db, .int .i64 u.al] _ H9u.out Try.underlying42 rfl (by kernel_rfl) ?_)
    | (refine wp_whole rfl 27 _ rfl (w3.heap.size + 1) rfl 27 #[.int .i64 l.id, .int .i64 l.te, .int .i64 l.de, .int .i64 l.fe, .int .i64 l.pr, .int .i64 l.ch, .int .i64 l.un] _ H9m.out Try.underlying27 rfl (by kernel_rfl) ?_)
    | (refine wp_wholeG (by rfl) 27 _ rfl (w3.heap.size + 1) rfl 27 #[.int .i64 l.id, .int .i64 l.te, .int .i64 l.de, .int .i64 l.fe, .int .i64 l.pr, .int .i64 l.ch, .int .i64 l.un] _ H9m.out Try.underlying27 rfl (by kernel_rfl) ?_)
    | fail)
  refine HRL.out.mono ?_
  rintro e w4 ⟨r, pr, lr, cr, fr, rfl, hir, hfr, hb4⟩
  have H10a : Hid (Blk w4 (w1.heap.size) #[.int .i64 a.me, .int .i64 a.rv, .int .i64 a.nx, .int .i64 a.mo, .int .i64 a.bo, .int .i64 a.fr, .slice pa na ca] 24) := H9a.out.next hb4
  have H10u : Hid (Blk w4 (w2.heap.size) #[.slice pu nu cu, .int .i64 u.ff, .int .i64 u.fb, .int .i64 u.db, .int .i64 u.al] 42) := H9u.out.next hb4
  have H10m : Hid (Blk w4 (w3.heap.size + 1) #[.int .i64 l.id, .int .i64 l.te, .int .i64 l.de, .int .i64 l.fe, .int .i64 l.pr, .int .i64 l.ch, .int .i64 l.un] 27) := H9m.out.next hb4
  have H10A : Hid (ACame w4 a pa na ca) := H9A.out.below hb4
  have H10U : Hid (TCame w4 u pu nu cu) := H9U.out.below hb4
  have H10B : Hid (Below w.heap.size w w4) := H9B.out.trans (hb4.mono H9B.out.size)
  have hsw4 : W4.heap.size ≤ w4.heap.size := hb4.size
  clear hb4 H9a H9u H9m H9A H9U H9B
  unfold Ac.v Ac.cs
  obtain ⟨hre, rfl⟩ := roll_yes hir HAM.out HRM.out
  have HRE : Hid (r = rolled a mm) := hre
  have H11R : Hid (Came w4 pr lr cr r.ds) := hfr.came
  have HMR : Hid (AMay r) := by show AMay r; rw [hre]; exact rolled_may HAM.out HRM.out
  clear hre hir hfr HRL
  have H12a : Hid (Blk (w4.alloc (.cells #[.int .i64 r.me, .int .i64 r.rv, .int .i64 r.nx, .int .i64 r.mo, .int .i64 r.bo, .int .i64 r.fr, .slice pr lr cr] 24)) (w1.heap.size) #[.int .i64 a.me, .int .i64 a.rv, .int .i64 a.nx, .int .i64 a.mo, .int .i64 a.bo, .int .i64 a.fr, .slice pa na ca] 24) := H10a.out.alloc _
  have H12u : Hid (Blk (w4.alloc (.cells #[.int .i64 r.me, .int .i64 r.rv, .int .i64 r.nx, .int .i64 r.mo, .int .i64 r.bo, .int .i64 r.fr, .slice pr lr cr] 24)) (w2.heap.size) #[.slice pu nu cu, .int .i64 u.ff, .int .i64 u.fb, .int .i64 u.db, .int .i64 u.al] 42) := H10u.out.alloc _
  have H12m : Hid (Blk (w4.alloc (.cells #[.int .i64 r.me, .int .i64 r.rv, .int .i64 r.nx, .int .i64 r.mo, .int .i64 r.bo, .int .i64 r.fr, .slice pr lr cr] 24)) (w3.heap.size + 1) #[.int .i64 l.id, .int .i64 l.te, .int .i64 l.de, .int .i64 l.fe, .int .i64 l.pr, .int .i64 l.ch, .int .i64 l.un] 27) := H10m.out.alloc _
  have H12A : Hid (ACame (w4.alloc (.cells #[.int .i64 r.me, .int .i64 r.rv, .int .i64 r.nx, .int .i64 r.mo, .int .i64 r.bo, .int .i64 r.fr, .slice pr lr cr] 24)) a pa na ca) := H10A.out.below ((Below.refl w4.heap.size w4).alloc (Nat.le_refl _) _)
  have H12U : Hid (TCame (w4.alloc (.cells #[.int .i64 r.me, .int .i64 r.rv, .int .i64 r.nx, .int .i64 r.mo, .int .i64 r.bo, .int .i64 r.fr, .slice pr lr cr] 24)) u pu nu cu) := H10U.out.below ((Below.refl w4.heap.size w4).alloc (Nat.le_refl _) _)
  have H12R : Hid (Came (w4.alloc (.cells #[.int .i64 r.me, .int .i64 r.rv, .int .i64 r.nx, .int .i64 r.mo, .int .i64 r.bo, .int .i64 r.fr, .slice pr lr cr] 24)) pr lr cr r.ds) := H11R.out.below ((Below.refl w4.heap.size w4).alloc (Nat.le_refl _) _)
  have H12r : Hid (Blk (w4.alloc (.cells #[.int .i64 r.me, .int .i64 r.rv, .int .i64 r.nx, .int .i64 r.mo, .int .i64 r.bo, .int .i64 r.fr, .slice pr lr cr] 24)) w4.heap.size #[.int .i64 r.me, .int .i64 r.rv, .int .i64 r.nx, .int .i64 r.mo, .int .i64 r.bo, .int .i64 r.fr, .slice pr lr cr] 24) := Blk.new w4 _ _
  have H12B : Hid (Below w.heap.size w (w4.alloc (.cells #[.int .i64 r.me, .int .i64 r.rv, .int .i64 r.nx, .int .i64 r.mo, .int .i64 r.bo, .int .i64 r.fr, .slice pr lr cr] 24))) := H10B.out.alloc H10B.out.size _
  have hsW5 : w4.heap.size < (w4.alloc (.cells #[.int .i64 r.me, .int .i64 r.rv, .int .i64 r.nx, .int .i64 r.mo, .int .i64 r.bo, .int .i64 r.fr, .slice pr lr cr] 24)).heap.size := (Blk.new w4 #[.int .i64 r.me, .int .i64 r.rv, .int .i64 r.nx, .int .i64 r.mo, .int .i64 r.bo, .int .i64 r.fr, .slice pr lr cr] 24).lt
  clear H10a H10u H10m H10A H10U H11R H10B
  go_upto_region 7 with fail
  generalize (w4.alloc (.cells #[.int .i64 r.me, .int .i64 r.rv, .int .i64 r.nx, .int .i64 r.mo, .int .i64 r.bo, .int .i64 r.fr, .slice pr lr cr] 24)) = W5 at *
  have hdb0 : 0 ≤ u.db := HTR.out.2.2.2.1.1
  have hdb1 : u.db ≤ 10000 := HTR.out.2.2.2.1.2
  have hfb0 : 0 ≤ u.fb := HTR.out.2.2.1.1
  have hfb1 : u.fb ≤ 10000 := HTR.out.2.2.1.2
  have hff0 : 0 ≤ u.ff := HTR.out.2.1.1
  have hff1 : u.ff ≤ 100000 := HTR.out.2.1.2
  have HRC : Hid (Calls Try.prog 18 #[.slice pr lr cr, .int .i64 tn, .int .i64 u.db] W5 fun e w' => deb.RecPost W5 r.ds tn u.db e w') := KC W5 pr lr cr r.ds tn u.db H12R.out HWN.out (tright_wf HTR.out).2.2.1
  have qr6 : W5.cell? ⟨w4.heap.size, 6, none⟩ = some (.slice pr lr cr) := H12r.out.cell 6
  have qu3 : W5.cell? ⟨w2.heap.size, 3, none⟩ = some (.int .i64 u.db) := H12u.out.cell 3
  go_wp2_with (first
    | (refine wp_whole rfl 24 _ rfl (w1.heap.size) rfl 24 #[.int .i64 a.me, .int .i64 a.rv, .int .i64 a.nx, .int .i64 a.mo, .int .i64 a.bo, .int .i64 a.fr, .slice pa na ca] _ H12a.out Try.underlying24 rfl (by kernel_rfl) ?_)
    | (refine wp_wholeG (by rfl) 24 _ rfl (w1.heap.size) rfl 24 #[.int .i64 a.me, .int .i64 a.rv, .int .i64 a.nx, .int .i64 a.mo, .int .i64 a.bo, .int .i64 a.fr, .slice pa na ca] _ H12a.out Try.underlying24 rfl (by kernel_rfl) ?_)
    | (refine wp_whole rfl 42 _ rfl (w2.heap.size) rfl 42 #[.slice pu nu cu, .int .i64 u.ff, .int .i64 u.fb, .int .i64 u.db, .int .i64 u.al] _ H12u.out Try.underlying42 rfl (by kernel_rfl) ?_)
    | (refine wp_wholeG (by rfl) 42 _ rfl (w2.heap.size) rfl 42 #[.slice pu nu cu, .int .i64 u.ff, .int .i64 u.fb, .int .i64 u.db, .int .i64 u.al] _ H12u.out Try.underlying42 rfl (by kernel_rfl) ?_)
    | (refine wp_whole rfl 27 _ rfl (w3.heap.size + 1) rfl 27 #[.int .i64 l.id, .int .i64 l.te, .int .i64 l.de, .int .i64 l.fe, .int .i64 l.pr, .int .i64 l.ch, .int .i64 l.un] _ H12m.out Try.underlying27 rfl (by kernel_rfl) ?_)
    | (refine wp_wholeG (by rfl) 27 _ rfl (w3.heap.size + 1) rfl 27 #[.int .i64 l.id, .int .i64 l.te, .int .i64 l.de, .int .i64 l.fe, .int .i64 l.pr, .int .i64 l.ch, .int .i64 l.un] _ H12m.out Try.underlying27 rfl (by kernel_rfl) ?_)
    | (refine wp_whole rfl 24 _ rfl (w4.heap.size) rfl 24 #[.int .i64 r.me, .int .i64 r.rv, .int .i64 r.nx, .int .i64 r.mo, .int .i64 r.bo, .int .i64 r.fr, .slice pr lr cr] _ H12r.out Try.underlying24 rfl (by kernel_rfl) ?_)
    | (refine wp_wholeG (by rfl) 24 _ rfl (w4.heap.size) rfl 24 #[.int .i64 r.me, .int .i64 r.rv, .int .i64 r.nx, .int .i64 r.mo, .int .i64 r.bo, .int .i64 r.fr, .slice pr lr cr] _ H12r.out Try.underlying24 rfl (by kernel_rfl) ?_)
    | fail)
  refine HRC.out.mono ?_
  rintro e w5 ⟨pz, lz, cz, z, pd, f7, rfl, hrec, hfz, hb5⟩
  have H13a : Hid (Blk w5 (w1.heap.size) #[.int .i64 a.me, .int .i64 a.rv, .int .i64 a.nx, .int .i64 a.mo, .int .i64 a.bo, .int .i64 a.fr, .slice pa na ca] 24) := H12a.out.next hb5
  have H13u : Hid (Blk w5 (w2.heap.size) #[.slice pu nu cu, .int .i64 u.ff, .int .i64 u.fb, .int .i64 u.db, .int .i64 u.al] 42) := H12u.out.next hb5
  have H13m : Hid (Blk w5 (w3.heap.size + 1) #[.int .i64 l.id, .int .i64 l.te, .int .i64 l.de, .int .i64 l.fe, .int .i64 l.pr, .int .i64 l.ch, .int .i64 l.un] 27) := H12m.out.next hb5
  have H13r : Hid (Blk w5 (w4.heap.size) #[.int .i64 r.me, .int .i64 r.rv, .int .i64 r.nx, .int .i64 r.mo, .int .i64 r.bo, .int .i64 r.fr, .slice pr lr cr] 24) := H12r.out.next hb5
  have H13A : Hid (ACame w5 a pa na ca) := H12A.out.below hb5
  have H13U : Hid (TCame w5 u pu nu cu) := H12U.out.below hb5
  have H13R : Hid (Came w5 pr lr cr r.ds) := H12R.out.below hb5
  have H13B : Hid (Below w.heap.size w w5) := H12B.out.trans (hb5.mono H12B.out.size)
  have hsw5 : W5.heap.size ≤ w5.heap.size := hb5.size
  clear hb5 H12a H12u H12m H12r H12A H12U H12R H12B
  clear qr6 qu3
  obtain ⟨rfl, hze, hpe⟩ := hrec.got HMR.out.1 ⟨⟨by omega, by omega⟩, hdb0, hdb1⟩
  have hl5 : r.ds.length = a.ds.length := by rw [HRE.out]; exact rolled_len a mm
  have hl2 := hfz.came.row.1
  rw [hze] at hl2
  have hl1 := deb.recK_len r.ds (tn * u.db / 10000) r.ds.length
  have hlz : lz ≤ na := by have h4 := HNA.out; omega
  clear hl5 hl2 hl1
  have hsd := mays_sum HMR.out.1
  have hrb := rec_bd (te := tn) (db := u.db) (by omega) ht1 hdb0 hdb1
  have hpd0 : 0 ≤ pd := by omega
  have hpd1 : pd ≤ tn := by omega
  have HPD : Hid (paid a u tn mm = pd) := by show min (tn * u.db / 10000) (deb.sumD (rolled a mm).ds) = pd; rw [← HRE.out]; exact hpe.symm
  clear hze hpe hrec hfz hsd hrb HRC
  have HPT : Hid (Calls Try.prog 19 #[.int .i64 tn, .int .i64 u.fb] w5 fun e w' => e = .returned (.tuple #[.int .i64 (tn * u.fb / 10000), .int .i64 0]) ∧ Below w5.heap.size w5 w') := cents.part_yes tn u.fb w5 (by omega) (by omega) hfb0 hfb1
  have hps := rec_bd (te := tn) (db := u.fb) (by omega) ht1 hfb0 hfb1
  have HFE : Hid (fee u tn = u.ff + tn * u.fb / 10000) := rfl
  generalize tn * u.fb / 10000 = ps at *
  have qu2 : w5.cell? ⟨w2.heap.size, 2, none⟩ = some (.int .i64 u.fb) := H13u.out.cell 2
  go_wp2_with (first
    | (refine wp_whole rfl 24 _ rfl (w1.heap.size) rfl 24 #[.int .i64 a.me, .int .i64 a.rv, .int .i64 a.nx, .int .i64 a.mo, .int .i64 a.bo, .int .i64 a.fr, .slice pa na ca] _ H13a.out Try.underlying24 rfl (by kernel_rfl) ?_)
    | (refine wp_wholeG (by rfl) 24 _ rfl (w1.heap.size) rfl 24 #[.int .i64 a.me, .int .i64 a.rv, .int .i64 a.nx, .int .i64 a.mo, .int .i64 a.bo, .int .i64 a.fr, .slice pa na ca] _ H13a.out Try.underlying24 rfl (by kernel_rfl) ?_)
    | (refine wp_whole rfl 42 _ rfl (w2.heap.size) rfl 42 #[.slice pu nu cu, .int .i64 u.ff, .int .i64 u.fb, .int .i64 u.db, .int .i64 u.al] _ H13u.out Try.underlying42 rfl (by kernel_rfl) ?_)
    | (refine wp_wholeG (by rfl) 42 _ rfl (w2.heap.size) rfl 42 #[.slice pu nu cu, .int .i64 u.ff, .int .i64 u.fb, .int .i64 u.db, .int .i64 u.al] _ H13u.out Try.underlying42 rfl (by kernel_rfl) ?_)
    | (refine wp_whole rfl 27 _ rfl (w3.heap.size + 1) rfl 27 #[.int .i64 l.id, .int .i64 l.te, .int .i64 l.de, .int .i64 l.fe, .int .i64 l.pr, .int .i64 l.ch, .int .i64 l.un] _ H13m.out Try.underlying27 rfl (by kernel_rfl) ?_)
    | (refine wp_wholeG (by rfl) 27 _ rfl (w3.heap.size + 1) rfl 27 #[.int .i64 l.id, .int .i64 l.te, .int .i64 l.de, .int .i64 l.fe, .int .i64 l.pr, .int .i64 l.ch, .int .i64 l.un] _ H13m.out Try.underlying27 rfl (by kernel_rfl) ?_)
    | (refine wp_whole rfl 24 _ rfl (w4.heap.size) rfl 24 #[.int .i64 r.me, .int .i64 r.rv, .int .i64 r.nx, .int .i64 r.mo, .int .i64 r.bo, .int .i64 r.fr, .slice pr lr cr] _ H13r.out Try.underlying24 rfl (by kernel_rfl) ?_)
    | (refine wp_wholeG (by rfl) 24 _ rfl (w4.heap.size) rfl 24 #[.int .i64 r.me, .int .i64 r.rv, .int .i64 r.nx, .int .i64 r.mo, .int .i64 r.bo, .int .i64 r.fr, .slice pr lr cr] _ H13r.out Try.underlying24 rfl (by kernel_rfl) ?_)
    | fail)
  refine HPT.out.mono ?_
  rintro e w5q ⟨rfl, hb5q⟩
  have H14a : Hid (Blk w5q (w1.heap.size) #[.int .i64 a.me, .int .i64 a.rv, .int .i64 a.nx, .int .i64 a.mo, .int .i64 a.bo, .int .i64 a.fr, .slice pa na ca] 24) := H13a.out.next hb5q
  have H14u : Hid (Blk w5q (w2.heap.size) #[.slice pu nu cu, .int .i64 u.ff, .int .i64 u.fb, .int .i64 u.db, .int .i64 u.al] 42) := H13u.out.next hb5q
  have H14m : Hid (Blk w5q (w3.heap.size + 1) #[.int .i64 l.id, .int .i64 l.te, .int .i64 l.de, .int .i64 l.fe, .int .i64 l.pr, .int .i64 l.ch, .int .i64 l.un] 27) := H13m.out.next hb5q
  have H14r : Hid (Blk w5q (w4.heap.size) #[.int .i64 r.me, .int .i64 r.rv, .int .i64 r.nx, .int .i64 r.mo, .int .i64 r.bo, .int .i64 r.fr, .slice pr lr cr] 24) := H13r.out.next hb5q
  have H14A : Hid (ACame w5q a pa na ca) := H13A.out.below hb5q
  have H14U : Hid (TCame w5q u pu nu cu) := H13U.out.below hb5q
  have H14R : Hid (Came w5q pr lr cr r.ds) := H13R.out.below hb5q
  have H14B : Hid (Below w.heap.size w w5q) := H13B.out.trans (hb5q.mono H13B.out.size)
  have hsw5q : w5.heap.size ≤ w5q.heap.size := hb5q.size
  clear hb5q H13a H13u H13m H13r H13A H13U H13R H13B
  clear qu2
  have HRS : Hid (rest a u tn mm = tn - pd - (u.ff + ps)) := by show tn - paid a u tn mm - fee u tn = _; rw [HPD.out, HFE.out]
  have hps0 := hps.1
  have hps1 := hps.2
  clear hps HPT
  have hdl : decide ((na : Int) < (lz : Int)) = false := by simp; omega
  have hlm : lz ≤ 9223372036854775807 := by have := H14A.out.ds.bytes; omega
  have hnm : na ≤ 9223372036854775807 := by have := H14A.out.ds.bytes; omega
  have HSC2 := HSC.out
  rw [HRS.out, ← HRE.out] at HSC2
  have hbo := HMR.out.2.2.2.2.2.1
  obtain ⟨hbo0, hbo1⟩ := hbo
  clear HSC
  rcases HSC2 with ⟨rfl, _, _, hx | ⟨hx, hy⟩ | ⟨hx, hy, hc⟩⟩ | ⟨rfl, v, hv, hv1, _, rfl⟩
  · have qa6 : w5q.cell? ⟨w1.heap.size, 6, none⟩ = some (.slice pa na ca) := H14a.out.cell 6
    have qu1 : w5q.cell? ⟨w2.heap.size, 1, none⟩ = some (.int .i64 u.ff) := H14u.out.cell 1
    have qr4 : w5q.cell? ⟨w4.heap.size, 4, none⟩ = some (.int .i64 r.bo) := H14r.out.cell 4
    go_wp2_with (first
      | fail)
    go_ret
    exact ⟨rfl, H14B.out⟩
  · have hd1 : decide (tn - pd - (u.ff + ps) < 0) = false := by simp; omega
    have hd2 : (r.bo == 10000000) = true := by rw [hy]; rfl
    clear hy
    have qa6 : w5q.cell? ⟨w1.heap.size, 6, none⟩ = some (.slice pa na ca) := H14a.out.cell 6
    have qu1 : w5q.cell? ⟨w2.heap.size, 1, none⟩ = some (.int .i64 u.ff) := H14u.out.cell 1
    have qr4 : w5q.cell? ⟨w4.heap.size, 4, none⟩ = some (.int .i64 r.bo) := H14r.out.cell 4
    go_wp2_with (first
      | fail)
    go_ret
    exact ⟨rfl, H14B.out⟩
  · have hd1 : decide (tn - pd - (u.ff + ps) < 0) = false := by simp; omega
    have hd2 : (r.bo == 10000000) = false := by simp; omega
    have HTP : Hid (Calls Try.prog 20 #[.slice pu nu cu, .int .i64 r.bo, .int .i64 1] w5q fun e w' => tar.TwoPost w5q (tar.PriceIs u.ts r.bo 1) e w') := KP w5q pu nu cu u.ts r.bo 1 H14U.out.ts (tar.wf_mid hbo0 (by omega)) (by decide)
    have qa6 : w5q.cell? ⟨w1.heap.size, 6, none⟩ = some (.slice pa na ca) := H14a.out.cell 6
    have qu1 : w5q.cell? ⟨w2.heap.size, 1, none⟩ = some (.int .i64 u.ff) := H14u.out.cell 1
    have qr4 : w5q.cell? ⟨w4.heap.size, 4, none⟩ = some (.int .i64 r.bo) := H14r.out.cell 4
    have qu0 : w5q.cell? ⟨w2.heap.size, 0, none⟩ = some (.slice pu nu cu) := H14u.out.cell 0
    go_wp2_with (first
      | fail)
    refine HTP.out.mono ?_
    rintro e w6 ⟨one, fi, rfl, hpi, hb6⟩
    obtain ⟨rfl, rfl⟩ := price_got hpi HTR.out.1 hbo0 hy
    have hd3 : decide (tn - pd - (u.ff + ps) < tar.cost u.ts r.bo (r.bo + 1)) = true := by simp; omega
    have H9 : Hid (Below w.heap.size w w6) := H14B.out.trans (hb6.mono H14B.out.size)
    generalize tar.cost u.ts r.bo (r.bo + 1) = cc at *
    clear hb6 hpi
    go_wp2_with fail
    go_ret
    exact ⟨rfl, H9.out⟩
  · have hmc := most_cost HTR.out.1 hbo0 hv hv1
    obtain ⟨g1, g2, _, _⟩ := hmc
    have HEB : Hid (bill a u tn mm v = ⟨a.nx, tn, pd, u.ff + ps, tar.cost u.ts r.bo (r.bo + v), tn - pd - (u.ff + ps) - tar.cost u.ts r.bo (r.bo + v), v⟩) := by
      show (⟨a.nx, tn, paid a u tn mm, fee u tn, tar.cost u.ts (rolled a mm).bo ((rolled a mm).bo + v), rest a u tn mm - tar.cost u.ts (rolled a mm).bo ((rolled a mm).bo + v), v⟩ : Bi) = _
      rw [HRS.out, HPD.out, HFE.out, ← HRE.out]
    rw [HEB.out] at H14m
    clear HEB hv
    generalize tar.cost u.ts r.bo (r.bo + v) = cc at *
    have HMM : Hid (Blk w5q (w3.heap.size + 1) #[.int .i64 a.nx, .int .i64 tn, .int .i64 pd, .int .i64 (u.ff + ps), .int .i64 cc, .int .i64 (tn - pd - (u.ff + ps) - cc), .int .i64 v] 27) := H14m.out
    clear H14m
    have q1 : (tn == tn) = true := by simp
    have q2 : (pd == pd) = true := by simp
    have q3 : (u.ff + ps == u.ff + ps) = true := by simp
    have q4 : decide (0 < cc) = true := by simp; omega
    have q5 : decide (0 ≤ tn - pd - (u.ff + ps) - cc) = true := by simp; omega
    have q6 : cc + (tn - pd - (u.ff + ps) - cc) = tn - pd - (u.ff + ps) := by omega
    have q7 : (tn - pd - (u.ff + ps) == tn - pd - (u.ff + ps)) = true := by simp
    have qa6 : w5q.cell? ⟨w1.heap.size, 6, none⟩ = some (.slice pa na ca) := H14a.out.cell 6
    have qu1 : w5q.cell? ⟨w2.heap.size, 1, none⟩ = some (.int .i64 u.ff) := H14u.out.cell 1
    have qr4 : w5q.cell? ⟨w4.heap.size, 4, none⟩ = some (.int .i64 r.bo) := H14r.out.cell 4
    have qm1 : w5q.cell? ⟨w3.heap.size + 1, 1, none⟩ = some (.int .i64 tn) := HMM.out.cell 1
    have qm2 : w5q.cell? ⟨w3.heap.size + 1, 2, none⟩ = some (.int .i64 pd) := HMM.out.cell 2
    have qm3 : w5q.cell? ⟨w3.heap.size + 1, 3, none⟩ = some (.int .i64 (u.ff + ps)) := HMM.out.cell 3
    have qm4 : w5q.cell? ⟨w3.heap.size + 1, 4, none⟩ = some (.int .i64 cc) := HMM.out.cell 4
    have qm5 : w5q.cell? ⟨w3.heap.size + 1, 5, none⟩ = some (.int .i64 (tn - pd - (u.ff + ps) - cc)) := HMM.out.cell 5
    go_wp2_with (first
      | fail)
    go_ret
    exact ⟨rfl, H14B.out⟩

end Go.Proofs.Ytlolippocnngcab.acc
