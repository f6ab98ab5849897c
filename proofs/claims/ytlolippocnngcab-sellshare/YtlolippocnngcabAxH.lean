/- The statement SellShare. -/
import Derived.Test.YtlolippocnngcabKcS
import Derived.Test.YtlolippocnngcabKdT
import Derived.Test.YtlolippocnngcabAxN
import Derived.Test.YtlolippocnngcabDbM
import Derived.Test.YtlolippocnngcabAcGo
import Derived.Test.YtlolippocnngcabAcAg
import Derived.Test.YtlolippocnngcabAcX
import Derived.Test.YtlolippocnngcabLetG
import Derived.Deep.DeepCutAuto
namespace Go.Proofs.Ytlolippocnngcab.acc
open Go.Proofs.Ytlolippocnngcab.tar (Du du0 Came RowD Ld PairT)
open Go.RowKit
set_option maxRecDepth 100000
set_option linter.unusedVariables false
set_option linter.unusedSimpArgs false

set_option maxHeartbeats 16000000 in
theorem SellShare_walk (KS : KcSell) (KT : deb.KdTotal) (x : Ac) (p : Option Addr) (len cap : Nat) (t : Tm) (pt : Option Addr) (lt ct : Nat) (te : Int) (w : World) (h : ACame w x p len cap) (ht : TCame w t pt lt ct) (hte : (Lit.int .i64 te).wf = true) : Calls Try.prog 7 #[x.v p len cap, t.v pt lt ct, .int .i64 te] w fun e w' => e = .returned (.bool true) ∧ Below w.heap.size w w' := by
  unfold Ac.v Ac.cs Tm.v
  have H0x : Hid (Blk ((w.alloc (.cells #[.int .i64 x.me, .int .i64 x.rv, .int .i64 x.nx, .int .i64 x.mo, .int .i64 x.bo, .int .i64 x.fr, .slice p len cap] 35)).alloc (.cells #[.slice pt lt ct, .int .i64 t.ff, .int .i64 t.fb, .int .i64 t.db, .int .i64 t.al] 38)) (w.heap.size) #[.int .i64 x.me, .int .i64 x.rv, .int .i64 x.nx, .int .i64 x.mo, .int .i64 x.bo, .int .i64 x.fr, .slice p len cap] 35) := (Blk.new w _ _).alloc _
  have H0d : Hid (Blk ((w.alloc (.cells #[.int .i64 x.me, .int .i64 x.rv, .int .i64 x.nx, .int .i64 x.mo, .int .i64 x.bo, .int .i64 x.fr, .slice p len cap] 35)).alloc (.cells #[.slice pt lt ct, .int .i64 t.ff, .int .i64 t.fb, .int .i64 t.db, .int .i64 t.al] 38)) (w.heap.size + 1) #[.slice pt lt ct, .int .i64 t.ff, .int .i64 t.fb, .int .i64 t.db, .int .i64 t.al] 38) := Blk.new1 w _ _ _
  have H0B : Hid (Below w.heap.size w ((w.alloc (.cells #[.int .i64 x.me, .int .i64 x.rv, .int .i64 x.nx, .int .i64 x.mo, .int .i64 x.bo, .int .i64 x.fr, .slice p len cap] 35)).alloc (.cells #[.slice pt lt ct, .int .i64 t.ff, .int .i64 t.fb, .int .i64 t.db, .int .i64 t.al] 38))) := ((Below.refl w.heap.size w).alloc (by simp) _).alloc (by simp) _
  have H0X : Hid (ACame ((w.alloc (.cells #[.int .i64 x.me, .int .i64 x.rv, .int .i64 x.nx, .int .i64 x.mo, .int .i64 x.bo, .int .i64 x.fr, .slice p len cap] 35)).alloc (.cells #[.slice pt lt ct, .int .i64 t.ff, .int .i64 t.fb, .int .i64 t.db, .int .i64 t.al] 38)) x p len cap) := h.below H0B.out
  have H0D : Hid (TCame ((w.alloc (.cells #[.int .i64 x.me, .int .i64 x.rv, .int .i64 x.nx, .int .i64 x.mo, .int .i64 x.bo, .int .i64 x.fr, .slice p len cap] 35)).alloc (.cells #[.slice pt lt ct, .int .i64 t.ff, .int .i64 t.fb, .int .i64 t.db, .int .i64 t.al] 38)) t pt lt ct) := ht.below H0B.out
  have hs0 : w.heap.size + 1 < ((w.alloc (.cells #[.int .i64 x.me, .int .i64 x.rv, .int .i64 x.nx, .int .i64 x.mo, .int .i64 x.bo, .int .i64 x.fr, .slice p len cap] 35)).alloc (.cells #[.slice pt lt ct, .int .i64 t.ff, .int .i64 t.fb, .int .i64 t.db, .int .i64 t.al] 38)).heap.size := H0d.out.lt
  generalize hWW : ((w.alloc (.cells #[.int .i64 x.me, .int .i64 x.rv, .int .i64 x.nx, .int .i64 x.mo, .int .i64 x.bo, .int .i64 x.fr, .slice p len cap] 35)).alloc (.cells #[.slice pt lt ct, .int .i64 t.ff, .int .i64 t.fb, .int .i64 t.db, .int .i64 t.al] 38)) = W0 at *
  have HWW : Hid (((w.alloc (.cells #[.int .i64 x.me, .int .i64 x.rv, .int .i64 x.nx, .int .i64 x.mo, .int .i64 x.bo, .int .i64 x.fr, .slice p len cap] 35)).alloc (.cells #[.slice pt lt ct, .int .i64 t.ff, .int .i64 t.fb, .int .i64 t.db, .int .i64 t.al] 38)) = W0) := hWW
  clear hWW
  go_enter Try.func7, Try.ntmps7
  go_upto_region 1 with fail
  rw [HWW.out]
  clear HWW
  have HGO : Hid (Calls Try.prog 13 #[.agg #[.int .i64 x.me, .int .i64 x.rv, .int .i64 x.nx, .int .i64 x.mo, .int .i64 x.bo, .int .i64 x.fr, .slice p len cap]] W0 fun e w' => GaveA W0 e w') := gone_any x p len cap W0 H0X.out
  clear h ht
  go_wp2_with (first
    | (refine wp_whole rfl 35 _ rfl (w.heap.size) rfl 35 #[.int .i64 x.me, .int .i64 x.rv, .int .i64 x.nx, .int .i64 x.mo, .int .i64 x.bo, .int .i64 x.fr, .slice p len cap] _ H0x.out Try.underlying35 rfl (by kernel_rfl) ?_)
    | (refine wp_wholeG (by rfl) 35 _ rfl (w.heap.size) rfl 35 #[.int .i64 x.me, .int .i64 x.rv, .int .i64 x.nx, .int .i64 x.mo, .int .i64 x.bo, .int .i64 x.fr, .slice p len cap] _ H0x.out Try.underlying35 rfl (by kernel_rfl) ?_)
    | (refine wp_whole rfl 38 _ rfl (w.heap.size + 1) rfl 38 #[.slice pt lt ct, .int .i64 t.ff, .int .i64 t.fb, .int .i64 t.db, .int .i64 t.al] _ H0d.out Try.underlying38 rfl (by kernel_rfl) ?_)
    | (refine wp_wholeG (by rfl) 38 _ rfl (w.heap.size + 1) rfl 38 #[.slice pt lt ct, .int .i64 t.ff, .int .i64 t.fb, .int .i64 t.db, .int .i64 t.al] _ H0d.out Try.underlying38 rfl (by kernel_rfl) ?_)
    | fail)
  refine HGO.out.mono ?_
  rintro e w1 ⟨a, pa, na, ca, rfl, ham, hnx, hmo1, hfa, hb1⟩
  have H1x : Hid (Blk w1 (w.heap.size) #[.int .i64 x.me, .int .i64 x.rv, .int .i64 x.nx, .int .i64 x.mo, .int .i64 x.bo, .int .i64 x.fr, .slice p len cap] 35) := H0x.out.next hb1
  have H1d : Hid (Blk w1 (w.heap.size + 1) #[.slice pt lt ct, .int .i64 t.ff, .int .i64 t.fb, .int .i64 t.db, .int .i64 t.al] 38) := H0d.out.next hb1
  have H1X : Hid (ACame w1 x p len cap) := H0X.out.below hb1
  have H1D : Hid (TCame w1 t pt lt ct) := H0D.out.below hb1
  have H1B : Hid (Below w.heap.size w w1) := H0B.out.trans (hb1.mono H0B.out.size)
  have hsw1 : W0.heap.size ≤ w1.heap.size := hb1.size
  clear hb1 H0x H0d H0X H0D H0B
  unfold Ac.v Ac.cs
  have H2A : Hid (ACame w1 a pa na ca) := ⟨hfa.came, amay_wf ham⟩
  have HAM : Hid (AMay a) := ham
  have hmo0 : 0 ≤ a.mo := ham.2.2.2.2.1.1
  have HNX : Hid (1 ≤ a.nx ∧ a.nx ≤ 1048574) := ⟨ham.2.2.2.1.1, hnx⟩
  have HNA : Hid (na = a.ds.length) := hfa.came.row.1.symm
  clear hfa ham hnx HGO
  clear H1x
  clear H1X
  have H3d : Hid (Blk (w1.alloc (.cells #[.int .i64 a.me, .int .i64 a.rv, .int .i64 a.nx, .int .i64 a.mo, .int .i64 a.bo, .int .i64 a.fr, .slice pa na ca] 24)) (w.heap.size + 1) #[.slice pt lt ct, .int .i64 t.ff, .int .i64 t.fb, .int .i64 t.db, .int .i64 t.al] 38) := H1d.out.alloc _
  have H3D : Hid (TCame (w1.alloc (.cells #[.int .i64 a.me, .int .i64 a.rv, .int .i64 a.nx, .int .i64 a.mo, .int .i64 a.bo, .int .i64 a.fr, .slice pa na ca] 24)) t pt lt ct) := H1D.out.below ((Below.refl w1.heap.size w1).alloc (Nat.le_refl _) _)
  have H3A : Hid (ACame (w1.alloc (.cells #[.int .i64 a.me, .int .i64 a.rv, .int .i64 a.nx, .int .i64 a.mo, .int .i64 a.bo, .int .i64 a.fr, .slice pa na ca] 24)) a pa na ca) := H2A.out.below ((Below.refl w1.heap.size w1).alloc (Nat.le_refl _) _)
  have H3a : Hid (Blk (w1.alloc (.cells #[.int .i64 a.me, .int .i64 a.rv, .int .i64 a.nx, .int .i64 a.mo, .int .i64 a.bo, .int .i64 a.fr, .slice pa na ca] 24)) w1.heap.size #[.int .i64 a.me, .int .i64 a.rv, .int .i64 a.nx, .int .i64 a.mo, .int .i64 a.bo, .int .i64 a.fr, .slice pa na ca] 24) := Blk.new w1 _ _
  have H3B : Hid (Below w.heap.size w (w1.alloc (.cells #[.int .i64 a.me, .int .i64 a.rv, .int .i64 a.nx, .int .i64 a.mo, .int .i64 a.bo, .int .i64 a.fr, .slice pa na ca] 24))) := H1B.out.alloc H1B.out.size _
  have hsW1 : w1.heap.size < (w1.alloc (.cells #[.int .i64 a.me, .int .i64 a.rv, .int .i64 a.nx, .int .i64 a.mo, .int .i64 a.bo, .int .i64 a.fr, .slice pa na ca] 24)).heap.size := (Blk.new w1 #[.int .i64 a.me, .int .i64 a.rv, .int .i64 a.nx, .int .i64 a.mo, .int .i64 a.bo, .int .i64 a.fr, .slice pa na ca] 24).lt
  clear H1d H1D H2A H1B
  go_upto_region 2 with fail
  generalize (w1.alloc (.cells #[.int .i64 a.me, .int .i64 a.rv, .int .i64 a.nx, .int .i64 a.mo, .int .i64 a.bo, .int .i64 a.fr, .slice pa na ca] 24)) = W1 at *
  have HAG : Hid (Calls Try.prog 14 #[.agg #[.slice pt lt ct, .int .i64 t.ff, .int .i64 t.fb, .int .i64 t.db, .int .i64 t.al]] W1 fun e w' => GaveT W1 e w') := agreed_any t pt lt ct W1 H3D.out
  go_wp2_with (first
    | (refine wp_whole rfl 38 _ rfl (w.heap.size + 1) rfl 38 #[.slice pt lt ct, .int .i64 t.ff, .int .i64 t.fb, .int .i64 t.db, .int .i64 t.al] _ H3d.out Try.underlying38 rfl (by kernel_rfl) ?_)
    | (refine wp_wholeG (by rfl) 38 _ rfl (w.heap.size + 1) rfl 38 #[.slice pt lt ct, .int .i64 t.ff, .int .i64 t.fb, .int .i64 t.db, .int .i64 t.al] _ H3d.out Try.underlying38 rfl (by kernel_rfl) ?_)
    | (refine wp_whole rfl 24 _ rfl (w1.heap.size) rfl 24 #[.int .i64 a.me, .int .i64 a.rv, .int .i64 a.nx, .int .i64 a.mo, .int .i64 a.bo, .int .i64 a.fr, .slice pa na ca] _ H3a.out Try.underlying24 rfl (by kernel_rfl) ?_)
    | (refine wp_wholeG (by rfl) 24 _ rfl (w1.heap.size) rfl 24 #[.int .i64 a.me, .int .i64 a.rv, .int .i64 a.nx, .int .i64 a.mo, .int .i64 a.bo, .int .i64 a.fr, .slice pa na ca] _ H3a.out Try.underlying24 rfl (by kernel_rfl) ?_)
    | fail)
  refine HAG.out.mono ?_
  rintro e w2 ⟨u, pu, nu, cu, rfl, htr, hcm, _, hb2⟩
  have H4d : Hid (Blk w2 (w.heap.size + 1) #[.slice pt lt ct, .int .i64 t.ff, .int .i64 t.fb, .int .i64 t.db, .int .i64 t.al] 38) := H3d.out.next hb2
  have H4a : Hid (Blk w2 (w1.heap.size) #[.int .i64 a.me, .int .i64 a.rv, .int .i64 a.nx, .int .i64 a.mo, .int .i64 a.bo, .int .i64 a.fr, .slice pa na ca] 24) := H3a.out.next hb2
  have H4D : Hid (TCame w2 t pt lt ct) := H3D.out.below hb2
  have H4A : Hid (ACame w2 a pa na ca) := H3A.out.below hb2
  have H4B : Hid (Below w.heap.size w w2) := H3B.out.trans (hb2.mono H3B.out.size)
  have hsw2 : W1.heap.size ≤ w2.heap.size := hb2.size
  clear hb2 H3d H3a H3D H3A H3B
  unfold Tm.v
  have H5U : Hid (TCame w2 u pu nu cu) := ⟨hcm, tright_wf htr⟩
  have HTR : Hid (TRight u) := htr
  clear hcm htr HAG
  clear H4d
  clear H4D
  have HLA : Hid (0 < na → ∀ y, pa = some y → y.block ≠ w2.heap.size) := fun hn y hy => Nat.ne_of_lt (came_lt H4A.out.ds hn y hy)
  have HLU : Hid (0 < nu → ∀ y, pu = some y → y.block ≠ w2.heap.size) := fun hn y hy => Nat.ne_of_lt (came_lt H5U.out.ts hn y hy)
  have H6a : Hid (Blk (w2.alloc (.cells #[.slice pu nu cu, .int .i64 u.ff, .int .i64 u.fb, .int .i64 u.db, .int .i64 u.al] 42)) (w1.heap.size) #[.int .i64 a.me, .int .i64 a.rv, .int .i64 a.nx, .int .i64 a.mo, .int .i64 a.bo, .int .i64 a.fr, .slice pa na ca] 24) := H4a.out.alloc _
  have H6A : Hid (ACame (w2.alloc (.cells #[.slice pu nu cu, .int .i64 u.ff, .int .i64 u.fb, .int .i64 u.db, .int .i64 u.al] 42)) a pa na ca) := H4A.out.below ((Below.refl w2.heap.size w2).alloc (Nat.le_refl _) _)
  have H6U : Hid (TCame (w2.alloc (.cells #[.slice pu nu cu, .int .i64 u.ff, .int .i64 u.fb, .int .i64 u.db, .int .i64 u.al] 42)) u pu nu cu) := H5U.out.below ((Below.refl w2.heap.size w2).alloc (Nat.le_refl _) _)
  have H6u : Hid (Blk (w2.alloc (.cells #[.slice pu nu cu, .int .i64 u.ff, .int .i64 u.fb, .int .i64 u.db, .int .i64 u.al] 42)) w2.heap.size #[.slice pu nu cu, .int .i64 u.ff, .int .i64 u.fb, .int .i64 u.db, .int .i64 u.al] 42) := Blk.new w2 _ _
  have H6B : Hid (Below w.heap.size w (w2.alloc (.cells #[.slice pu nu cu, .int .i64 u.ff, .int .i64 u.fb, .int .i64 u.db, .int .i64 u.al] 42))) := H4B.out.alloc H4B.out.size _
  have hsW2 : w2.heap.size < (w2.alloc (.cells #[.slice pu nu cu, .int .i64 u.ff, .int .i64 u.fb, .int .i64 u.db, .int .i64 u.al] 42)).heap.size := (Blk.new w2 #[.slice pu nu cu, .int .i64 u.ff, .int .i64 u.fb, .int .i64 u.db, .int .i64 u.al] 42).lt
  clear H4a H4A H5U H4B
  go_upto_region 3 with fail
  generalize (w2.alloc (.cells #[.slice pu nu cu, .int .i64 u.ff, .int .i64 u.fb, .int .i64 u.db, .int .i64 u.al] 42)) = W2 at *
  have HPM : Hid (∀ W, Calls Try.prog 15 #[.int .i64 te, .int .i64 100000000] W fun e w' => e = .returned (.int .i64 (check.pick te 100000000)) ∧ w' = W) := fun W => check.picked_any te 100000000 W hte (by decide) (by decide)
  have hz0 := check.pick_nonneg te 100000000 (by decide)
  have hz1 := check.pick_lt te 100000000 (by decide)
  generalize (check.pick te 100000000) = z1 at *
  go_wp2_with (first
    | (refine wp_whole rfl 24 _ rfl (w1.heap.size) rfl 24 #[.int .i64 a.me, .int .i64 a.rv, .int .i64 a.nx, .int .i64 a.mo, .int .i64 a.bo, .int .i64 a.fr, .slice pa na ca] _ H6a.out Try.underlying24 rfl (by kernel_rfl) ?_)
    | (refine wp_wholeG (by rfl) 24 _ rfl (w1.heap.size) rfl 24 #[.int .i64 a.me, .int .i64 a.rv, .int .i64 a.nx, .int .i64 a.mo, .int .i64 a.bo, .int .i64 a.fr, .slice pa na ca] _ H6a.out Try.underlying24 rfl (by kernel_rfl) ?_)
    | (refine wp_whole rfl 42 _ rfl (w2.heap.size) rfl 42 #[.slice pu nu cu, .int .i64 u.ff, .int .i64 u.fb, .int .i64 u.db, .int .i64 u.al] _ H6u.out Try.underlying42 rfl (by kernel_rfl) ?_)
    | (refine wp_wholeG (by rfl) 42 _ rfl (w2.heap.size) rfl 42 #[.slice pu nu cu, .int .i64 u.ff, .int .i64 u.fb, .int .i64 u.db, .int .i64 u.al] _ H6u.out Try.underlying42 rfl (by kernel_rfl) ?_)
    | fail)
  refine (HPM.out _).mono ?_
  rintro e wz ⟨rfl, hwz⟩
  obtain rfl : W2 = wz := hwz.symm
  have ht0 : 1 ≤ 1 + z1 := by omega
  have ht1 : 1 + z1 ≤ 100000000 := by omega
  go_upto_region 4 with fail
  generalize 1 + z1 = tn at *
  clear HPM hz0 hz1
  have HWN : Hid ((Lit.int .i64 tn).wf = true) := tar.wf_mid (by omega) (by omega)
  have HRY : Hid (Ready a u a.mo) := ⟨HAM.out, HTR.out, ⟨hmo0, by omega⟩, Int.le_refl _⟩
  have HSL : Hid (Calls Try.prog 16 #[.agg #[.int .i64 a.me, .int .i64 a.rv, .int .i64 a.nx, .int .i64 a.mo, .int .i64 a.bo, .int .i64 a.fr, .slice pa na ca], .agg #[.slice pu nu cu, .int .i64 u.ff, .int .i64 u.fb, .int .i64 u.db, .int .i64 u.al], .int .i64 tn, .int .i64 a.mo] W2 fun e w' => BPost W2 (SellIs a u tn a.mo) e w') := KS W2 a pa na ca u pu nu cu tn a.mo H6A.out H6U.out HWN.out (tar.wf_mid hmo0 (by omega))
  have qa3 : W2.cell? ⟨w1.heap.size, 3, none⟩ = some (.int .i64 a.mo) := H6a.out.cell 3
  go_wp2_with (first
    | (refine wp_whole rfl 24 _ rfl (w1.heap.size) rfl 24 #[.int .i64 a.me, .int .i64 a.rv, .int .i64 a.nx, .int .i64 a.mo, .int .i64 a.bo, .int .i64 a.fr, .slice pa na ca] _ H6a.out Try.underlying24 rfl (by kernel_rfl) ?_)
    | (refine wp_wholeG (by rfl) 24 _ rfl (w1.heap.size) rfl 24 #[.int .i64 a.me, .int .i64 a.rv, .int .i64 a.nx, .int .i64 a.mo, .int .i64 a.bo, .int .i64 a.fr, .slice pa na ca] _ H6a.out Try.underlying24 rfl (by kernel_rfl) ?_)
    | (refine wp_whole rfl 42 _ rfl (w2.heap.size) rfl 42 #[.slice pu nu cu, .int .i64 u.ff, .int .i64 u.fb, .int .i64 u.db, .int .i64 u.al] _ H6u.out Try.underlying42 rfl (by kernel_rfl) ?_)
    | (refine wp_wholeG (by rfl) 42 _ rfl (w2.heap.size) rfl 42 #[.slice pu nu cu, .int .i64 u.ff, .int .i64 u.fb, .int .i64 u.db, .int .i64 u.al] _ H6u.out Try.underlying42 rfl (by kernel_rfl) ?_)
    | fail)
  refine HSL.out.mono ?_
  rintro e w3 ⟨b, l, pb, lb, cb, fb, rfl, hib, hfb, hb3⟩
  have H7a : Hid (Blk w3 (w1.heap.size) #[.int .i64 a.me, .int .i64 a.rv, .int .i64 a.nx, .int .i64 a.mo, .int .i64 a.bo, .int .i64 a.fr, .slice pa na ca] 24) := H6a.out.next hb3
  have H7u : Hid (Blk w3 (w2.heap.size) #[.slice pu nu cu, .int .i64 u.ff, .int .i64 u.fb, .int .i64 u.db, .int .i64 u.al] 42) := H6u.out.next hb3
  have H7A : Hid (ACame w3 a pa na ca) := H6A.out.below hb3
  have H7U : Hid (TCame w3 u pu nu cu) := H6U.out.below hb3
  have H7B : Hid (Below w.heap.size w w3) := H6B.out.trans (hb3.mono H6B.out.size)
  have hsw3 : W2.heap.size ≤ w3.heap.size := hb3.size
  clear hb3 H6a H6u H6A H6U H6B
  clear qa3
  unfold Ac.v Ac.cs Bi.v
  have HSC : Hid _ := sell_cases hib HRY.out HNX.out.2 ⟨ht0, ht1⟩
  clear hib hfb HSL
  have H8a : Hid (Blk ((w3.alloc (.cells #[.int .i64 b.me, .int .i64 b.rv, .int .i64 b.nx, .int .i64 b.mo, .int .i64 b.bo, .int .i64 b.fr, .slice pb lb cb] 24)).alloc (.cells #[.int .i64 l.id, .int .i64 l.te, .int .i64 l.de, .int .i64 l.fe, .int .i64 l.pr, .int .i64 l.ch, .int .i64 l.un] 27)) (w1.heap.size) #[.int .i64 a.me, .int .i64 a.rv, .int .i64 a.nx, .int .i64 a.mo, .int .i64 a.bo, .int .i64 a.fr, .slice pa na ca] 24) := (H7a.out.alloc _).alloc _
  have H8u : Hid (Blk ((w3.alloc (.cells #[.int .i64 b.me, .int .i64 b.rv, .int .i64 b.nx, .int .i64 b.mo, .int .i64 b.bo, .int .i64 b.fr, .slice pb lb cb] 24)).alloc (.cells #[.int .i64 l.id, .int .i64 l.te, .int .i64 l.de, .int .i64 l.fe, .int .i64 l.pr, .int .i64 l.ch, .int .i64 l.un] 27)) (w2.heap.size) #[.slice pu nu cu, .int .i64 u.ff, .int .i64 u.fb, .int .i64 u.db, .int .i64 u.al] 42) := (H7u.out.alloc _).alloc _
  have H8A : Hid (ACame ((w3.alloc (.cells #[.int .i64 b.me, .int .i64 b.rv, .int .i64 b.nx, .int .i64 b.mo, .int .i64 b.bo, .int .i64 b.fr, .slice pb lb cb] 24)).alloc (.cells #[.int .i64 l.id, .int .i64 l.te, .int .i64 l.de, .int .i64 l.fe, .int .i64 l.pr, .int .i64 l.ch, .int .i64 l.un] 27)) a pa na ca) := H7A.out.below (((Below.refl w3.heap.size w3).alloc (by simp) _).alloc (by simp) _)
  have H8U : Hid (TCame ((w3.alloc (.cells #[.int .i64 b.me, .int .i64 b.rv, .int .i64 b.nx, .int .i64 b.mo, .int .i64 b.bo, .int .i64 b.fr, .slice pb lb cb] 24)).alloc (.cells #[.int .i64 l.id, .int .i64 l.te, .int .i64 l.de, .int .i64 l.fe, .int .i64 l.pr, .int .i64 l.ch, .int .i64 l.un] 27)) u pu nu cu) := H7U.out.below (((Below.refl w3.heap.size w3).alloc (by simp) _).alloc (by simp) _)
  have H8b : Hid (Blk ((w3.alloc (.cells #[.int .i64 b.me, .int .i64 b.rv, .int .i64 b.nx, .int .i64 b.mo, .int .i64 b.bo, .int .i64 b.fr, .slice pb lb cb] 24)).alloc (.cells #[.int .i64 l.id, .int .i64 l.te, .int .i64 l.de, .int .i64 l.fe, .int .i64 l.pr, .int .i64 l.ch, .int .i64 l.un] 27)) w3.heap.size #[.int .i64 b.me, .int .i64 b.rv, .int .i64 b.nx, .int .i64 b.mo, .int .i64 b.bo, .int .i64 b.fr, .slice pb lb cb] 24) := (Blk.new w3 _ _).alloc _
  have H8m : Hid (Blk ((w3.alloc (.cells #[.int .i64 b.me, .int .i64 b.rv, .int .i64 b.nx, .int .i64 b.mo, .int .i64 b.bo, .int .i64 b.fr, .slice pb lb cb] 24)).alloc (.cells #[.int .i64 l.id, .int .i64 l.te, .int .i64 l.de, .int .i64 l.fe, .int .i64 l.pr, .int .i64 l.ch, .int .i64 l.un] 27)) (w3.heap.size + 1) #[.int .i64 l.id, .int .i64 l.te, .int .i64 l.de, .int .i64 l.fe, .int .i64 l.pr, .int .i64 l.ch, .int .i64 l.un] 27) := Blk.new1 w3 _ _ _
  have H8B : Hid (Below w.heap.size w ((w3.alloc (.cells #[.int .i64 b.me, .int .i64 b.rv, .int .i64 b.nx, .int .i64 b.mo, .int .i64 b.bo, .int .i64 b.fr, .slice pb lb cb] 24)).alloc (.cells #[.int .i64 l.id, .int .i64 l.te, .int .i64 l.de, .int .i64 l.fe, .int .i64 l.pr, .int .i64 l.ch, .int .i64 l.un] 27))) := (H7B.out.alloc H7B.out.size _).alloc (Nat.le_trans H7B.out.size (by simp)) _
  have hsW4 : w3.heap.size + 1 < ((w3.alloc (.cells #[.int .i64 b.me, .int .i64 b.rv, .int .i64 b.nx, .int .i64 b.mo, .int .i64 b.bo, .int .i64 b.fr, .slice pb lb cb] 24)).alloc (.cells #[.int .i64 l.id, .int .i64 l.te, .int .i64 l.de, .int .i64 l.fe, .int .i64 l.pr, .int .i64 l.ch, .int .i64 l.un] 27)).heap.size := (Blk.new1 w3 _ #[.int .i64 l.id, .int .i64 l.te, .int .i64 l.de, .int .i64 l.fe, .int .i64 l.pr, .int .i64 l.ch, .int .i64 l.un] 27).lt
  clear H7a H7u H7A H7U H7B
  go_upto_region 5 with fail
  generalize ((w3.alloc (.cells #[.int .i64 b.me, .int .i64 b.rv, .int .i64 b.nx, .int .i64 b.mo, .int .i64 b.bo, .int .i64 b.fr, .slice pb lb cb] 24)).alloc (.cells #[.int .i64 l.id, .int .i64 l.te, .int .i64 l.de, .int .i64 l.fe, .int .i64 l.pr, .int .i64 l.ch, .int .i64 l.un] 27)) = W4 at *
  clear H8b
  have hq1 := mays_sum HAM.out.1
  have HMA : Hid (deb.Mays a.ds) := HAM.out.1
  have HRA : Hid (rolled a a.mo = a) := by show rolled a a.mo = a; unfold rolled; rw [if_pos rfl]
  have HT1 : Hid (Calls Try.prog 21 #[.slice pa na ca] W4 fun e w' => e = .returned (.tuple #[.int .i64 (deb.sumD a.ds), .int .i64 0]) ∧ Below W4.heap.size W4 w') := (KT W4 pa na ca a.ds H8A.out.ds).mono (by rintro e w9 ⟨p9, e9, rfl, h9, hb9⟩; obtain ⟨rfl, rfl⟩ := owed_got h9 HMA.out; exact ⟨rfl, hb9⟩)
  have qa6 : W4.cell? ⟨w1.heap.size, 6, none⟩ = some (.slice pa na ca) := H8a.out.cell 6
  go_wp2_with (first
    | (refine wp_whole rfl 24 _ rfl (w1.heap.size) rfl 24 #[.int .i64 a.me, .int .i64 a.rv, .int .i64 a.nx, .int .i64 a.mo, .int .i64 a.bo, .int .i64 a.fr, .slice pa na ca] _ H8a.out Try.underlying24 rfl (by kernel_rfl) ?_)
    | (refine wp_wholeG (by rfl) 24 _ rfl (w1.heap.size) rfl 24 #[.int .i64 a.me, .int .i64 a.rv, .int .i64 a.nx, .int .i64 a.mo, .int .i64 a.bo, .int .i64 a.fr, .slice pa na ca] _ H8a.out Try.underlying24 rfl (by kernel_rfl) ?_)
    | (refine wp_whole rfl 42 _ rfl (w2.heap.size) rfl 42 #[.slice pu nu cu, .int .i64 u.ff, .int .i64 u.fb, .int .i64 u.db, .int .i64 u.al] _ H8u.out Try.underlying42 rfl (by kernel_rfl) ?_)
    | (refine wp_wholeG (by rfl) 42 _ rfl (w2.heap.size) rfl 42 #[.slice pu nu cu, .int .i64 u.ff, .int .i64 u.fb, .int .i64 u.db, .int .i64 u.al] _ H8u.out Try.underlying42 rfl (by kernel_rfl) ?_)
    | (refine wp_whole rfl 27 _ rfl (w3.heap.size + 1) rfl 27 #[.int .i64 l.id, .int .i64 l.te, .int .i64 l.de, .int .i64 l.fe, .int .i64 l.pr, .int .i64 l.ch, .int .i64 l.un] _ H8m.out Try.underlying27 rfl (by kernel_rfl) ?_)
    | (refine wp_wholeG (by rfl) 27 _ rfl (w3.heap.size + 1) rfl 27 #[.int .i64 l.id, .int .i64 l.te, .int .i64 l.de, .int .i64 l.fe, .int .i64 l.pr, .int .i64 l.ch, .int .i64 l.un] _ H8m.out Try.underlying27 rfl (by kernel_rfl) ?_)
    | fail)
  refine HT1.out.mono ?_
  rintro e w5 ⟨rfl, hb5⟩
  have H9a : Hid (Blk w5 (w1.heap.size) #[.int .i64 a.me, .int .i64 a.rv, .int .i64 a.nx, .int .i64 a.mo, .int .i64 a.bo, .int .i64 a.fr, .slice pa na ca] 24) := H8a.out.next hb5
  have H9u : Hid (Blk w5 (w2.heap.size) #[.slice pu nu cu, .int .i64 u.ff, .int .i64 u.fb, .int .i64 u.db, .int .i64 u.al] 42) := H8u.out.next hb5
  have H9m : Hid (Blk w5 (w3.heap.size + 1) #[.int .i64 l.id, .int .i64 l.te, .int .i64 l.de, .int .i64 l.fe, .int .i64 l.pr, .int .i64 l.ch, .int .i64 l.un] 27) := H8m.out.next hb5
  have H9A : Hid (ACame w5 a pa na ca) := H8A.out.below hb5
  have H9U : Hid (TCame w5 u pu nu cu) := H8U.out.below hb5
  have H9B : Hid (Below w.heap.size w w5) := H8B.out.trans (hb5.mono H8B.out.size)
  have hsw5 : W4.heap.size ≤ w5.heap.size := hb5.size
  clear hb5 H8a H8u H8m H8A H8U H8B
  clear qa6
  clear HT1
  have HSO : Hid (Calls Try.prog 22 #[.slice pa na ca] w5 fun e w' => e = .returned (.int .i64 (deb.sumD a.ds)) ∧ w' = w5) := deb.sumof pa na ca a.ds w5 H9A.out.ds.row HMA.out
  have HSC2 := HSC.out
  clear HSC
  rcases HSC2 with ⟨rfl, _, _, _⟩ | ⟨rfl, v, hv, hv1, _, hbl⟩
  · clear HSO
    go_wp2_with (first
      | fail)
    go_ret
    exact ⟨rfl, H9B.out⟩
  · have hdb0 : 0 ≤ u.db := HTR.out.2.2.2.1.1
    have hdb1 : u.db ≤ 10000 := HTR.out.2.2.2.1.2
    have hso := share_one (tn := tn) (db := u.db) (s := deb.sumD a.ds) (by omega) hdb0
    have hrb := rec_bd (te := tn) (db := u.db) (by omega) ht1 hdb0 hdb1
    have e1 : l.te = tn ∧ l.de = min (tn * u.db / 10000) (deb.sumD a.ds) := by rw [hbl]; exact ⟨rfl, by show min (tn * u.db / 10000) (deb.sumD (rolled a a.mo).ds) = _; rw [HRA.out]⟩
    have hpd : min (tn * u.db / 10000) (deb.sumD a.ds) ≤ tn := by omega
    have hpd0 : 0 ≤ min (tn * u.db / 10000) (deb.sumD a.ds) := by omega
    have hpo : min (tn * u.db / 10000) (deb.sumD a.ds) ≤ deb.sumD a.ds := by omega
    have HLL : Hid (Blk w5 (w3.heap.size + 1) #[.int .i64 l.id, .int .i64 tn, .int .i64 (min (tn * u.db / 10000) (deb.sumD a.ds)), .int .i64 l.fe, .int .i64 l.pr, .int .i64 l.ch, .int .i64 l.un] 27) := by
      have h := H9m.out
      rw [e1.1, e1.2] at h
      exact h
    have hmu0 := Int.mul_nonneg (show 0 ≤ tn by omega) hdb0
    have hmu1 : tn * u.db ≤ tn * 10000 := Int.mul_le_mul_of_nonneg_left hdb1 (by omega)
    clear H9m hbl hv e1 hrb
    generalize min (tn * u.db / 10000) (deb.sumD a.ds) = pd at *
    generalize deb.sumD a.ds = od at *
    generalize hQ : tn * u.db = qq at *
    obtain ⟨i1, i2⟩ := hso
    have m1 : (od == od) = true := by simp
    have m2 : (tn == tn) = true := by simp
    have m3 : decide (pd * 10000 ≤ qq) = true := by simp; omega
    have m4 : decide (pd ≤ od) = true := by simp; omega
    have hqq : qq ≤ 1000000000000 := by omega
    clear hmu1
    by_cases hpe : pd = od
    · have m5 : (pd == od) = true := by rw [hpe]; simp
      clear i1 i2 hpe
      have qm1 : w5.cell? ⟨w3.heap.size + 1, 1, none⟩ = some (.int .i64 tn) := HLL.out.cell 1
      have qm2 : w5.cell? ⟨w3.heap.size + 1, 2, none⟩ = some (.int .i64 pd) := HLL.out.cell 2
      have qu3 : w5.cell? ⟨w2.heap.size, 3, none⟩ = some (.int .i64 u.db) := H9u.out.cell 3
      have qa6 : w5.cell? ⟨w1.heap.size, 6, none⟩ = some (.slice pa na ca) := H9a.out.cell 6
      go_wp2_with (first
        | fail)
      refine HSO.out.mono ?_
      rintro e wz ⟨rfl, hwz⟩
      subst wz
      clear HSO
      go_wp2_with fail
      go_ret
      exact ⟨rfl, H9B.out⟩
    · have m5 : (pd == od) = false := by simpa using hpe
      have m6 : decide (qq < (pd + 1) * 10000) = true := decide_eq_true (by rcases i2 with i2 | i2; exact absurd i2 hpe; exact i2)
      clear i1 i2 hpe
      have qm1 : w5.cell? ⟨w3.heap.size + 1, 1, none⟩ = some (.int .i64 tn) := HLL.out.cell 1
      have qm2 : w5.cell? ⟨w3.heap.size + 1, 2, none⟩ = some (.int .i64 pd) := HLL.out.cell 2
      have qu3 : w5.cell? ⟨w2.heap.size, 3, none⟩ = some (.int .i64 u.db) := H9u.out.cell 3
      have qa6 : w5.cell? ⟨w1.heap.size, 6, none⟩ = some (.slice pa na ca) := H9a.out.cell 6
      go_wp2_with (first
        | fail)
      refine HSO.out.mono ?_
      rintro e wz ⟨rfl, hwz⟩
      subst wz
      clear HSO
      go_wp2_with fail
      go_ret
      exact ⟨rfl, H9B.out⟩

end Go.Proofs.Ytlolippocnngcab.acc
