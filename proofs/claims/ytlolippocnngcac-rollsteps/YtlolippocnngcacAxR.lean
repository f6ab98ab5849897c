/- The statement RollSteps. -/
import Derived.Test.YtlolippocnngcacKcR
import Derived.Test.YtlolippocnngcacAcSk
import Derived.Test.YtlolippocnngcacAcGo
import Derived.Test.YtlolippocnngcacAcX
import Derived.Test.YtlolippocnngcacLetG
import Derived.Deep.DeepCutAuto
namespace Go.Proofs.Ytlolippocnngcac.acc
open Go.Proofs.Ytlolippocnngcac.tar (Du du0 Came RowD Ld PairT)
open Go.RowKit
set_option maxRecDepth 100000
set_option linter.unusedVariables false
set_option linter.unusedSimpArgs false

set_option maxHeartbeats 16000000 in
theorem RollSteps_walk (KR : KcRoll) (x : Ac) (p : Option Addr) (len cap : Nat) (oa : Int) (tb : Int) (w : World) (h : ACame w x p len cap) (hoa : (Lit.int .i64 oa).wf = true) (htb : (Lit.int .i64 tb).wf = true) : Calls Try.prog 3 #[x.v p len cap, .int .i64 oa, .int .i64 tb] w fun e w' => e = .returned (.bool true) ∧ Below w.heap.size w w' := by
  unfold Ac.v Ac.cs
  have H0x : Hid (Blk (w.alloc (.cells #[.int .i64 x.me, .int .i64 x.rv, .int .i64 x.nx, .int .i64 x.mo, .int .i64 x.bo, .int .i64 x.fr, .slice p len cap] 24)) (w.heap.size) #[.int .i64 x.me, .int .i64 x.rv, .int .i64 x.nx, .int .i64 x.mo, .int .i64 x.bo, .int .i64 x.fr, .slice p len cap] 24) := Blk.new w _ _
  have H0B : Hid (Below w.heap.size w (w.alloc (.cells #[.int .i64 x.me, .int .i64 x.rv, .int .i64 x.nx, .int .i64 x.mo, .int .i64 x.bo, .int .i64 x.fr, .slice p len cap] 24))) := (Below.refl w.heap.size w).alloc (by simp) _
  have H0X : Hid (ACame (w.alloc (.cells #[.int .i64 x.me, .int .i64 x.rv, .int .i64 x.nx, .int .i64 x.mo, .int .i64 x.bo, .int .i64 x.fr, .slice p len cap] 24)) x p len cap) := h.below H0B.out
  have hs0 : w.heap.size < (w.alloc (.cells #[.int .i64 x.me, .int .i64 x.rv, .int .i64 x.nx, .int .i64 x.mo, .int .i64 x.bo, .int .i64 x.fr, .slice p len cap] 24)).heap.size := H0x.out.lt
  generalize hWW : (w.alloc (.cells #[.int .i64 x.me, .int .i64 x.rv, .int .i64 x.nx, .int .i64 x.mo, .int .i64 x.bo, .int .i64 x.fr, .slice p len cap] 24)) = W0 at *
  have HWW : Hid ((w.alloc (.cells #[.int .i64 x.me, .int .i64 x.rv, .int .i64 x.nx, .int .i64 x.mo, .int .i64 x.bo, .int .i64 x.fr, .slice p len cap] 24)) = W0) := hWW
  clear hWW
  go_enter Try.func3, Try.ntmps3
  go_upto_region 1 with fail
  rw [HWW.out]
  clear HWW
  have HGO : Hid (Calls Try.prog 4 #[.agg #[.int .i64 x.me, .int .i64 x.rv, .int .i64 x.nx, .int .i64 x.mo, .int .i64 x.bo, .int .i64 x.fr, .slice p len cap]] W0 fun e w' => GaveA W0 e w') := gone_any x p len cap W0 H0X.out
  clear h
  go_wp2_with (first
    | (refine wp_whole rfl 24 _ rfl (w.heap.size) rfl 24 #[.int .i64 x.me, .int .i64 x.rv, .int .i64 x.nx, .int .i64 x.mo, .int .i64 x.bo, .int .i64 x.fr, .slice p len cap] _ H0x.out Try.underlying24 rfl (by kernel_rfl) ?_)
    | (refine wp_wholeG (by rfl) 24 _ rfl (w.heap.size) rfl 24 #[.int .i64 x.me, .int .i64 x.rv, .int .i64 x.nx, .int .i64 x.mo, .int .i64 x.bo, .int .i64 x.fr, .slice p len cap] _ H0x.out Try.underlying24 rfl (by kernel_rfl) ?_)
    | fail)
  refine HGO.out.mono ?_
  rintro e w1 ⟨a, pa, na, ca, rfl, ham, hnx, hmo1, hfa, hb1⟩
  have H1x : Hid (Blk w1 (w.heap.size) #[.int .i64 x.me, .int .i64 x.rv, .int .i64 x.nx, .int .i64 x.mo, .int .i64 x.bo, .int .i64 x.fr, .slice p len cap] 24) := H0x.out.next hb1
  have H1X : Hid (ACame w1 x p len cap) := H0X.out.below hb1
  have H1B : Hid (Below w.heap.size w w1) := H0B.out.trans (hb1.mono H0B.out.size)
  have hsw1 : W0.heap.size ≤ w1.heap.size := hb1.size
  clear hb1 H0x H0X H0B
  unfold Ac.v Ac.cs
  have H2A : Hid (ACame w1 a pa na ca) := ⟨hfa.came, amay_wf ham⟩
  have HAM : Hid (AMay a) := ham
  have hmo0 : 0 ≤ a.mo := ham.2.2.2.2.1.1
  have HNX : Hid (1 ≤ a.nx ∧ a.nx ≤ 1048574) := ⟨ham.2.2.2.1.1, hnx⟩
  have HNA : Hid (na = a.ds.length) := hfa.came.row.1.symm
  clear hfa ham hnx HGO
  clear H1x
  clear H1X
  have H3A : Hid (ACame (w1.alloc (.cells #[.int .i64 a.me, .int .i64 a.rv, .int .i64 a.nx, .int .i64 a.mo, .int .i64 a.bo, .int .i64 a.fr, .slice pa na ca] 27)) a pa na ca) := H2A.out.below ((Below.refl w1.heap.size w1).alloc (Nat.le_refl _) _)
  have H3a : Hid (Blk (w1.alloc (.cells #[.int .i64 a.me, .int .i64 a.rv, .int .i64 a.nx, .int .i64 a.mo, .int .i64 a.bo, .int .i64 a.fr, .slice pa na ca] 27)) w1.heap.size #[.int .i64 a.me, .int .i64 a.rv, .int .i64 a.nx, .int .i64 a.mo, .int .i64 a.bo, .int .i64 a.fr, .slice pa na ca] 27) := Blk.new w1 _ _
  have H3B : Hid (Below w.heap.size w (w1.alloc (.cells #[.int .i64 a.me, .int .i64 a.rv, .int .i64 a.nx, .int .i64 a.mo, .int .i64 a.bo, .int .i64 a.fr, .slice pa na ca] 27))) := H1B.out.alloc H1B.out.size _
  have hsW1 : w1.heap.size < (w1.alloc (.cells #[.int .i64 a.me, .int .i64 a.rv, .int .i64 a.nx, .int .i64 a.mo, .int .i64 a.bo, .int .i64 a.fr, .slice pa na ca] 27)).heap.size := (Blk.new w1 #[.int .i64 a.me, .int .i64 a.rv, .int .i64 a.nx, .int .i64 a.mo, .int .i64 a.bo, .int .i64 a.fr, .slice pa na ca] 27).lt
  clear H2A H1B
  go_upto_region 2 with fail
  generalize (w1.alloc (.cells #[.int .i64 a.me, .int .i64 a.rv, .int .i64 a.nx, .int .i64 a.mo, .int .i64 a.bo, .int .i64 a.fr, .slice pa na ca] 27)) = W1 at *
  have HPL : Hid (∀ W, Calls Try.prog 5 #[.int .i64 oa, .int .i64 (2399 - a.mo + 1)] W fun e w' => e = .returned (.int .i64 (check.pick oa (2399 - a.mo + 1))) ∧ w' = W) := fun W => check.picked_any oa (2399 - a.mo + 1) W hoa (by omega) (by omega)
  have hpl0 := check.pick_nonneg oa (2399 - a.mo + 1) (by omega)
  have hpl1 := check.pick_lt oa (2399 - a.mo + 1) (by omega)
  generalize (check.pick oa (2399 - a.mo + 1)) = zl at *
  go_wp2_with (first
    | (refine wp_whole rfl 27 _ rfl (w1.heap.size) rfl 27 #[.int .i64 a.me, .int .i64 a.rv, .int .i64 a.nx, .int .i64 a.mo, .int .i64 a.bo, .int .i64 a.fr, .slice pa na ca] _ H3a.out Try.underlying27 rfl (by kernel_rfl) ?_)
    | (refine wp_wholeG (by rfl) 27 _ rfl (w1.heap.size) rfl 27 #[.int .i64 a.me, .int .i64 a.rv, .int .i64 a.nx, .int .i64 a.mo, .int .i64 a.bo, .int .i64 a.fr, .slice pa na ca] _ H3a.out Try.underlying27 rfl (by kernel_rfl) ?_)
    | fail)
  refine wp_region_held_drew (S := fun v => Blk v (w1.heap.size) #[.int .i64 a.me, .int .i64 a.rv, .int .i64 a.nx, .int .i64 a.mo, .int .i64 a.bo, .int .i64 a.fr, .slice pa na ca] 27) (by kernel_rfl) (Blk.drew H3a.out 1) (fun hHeld => ?_)
  refine take_at 0 18 (.pointer (some ⟨w1.heap.size, 3, none⟩)) _ rfl rfl (by kernel_rfl) (by kernel_rfl) (by kernel_rfl) (fun _ _ _ h => h) (Or.inl ⟨by rfl, fun v hv => by skip; clear hv; go_simp⟩) hHeld ?_
  simp only [Act.put, List.setIfInBounds_toArray, List.set_cons_zero, List.set_cons_succ]
  refine take_at 1 19 (.int .i64 a.mo) _ rfl rfl (by kernel_rfl) (by kernel_rfl) (by kernel_rfl) (fun _ _ _ h => h) (Or.inl ⟨by rfl, fun v hv => by have h2 := hv.cell 3; simp at h2; clear hv; go_simp⟩) hHeld ?_
  simp only [Act.put, List.setIfInBounds_toArray, List.set_cons_zero, List.set_cons_succ]
  refine take_at 2 20 (.int .i64 oa) _ rfl rfl (by kernel_rfl) (by kernel_rfl) (by kernel_rfl) (fun _ _ _ h => h) (Or.inl ⟨by rfl, fun v hv => by skip; clear hv; go_simp⟩) hHeld ?_
  simp only [Act.put, List.setIfInBounds_toArray, List.set_cons_zero, List.set_cons_succ]
  refine take_at 3 21 (.pointer (some ⟨w1.heap.size, 3, none⟩)) _ rfl rfl (by kernel_rfl) (by kernel_rfl) (by kernel_rfl) (fun _ _ _ h => h) (Or.inl ⟨by rfl, fun v hv => by skip; clear hv; go_simp⟩) hHeld ?_
  simp only [Act.put, List.setIfInBounds_toArray, List.set_cons_zero, List.set_cons_succ]
  refine take_at 4 22 (.int .i64 a.mo) _ rfl rfl (by kernel_rfl) (by kernel_rfl) (by kernel_rfl) (fun _ _ _ h => h) (Or.inl ⟨by rfl, fun v hv => by have h2 := hv.cell 3; simp at h2; clear hv; go_simp⟩) hHeld ?_
  simp only [Act.put, List.setIfInBounds_toArray, List.set_cons_zero, List.set_cons_succ]
  refine take_at 5 23 (.int .i64 (2399 - a.mo)) _ rfl rfl (by kernel_rfl) (by kernel_rfl) (by kernel_rfl) (fun _ _ _ h => h) (Or.inl ⟨by rfl, fun v hv => by have hq : IntKind.i64.wrap (2399 - a.mo) = 2399 - a.mo := (by rw [IntKind.wrap_i64]; omega); clear hv; go_simp⟩) hHeld ?_
  simp only [Act.put, List.setIfInBounds_toArray, List.set_cons_zero, List.set_cons_succ]
  refine take_at 6 24 (.int .i64 (2399 - a.mo + 1)) _ rfl rfl (by kernel_rfl) (by kernel_rfl) (by kernel_rfl) (fun _ _ _ h => h) (Or.inl ⟨by rfl, fun v hv => by have hq : IntKind.i64.wrap (2399 - a.mo + 1) = 2399 - a.mo + 1 := (by rw [IntKind.wrap_i64]; omega); clear hv; go_simp⟩) hHeld ?_
  simp only [Act.put, List.setIfInBounds_toArray, List.set_cons_zero, List.set_cons_succ]
  refine call_at 7 25 (.int .i64 zl) _ rfl rfl (by kernel_rfl) (by kernel_rfl) (by kernel_rfl) (fun _ _ _ h => h) 5 #[.int .i64 oa, .int .i64 (2399 - a.mo + 1)] ⟨by rfl, fun v hv => by clear hv; go_simp⟩ (fun v _ => HPL.out v) hHeld ?_
  simp only [Act.put, List.setIfInBounds_toArray, List.set_cons_zero, List.set_cons_succ]
  refine take_at 8 26 (.int .i64 (a.mo + zl)) _ rfl rfl (by kernel_rfl) (by kernel_rfl) (by kernel_rfl) (fun _ _ _ h => h) (Or.inl ⟨by rfl, fun v hv => by have hq : IntKind.i64.wrap (a.mo + zl) = a.mo + zl := (by rw [IntKind.wrap_i64]; omega); clear hv; go_simp⟩) hHeld ?_
  simp only [Act.put, List.setIfInBounds_toArray, List.set_cons_zero, List.set_cons_succ]
  refine take_at 9 8 (.int .i64 (a.mo + zl)) _ rfl rfl (by kernel_rfl) (by kernel_rfl) (by kernel_rfl) (fun _ _ _ h => h) (Or.inl ⟨by rfl, fun v hv => by skip; clear hv; go_simp⟩) hHeld ?_
  simp only [Act.put, List.setIfInBounds_toArray, List.set_cons_zero, List.set_cons_succ]
  refine wpAnyH_done (by kernel_rfl) ?_ _
  clear hHeld HPL
  have H4a : Hid (Blk W1.drew (w1.heap.size) #[.int .i64 a.me, .int .i64 a.rv, .int .i64 a.nx, .int .i64 a.mo, .int .i64 a.bo, .int .i64 a.fr, .slice pa na ca] 27) := H3a.out.next (Below.drew (Below.refl _ W1))
  have H4A : Hid (ACame W1.drew a pa na ca) := H3A.out.below (Below.drew (Below.refl _ W1))
  have H4B : Hid (Below w.heap.size w W1.drew) := H3B.out.trans (Below.mono (Below.drew (Below.refl _ W1)) H3B.out.size)
  clear H3a H3A H3B
  have hszd : W1.heap.size ≤ W1.drew.heap.size := Nat.le_refl _
  generalize W1.drew = W3 at *
  have hm0 : a.mo ≤ a.mo + zl := by omega
  have hm1 : a.mo + zl ≤ 2399 := by omega
  generalize a.mo + zl = mm at *
  clear hpl0 hpl1
  have HRM : Hid (RMay a mm) := ⟨⟨by omega, hm1⟩, hm0⟩
  have HWM : Hid ((Lit.int .i64 mm).wf = true) := tar.wf_mid (by omega) (by omega)
  have HPT : Hid (∀ W, Calls Try.prog 5 #[.int .i64 tb, .int .i64 (2399 - mm + 1)] W fun e w' => e = .returned (.int .i64 (check.pick tb (2399 - mm + 1))) ∧ w' = W) := fun W => check.picked_any tb (2399 - mm + 1) W htb (by omega) (by omega)
  have hz0 := check.pick_nonneg tb (2399 - mm + 1) (by omega)
  have hz1 := check.pick_lt tb (2399 - mm + 1) (by omega)
  generalize (check.pick tb (2399 - mm + 1)) = zt at *
  go_wp2_with (first
    | (refine wp_whole rfl 27 _ rfl (w1.heap.size) rfl 27 #[.int .i64 a.me, .int .i64 a.rv, .int .i64 a.nx, .int .i64 a.mo, .int .i64 a.bo, .int .i64 a.fr, .slice pa na ca] _ H4a.out Try.underlying27 rfl (by kernel_rfl) ?_)
    | (refine wp_wholeG (by rfl) 27 _ rfl (w1.heap.size) rfl 27 #[.int .i64 a.me, .int .i64 a.rv, .int .i64 a.nx, .int .i64 a.mo, .int .i64 a.bo, .int .i64 a.fr, .slice pa na ca] _ H4a.out Try.underlying27 rfl (by kernel_rfl) ?_)
    | fail)
  refine (HPT.out _).mono ?_
  rintro e wz ⟨rfl, hwz⟩
  obtain rfl : W3 = wz := hwz.symm
  have hn0 : mm ≤ mm + zt := by omega
  have hn1 : mm + zt ≤ 2399 := by omega
  go_upto_region 4 with fail
  generalize mm + zt = nn at *
  clear HPT hz0 hz1
  have HWN : Hid ((Lit.int .i64 nn).wf = true) := tar.wf_mid (by omega) (by omega)
  have HR1 : Hid (Calls Try.prog 6 #[.agg #[.int .i64 a.me, .int .i64 a.rv, .int .i64 a.nx, .int .i64 a.mo, .int .i64 a.bo, .int .i64 a.fr, .slice pa na ca], .int .i64 mm] W3 fun e w' => APost W3 (RollIs a mm) e w') := KR W3 a pa na ca mm H4A.out HWM.out
  go_wp2_with (first
    | (refine wp_whole rfl 27 _ rfl (w1.heap.size) rfl 27 #[.int .i64 a.me, .int .i64 a.rv, .int .i64 a.nx, .int .i64 a.mo, .int .i64 a.bo, .int .i64 a.fr, .slice pa na ca] _ H4a.out Try.underlying27 rfl (by kernel_rfl) ?_)
    | (refine wp_wholeG (by rfl) 27 _ rfl (w1.heap.size) rfl 27 #[.int .i64 a.me, .int .i64 a.rv, .int .i64 a.nx, .int .i64 a.mo, .int .i64 a.bo, .int .i64 a.fr, .slice pa na ca] _ H4a.out Try.underlying27 rfl (by kernel_rfl) ?_)
    | fail)
  refine HR1.out.mono ?_
  rintro e w4 ⟨b, pb, lb, cb, f1, rfl, hi1, hf1, hbq1⟩
  have H5a : Hid (Blk w4 (w1.heap.size) #[.int .i64 a.me, .int .i64 a.rv, .int .i64 a.nx, .int .i64 a.mo, .int .i64 a.bo, .int .i64 a.fr, .slice pa na ca] 27) := H4a.out.next hbq1
  have H5A : Hid (ACame w4 a pa na ca) := H4A.out.below hbq1
  have H5B : Hid (Below w.heap.size w w4) := H4B.out.trans (hbq1.mono H4B.out.size)
  have hsw4 : W3.heap.size ≤ w4.heap.size := hbq1.size
  clear hbq1 H4a H4A H4B
  unfold Ac.v Ac.cs
  obtain ⟨hre1, rfl⟩ := roll_yes hi1 HAM.out HRM.out
  clear HR1 hi1
  have HMB : Hid (AMay b) := by show AMay b; rw [hre1]; exact rolled_may HAM.out HRM.out
  have HRB : Hid (RMay b nn) := ⟨⟨by omega, hn1⟩, by rw [hre1, (rolled_same a mm).2.2.2.1]; exact hn0⟩
  have H6E : Hid (ACame w4 b pb lb cb) := ⟨hf1.came, amay_wf HMB.out⟩
  have HB1 : Hid (b = rolled a mm) := hre1
  clear hre1 hf1
  have H7a : Hid (Blk (w4.alloc (.cells #[.int .i64 b.me, .int .i64 b.rv, .int .i64 b.nx, .int .i64 b.mo, .int .i64 b.bo, .int .i64 b.fr, .slice pb lb cb] 27)) (w1.heap.size) #[.int .i64 a.me, .int .i64 a.rv, .int .i64 a.nx, .int .i64 a.mo, .int .i64 a.bo, .int .i64 a.fr, .slice pa na ca] 27) := H5a.out.alloc _
  have H7A : Hid (ACame (w4.alloc (.cells #[.int .i64 b.me, .int .i64 b.rv, .int .i64 b.nx, .int .i64 b.mo, .int .i64 b.bo, .int .i64 b.fr, .slice pb lb cb] 27)) a pa na ca) := H5A.out.below ((Below.refl w4.heap.size w4).alloc (Nat.le_refl _) _)
  have H7E : Hid (ACame (w4.alloc (.cells #[.int .i64 b.me, .int .i64 b.rv, .int .i64 b.nx, .int .i64 b.mo, .int .i64 b.bo, .int .i64 b.fr, .slice pb lb cb] 27)) b pb lb cb) := H6E.out.below ((Below.refl w4.heap.size w4).alloc (Nat.le_refl _) _)
  have H7b : Hid (Blk (w4.alloc (.cells #[.int .i64 b.me, .int .i64 b.rv, .int .i64 b.nx, .int .i64 b.mo, .int .i64 b.bo, .int .i64 b.fr, .slice pb lb cb] 27)) w4.heap.size #[.int .i64 b.me, .int .i64 b.rv, .int .i64 b.nx, .int .i64 b.mo, .int .i64 b.bo, .int .i64 b.fr, .slice pb lb cb] 27) := Blk.new w4 _ _
  have H7B : Hid (Below w.heap.size w (w4.alloc (.cells #[.int .i64 b.me, .int .i64 b.rv, .int .i64 b.nx, .int .i64 b.mo, .int .i64 b.bo, .int .i64 b.fr, .slice pb lb cb] 27))) := H5B.out.alloc H5B.out.size _
  have hsW4 : w4.heap.size < (w4.alloc (.cells #[.int .i64 b.me, .int .i64 b.rv, .int .i64 b.nx, .int .i64 b.mo, .int .i64 b.bo, .int .i64 b.fr, .slice pb lb cb] 27)).heap.size := (Blk.new w4 #[.int .i64 b.me, .int .i64 b.rv, .int .i64 b.nx, .int .i64 b.mo, .int .i64 b.bo, .int .i64 b.fr, .slice pb lb cb] 27).lt
  clear H5a H5A H6E H5B
  go_upto_region 5 with fail
  generalize (w4.alloc (.cells #[.int .i64 b.me, .int .i64 b.rv, .int .i64 b.nx, .int .i64 b.mo, .int .i64 b.bo, .int .i64 b.fr, .slice pb lb cb] 27)) = W4 at *
  have HR2 : Hid (Calls Try.prog 6 #[.agg #[.int .i64 b.me, .int .i64 b.rv, .int .i64 b.nx, .int .i64 b.mo, .int .i64 b.bo, .int .i64 b.fr, .slice pb lb cb], .int .i64 nn] W4 fun e w' => APost W4 (RollIs b nn) e w') := KR W4 b pb lb cb nn H7E.out HWN.out
  go_wp2_with (first
    | (refine wp_whole rfl 27 _ rfl (w1.heap.size) rfl 27 #[.int .i64 a.me, .int .i64 a.rv, .int .i64 a.nx, .int .i64 a.mo, .int .i64 a.bo, .int .i64 a.fr, .slice pa na ca] _ H7a.out Try.underlying27 rfl (by kernel_rfl) ?_)
    | (refine wp_wholeG (by rfl) 27 _ rfl (w1.heap.size) rfl 27 #[.int .i64 a.me, .int .i64 a.rv, .int .i64 a.nx, .int .i64 a.mo, .int .i64 a.bo, .int .i64 a.fr, .slice pa na ca] _ H7a.out Try.underlying27 rfl (by kernel_rfl) ?_)
    | (refine wp_whole rfl 27 _ rfl (w4.heap.size) rfl 27 #[.int .i64 b.me, .int .i64 b.rv, .int .i64 b.nx, .int .i64 b.mo, .int .i64 b.bo, .int .i64 b.fr, .slice pb lb cb] _ H7b.out Try.underlying27 rfl (by kernel_rfl) ?_)
    | (refine wp_wholeG (by rfl) 27 _ rfl (w4.heap.size) rfl 27 #[.int .i64 b.me, .int .i64 b.rv, .int .i64 b.nx, .int .i64 b.mo, .int .i64 b.bo, .int .i64 b.fr, .slice pb lb cb] _ H7b.out Try.underlying27 rfl (by kernel_rfl) ?_)
    | fail)
  refine HR2.out.mono ?_
  rintro e w5 ⟨c, pc, lc, cc, f2, rfl, hi2, hf2, hbq2⟩
  have H8a : Hid (Blk w5 (w1.heap.size) #[.int .i64 a.me, .int .i64 a.rv, .int .i64 a.nx, .int .i64 a.mo, .int .i64 a.bo, .int .i64 a.fr, .slice pa na ca] 27) := H7a.out.next hbq2
  have H8b : Hid (Blk w5 (w4.heap.size) #[.int .i64 b.me, .int .i64 b.rv, .int .i64 b.nx, .int .i64 b.mo, .int .i64 b.bo, .int .i64 b.fr, .slice pb lb cb] 27) := H7b.out.next hbq2
  have H8A : Hid (ACame w5 a pa na ca) := H7A.out.below hbq2
  have H8E : Hid (ACame w5 b pb lb cb) := H7E.out.below hbq2
  have H8B : Hid (Below w.heap.size w w5) := H7B.out.trans (hbq2.mono H7B.out.size)
  have hsw5 : W4.heap.size ≤ w5.heap.size := hbq2.size
  clear hbq2 H7a H7b H7A H7E H7B
  unfold Ac.v Ac.cs
  obtain ⟨hre2, rfl⟩ := roll_yes hi2 HMB.out HRB.out
  clear HR2 hi2
  have hrc : c = rolled a nn := by rw [hre2, HB1.out, rolled_roll a mm nn hm0 hn0]
  have HCE : Hid (c = rolled a nn) := hrc
  have H9F : Hid (Came w5 pc lc cc c.ds) := hf2.came
  clear hre2 hf2 hrc
  have H10a : Hid (Blk (w5.alloc (.cells #[.int .i64 c.me, .int .i64 c.rv, .int .i64 c.nx, .int .i64 c.mo, .int .i64 c.bo, .int .i64 c.fr, .slice pc lc cc] 27)) (w1.heap.size) #[.int .i64 a.me, .int .i64 a.rv, .int .i64 a.nx, .int .i64 a.mo, .int .i64 a.bo, .int .i64 a.fr, .slice pa na ca] 27) := H8a.out.alloc _
  have H10b : Hid (Blk (w5.alloc (.cells #[.int .i64 c.me, .int .i64 c.rv, .int .i64 c.nx, .int .i64 c.mo, .int .i64 c.bo, .int .i64 c.fr, .slice pc lc cc] 27)) (w4.heap.size) #[.int .i64 b.me, .int .i64 b.rv, .int .i64 b.nx, .int .i64 b.mo, .int .i64 b.bo, .int .i64 b.fr, .slice pb lb cb] 27) := H8b.out.alloc _
  have H10A : Hid (ACame (w5.alloc (.cells #[.int .i64 c.me, .int .i64 c.rv, .int .i64 c.nx, .int .i64 c.mo, .int .i64 c.bo, .int .i64 c.fr, .slice pc lc cc] 27)) a pa na ca) := H8A.out.below ((Below.refl w5.heap.size w5).alloc (Nat.le_refl _) _)
  have H10E : Hid (ACame (w5.alloc (.cells #[.int .i64 c.me, .int .i64 c.rv, .int .i64 c.nx, .int .i64 c.mo, .int .i64 c.bo, .int .i64 c.fr, .slice pc lc cc] 27)) b pb lb cb) := H8E.out.below ((Below.refl w5.heap.size w5).alloc (Nat.le_refl _) _)
  have H10F : Hid (Came (w5.alloc (.cells #[.int .i64 c.me, .int .i64 c.rv, .int .i64 c.nx, .int .i64 c.mo, .int .i64 c.bo, .int .i64 c.fr, .slice pc lc cc] 27)) pc lc cc c.ds) := H9F.out.below ((Below.refl w5.heap.size w5).alloc (Nat.le_refl _) _)
  have H10c : Hid (Blk (w5.alloc (.cells #[.int .i64 c.me, .int .i64 c.rv, .int .i64 c.nx, .int .i64 c.mo, .int .i64 c.bo, .int .i64 c.fr, .slice pc lc cc] 27)) w5.heap.size #[.int .i64 c.me, .int .i64 c.rv, .int .i64 c.nx, .int .i64 c.mo, .int .i64 c.bo, .int .i64 c.fr, .slice pc lc cc] 27) := Blk.new w5 _ _
  have H10B : Hid (Below w.heap.size w (w5.alloc (.cells #[.int .i64 c.me, .int .i64 c.rv, .int .i64 c.nx, .int .i64 c.mo, .int .i64 c.bo, .int .i64 c.fr, .slice pc lc cc] 27))) := H8B.out.alloc H8B.out.size _
  have hsW5 : w5.heap.size < (w5.alloc (.cells #[.int .i64 c.me, .int .i64 c.rv, .int .i64 c.nx, .int .i64 c.mo, .int .i64 c.bo, .int .i64 c.fr, .slice pc lc cc] 27)).heap.size := (Blk.new w5 #[.int .i64 c.me, .int .i64 c.rv, .int .i64 c.nx, .int .i64 c.mo, .int .i64 c.bo, .int .i64 c.fr, .slice pc lc cc] 27).lt
  clear H8a H8b H8A H8E H9F H8B
  go_upto_region 6 with fail
  generalize (w5.alloc (.cells #[.int .i64 c.me, .int .i64 c.rv, .int .i64 c.nx, .int .i64 c.mo, .int .i64 c.bo, .int .i64 c.fr, .slice pc lc cc] 27)) = W5 at *
  have HR3 : Hid (Calls Try.prog 6 #[.agg #[.int .i64 a.me, .int .i64 a.rv, .int .i64 a.nx, .int .i64 a.mo, .int .i64 a.bo, .int .i64 a.fr, .slice pa na ca], .int .i64 nn] W5 fun e w' => APost W5 (RollIs a nn) e w') := KR W5 a pa na ca nn H10A.out HWN.out
  go_wp2_with (first
    | (refine wp_whole rfl 27 _ rfl (w1.heap.size) rfl 27 #[.int .i64 a.me, .int .i64 a.rv, .int .i64 a.nx, .int .i64 a.mo, .int .i64 a.bo, .int .i64 a.fr, .slice pa na ca] _ H10a.out Try.underlying27 rfl (by kernel_rfl) ?_)
    | (refine wp_wholeG (by rfl) 27 _ rfl (w1.heap.size) rfl 27 #[.int .i64 a.me, .int .i64 a.rv, .int .i64 a.nx, .int .i64 a.mo, .int .i64 a.bo, .int .i64 a.fr, .slice pa na ca] _ H10a.out Try.underlying27 rfl (by kernel_rfl) ?_)
    | (refine wp_whole rfl 27 _ rfl (w4.heap.size) rfl 27 #[.int .i64 b.me, .int .i64 b.rv, .int .i64 b.nx, .int .i64 b.mo, .int .i64 b.bo, .int .i64 b.fr, .slice pb lb cb] _ H10b.out Try.underlying27 rfl (by kernel_rfl) ?_)
    | (refine wp_wholeG (by rfl) 27 _ rfl (w4.heap.size) rfl 27 #[.int .i64 b.me, .int .i64 b.rv, .int .i64 b.nx, .int .i64 b.mo, .int .i64 b.bo, .int .i64 b.fr, .slice pb lb cb] _ H10b.out Try.underlying27 rfl (by kernel_rfl) ?_)
    | (refine wp_whole rfl 27 _ rfl (w5.heap.size) rfl 27 #[.int .i64 c.me, .int .i64 c.rv, .int .i64 c.nx, .int .i64 c.mo, .int .i64 c.bo, .int .i64 c.fr, .slice pc lc cc] _ H10c.out Try.underlying27 rfl (by kernel_rfl) ?_)
    | (refine wp_wholeG (by rfl) 27 _ rfl (w5.heap.size) rfl 27 #[.int .i64 c.me, .int .i64 c.rv, .int .i64 c.nx, .int .i64 c.mo, .int .i64 c.bo, .int .i64 c.fr, .slice pc lc cc] _ H10c.out Try.underlying27 rfl (by kernel_rfl) ?_)
    | fail)
  refine HR3.out.mono ?_
  rintro e w6 ⟨d, pd, ld, cd, f3, rfl, hi3, hf3, hbq3⟩
  have H11a : Hid (Blk w6 (w1.heap.size) #[.int .i64 a.me, .int .i64 a.rv, .int .i64 a.nx, .int .i64 a.mo, .int .i64 a.bo, .int .i64 a.fr, .slice pa na ca] 27) := H10a.out.next hbq3
  have H11b : Hid (Blk w6 (w4.heap.size) #[.int .i64 b.me, .int .i64 b.rv, .int .i64 b.nx, .int .i64 b.mo, .int .i64 b.bo, .int .i64 b.fr, .slice pb lb cb] 27) := H10b.out.next hbq3
  have H11c : Hid (Blk w6 (w5.heap.size) #[.int .i64 c.me, .int .i64 c.rv, .int .i64 c.nx, .int .i64 c.mo, .int .i64 c.bo, .int .i64 c.fr, .slice pc lc cc] 27) := H10c.out.next hbq3
  have H11A : Hid (ACame w6 a pa na ca) := H10A.out.below hbq3
  have H11E : Hid (ACame w6 b pb lb cb) := H10E.out.below hbq3
  have H11F : Hid (Came w6 pc lc cc c.ds) := H10F.out.below hbq3
  have H11B : Hid (Below w.heap.size w w6) := H10B.out.trans (hbq3.mono H10B.out.size)
  have hsw6 : W5.heap.size ≤ w6.heap.size := hbq3.size
  clear hbq3 H10a H10b H10c H10A H10E H10F H10B
  unfold Ac.v Ac.cs
  obtain ⟨hre3, rfl⟩ := roll_yes hi3 HAM.out ⟨⟨by omega, hn1⟩, by omega⟩
  clear HR3 hi3
  have hcd : d = c := by rw [hre3, HCE.out]
  subst hcd
  have hc6 := hf3.came
  obtain rfl : lc = ld := by rw [← hc6.row.1, ← H11F.out.row.1]
  have H12G : Hid (Came w6 pd lc cd d.ds) := hc6
  clear hre3 hf3 hc6
  have H13a : Hid (Blk (w6.alloc (.cells #[.int .i64 d.me, .int .i64 d.rv, .int .i64 d.nx, .int .i64 d.mo, .int .i64 d.bo, .int .i64 d.fr, .slice pd lc cd] 27)) (w1.heap.size) #[.int .i64 a.me, .int .i64 a.rv, .int .i64 a.nx, .int .i64 a.mo, .int .i64 a.bo, .int .i64 a.fr, .slice pa na ca] 27) := H11a.out.alloc _
  have H13b : Hid (Blk (w6.alloc (.cells #[.int .i64 d.me, .int .i64 d.rv, .int .i64 d.nx, .int .i64 d.mo, .int .i64 d.bo, .int .i64 d.fr, .slice pd lc cd] 27)) (w4.heap.size) #[.int .i64 b.me, .int .i64 b.rv, .int .i64 b.nx, .int .i64 b.mo, .int .i64 b.bo, .int .i64 b.fr, .slice pb lb cb] 27) := H11b.out.alloc _
  have H13c : Hid (Blk (w6.alloc (.cells #[.int .i64 d.me, .int .i64 d.rv, .int .i64 d.nx, .int .i64 d.mo, .int .i64 d.bo, .int .i64 d.fr, .slice pd lc cd] 27)) (w5.heap.size) #[.int .i64 d.me, .int .i64 d.rv, .int .i64 d.nx, .int .i64 d.mo, .int .i64 d.bo, .int .i64 d.fr, .slice pc lc cc] 27) := H11c.out.alloc _
  have H13A : Hid (ACame (w6.alloc (.cells #[.int .i64 d.me, .int .i64 d.rv, .int .i64 d.nx, .int .i64 d.mo, .int .i64 d.bo, .int .i64 d.fr, .slice pd lc cd] 27)) a pa na ca) := H11A.out.below ((Below.refl w6.heap.size w6).alloc (Nat.le_refl _) _)
  have H13E : Hid (ACame (w6.alloc (.cells #[.int .i64 d.me, .int .i64 d.rv, .int .i64 d.nx, .int .i64 d.mo, .int .i64 d.bo, .int .i64 d.fr, .slice pd lc cd] 27)) b pb lb cb) := H11E.out.below ((Below.refl w6.heap.size w6).alloc (Nat.le_refl _) _)
  have H13F : Hid (Came (w6.alloc (.cells #[.int .i64 d.me, .int .i64 d.rv, .int .i64 d.nx, .int .i64 d.mo, .int .i64 d.bo, .int .i64 d.fr, .slice pd lc cd] 27)) pc lc cc d.ds) := H11F.out.below ((Below.refl w6.heap.size w6).alloc (Nat.le_refl _) _)
  have H13G : Hid (Came (w6.alloc (.cells #[.int .i64 d.me, .int .i64 d.rv, .int .i64 d.nx, .int .i64 d.mo, .int .i64 d.bo, .int .i64 d.fr, .slice pd lc cd] 27)) pd lc cd d.ds) := H12G.out.below ((Below.refl w6.heap.size w6).alloc (Nat.le_refl _) _)
  have H13d : Hid (Blk (w6.alloc (.cells #[.int .i64 d.me, .int .i64 d.rv, .int .i64 d.nx, .int .i64 d.mo, .int .i64 d.bo, .int .i64 d.fr, .slice pd lc cd] 27)) w6.heap.size #[.int .i64 d.me, .int .i64 d.rv, .int .i64 d.nx, .int .i64 d.mo, .int .i64 d.bo, .int .i64 d.fr, .slice pd lc cd] 27) := Blk.new w6 _ _
  have H13B : Hid (Below w.heap.size w (w6.alloc (.cells #[.int .i64 d.me, .int .i64 d.rv, .int .i64 d.nx, .int .i64 d.mo, .int .i64 d.bo, .int .i64 d.fr, .slice pd lc cd] 27))) := H11B.out.alloc H11B.out.size _
  have hsW6 : w6.heap.size < (w6.alloc (.cells #[.int .i64 d.me, .int .i64 d.rv, .int .i64 d.nx, .int .i64 d.mo, .int .i64 d.bo, .int .i64 d.fr, .slice pd lc cd] 27)).heap.size := (Blk.new w6 #[.int .i64 d.me, .int .i64 d.rv, .int .i64 d.nx, .int .i64 d.mo, .int .i64 d.bo, .int .i64 d.fr, .slice pd lc cd] 27).lt
  clear H11a H11b H11c H11A H11E H11F H12G H11B
  go_upto_region 7 with fail
  generalize (w6.alloc (.cells #[.int .i64 d.me, .int .i64 d.rv, .int .i64 d.nx, .int .i64 d.mo, .int .i64 d.bo, .int .i64 d.fr, .slice pd lc cd] 27)) = W6 at *
  have e1 : d.mo = nn := by rw [HCE.out]; exact (rolled_same a nn).2.2.2.1
  have e2 : nn = a.mo ∨ (nn ≠ a.mo ∧ d.bo = 0) := by
    by_cases h : nn = a.mo
    · exact .inl h
    · refine .inr ⟨h, ?_⟩
      rw [HCE.out]
      unfold rolled
      rw [if_neg h]
  have m1 : (d.mo == nn) = true := by rw [e1]; simp
  clear e1
  have HSM : Hid (Calls Try.prog 7 #[.agg #[.int .i64 d.me, .int .i64 d.rv, .int .i64 d.nx, .int .i64 d.mo, .int .i64 d.bo, .int .i64 d.fr, .slice pc lc cc], .agg #[.int .i64 d.me, .int .i64 d.rv, .int .i64 d.nx, .int .i64 d.mo, .int .i64 d.bo, .int .i64 d.fr, .slice pd lc cd]] W6 fun e w' => e = .returned (.bool true) ∧ Below W6.heap.size W6 w') := keep_acc d pc pd lc cc cd W6 H13F.out H13G.out
  go_wp2_with (first
    | (refine wp_whole rfl 27 _ rfl (w1.heap.size) rfl 27 #[.int .i64 a.me, .int .i64 a.rv, .int .i64 a.nx, .int .i64 a.mo, .int .i64 a.bo, .int .i64 a.fr, .slice pa na ca] _ H13a.out Try.underlying27 rfl (by kernel_rfl) ?_)
    | (refine wp_wholeG (by rfl) 27 _ rfl (w1.heap.size) rfl 27 #[.int .i64 a.me, .int .i64 a.rv, .int .i64 a.nx, .int .i64 a.mo, .int .i64 a.bo, .int .i64 a.fr, .slice pa na ca] _ H13a.out Try.underlying27 rfl (by kernel_rfl) ?_)
    | (refine wp_whole rfl 27 _ rfl (w4.heap.size) rfl 27 #[.int .i64 b.me, .int .i64 b.rv, .int .i64 b.nx, .int .i64 b.mo, .int .i64 b.bo, .int .i64 b.fr, .slice pb lb cb] _ H13b.out Try.underlying27 rfl (by kernel_rfl) ?_)
    | (refine wp_wholeG (by rfl) 27 _ rfl (w4.heap.size) rfl 27 #[.int .i64 b.me, .int .i64 b.rv, .int .i64 b.nx, .int .i64 b.mo, .int .i64 b.bo, .int .i64 b.fr, .slice pb lb cb] _ H13b.out Try.underlying27 rfl (by kernel_rfl) ?_)
    | (refine wp_whole rfl 27 _ rfl (w5.heap.size) rfl 27 #[.int .i64 d.me, .int .i64 d.rv, .int .i64 d.nx, .int .i64 d.mo, .int .i64 d.bo, .int .i64 d.fr, .slice pc lc cc] _ H13c.out Try.underlying27 rfl (by kernel_rfl) ?_)
    | (refine wp_wholeG (by rfl) 27 _ rfl (w5.heap.size) rfl 27 #[.int .i64 d.me, .int .i64 d.rv, .int .i64 d.nx, .int .i64 d.mo, .int .i64 d.bo, .int .i64 d.fr, .slice pc lc cc] _ H13c.out Try.underlying27 rfl (by kernel_rfl) ?_)
    | (refine wp_whole rfl 27 _ rfl (w6.heap.size) rfl 27 #[.int .i64 d.me, .int .i64 d.rv, .int .i64 d.nx, .int .i64 d.mo, .int .i64 d.bo, .int .i64 d.fr, .slice pd lc cd] _ H13d.out Try.underlying27 rfl (by kernel_rfl) ?_)
    | (refine wp_wholeG (by rfl) 27 _ rfl (w6.heap.size) rfl 27 #[.int .i64 d.me, .int .i64 d.rv, .int .i64 d.nx, .int .i64 d.mo, .int .i64 d.bo, .int .i64 d.fr, .slice pd lc cd] _ H13d.out Try.underlying27 rfl (by kernel_rfl) ?_)
    | fail)
  refine HSM.out.mono ?_
  rintro e w8 ⟨rfl, hb8⟩
  have H14a : Hid (Blk w8 (w1.heap.size) #[.int .i64 a.me, .int .i64 a.rv, .int .i64 a.nx, .int .i64 a.mo, .int .i64 a.bo, .int .i64 a.fr, .slice pa na ca] 27) := H13a.out.next hb8
  have H14b : Hid (Blk w8 (w4.heap.size) #[.int .i64 b.me, .int .i64 b.rv, .int .i64 b.nx, .int .i64 b.mo, .int .i64 b.bo, .int .i64 b.fr, .slice pb lb cb] 27) := H13b.out.next hb8
  have H14c : Hid (Blk w8 (w5.heap.size) #[.int .i64 d.me, .int .i64 d.rv, .int .i64 d.nx, .int .i64 d.mo, .int .i64 d.bo, .int .i64 d.fr, .slice pc lc cc] 27) := H13c.out.next hb8
  have H14d : Hid (Blk w8 (w6.heap.size) #[.int .i64 d.me, .int .i64 d.rv, .int .i64 d.nx, .int .i64 d.mo, .int .i64 d.bo, .int .i64 d.fr, .slice pd lc cd] 27) := H13d.out.next hb8
  have H14A : Hid (ACame w8 a pa na ca) := H13A.out.below hb8
  have H14E : Hid (ACame w8 b pb lb cb) := H13E.out.below hb8
  have H14F : Hid (Came w8 pc lc cc d.ds) := H13F.out.below hb8
  have H14G : Hid (Came w8 pd lc cd d.ds) := H13G.out.below hb8
  have H14B : Hid (Below w.heap.size w w8) := H13B.out.trans (hb8.mono H13B.out.size)
  have hsw8 : W6.heap.size ≤ w8.heap.size := hb8.size
  clear hb8 H13a H13b H13c H13d H13A H13E H13F H13G H13B
  clear HSM
  rcases e2 with e2 | ⟨e2, e3⟩
  · have m2 : (nn == a.mo) = true := by rw [e2]; simp
    clear e2
    have qd3 : w8.cell? ⟨w6.heap.size, 3, none⟩ = some (.int .i64 d.mo) := H14d.out.cell 3
    have qa3 : w8.cell? ⟨w1.heap.size, 3, none⟩ = some (.int .i64 a.mo) := H14a.out.cell 3
    have qd4 : w8.cell? ⟨w6.heap.size, 4, none⟩ = some (.int .i64 d.bo) := H14d.out.cell 4
    have qc3 : w8.cell? ⟨w5.heap.size, 3, none⟩ = some (.int .i64 d.mo) := H14c.out.cell 3
    have qc4 : w8.cell? ⟨w5.heap.size, 4, none⟩ = some (.int .i64 d.bo) := H14c.out.cell 4
    go_wp2_with (first
      | fail)
    go_ret
    exact ⟨rfl, H14B.out⟩
  · have m2 : (nn == a.mo) = false := by simpa using e2
    have m3 : (d.bo == 0) = true := by rw [e3]; rfl
    clear e2 e3
    have qd3 : w8.cell? ⟨w6.heap.size, 3, none⟩ = some (.int .i64 d.mo) := H14d.out.cell 3
    have qa3 : w8.cell? ⟨w1.heap.size, 3, none⟩ = some (.int .i64 a.mo) := H14a.out.cell 3
    have qd4 : w8.cell? ⟨w6.heap.size, 4, none⟩ = some (.int .i64 d.bo) := H14d.out.cell 4
    have qc3 : w8.cell? ⟨w5.heap.size, 3, none⟩ = some (.int .i64 d.mo) := H14c.out.cell 3
    have qc4 : w8.cell? ⟨w5.heap.size, 4, none⟩ = some (.int .i64 d.bo) := H14c.out.cell 4
    go_wp2_with (first
      | fail)
    go_ret
    exact ⟨rfl, H14B.out⟩

end Go.Proofs.Ytlolippocnngcac.acc
