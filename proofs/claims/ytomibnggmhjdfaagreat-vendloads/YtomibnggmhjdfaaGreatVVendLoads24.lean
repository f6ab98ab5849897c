import Derived.Test.YtomibnggmhjdfaaGreatVVendLoads1
import Derived.Test.YtomibnggmhjdfaaGreatVVendLoads4
import Derived.Test.YtomibnggmhjdfaaGreatVVendLoads5
import Derived.Test.YtomibnggmhjdfaaGreatVVendLoads6
import Derived.Test.YtomibnggmhjdfaaGreatVVendLoads23
set_option linter.unusedVariables false
set_option linter.unusedSimpArgs false
namespace Go.Proofs.YtomibnggmhjdfaaGreat
namespace book
open Go.RowKit
set_option maxRecDepth 100000
set_option maxHeartbeats 8000000 in
theorem book_law (p1 p2 : Option Addr) (m c1 c2 : Nat) (xs ys : List Cu) (bk : List Cm) (w : World) (h1 : Sees w p1 m xs bk) (h2 : Sees w p2 m ys bk) (hm : m ≤ 1000) (hs : ∀ c ∈ bk, c.so.length ≤ 1000000) :
  Calls Tryz.prog 10 #[.agg #[.slice p1 m c1], .agg #[.slice p2 m c2]] w fun e w' => e = .returned (.bool true) ∧ Below w.heap.size w w' := by
 have hne : ((m : Int) != (m : Int)) = false := by simp
 have hbw : Below w.heap.size w ((w.alloc (.cells #[.slice p1 m c1] 29)).alloc (.cells #[.slice p2 m c2] 29)) := ((Below.refl w.heap.size w).alloc (Nat.le_refl _) _).alloc (by simp) _
 have H1 : Hid (Sees ((w.alloc (.cells #[.slice p1 m c1] 29)).alloc (.cells #[.slice p2 m c2] 29)) p1 m xs bk) := h1.below hbw
 have H2 : Hid (Sees ((w.alloc (.cells #[.slice p1 m c1] 29)).alloc (.cells #[.slice p2 m c2] 29)) p2 m ys bk) := h2.below hbw
 have HSO : Hid (∀ c ∈ bk, c.so.length ≤ 1000000) := hs
 have HX1 : Hid (Blk ((w.alloc (.cells #[.slice p1 m c1] 29)).alloc (.cells #[.slice p2 m c2] 29)) w.heap.size #[.slice p1 m c1] 29) := (Blk.new w _ _).alloc _
 have HX2 : Hid (Blk ((w.alloc (.cells #[.slice p1 m c1] 29)).alloc (.cells #[.slice p2 m c2] 29)) (w.heap.size + 1) #[.slice p2 m c2] 29) := Blk.new1 w _ _ _
 have HBW : Hid (Below w.heap.size w ((w.alloc (.cells #[.slice p1 m c1] 29)).alloc (.cells #[.slice p2 m c2] 29))) := hbw
 clear h1 h2 hbw hs
 go_enter Tryz.func10, Tryz.ntmps10
 go_upto_region 1 with fail
 generalize ((w.alloc (.cells #[.slice p1 m c1] 29)).alloc (.cells #[.slice p2 m c2] 29)) = W at *
 have HK1 : Hid (∀ u, Below W.heap.size W u → u.cell? ⟨w.heap.size, 0, none⟩ = some (.slice p1 m c1)) := fun u hu => (HX1.out.next hu).cell 0
 have HK2 : Hid (∀ u, Below W.heap.size W u → u.cell? ⟨w.heap.size + 1, 0, none⟩ = some (.slice p2 m c2)) := fun u hu => (HX2.out.next hu).cell 0
 have k1 := HK1.out W (Below.refl _ _)
 have k2 := HK2.out W (Below.refl _ _)
 go_wp2_with fail
 clear k1 k2
 go_loopw [5] (fun i wr => ∃ k : Nat, k ≤ m ∧ i = .int .i64 (k : Int) ∧ Below W.heap.size W wr) (fun i _ => m - (intOf i).toNat)
 case atStart => exact ⟨0, Nat.zero_le _, rfl, Below.refl _ _⟩
 case round =>
  obtain ⟨k, hk, rfl, hbl⟩ := hrel
  have HBL : Hid (Below W.heap.size W wr) := hbl
  have k1 := HK1.out wr hbl
  have k2 := HK2.out wr hbl
  clear hbl
  by_cases hkn : k < m
  ·have ek : decide ((k : Int) < (m : Int)) = true := by simp; omega
   obtain ⟨b1, o1, e1, l1, hc1⟩ := H1.out.row.2.resolve_left (by omega)
   obtain ⟨b2, o2, e2, l2, hc2⟩ := H2.out.row.2.resolve_left (by omega)
   have hk1 : k < xs.length := by rw [H1.out.row.1]; exact hkn
   have hk2 : k < ys.length := by rw [H2.out.row.1]; exact hkn
   have hkb : k < bk.length := by rw [← H1.out.len]; exact hk1
   have hn1 := H1.out.num k hk1
   have hn2 := H2.out.num k hk2
   have hd1 := H1.out.ds k hk1
   have hd2 := H2.out.ds k hk2
   have hs1 := H1.out.so k hk1
   have hs2 := H2.out.so k hk2
   have hsl := HSO.out (bk.getD k cm0) (by have q : bk.getD k cm0 = bk[k] := by simp [List.getD, List.getElem?_eq_getElem hkb]
                                           rw [q]; exact List.getElem_mem _)
   obtain ⟨⟨a, sol⟩, hcm⟩ : ∃ c, c = bk.getD k cm0 := ⟨_, rfl⟩
   rw [← hcm] at hn1 hn2 hd1 hd2 hs1 hs2 hsl
   obtain ⟨d1, dn, dc1, s1, sn, sc1, hx1⟩ := cuA_of hn1
   obtain ⟨d2, dn2, dc2, s2, sn2, sc2, hx2⟩ := cuA_of hn2
   rw [hx1] at hd1 hs1
   rw [hx2] at hd2 hs2
   simp only at hd1 hd2 hs1 hs2 hsl
   obtain rfl : dn = dn2 := hd1.row.1.symm.trans hd2.row.1
   obtain rfl : sn = sn2 := hs1.1.symm.trans hs2.1
   have HSA : Hid (∀ U, Below W.heap.size W U → Calls Tryz.prog 21 #[.agg #[.int .i64 a.me, .int .i64 a.rv, .int .i64 a.nx, .int .i64 a.mo, .int .i64 a.bo, .int .i64 a.fr, .slice d1 dn dc1], .agg #[.int .i64 a.me, .int .i64 a.rv, .int .i64 a.nx, .int .i64 a.mo, .int .i64 a.bo, .int .i64 a.fr, .slice d2 dn dc2]] U fun e w' => e = .returned (.bool true) ∧ Below U.heap.size U w') := fun U hU => acc.same_acc a d1 d2 dn dc1 dc2 U (hd1.below hU) (hd2.below hU)
   have HSS : Hid (∀ U, Below W.heap.size W U → Calls Tryz.prog 22 #[.slice s1 sn sc1, .slice s2 sn sc2] U fun e w' => e = .returned (.bool true) ∧ Below U.heap.size U w') := fun U hU => solds_law s1 s2 sn sc1 sc2 sol U (hs1.below hU) (hs2.below hU) (by have := hs1.1; omega)
   subst e1
   subst e2
   clear hn1 hn2 hd1 hd2 hs1 hs2 hsl hcm hk1 hk2 hkb
   have HC0 : Hid (∀ u, Below W.heap.size W u → u.cell? ⟨b1, o1 + k * 8, none⟩ = some (.int .i64 a.me)) := fun u hu => (hu.cell (p := ⟨b1, o1 + k * 8 + 0, none⟩) l1).trans (by have q := hc1 k 0 hkn (by decide); rw [hx1] at q; exact q)
   have HC1 : Hid (∀ u, Below W.heap.size W u → u.cell? ⟨b1, o1 + k * 8 + 1, none⟩ = some (.int .i64 a.rv)) := fun u hu => (hu.cell (p := ⟨b1, o1 + k * 8 + 1, none⟩) l1).trans (by have q := hc1 k 1 hkn (by decide); rw [hx1] at q; exact q)
   have HC2 : Hid (∀ u, Below W.heap.size W u → u.cell? ⟨b1, o1 + k * 8 + 2, none⟩ = some (.int .i64 a.nx)) := fun u hu => (hu.cell (p := ⟨b1, o1 + k * 8 + 2, none⟩) l1).trans (by have q := hc1 k 2 hkn (by decide); rw [hx1] at q; exact q)
   have HC3 : Hid (∀ u, Below W.heap.size W u → u.cell? ⟨b1, o1 + k * 8 + 3, none⟩ = some (.int .i64 a.mo)) := fun u hu => (hu.cell (p := ⟨b1, o1 + k * 8 + 3, none⟩) l1).trans (by have q := hc1 k 3 hkn (by decide); rw [hx1] at q; exact q)
   have HC4 : Hid (∀ u, Below W.heap.size W u → u.cell? ⟨b1, o1 + k * 8 + 4, none⟩ = some (.int .i64 a.bo)) := fun u hu => (hu.cell (p := ⟨b1, o1 + k * 8 + 4, none⟩) l1).trans (by have q := hc1 k 4 hkn (by decide); rw [hx1] at q; exact q)
   have HC5 : Hid (∀ u, Below W.heap.size W u → u.cell? ⟨b1, o1 + k * 8 + 5, none⟩ = some (.int .i64 a.fr)) := fun u hu => (hu.cell (p := ⟨b1, o1 + k * 8 + 5, none⟩) l1).trans (by have q := hc1 k 5 hkn (by decide); rw [hx1] at q; exact q)
   have HC6 : Hid (∀ u, Below W.heap.size W u → u.cell? ⟨b1, o1 + k * 8 + 6, none⟩ = some (.slice d1 dn dc1)) := fun u hu => (hu.cell (p := ⟨b1, o1 + k * 8 + 6, none⟩) l1).trans (by have q := hc1 k 6 hkn (by decide); rw [hx1] at q; exact q)
   have HC7 : Hid (∀ u, Below W.heap.size W u → u.cell? ⟨b1, o1 + k * 8 + 7, none⟩ = some (.slice s1 sn sc1)) := fun u hu => (hu.cell (p := ⟨b1, o1 + k * 8 + 7, none⟩) l1).trans (by have q := hc1 k 7 hkn (by decide); rw [hx1] at q; exact q)
   have HD0 : Hid (∀ u, Below W.heap.size W u → u.cell? ⟨b2, o2 + k * 8, none⟩ = some (.int .i64 a.me)) := fun u hu => (hu.cell (p := ⟨b2, o2 + k * 8 + 0, none⟩) l2).trans (by have q := hc2 k 0 hkn (by decide); rw [hx2] at q; exact q)
   have HD1 : Hid (∀ u, Below W.heap.size W u → u.cell? ⟨b2, o2 + k * 8 + 1, none⟩ = some (.int .i64 a.rv)) := fun u hu => (hu.cell (p := ⟨b2, o2 + k * 8 + 1, none⟩) l2).trans (by have q := hc2 k 1 hkn (by decide); rw [hx2] at q; exact q)
   have HD2 : Hid (∀ u, Below W.heap.size W u → u.cell? ⟨b2, o2 + k * 8 + 2, none⟩ = some (.int .i64 a.nx)) := fun u hu => (hu.cell (p := ⟨b2, o2 + k * 8 + 2, none⟩) l2).trans (by have q := hc2 k 2 hkn (by decide); rw [hx2] at q; exact q)
   have HD3 : Hid (∀ u, Below W.heap.size W u → u.cell? ⟨b2, o2 + k * 8 + 3, none⟩ = some (.int .i64 a.mo)) := fun u hu => (hu.cell (p := ⟨b2, o2 + k * 8 + 3, none⟩) l2).trans (by have q := hc2 k 3 hkn (by decide); rw [hx2] at q; exact q)
   have HD4 : Hid (∀ u, Below W.heap.size W u → u.cell? ⟨b2, o2 + k * 8 + 4, none⟩ = some (.int .i64 a.bo)) := fun u hu => (hu.cell (p := ⟨b2, o2 + k * 8 + 4, none⟩) l2).trans (by have q := hc2 k 4 hkn (by decide); rw [hx2] at q; exact q)
   have HD5 : Hid (∀ u, Below W.heap.size W u → u.cell? ⟨b2, o2 + k * 8 + 5, none⟩ = some (.int .i64 a.fr)) := fun u hu => (hu.cell (p := ⟨b2, o2 + k * 8 + 5, none⟩) l2).trans (by have q := hc2 k 5 hkn (by decide); rw [hx2] at q; exact q)
   have HD6 : Hid (∀ u, Below W.heap.size W u → u.cell? ⟨b2, o2 + k * 8 + 6, none⟩ = some (.slice d2 dn dc2)) := fun u hu => (hu.cell (p := ⟨b2, o2 + k * 8 + 6, none⟩) l2).trans (by have q := hc2 k 6 hkn (by decide); rw [hx2] at q; exact q)
   have HD7 : Hid (∀ u, Below W.heap.size W u → u.cell? ⟨b2, o2 + k * 8 + 7, none⟩ = some (.slice s2 sn sc2)) := fun u hu => (hu.cell (p := ⟨b2, o2 + k * 8 + 7, none⟩) l2).trans (by have q := hc2 k 7 hkn (by decide); rw [hx2] at q; exact q)
   clear hc1 hc2 l1 l2 hx1 hx2
   go_wp2_with fail
   refine wp_region_held_drew (S := fun v => Below W.heap.size W v) (by kernel_rfl) HBL.out.drew (fun hHeld => ?_)
   refine zqt 0 20 (.pointer (some ⟨w.heap.size, 0, none⟩)) rfl rfl (by kernel_rfl) (fun _ _ _ h => h) (Or.inl ⟨by rfl, fun v hv => by clear hv; go_simp⟩) hHeld ?_
   simp only [Act.put, zqa, zqb, zqc]
   refine zqt 1 21 (.slice (some ⟨b1, o1, none⟩) m c1) rfl rfl (by kernel_rfl) (fun _ _ _ h => h) (Or.inl ⟨by rfl, fun v hv => by have q0 := HK1.out v hv; clear hv; go_simp⟩) hHeld ?_
   simp only [Act.put, zqa, zqb, zqc]
   refine zqt 2 22 (.int .i64 (k : Int)) rfl rfl (by kernel_rfl) (fun _ _ _ h => h) (Or.inl ⟨by rfl, fun v hv => by clear hv; go_simp⟩) hHeld ?_
   simp only [Act.put, zqa, zqb, zqc]
   refine zqt 3 23 (.pointer (some ⟨b1, o1 + k * 8, none⟩)) rfl rfl (by kernel_rfl) (fun _ _ _ h => h) (Or.inl ⟨by rfl, fun v hv => by clear hv; go_simp⟩) hHeld ?_
   simp only [Act.put, zqa, zqb, zqc]
   refine zqt 4 24 (.pointer (some ⟨b1, o1 + k * 8, none⟩)) rfl rfl (by kernel_rfl) (fun _ _ _ h => h) (Or.inl ⟨by rfl, fun v hv => by clear hv; go_simp⟩) hHeld ?_
   simp only [Act.put, zqa, zqb, zqc]
   refine zqt 5 25 (.agg #[.int .i64 a.me, .int .i64 a.rv, .int .i64 a.nx, .int .i64 a.mo, .int .i64 a.bo, .int .i64 a.fr, .slice d1 dn dc1]) rfl rfl (by kernel_rfl) (fun _ _ _ h => h) (Or.inl ⟨by rfl, fun v hv => by have q0 := HC0.out v hv; have q1 := HC1.out v hv; have q2 := HC2.out v hv; have q3 := HC3.out v hv; have q4 := HC4.out v hv; have q5 := HC5.out v hv; have q6 := HC6.out v hv; clear hv; go_simp⟩) hHeld ?_
   simp only [Act.put, zqa, zqb, zqc]
   refine zqt 6 26 (.pointer (some ⟨w.heap.size + 1, 0, none⟩)) rfl rfl (by kernel_rfl) (fun _ _ _ h => h) (Or.inl ⟨by rfl, fun v hv => by clear hv; go_simp⟩) hHeld ?_
   simp only [Act.put, zqa, zqb, zqc]
   refine zqt 7 27 (.slice (some ⟨b2, o2, none⟩) m c2) rfl rfl (by kernel_rfl) (fun _ _ _ h => h) (Or.inl ⟨by rfl, fun v hv => by have q0 := HK2.out v hv; clear hv; go_simp⟩) hHeld ?_
   simp only [Act.put, zqa, zqb, zqc]
   refine zqt 8 28 (.int .i64 (k : Int)) rfl rfl (by kernel_rfl) (fun _ _ _ h => h) (Or.inl ⟨by rfl, fun v hv => by clear hv; go_simp⟩) hHeld ?_
   simp only [Act.put, zqa, zqb, zqc]
   refine zqt 9 29 (.pointer (some ⟨b2, o2 + k * 8, none⟩)) rfl rfl (by kernel_rfl) (fun _ _ _ h => h) (Or.inl ⟨by rfl, fun v hv => by clear hv; go_simp⟩) hHeld ?_
   simp only [Act.put, zqa, zqb, zqc]
   refine zqt 10 30 (.pointer (some ⟨b2, o2 + k * 8, none⟩)) rfl rfl (by kernel_rfl) (fun _ _ _ h => h) (Or.inl ⟨by rfl, fun v hv => by clear hv; go_simp⟩) hHeld ?_
   simp only [Act.put, zqa, zqb, zqc]
   refine zqt 11 31 (.agg #[.int .i64 a.me, .int .i64 a.rv, .int .i64 a.nx, .int .i64 a.mo, .int .i64 a.bo, .int .i64 a.fr, .slice d2 dn dc2]) rfl rfl (by kernel_rfl) (fun _ _ _ h => h) (Or.inl ⟨by rfl, fun v hv => by have q0 := HD0.out v hv; have q1 := HD1.out v hv; have q2 := HD2.out v hv; have q3 := HD3.out v hv; have q4 := HD4.out v hv; have q5 := HD5.out v hv; have q6 := HD6.out v hv; clear hv; go_simp⟩) hHeld ?_
   simp only [Act.put, zqa, zqb, zqc]
   refine wpAnyH_ready (rs := [12]) (by kernel_rfl) (by simp) (AllReadyH.cons rfl (fun K hK => ?_) AllReadyH.nil)
   rw [if_pos (by rfl)]
   refine wp_callOp 32 rfl (by clear hK; go_simp) (HSA.out _ HBL.out.drew) ?_
   rintro e w2 ⟨rfl, hb⟩
   have HBw2 : Hid (Below W.heap.size W w2) := HBL.out.drew.trans (hb.mono HBL.out.drew.size)
   refine ⟨_, rfl, hK.out _ _ HBw2.out (fun hHeld => ?_)⟩
   clear hK hb
   simp only [Act.put, zqa, zqb, zqc]
   refine zqt 13 33 (.bool false) rfl rfl (by kernel_rfl) (fun _ _ _ h => h) (Or.inl ⟨by rfl, fun v hv => by clear hv; go_simp⟩) hHeld ?_
   simp only [Act.put, zqa, zqb, zqc]
   refine zqt 14 34 (.bool false) rfl rfl (by kernel_rfl) (fun _ _ _ h => h) (Or.inl ⟨by rfl, fun v hv => by clear hv; go_simp⟩) hHeld ?_
   simp only [Act.put, zqa, zqb, zqc]
   refine zqt 15 35 (.pointer (some ⟨w.heap.size, 0, none⟩)) rfl rfl (by kernel_rfl) (fun _ _ _ h => h) (Or.inl ⟨by rfl, fun v hv => by clear hv; go_simp⟩) hHeld ?_
   simp only [Act.put, zqa, zqb, zqc]
   refine zqt 16 36 (.slice (some ⟨b1, o1, none⟩) m c1) rfl rfl (by kernel_rfl) (fun _ _ _ h => h) (Or.inl ⟨by rfl, fun v hv => by have q0 := HK1.out v hv; clear hv; go_simp⟩) hHeld ?_
   simp only [Act.put, zqa, zqb, zqc]
   refine zqt 17 37 (.int .i64 (k : Int)) rfl rfl (by kernel_rfl) (fun _ _ _ h => h) (Or.inl ⟨by rfl, fun v hv => by clear hv; go_simp⟩) hHeld ?_
   simp only [Act.put, zqa, zqb, zqc]
   refine zqt 18 38 (.pointer (some ⟨b1, o1 + k * 8, none⟩)) rfl rfl (by kernel_rfl) (fun _ _ _ h => h) (Or.inl ⟨by rfl, fun v hv => by clear hv; go_simp⟩) hHeld ?_
   simp only [Act.put, zqa, zqb, zqc]
   refine zqt 19 39 (.pointer (some ⟨b1, o1 + k * 8 + 7, none⟩)) rfl rfl (by kernel_rfl) (fun _ _ _ h => h) (Or.inl ⟨by rfl, fun v hv => by clear hv; go_simp⟩) hHeld ?_
   simp only [Act.put, zqa, zqb, zqc]
   refine zqt 20 40 (.slice s1 sn sc1) rfl rfl (by kernel_rfl) (fun _ _ _ h => h) (Or.inl ⟨by rfl, fun v hv => by have q7 := HC7.out v hv; clear hv; go_simp⟩) hHeld ?_
   simp only [Act.put, zqa, zqb, zqc]
   refine zqt 21 41 (.pointer (some ⟨w.heap.size + 1, 0, none⟩)) rfl rfl (by kernel_rfl) (fun _ _ _ h => h) (Or.inl ⟨by rfl, fun v hv => by clear hv; go_simp⟩) hHeld ?_
   simp only [Act.put, zqa, zqb, zqc]
   refine zqt 22 42 (.slice (some ⟨b2, o2, none⟩) m c2) rfl rfl (by kernel_rfl) (fun _ _ _ h => h) (Or.inl ⟨by rfl, fun v hv => by have q0 := HK2.out v hv; clear hv; go_simp⟩) hHeld ?_
   simp only [Act.put, zqa, zqb, zqc]
   refine zqt 23 43 (.int .i64 (k : Int)) rfl rfl (by kernel_rfl) (fun _ _ _ h => h) (Or.inl ⟨by rfl, fun v hv => by clear hv; go_simp⟩) hHeld ?_
   simp only [Act.put, zqa, zqb, zqc]
   refine zqt 24 44 (.pointer (some ⟨b2, o2 + k * 8, none⟩)) rfl rfl (by kernel_rfl) (fun _ _ _ h => h) (Or.inl ⟨by rfl, fun v hv => by clear hv; go_simp⟩) hHeld ?_
   simp only [Act.put, zqa, zqb, zqc]
   refine zqt 25 45 (.pointer (some ⟨b2, o2 + k * 8 + 7, none⟩)) rfl rfl (by kernel_rfl) (fun _ _ _ h => h) (Or.inl ⟨by rfl, fun v hv => by clear hv; go_simp⟩) hHeld ?_
   simp only [Act.put, zqa, zqb, zqc]
   refine zqt 26 46 (.slice s2 sn sc2) rfl rfl (by kernel_rfl) (fun _ _ _ h => h) (Or.inl ⟨by rfl, fun v hv => by have q7 := HD7.out v hv; clear hv; go_simp⟩) hHeld ?_
   simp only [Act.put, zqa, zqb, zqc]
   refine wpAnyH_ready (rs := [27]) (by kernel_rfl) (by simp) (AllReadyH.cons rfl (fun K hK => ?_) AllReadyH.nil)
   rw [if_pos (by rfl)]
   refine wp_callOp 47 rfl (by clear hK; go_simp) (HSS.out _ HBw2.out) ?_
   rintro e w3 ⟨rfl, hb⟩
   have HBw3 := shB HBw2 hb
   refine ⟨_, rfl, hK.out _ _ HBw3.out (fun hHeld => ?_)⟩
   clear hK hb
   simp only [Act.put, zqa, zqb, zqc]
   refine zqt 28 48 (.bool false) rfl rfl (by kernel_rfl) (fun _ _ _ h => h) (Or.inl ⟨by rfl, fun v hv => by clear hv; go_simp⟩) hHeld ?_
   simp only [Act.put, zqa, zqb, zqc]
   refine zqt 29 49 (.bool false) rfl rfl (by kernel_rfl) (fun _ _ _ h => h) (Or.inl ⟨by rfl, fun v hv => by clear hv; go_simp⟩) hHeld ?_
   simp only [Act.put, zqa, zqb, zqc]
   refine wpAnyH_done (by kernel_rfl) ?_ _
   clear hHeld
   go_wp2_with fail
   go_roundw
   case rel => exact ⟨k + 1, by omega, by go_num, HBw3.out⟩
   case measure => simp [intOf]; omega
  ·obtain rfl : k = m := by omega
   have ek : decide ((k : Int) < (k : Int)) = false := by simp
   have HB9 : Hid (Below w.heap.size w wr) := HBW.out.trans (HBL.out.mono HBW.out.size)
   go_wp2_with fail
   go_ret
   exact ⟨rfl, HB9.out⟩
end book
section
open Go.RowKit
theorem wp_wholeG {P : Program} {ops : Array Oper} {rest : List Oper} {o : Oper} {a : Act} {w : World} {Q : Exit → Act → World → Prop} (hw : Region.wanted o (yielded ops a.tmps) = true) (ty : TypeId) (x : Operand) (ho : o.op = .load ty x)
  (g : Nat) (hx : a.eval x = .pointer (some ⟨g, 0, none⟩)) (t : TypeId) (cs : Array Value) (d : TypeDesc) (hB : Blk w g cs t)
  (hu : P.underlying ty = some d) (hd : d.isRow = true) (hi : (P.info? ty).map (·.size) = some cs.size)
  (h : wpList P ops Q rest (a.put o.dst (.agg cs)) w) : wpList P ops Q (o :: rest) a w :=
 wpList_step fun K hK => by
  rw [if_pos hw]
  exact wp_load_mid (P := P) (op := o) (a := a) (w := w) (K := K) (Q := Q) ty x ho g 0 hx cs.toList d (fun j v hv => by rw [Nat.zero_add, hB.cell j]; simpa using hv) hu hd (by simpa using hi) (by simpa using hK _ _ h)
end
namespace vnd
open disk (RepIs RepPost Lr Recs Sli sl0)
open book (Ev ev0 EMay evL evOf DecIs Cm cm0 So so0 BookIs BookPost Sees ECame RowE FirstAt NoneAt Tells DecPost)
open acc (Ac Tm Bi SellIs GrantIs RekeyIs OweIs)
open cell (Wr RowU)
open token (Tok)
open Go.RowKit
set_option maxRecDepth 100000
set_option maxHeartbeats 8000000 in
theorem VendLoads_walk (K : KvLoad) (t : Tm) (pt : Option Addr) (lt ct : Nat) (a : Option Addr) (n cap : Nat) (c : List Int) (w : World) (ht : acc.TCame w t pt lt ct) (h : Dk w a n cap c) : Calls Tryz.prog 3 #[t.v pt lt ct, .slice a n cap] w fun e w' => e = .returned (.bool true) ∧ Below w.heap.size w w' := by
 have HC : Hid (∀ W, Below w.heap.size w W → Dk W a n cap c) := fun W hW => h.below hW
 have HT : Hid (∀ W, Below w.heap.size w W → acc.TCame W t pt lt ct) := fun W hW => ht.below hW
 have HWF : Hid (acc.wf4 t) := ht.wf
 have HN : Hid (c.length = n) := h.row.1
 have HNM : Hid (n ≤ maxLen) := by show n ≤ maxLen; have := h.bytes; unfold maxLen; omega
 have HKK : Hid KvLoad := K
 unfold acc.Tm.v
 clear h ht K
 obtain ⟨W0, HWW, H0t, H0B, hs0⟩ := sh1 w #[.slice pt lt ct, .int .i64 t.ff, .int .i64 t.fb, .int .i64 t.db, .int .i64 t.al] 24
 go_enter Tryz.func3, Tryz.ntmps3
 go_upto_region 1 with fail
 rw [HWW.out]
 clear HWW
 have HWD : Hid (Calls Tryz.prog 6 #[.slice a n cap] W0 fun e w' => cell.GaveU W0 c e w') := cell.words_any a n cap c W0 (HC.out _ H0B.out).row (HC.out _ H0B.out).nil (HC.out _ H0B.out).bytes
 go_wp2_with (first
  | (refine zqw rfl rfl rfl H0t zqu24 ?_)
  | (refine wp_wholeG (by rfl) 24 _ rfl (w.heap.size) rfl 24 #[.slice pt lt ct, .int .i64 t.ff, .int .i64 t.fb, .int .i64 t.db, .int .i64 t.al] _ H0t.out Tryz.underlying24 rfl (by kernel_rfl) ?_)
  | fail)
 refine HWD.out.mono ?_
 rintro e w1 ⟨v1, rfl, hws, hb1⟩
 have H1t := shN H0t hb1
 have H1B := shB H0B hb1
 have hsw1 : W0.heap.size ≤ w1.heap.size := hb1.size
 clear hb1 H0t H0B
 obtain ⟨a1, cap1, rfl, hd, hnn, hle⟩ := hws.row
 rw [HN.out] at hd hle ⊢
 have HD1 : Hid (Dk w1 a1 n cap1 c) := ⟨hd, hnn, hle, (HC.out _ H1B.out).bytes, (HC.out _ H1B.out).wd⟩
 clear hd hnn hle hws HWD
 have H2P : Hid (Below w1.heap.size w1 w1) := Below.refl _ _
 have HTE : Hid (Calls Tryz.prog 8 #[.agg #[.slice pt lt ct, .int .i64 t.ff, .int .i64 t.fb, .int .i64 t.db, .int .i64 t.al]] w1 fun e w' => ∃ p' cap', e = .returned (t.v p' lt cap') ∧ deb.Fresh w' w1.heap.size p' lt cap' t.ts ∧ Below w1.heap.size w1 w') := acc.terms_any t pt lt ct w1 (HT.out _ H1B.out)
 go_wp2_with (first
  | (refine zqw rfl rfl rfl H1t zqu24 ?_)
  | (refine wp_wholeG (by rfl) 24 _ rfl (w.heap.size) rfl 24 #[.slice pt lt ct, .int .i64 t.ff, .int .i64 t.fb, .int .i64 t.db, .int .i64 t.al] _ H1t.out Tryz.underlying24 rfl (by kernel_rfl) ?_)
  | fail)
 refine HTE.out.mono ?_
 rintro e w2 ⟨p2, c2, rfl, hf2, hb2⟩
 have H3t := shN H1t hb2
 have H3P := shB H2P hb2
 have H3B := shB H1B hb2
 have hsw2 : w1.heap.size ≤ w2.heap.size := hb2.size
 clear hb2 H1t H2P H1B
 unfold acc.Tm.v
 have HKL : Hid (Calls Tryz.prog 7 #[.agg #[.slice p2 lt c2, .int .i64 t.ff, .int .i64 t.fb, .int .i64 t.db, .int .i64 t.al], .slice a1 n cap1] w2 fun e w' => LoadPost w2 t c e w') := HKK.out w2 t p2 lt c2 a1 n cap1 c ⟨hf2.came, HWF.out⟩ (HD1.out.below H3P.out)
 clear hf2 HTE HKK
 go_wp2_with (first
  | (refine zqw rfl rfl rfl H3t zqu24 ?_)
  | (refine wp_wholeG (by rfl) 24 _ rfl (w.heap.size) rfl 24 #[.slice pt lt ct, .int .i64 t.ff, .int .i64 t.fb, .int .i64 t.db, .int .i64 t.al] _ H3t.out Tryz.underlying24 rfl (by kernel_rfl) ?_)
  | fail)
 refine HKL.out.mono ?_
 rintro e w3 ⟨p3, m3, c3, xs, bk, f, rfl, hli, hse, hm3, hb3⟩
 have H4t := shN H3t hb3
 have H4P := shB H3P hb3
 have H4B := shB H3B hb3
 have hsw3 : w2.heap.size ≤ w3.heap.size := hb3.size
 clear hb3 H3t H3P H3B
 have HLI : Hid (LoadIs t c bk f) := hli
 have HSE : Hid (Sees w3 p3 m3 xs bk) := hse
 clear hli hse HKL
 have H5S : Hid (Below w3.heap.size w3 w3) := Below.refl _ _
 have H6t : Hid (Blk (w3.alloc (.cells #[.slice p3 m3 c3] 29)) (w.heap.size) #[.slice pt lt ct, .int .i64 t.ff, .int .i64 t.fb, .int .i64 t.db, .int .i64 t.al] 24) := H4t.out.alloc _
 have H6P : Hid (Below w1.heap.size w1 (w3.alloc (.cells #[.slice p3 m3 c3] 29))) := H4P.out.alloc H4P.out.size _
 have H6S : Hid (Below w3.heap.size w3 (w3.alloc (.cells #[.slice p3 m3 c3] 29))) := H5S.out.alloc H5S.out.size _
 have H6a : Hid (Blk (w3.alloc (.cells #[.slice p3 m3 c3] 29)) (w3.heap.size) #[.slice p3 m3 c3] 29) := Blk.new w3 _ _
 have H6B : Hid (Below w.heap.size w (w3.alloc (.cells #[.slice p3 m3 c3] 29))) := H4B.out.alloc H4B.out.size _
 have hsW4 : w3.heap.size < (w3.alloc (.cells #[.slice p3 m3 c3] 29)).heap.size := (Blk.new w3 #[.slice p3 m3 c3] 29).lt
 go_upto_region 3 with fail
 clear H4t H4P H5S H4B
 generalize (w3.alloc (.cells #[.slice p3 m3 c3] 29)) = W4 at *
 have HRL : Hid (Calls Tryz.prog 9 #[.agg #[.slice pt lt ct, .int .i64 t.ff, .int .i64 t.fb, .int .i64 t.db, .int .i64 t.al], .slice a n cap] W4 fun e w' => LoadPost W4 t c e w') := rloaded t pt lt ct a n cap c W4 (HT.out _ H6B.out).ts (HC.out _ H6B.out).row (HC.out _ H6B.out).wd
 go_wp2_with (first
  | (refine zqw rfl rfl rfl H6t zqu24 ?_)
  | (refine wp_wholeG (by rfl) 24 _ rfl (w.heap.size) rfl 24 #[.slice pt lt ct, .int .i64 t.ff, .int .i64 t.fb, .int .i64 t.db, .int .i64 t.al] _ H6t.out Tryz.underlying24 rfl (by kernel_rfl) ?_)
  | (refine zqw rfl rfl rfl H6a zqu29 ?_)
  | (refine wp_wholeG (by rfl) 29 _ rfl (w3.heap.size) rfl 29 #[.slice p3 m3 c3] _ H6a.out Tryz.underlying29 rfl (by kernel_rfl) ?_)
  | fail)
 refine HRL.out.mono ?_
 rintro e w5 ⟨p5, m5, c5, ys, bk2, f2, rfl, hli, hse, hm5, hb5⟩
 have H7t := shN H6t hb5
 have H7a := shN H6a hb5
 have H7P := shB H6P hb5
 have H7S := shB H6S hb5
 have H7B := shB H6B hb5
 have hsw5 : W4.heap.size ≤ w5.heap.size := hb5.size
 clear hb5 H6t H6a H6P H6S H6B
 obtain ⟨hbk, hff⟩ := HLI.out.one hli
 subst hbk hff
 have hmm := sees_len HSE.out hse
 subst hmm
 have HS5 : Hid (Sees w5 p5 m3 ys bk) := hse
 clear hli hse HRL
 have H8R : Hid (Below w5.heap.size w5 w5) := Below.refl _ _
 have H9t : Hid (Blk (w5.alloc (.cells #[.slice p5 m3 c5] 29)) (w.heap.size) #[.slice pt lt ct, .int .i64 t.ff, .int .i64 t.fb, .int .i64 t.db, .int .i64 t.al] 24) := H7t.out.alloc _
 have H9a : Hid (Blk (w5.alloc (.cells #[.slice p5 m3 c5] 29)) (w3.heap.size) #[.slice p3 m3 c3] 29) := H7a.out.alloc _
 have H9P : Hid (Below w1.heap.size w1 (w5.alloc (.cells #[.slice p5 m3 c5] 29))) := H7P.out.alloc H7P.out.size _
 have H9S : Hid (Below w3.heap.size w3 (w5.alloc (.cells #[.slice p5 m3 c5] 29))) := H7S.out.alloc H7S.out.size _
 have H9R : Hid (Below w5.heap.size w5 (w5.alloc (.cells #[.slice p5 m3 c5] 29))) := H8R.out.alloc H8R.out.size _
 have H9b : Hid (Blk (w5.alloc (.cells #[.slice p5 m3 c5] 29)) (w5.heap.size) #[.slice p5 m3 c5] 29) := Blk.new w5 _ _
 have H9B : Hid (Below w.heap.size w (w5.alloc (.cells #[.slice p5 m3 c5] 29))) := H7B.out.alloc H7B.out.size _
 have hsW6 : w5.heap.size < (w5.alloc (.cells #[.slice p5 m3 c5] 29)).heap.size := (Blk.new w5 #[.slice p5 m3 c5] 29).lt
 go_upto_region 4 with fail
 clear H7t H7a H7P H7S H8R H7B
 generalize (w5.alloc (.cells #[.slice p5 m3 c5] 29)) = W6 at *
 have HSB : Hid (Calls Tryz.prog 10 #[.agg #[.slice p3 m3 c3], .agg #[.slice p5 m3 c5]] W6 fun e w' => e = .returned (.bool true) ∧ Below W6.heap.size W6 w') := book.book_law p3 p5 m3 c3 c5 xs ys bk W6 (HSE.out.below H9S.out) (HS5.out.below H9R.out) (by omega) (load_small HLI.out)
 have ef : (f == f) = true := by simp
 go_wp2_with (first
  | (refine zqw rfl rfl rfl H9t zqu24 ?_)
  | (refine wp_wholeG (by rfl) 24 _ rfl (w.heap.size) rfl 24 #[.slice pt lt ct, .int .i64 t.ff, .int .i64 t.fb, .int .i64 t.db, .int .i64 t.al] _ H9t.out Tryz.underlying24 rfl (by kernel_rfl) ?_)
  | (refine zqw rfl rfl rfl H9a zqu29 ?_)
  | (refine wp_wholeG (by rfl) 29 _ rfl (w3.heap.size) rfl 29 #[.slice p3 m3 c3] _ H9a.out Tryz.underlying29 rfl (by kernel_rfl) ?_)
  | (refine zqw rfl rfl rfl H9b zqu29 ?_)
  | (refine wp_wholeG (by rfl) 29 _ rfl (w5.heap.size) rfl 29 #[.slice p5 m3 c5] _ H9b.out Tryz.underlying29 rfl (by kernel_rfl) ?_)
  | fail)
 refine HSB.out.mono ?_
 rintro e w7 ⟨rfl, hb7⟩
 have H10t := shN H9t hb7
 have H10a := shN H9a hb7
 have H10b := shN H9b hb7
 have H10P := shB H9P hb7
 have H10S := shB H9S hb7
 have H10R := shB H9R hb7
 have H10B := shB H9B hb7
 have hsw7 : W6.heap.size ≤ w7.heap.size := hb7.size
 clear hb7 H9t H9a H9b H9P H9S H9R H9B
 clear HSB
 have HSW : Hid (Calls Tryz.prog 11 #[.slice a n cap, .slice a1 n cap1] w7 fun e w' => e = .returned (.bool true) ∧ Below w7.heap.size w7 w') := cell.words_law a a1 n cap cap1 c w7 (HC.out _ H10B.out).row (HD1.out.below H10P.out).row HNM.out
 go_wp2_with (first
  | (refine zqw rfl rfl rfl H10t zqu24 ?_)
  | (refine wp_wholeG (by rfl) 24 _ rfl (w.heap.size) rfl 24 #[.slice pt lt ct, .int .i64 t.ff, .int .i64 t.fb, .int .i64 t.db, .int .i64 t.al] _ H10t.out Tryz.underlying24 rfl (by kernel_rfl) ?_)
  | (refine zqw rfl rfl rfl H10a zqu29 ?_)
  | (refine wp_wholeG (by rfl) 29 _ rfl (w3.heap.size) rfl 29 #[.slice p3 m3 c3] _ H10a.out Tryz.underlying29 rfl (by kernel_rfl) ?_)
  | (refine zqw rfl rfl rfl H10b zqu29 ?_)
  | (refine wp_wholeG (by rfl) 29 _ rfl (w5.heap.size) rfl 29 #[.slice p5 m3 c5] _ H10b.out Tryz.underlying29 rfl (by kernel_rfl) ?_)
  | fail)
 refine HSW.out.mono ?_
 rintro e w8 ⟨rfl, hb8⟩
 have H11t := shN H10t hb8
 have H11a := shN H10a hb8
 have H11b := shN H10b hb8
 have H11P := shB H10P hb8
 have H11S := shB H10S hb8
 have H11R := shB H10R hb8
 have H11B := shB H10B hb8
 have hsw8 : w7.heap.size ≤ w8.heap.size := hb8.size
 clear hb8 H10t H10a H10b H10P H10S H10R H10B
 go_wp2_with fail
 go_ret
 exact ⟨rfl, H11B.out⟩
end vnd
namespace disk
open Go.RowKit cell
set_option maxRecDepth 100000
def ReadsF (w : World) (base : Nat) (a : Option Addr) (n : Nat) (zs : List (List Int)) : Prop :=
 zs.length = n ∧ (n = 0 ∨ ∃ b off, a = some ⟨b, off, none⟩ ∧ base ≤ b ∧ b < w.heap.size ∧ ∀ i, i < n → ∃ s : Sli, w.cell? ⟨b, off + i, none⟩ = some s.v ∧ RowU w s.a s.n (zs.getD i []) ∧ (s.n ≤ 100000 ∧ s.n ≤ s.c ∧ (s.a = none → s.c = 0)) ∧ ∀ x, s.a = some x → base ≤ x.block)
end disk
end Go.Proofs.YtomibnggmhjdfaaGreat
