/- The statement DebtSteps. -/
import Derived.Test.YtodnlecccgiogabKdA
import Derived.Test.YtodnlecccgiogabDbQ
import Derived.Test.YtodnlecccgiogabDbSk
import Derived.Deep.DeepCutAuto
namespace Go.Proofs.Ytodnlecccgiogab.deb
open Go.Proofs.Ytodnlecccgiogab.tar (Du du0 Came RowD Ld TwoPost PairT)
open Go.Proofs.Ytodnlecccgiogab.check (pick picked_any pick_nonneg pick_lt)
open Go.RowKit
set_option maxRecDepth 100000
set_option linter.unusedVariables false
set_option linter.unusedSimpArgs false

set_option maxHeartbeats 4000000 in
theorem DebtSteps_walk (KAge : KdAge) (a : Option Addr) (len cap : Nat) (rs : List Du) (x y : Int) (w : World) (h : Came w a len cap rs) (hx : (Lit.int .i64 x).wf = true) (hy : (Lit.int .i64 y).wf = true) : Calls Try.prog 3 #[.slice a len cap, .int .i64 x, .int .i64 y] w fun e w' => e = .returned (.bool true) ∧ Below w.heap.size w w' := by
  have HST : Hid (Calls Try.prog 5 #[.slice a len cap, .int .i64 1000000000] w fun e w' => GaveO w 1000000000 e w') := owing_any a len cap 1000000000 (by decide) rs w h
  have HP1 : Hid (∀ W, Calls Try.prog 6 #[.int .i64 x, .int .i64 1201] W fun e w' => e = .returned (.int .i64 (pick x 1201)) ∧ w' = W) := fun W => picked_any x 1201 W hx (by decide) (by decide)
  have qP10 := pick_nonneg x 1201 (by decide)
  have qP11 := pick_lt x 1201 (by decide)
  generalize pick x 1201 = X at *
  have HP2 : Hid (∀ W, Calls Try.prog 6 #[.int .i64 y, .int .i64 1200] W fun e w' => e = .returned (.int .i64 (pick y 1200)) ∧ w' = W) := fun W => picked_any y 1200 W hy (by decide) (by decide)
  have qP20 := pick_nonneg y 1200 (by decide)
  have qP21 := pick_lt y 1200 (by decide)
  generalize pick y 1200 = Y at *
  clear h
  go_enter Try.func3, Try.ntmps3
  go_wp2_with fail
  refine HST.out.mono ?_
  rintro e w1 ⟨v1, ls, rfl, hm, hmo, hv1, hb1⟩
  obtain ⟨a1, cap1, rfl, hc1⟩ := ld_mays hv1 hm
  have HC1 : Hid (Came w1 a1 ls.length cap1 ls) := hc1
  have HM : Hid (Mays ls) := hm
  have HMO : Hid (∀ d ∈ ls, d.a ≤ 1000000000) := hmo
  have hl8 : ls.length ≤ 8 := hm.1
  have B1 : Hid (Below w.heap.size w w1) := hb1
  clear hv1 hc1 hb1 HST hm hmo
  have HAG : Hid (∀ W a' n' c' l' (m : Nat), Came W a' n' c' l' → Mays l' → m ≤ 2400 → Calls Try.prog 7 #[.slice a' n' c', .int .i64 (m : Int)] W fun e w' => ∃ a2 c2, e = .returned (.tuple #[.slice a2 n' c2, .int .i64 0]) ∧ Came w' a2 n' c2 (ageAll l' m) ∧ Below W.heap.size W w') := fun W a' n' c' l' m hc hm hmm =>
    (KAge W a' n' c' l' m hc (tar.wf_mid (by omega) (by omega))).mono fun e w' hh => by
      obtain ⟨a2, n2, c2, z, f, rfl, hp, hcf, hb⟩ := hh
      have hcz := hcf.came
      obtain ⟨rfl, rfl⟩ := hp.got hm ⟨by omega, by omega⟩
      rw [show ((m : Nat) : Int).toNat = m by omega] at hcz
      obtain rfl : n' = n2 := by rw [← hc.row.1, ← hcz.row.1, ageAll_len]
      exact ⟨a2, c2, rfl, hcz, hb⟩
  clear KAge
  obtain ⟨A, rfl⟩ := Int.eq_ofNat_of_zero_le qP10
  obtain ⟨E, rfl⟩ := Int.eq_ofNat_of_zero_le qP20
  have HLL : Hid (ageAll (ageAll ls A) (E + 1) = ageAll ls (A + (E + 1))) := ageAll_add ls A (E + 1)
  have HM2 : Hid (Mays (ageAll ls A)) := ageAll_mays HM.out A
  have hA : A ≤ 1200 := by omega
  have hE : E ≤ 1199 := by omega
  have HAT : Hid (∀ i, i < ls.length → (ageAll ls (A + (E + 1))).getD i du0 = ⟨growN (ls.getD i du0).b (A + (E + 1)) (ls.getD i du0).a, (ls.getD i du0).b⟩) := fun i hi => ageAll_at ls _ i hi
  have HAG1 : Hid (∀ W, Came W a1 ls.length cap1 ls → Calls Try.prog 7 #[.slice a1 ls.length cap1, .int .i64 (A : Int)] W fun e w' => ∃ a2 c2, e = .returned (.tuple #[.slice a2 ls.length c2, .int .i64 0]) ∧ Came w' a2 ls.length c2 (ageAll ls A) ∧ Below W.heap.size W w') := fun W hc => HAG.out W a1 ls.length cap1 ls A hc HM.out (by omega)
  have HAG2 : Hid (∀ W a2 c2, Came W a2 ls.length c2 (ageAll ls A) → Calls Try.prog 7 #[.slice a2 ls.length c2, .int .i64 ((E : Int) + 1)] W fun e w' => ∃ a3 c3, e = .returned (.tuple #[.slice a3 ls.length c3, .int .i64 0]) ∧ Came w' a3 ls.length c3 (ageAll ls (A + (E + 1))) ∧ Below W.heap.size W w') := fun W a2 c2 hc => by
    have := HAG.out W a2 ls.length c2 (ageAll ls A) (E + 1) hc HM2.out (by omega)
    rw [HLL.out] at this
    rwa [show ((E + 1 : Nat) : Int) = (E : Int) + 1 by omega] at this
  have HAG3 : Hid (∀ W, Came W a1 ls.length cap1 ls → Calls Try.prog 7 #[.slice a1 ls.length cap1, .int .i64 ((A : Int) + ((E : Int) + 1))] W fun e w' => ∃ a4 c4, e = .returned (.tuple #[.slice a4 ls.length c4, .int .i64 0]) ∧ Came w' a4 ls.length c4 (ageAll ls (A + (E + 1))) ∧ Below W.heap.size W w') := fun W hc => by
    have := HAG.out W a1 ls.length cap1 ls (A + (E + 1)) hc HM.out (by omega)
    rwa [show ((A + (E + 1) : Nat) : Int) = (A : Int) + ((E : Int) + 1) by omega] at this
  clear HAG HLL HM2
  go_wp2_with fail
  refine (HP1.out _).mono ?_
  rintro e wz ⟨rfl, hwz⟩
  subst hwz
  go_wp2_with fail
  refine (HP2.out _).mono ?_
  rintro e wz ⟨rfl, hwz⟩
  subst hwz
  go_wp2_with fail
  refine (HAG1.out _ HC1.out).mono ?_
  rintro e w2 ⟨a2, c2, rfl, hz2, hb2⟩
  have HZ2 : Hid (Came w2 a2 ls.length c2 (ageAll ls A)) := hz2
  have HC2 : Hid (Came w2 a1 ls.length cap1 ls) := HC1.out.below hb2
  have B2 : Hid (Below w.heap.size w w2) := B1.out.trans (hb2.mono B1.out.size)
  clear hz2 hb2 HC1 B1
  go_wp2_with fail
  refine (HAG2.out _ _ _ HZ2.out).mono ?_
  rintro e w3 ⟨a3, c3, rfl, hz3, hb3⟩
  have HZ3 : Hid (Came w3 a3 ls.length c3 (ageAll ls (A + (E + 1)))) := hz3
  have HC3 : Hid (Came w3 a1 ls.length cap1 ls) := HC2.out.below hb3
  have B3 : Hid (Below w.heap.size w w3) := B2.out.trans (hb3.mono B2.out.size)
  clear hz3 hb3 HC2 B2 HZ2
  go_wp2_with fail
  refine (HAG3.out _ HC3.out).mono ?_
  rintro e w4 ⟨a4, c4, rfl, hz4, hb4⟩
  have HZ4 : Hid (Came w4 a4 ls.length c4 (ageAll ls (A + (E + 1)))) := hz4
  have HY4 : Hid (Came w4 a3 ls.length c3 (ageAll ls (A + (E + 1)))) := HZ3.out.below hb4
  have HC4 : Hid (Came w4 a1 ls.length cap1 ls) := HC3.out.below hb4
  have B4 : Hid (Below w.heap.size w w4) := B3.out.trans (hb4.mono B3.out.size)
  clear hz4 hb4 HC3 B3 HZ3 HAG1 HAG2 HAG3 HP1 HP2
  have HKD : Hid (Calls Try.prog 8 #[.slice a3 ls.length c3, .slice a4 ls.length c4] w4 fun e w' => e = .returned (.bool true) ∧ Below w4.heap.size w4 w') := keep_debts a3 a4 ls.length c3 c4 _ w4 HY4.out.row HZ4.out.row HY4.out.most
  have HLN : Hid (ls.length = ls.length) := rfl
  generalize hln : ls.length = n1 at *
  have HLEN : Hid (ls.length = n1) := hln
  clear hln HLN
  have hnn : ((n1 : Int) != (n1 : Int)) = false := by simp
  go_wp2_with fail
  refine HKD.out.mono ?_
  rintro e w5 ⟨rfl, hb5⟩
  have HZ5 : Hid (Came w5 a4 n1 c4 (ageAll ls (A + (E + 1)))) := HZ4.out.below hb5
  have HC5 : Hid (Came w5 a1 n1 cap1 ls) := HC4.out.below hb5
  have B5 : Hid (Below w.heap.size w w5) := B4.out.trans (hb5.mono B4.out.size)
  clear hb5 HC4 B4 HZ4 HY4 HKD
  go_wp2_with fail
  go_loopw [16] (fun z wr => ∃ k : Nat, k ≤ n1 ∧ z = .int .i64 (k : Int) ∧ Below w5.heap.size w5 wr) (fun z _ => n1 - (intOf z).toNat)
  case atStart => exact ⟨0, Nat.zero_le _, rfl, Below.refl _ _⟩
  case round =>
    obtain ⟨k, hk, rfl, hb⟩ := hrel
    by_cases hlt : k < n1
    · have hdl : decide ((k : Int) < (n1 : Int)) = true := by simp; omega
      obtain ⟨b, off, rfl, hbl, hc⟩ := HC5.out.row.at (by omega)
      obtain ⟨ba, oa, rfl, hbla, hca⟩ := HZ5.out.row.at (by omega)
      have hat := HAT.out k (by first | exact hlt | (rw [HLEN.out]; exact hlt))
      have ho := HM.out.2 k (by rw [HLEN.out]; exact hlt)
      have hgb := growN_bd ho.2.1 ho.2.2 ho.1.1 ho.1.2 (A + (E + 1))
      have g0 := (hca k hlt).1
      have g1 := (hca k hlt).2
      rw [hat] at g0 g1
      have c0 : wr.cell? ⟨b, off + k * 2, none⟩ = some (.int .i64 (ls.getD k du0).a) := (hb.cell (p := ⟨b, off + k * 2, none⟩) hbl).trans (hc k hlt).1
      have c1 : wr.cell? ⟨b, off + k * 2 + 1, none⟩ = some (.int .i64 (ls.getD k du0).b) := (hb.cell (p := ⟨b, off + k * 2 + 1, none⟩) hbl).trans (hc k hlt).2
      have d0 : wr.cell? ⟨ba, oa + k * 2, none⟩ = some (.int .i64 (growN (ls.getD k du0).b (A + (E + 1)) (ls.getD k du0).a)) := (hb.cell (p := ⟨ba, oa + k * 2, none⟩) hbla).trans g0
      have d1 : wr.cell? ⟨ba, oa + k * 2 + 1, none⟩ = some (.int .i64 (ls.getD k du0).b) := (hb.cell (p := ⟨ba, oa + k * 2 + 1, none⟩) hbla).trans g1
      have HBD : Hid (Below w5.heap.size w5 wr.drew) := hb.drew
      clear hc hca hat g0 g1 hb ho
      generalize growN (ls.getD k du0).b (A + (E + 1)) (ls.getD k du0).a = xa at *
      generalize (ls.getD k du0).a = xd at *
      generalize (ls.getD k du0).b = y0 at *
      have f1 : decide (xa < xd) = false := decide_eq_false (by omega)
      have f2 : decide (1000000000 < xa) = false := decide_eq_false (by omega)
      have f3 : (y0 != y0) = false := by simp
      go_wp2_with fail
      go_upto_region 12 with fail
      refine wp_region_held_drew (S := fun v => v.cell? ⟨ba, oa + k * 2, none⟩ = some (.int .i64 xa) ∧ v.cell? ⟨ba, oa + k * 2 + 1, none⟩ = some (.int .i64 y0) ∧ v.cell? ⟨b, off + k * 2, none⟩ = some (.int .i64 xd) ∧ v.cell? ⟨b, off + k * 2 + 1, none⟩ = some (.int .i64 y0)) (by kernel_rfl) ⟨d0, d1, c0, c1⟩ (fun hHeld => ?_)
      refine take_at 0 73 (.slice (some ⟨ba, oa, none⟩) n1 c4) _ rfl rfl (by kernel_rfl) (by kernel_rfl) (by kernel_rfl) (fun _ _ _ h => h) (Or.inl ⟨by rfl, fun v hv => by skip; clear hv; go_simp⟩) hHeld ?_
      simp only [Act.put, List.setIfInBounds_toArray, List.set_cons_zero, List.set_cons_succ]
      refine take_at 1 74 (.int .i64 (k : Int)) _ rfl rfl (by kernel_rfl) (by kernel_rfl) (by kernel_rfl) (fun _ _ _ h => h) (Or.inl ⟨by rfl, fun v hv => by skip; clear hv; go_simp⟩) hHeld ?_
      simp only [Act.put, List.setIfInBounds_toArray, List.set_cons_zero, List.set_cons_succ]
      refine take_at 2 75 (.pointer (some ⟨ba, oa + k * 2, none⟩)) _ rfl rfl (by kernel_rfl) (by kernel_rfl) (by kernel_rfl) (fun _ _ _ h => h) (Or.inl ⟨by rfl, fun v hv => by skip; clear hv; go_simp⟩) hHeld ?_
      simp only [Act.put, List.setIfInBounds_toArray, List.set_cons_zero, List.set_cons_succ]
      refine take_at 3 76 (.pointer (some ⟨ba, oa + k * 2, none⟩)) _ rfl rfl (by kernel_rfl) (by kernel_rfl) (by kernel_rfl) (fun _ _ _ h => h) (Or.inl ⟨by rfl, fun v hv => by skip; clear hv; go_simp⟩) hHeld ?_
      simp only [Act.put, List.setIfInBounds_toArray, List.set_cons_zero, List.set_cons_succ]
      refine take_at 4 77 (.int .i64 xa) _ rfl rfl (by kernel_rfl) (by kernel_rfl) (by kernel_rfl) (fun _ _ _ h => h) (Or.inl ⟨by rfl, fun v hv => by have h2 := hv.1; clear hv; go_simp⟩) hHeld ?_
      simp only [Act.put, List.setIfInBounds_toArray, List.set_cons_zero, List.set_cons_succ]
      refine take_at 5 78 (.slice (some ⟨b, off, none⟩) n1 cap1) _ rfl rfl (by kernel_rfl) (by kernel_rfl) (by kernel_rfl) (fun _ _ _ h => h) (Or.inl ⟨by rfl, fun v hv => by skip; clear hv; go_simp⟩) hHeld ?_
      simp only [Act.put, List.setIfInBounds_toArray, List.set_cons_zero, List.set_cons_succ]
      refine take_at 6 79 (.int .i64 (k : Int)) _ rfl rfl (by kernel_rfl) (by kernel_rfl) (by kernel_rfl) (fun _ _ _ h => h) (Or.inl ⟨by rfl, fun v hv => by skip; clear hv; go_simp⟩) hHeld ?_
      simp only [Act.put, List.setIfInBounds_toArray, List.set_cons_zero, List.set_cons_succ]
      refine take_at 7 80 (.pointer (some ⟨b, off + k * 2, none⟩)) _ rfl rfl (by kernel_rfl) (by kernel_rfl) (by kernel_rfl) (fun _ _ _ h => h) (Or.inl ⟨by rfl, fun v hv => by skip; clear hv; go_simp⟩) hHeld ?_
      simp only [Act.put, List.setIfInBounds_toArray, List.set_cons_zero, List.set_cons_succ]
      refine take_at 8 81 (.pointer (some ⟨b, off + k * 2, none⟩)) _ rfl rfl (by kernel_rfl) (by kernel_rfl) (by kernel_rfl) (fun _ _ _ h => h) (Or.inl ⟨by rfl, fun v hv => by skip; clear hv; go_simp⟩) hHeld ?_
      simp only [Act.put, List.setIfInBounds_toArray, List.set_cons_zero, List.set_cons_succ]
      refine take_at 9 82 (.int .i64 xd) _ rfl rfl (by kernel_rfl) (by kernel_rfl) (by kernel_rfl) (fun _ _ _ h => h) (Or.inl ⟨by rfl, fun v hv => by have h2 := hv.2.2.1; clear hv; go_simp⟩) hHeld ?_
      simp only [Act.put, List.setIfInBounds_toArray, List.set_cons_zero, List.set_cons_succ]
      refine take_at 10 83 (.bool false) _ rfl rfl (by kernel_rfl) (by kernel_rfl) (by kernel_rfl) (fun _ _ _ h => h) (Or.inl ⟨by rfl, fun v hv => by skip; clear hv; go_simp⟩) hHeld ?_
      simp only [Act.put, List.setIfInBounds_toArray, List.set_cons_zero, List.set_cons_succ]
      refine take_at 11 84 (.bool false) _ rfl rfl (by kernel_rfl) (by kernel_rfl) (by kernel_rfl) (fun _ _ _ h => h) (Or.inl ⟨by rfl, fun v hv => by skip; clear hv; go_simp⟩) hHeld ?_
      simp only [Act.put, List.setIfInBounds_toArray, List.set_cons_zero, List.set_cons_succ]
      refine take_at 12 85 (.slice (some ⟨ba, oa, none⟩) n1 c4) _ rfl rfl (by kernel_rfl) (by kernel_rfl) (by kernel_rfl) (fun _ _ _ h => h) (Or.inl ⟨by rfl, fun v hv => by skip; clear hv; go_simp⟩) hHeld ?_
      simp only [Act.put, List.setIfInBounds_toArray, List.set_cons_zero, List.set_cons_succ]
      refine take_at 13 86 (.int .i64 (k : Int)) _ rfl rfl (by kernel_rfl) (by kernel_rfl) (by kernel_rfl) (fun _ _ _ h => h) (Or.inl ⟨by rfl, fun v hv => by skip; clear hv; go_simp⟩) hHeld ?_
      simp only [Act.put, List.setIfInBounds_toArray, List.set_cons_zero, List.set_cons_succ]
      refine take_at 14 87 (.pointer (some ⟨ba, oa + k * 2, none⟩)) _ rfl rfl (by kernel_rfl) (by kernel_rfl) (by kernel_rfl) (fun _ _ _ h => h) (Or.inl ⟨by rfl, fun v hv => by skip; clear hv; go_simp⟩) hHeld ?_
      simp only [Act.put, List.setIfInBounds_toArray, List.set_cons_zero, List.set_cons_succ]
      refine take_at 15 88 (.pointer (some ⟨ba, oa + k * 2, none⟩)) _ rfl rfl (by kernel_rfl) (by kernel_rfl) (by kernel_rfl) (fun _ _ _ h => h) (Or.inl ⟨by rfl, fun v hv => by skip; clear hv; go_simp⟩) hHeld ?_
      simp only [Act.put, List.setIfInBounds_toArray, List.set_cons_zero, List.set_cons_succ]
      refine take_at 16 89 (.int .i64 xa) _ rfl rfl (by kernel_rfl) (by kernel_rfl) (by kernel_rfl) (fun _ _ _ h => h) (Or.inl ⟨by rfl, fun v hv => by have h2 := hv.1; clear hv; go_simp⟩) hHeld ?_
      simp only [Act.put, List.setIfInBounds_toArray, List.set_cons_zero, List.set_cons_succ]
      refine take_at 17 90 (.bool false) _ rfl rfl (by kernel_rfl) (by kernel_rfl) (by kernel_rfl) (fun _ _ _ h => h) (Or.inl ⟨by rfl, fun v hv => by skip; clear hv; go_simp⟩) hHeld ?_
      simp only [Act.put, List.setIfInBounds_toArray, List.set_cons_zero, List.set_cons_succ]
      refine take_at 18 91 (.bool false) _ rfl rfl (by kernel_rfl) (by kernel_rfl) (by kernel_rfl) (fun _ _ _ h => h) (Or.inl ⟨by rfl, fun v hv => by skip; clear hv; go_simp⟩) hHeld ?_
      simp only [Act.put, List.setIfInBounds_toArray, List.set_cons_zero, List.set_cons_succ]
      refine take_at 19 92 (.bool false) _ rfl rfl (by kernel_rfl) (by kernel_rfl) (by kernel_rfl) (fun _ _ _ h => h) (Or.inl ⟨by rfl, fun v hv => by skip; clear hv; go_simp⟩) hHeld ?_
      simp only [Act.put, List.setIfInBounds_toArray, List.set_cons_zero, List.set_cons_succ]
      refine take_at 20 93 (.slice (some ⟨ba, oa, none⟩) n1 c4) _ rfl rfl (by kernel_rfl) (by kernel_rfl) (by kernel_rfl) (fun _ _ _ h => h) (Or.inl ⟨by rfl, fun v hv => by skip; clear hv; go_simp⟩) hHeld ?_
      simp only [Act.put, List.setIfInBounds_toArray, List.set_cons_zero, List.set_cons_succ]
      refine take_at 21 94 (.int .i64 (k : Int)) _ rfl rfl (by kernel_rfl) (by kernel_rfl) (by kernel_rfl) (fun _ _ _ h => h) (Or.inl ⟨by rfl, fun v hv => by skip; clear hv; go_simp⟩) hHeld ?_
      simp only [Act.put, List.setIfInBounds_toArray, List.set_cons_zero, List.set_cons_succ]
      refine take_at 22 95 (.pointer (some ⟨ba, oa + k * 2, none⟩)) _ rfl rfl (by kernel_rfl) (by kernel_rfl) (by kernel_rfl) (fun _ _ _ h => h) (Or.inl ⟨by rfl, fun v hv => by skip; clear hv; go_simp⟩) hHeld ?_
      simp only [Act.put, List.setIfInBounds_toArray, List.set_cons_zero, List.set_cons_succ]
      refine take_at 23 96 (.pointer (some ⟨ba, oa + k * 2 + 1, none⟩)) _ rfl rfl (by kernel_rfl) (by kernel_rfl) (by kernel_rfl) (fun _ _ _ h => h) (Or.inl ⟨by rfl, fun v hv => by skip; clear hv; go_simp⟩) hHeld ?_
      simp only [Act.put, List.setIfInBounds_toArray, List.set_cons_zero, List.set_cons_succ]
      refine take_at 24 97 (.int .i64 y0) _ rfl rfl (by kernel_rfl) (by kernel_rfl) (by kernel_rfl) (fun _ _ _ h => h) (Or.inl ⟨by rfl, fun v hv => by have h2 := hv.2.1; clear hv; go_simp⟩) hHeld ?_
      simp only [Act.put, List.setIfInBounds_toArray, List.set_cons_zero, List.set_cons_succ]
      refine take_at 25 98 (.slice (some ⟨b, off, none⟩) n1 cap1) _ rfl rfl (by kernel_rfl) (by kernel_rfl) (by kernel_rfl) (fun _ _ _ h => h) (Or.inl ⟨by rfl, fun v hv => by skip; clear hv; go_simp⟩) hHeld ?_
      simp only [Act.put, List.setIfInBounds_toArray, List.set_cons_zero, List.set_cons_succ]
      refine take_at 26 99 (.int .i64 (k : Int)) _ rfl rfl (by kernel_rfl) (by kernel_rfl) (by kernel_rfl) (fun _ _ _ h => h) (Or.inl ⟨by rfl, fun v hv => by skip; clear hv; go_simp⟩) hHeld ?_
      simp only [Act.put, List.setIfInBounds_toArray, List.set_cons_zero, List.set_cons_succ]
      refine take_at 27 100 (.pointer (some ⟨b, off + k * 2, none⟩)) _ rfl rfl (by kernel_rfl) (by kernel_rfl) (by kernel_rfl) (fun _ _ _ h => h) (Or.inl ⟨by rfl, fun v hv => by skip; clear hv; go_simp⟩) hHeld ?_
      simp only [Act.put, List.setIfInBounds_toArray, List.set_cons_zero, List.set_cons_succ]
      refine take_at 28 101 (.pointer (some ⟨b, off + k * 2 + 1, none⟩)) _ rfl rfl (by kernel_rfl) (by kernel_rfl) (by kernel_rfl) (fun _ _ _ h => h) (Or.inl ⟨by rfl, fun v hv => by skip; clear hv; go_simp⟩) hHeld ?_
      simp only [Act.put, List.setIfInBounds_toArray, List.set_cons_zero, List.set_cons_succ]
      refine take_at 29 102 (.int .i64 y0) _ rfl rfl (by kernel_rfl) (by kernel_rfl) (by kernel_rfl) (fun _ _ _ h => h) (Or.inl ⟨by rfl, fun v hv => by have h2 := hv.2.2.2; clear hv; go_simp⟩) hHeld ?_
      simp only [Act.put, List.setIfInBounds_toArray, List.set_cons_zero, List.set_cons_succ]
      refine take_at 30 103 (.bool false) _ rfl rfl (by kernel_rfl) (by kernel_rfl) (by kernel_rfl) (fun _ _ _ h => h) (Or.inl ⟨by rfl, fun v hv => by skip; clear hv; go_simp⟩) hHeld ?_
      simp only [Act.put, List.setIfInBounds_toArray, List.set_cons_zero, List.set_cons_succ]
      refine take_at 31 104 (.bool false) _ rfl rfl (by kernel_rfl) (by kernel_rfl) (by kernel_rfl) (fun _ _ _ h => h) (Or.inl ⟨by rfl, fun v hv => by skip; clear hv; go_simp⟩) hHeld ?_
      simp only [Act.put, List.setIfInBounds_toArray, List.set_cons_zero, List.set_cons_succ]
      refine wpAnyH_done (by kernel_rfl) ?_ _
      clear hHeld c0 c1 d0 d1
      go_wp2_with fail
      go_roundw
      case rel => exact ⟨k + 1, by omega, by go_num, HBD.out⟩
      case measure => simp [intOf]; omega
    · obtain rfl : k = n1 := by omega
      have hdl : decide ((k : Int) < (k : Int)) = false := by simp
      have BF : Hid (Below w.heap.size w wr) := B5.out.trans (hb.mono B5.out.size)
      clear hb
      go_wp2_with fail
      go_ret
      exact ⟨rfl, BF.out⟩

end Go.Proofs.Ytodnlecccgiogab.deb
