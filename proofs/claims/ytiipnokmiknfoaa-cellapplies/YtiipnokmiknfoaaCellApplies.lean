/- CellApplies: what cell.Apply answers is what the document asks, and nothing that was handed in is changed. -/
import Derived.Test.YtiipnokmiknfoaaClApp
import Derived.Test.YtiipnokmiknfoaaClRef
import Derived.Test.YtiipnokmiknfoaaClSame
import Derived.Test.YtiipnokmiknfoaaClCopy
import Derived.Test.YtiipnokmiknfoaaRows
import Derived.WalkKit
import Derived.ProofKit
import Derived.OpenShut
import Derived.ShutString
import Derived.ChangeOld
import Derived.Below
import Derived.SizedLaws
import Derived.Deep.SlicePairs
namespace Go.Proofs.Ytiipnokmiknfoaa.cellApplies
open Go.ChangeShapes Go.WideShapes Go.ChangeAt Go.RowKit
set_option linter.unusedVariables false

theorem own : ownKnob Try.prog.godebug = none := by kernel_rfl
theorem laidOut : laidOutB Try.prog = true := by kernel_rfl

theorem walk (a0 : Option Addr) (len0 cap0 : Nat) (z0 : List Int) (a1 : Option Addr) (len1 cap1 : Nat) (z1 : List cell.Wr) (a2 : Int) (w : World) (w0 : cell.RowU w a0 len0 z0 ∧ (a0 = none → cap0 = 0) ∧ len0 ≤ cap0 ∧ len0 * 4 ≤ 140737488351232) (w1 : cell.RowW w a1 len1 z1 ∧ (a1 = none → cap1 = 0) ∧ len1 ≤ cap1 ∧ len1 * 16 ≤ 140737488351232 ∧ ∀ x ∈ z1, (Lit.int .i64 x.p).wf = true) (w2 : (Lit.int .i64 a2).wf = true) :
    Calls Try.prog 4 #[.slice a0 len0 cap0, .slice a1 len1 cap1, .int .i64 a2] w fun e w' => e = .returned (.bool true) ∧ Below w.heap.size w w' := by
  obtain ⟨hr0, hn0, _, hl0⟩ := w0
  obtain ⟨hr1, hn1, hc1, hl1, _⟩ := w1
  have e0 := hr0.1
  have e1 := hr1.1
  have HA : Hid (∃ (zs : List Int) (c : Int), zs.length ≤ maxLen ∧ (∀ W b0 c0 b1 c1, cell.RowU W b0 len0 z0 → cell.RowW W b1 len1 z1 → len1 ≤ c1 → Calls Try.prog 13 #[.slice b0 len0 c0, .slice b1 len1 c1, .int .i64 a2] W fun e w' => cell.GaveR W zs c e w') ∧ (∀ W b0 c0 b1 c1, cell.RowU W b0 len0 z0 → cell.RowW W b1 len1 z1 → Calls Try.prog 14 #[.slice b0 len0 c0, .slice b1 len1 c1, .int .i64 a2] W fun e w' => cell.GaveR W zs c e w')) := by
    by_cases h : len0 = 0 ∨ 2048 < len0 ∨ 4096 < len1
    · exact ⟨[], 1, Nat.zero_le _, fun W b0 c0 b1 c1 _ _ _ => cell.apply_size b0 b1 len0 len1 c0 c1 a2 W h, fun W b0 c0 b1 c1 _ _ => cell.applied_size b0 b1 len0 len1 c0 c1 a2 W h⟩
    · by_cases h2 : cell.allN len0 z1 = true ∧ 0 ≤ a2 ∧ a2 ≤ len1
      · obtain ⟨k, rfl⟩ : ∃ k : Nat, a2 = k := ⟨a2.toNat, by omega⟩
        refine ⟨cell.wrt z0 (z1.take k), 0, by rw [cell.wrt_len]; unfold maxLen; omega, fun W b0 c0 b1 c1 r0 r1 hc => cell.apply_yes b0 b1 len0 len1 c0 c1 k z0 z1 W r0 r1 (by omega) (by omega) (by omega) hc h2.1 (by omega), fun W b0 c0 b1 c1 r0 r1 => ?_⟩
        exact (cell.applied_any b0 b1 len0 len1 c0 c1 k z0 z1 W r0 r1 (by omega) (by omega) (by omega)).mono fun e w' hp => hp.1 h2
      · have h3 : cell.allN len0 z1 = false ∨ a2 < 0 ∨ len1 < a2 := by
          cases ha : cell.allN len0 z1 with
          | false => exact .inl rfl
          | true => have h5 : ¬ (0 ≤ a2 ∧ a2 ≤ len1) := fun h => h2 ⟨ha, h⟩; right; omega
        refine ⟨[], 2, Nat.zero_le _, fun W b0 c0 b1 c1 _ r1 _ => cell.apply_range b0 b1 len0 len1 c0 c1 a2 z1 W r1 (by omega) (by omega) (by omega) h3, fun W b0 c0 b1 c1 r0 r1 => ?_⟩
        exact (cell.applied_any b0 b1 len0 len1 c0 c1 a2 z0 z1 W r0 r1 (by omega) (by omega) (by omega)).mono fun e w' hp => hp.2 h3
  have hm0 : len0 ≤ maxLen := by unfold maxLen; omega
  have hm1 : len1 ≤ maxLen := by unfold maxLen; omega
  have HA0 : Hid (Calls Try.prog 11 #[.slice a0 len0 cap0] w fun e w' => cell.GaveU w z0 e w') := cell.words_any a0 len0 cap0 z0 w hr0 hn0 hl0
  have HA1 : Hid (∀ W, cell.RowW W a1 len1 z1 → Calls Try.prog 12 #[.slice a1 len1 cap1] W fun e w' => cell.GaveW W z1 e w') := fun W r => cell.writes_any a1 len1 cap1 z1 W r hn1 hl1
  have H0 : Hid (cell.RowU w a0 len0 z0) := hr0
  have H1 : Hid (cell.RowW w a1 len1 z1) := hr1
  have HM : Hid (len0 ≤ maxLen ∧ len1 ≤ maxLen) := ⟨hm0, hm1⟩
  have E0 : Hid (z0.length = len0) := e0
  have E1 : Hid (z1.length = len1) := e1
  clear hr0 hr1 hn0 hn1 hl0 hl1 e0 e1 hm0 hm1 w2 hc1
  go_enter Try.func4, Try.ntmps4
  go_wp2_with fail
  refine HA0.out.mono ?_
  rintro e w1 ⟨v1, rfl, hv1, hb1⟩
  obtain ⟨b0, c0, rfl, r0, _, _⟩ := hv1.row
  have hlz := E0.out
  have K0 : Hid (cell.RowU w1 b0 len0 z0) := by rw [hlz] at r0; exact r0
  rw [hlz]
  have J0 : Hid (cell.RowU w1 a0 len0 z0) := H0.out.below hb1
  have J1 : Hid (cell.RowW w1 a1 len1 z1) := H1.out.below hb1
  have HB1 : Hid (Below w.heap.size w w1) := hb1
  clear hv1 r0 hb1 hlz HA0 H0 H1
  go_wp2_with fail
  refine (HA1.out _ J1.out).mono ?_
  rintro e w2 ⟨v2, rfl, hv2, hb2⟩
  obtain ⟨b1, c1, rfl, r1, _, hcc1, _⟩ := hv2.row
  have hlz := E1.out
  have K1 : Hid (cell.RowW w2 b1 len1 z1 ∧ len1 ≤ c1) := by rw [hlz] at r1 hcc1; exact ⟨r1, hcc1⟩
  rw [hlz]
  have K0' : Hid (cell.RowU w2 b0 len0 z0) := K0.out.below hb2
  have J0' : Hid (cell.RowU w2 a0 len0 z0) := J0.out.below hb2
  have J1' : Hid (cell.RowW w2 a1 len1 z1) := J1.out.below hb2
  have HB2 : Hid (Below w.heap.size w w2) := bel_step HB1.out hb2
  clear hv2 r1 hb2 hlz hcc1 HA1 K0 J0 J1 HB1
  obtain ⟨zs, c, hzs, hA, hB⟩ := HA.out
  have hcc : (c == c) = true := by simp
  have HF : Hid (∀ W b0 c0 b1 c1, cell.RowU W b0 len0 z0 → cell.RowW W b1 len1 z1 → len1 ≤ c1 → Calls Try.prog 13 #[.slice b0 len0 c0, .slice b1 len1 c1, .int .i64 a2] W fun e w' => cell.GaveR W zs c e w') := hA
  have HG : Hid (∀ W b0 c0 b1 c1, cell.RowU W b0 len0 z0 → cell.RowW W b1 len1 z1 → Calls Try.prog 14 #[.slice b0 len0 c0, .slice b1 len1 c1, .int .i64 a2] W fun e w' => cell.GaveR W zs c e w') := hB
  have HZ : Hid (zs.length ≤ maxLen) := hzs
  clear hA hB HA hzs
  go_wp2_with fail
  refine (HF.out _ _ _ _ _ K0'.out K1.out.1 K1.out.2).mono ?_
  rintro e w3 ⟨x3, c3, rfl, hr3, _, hb3⟩
  have HV3 : Hid (cell.RowU w3 x3 zs.length zs) := hr3
  have M0 : Hid (cell.RowU w3 b0 len0 z0 ∧ cell.RowW w3 b1 len1 z1 ∧ cell.RowU w3 a0 len0 z0 ∧ cell.RowW w3 a1 len1 z1) := ⟨K0'.out.below hb3, K1.out.1.below hb3, J0'.out.below hb3, J1'.out.below hb3⟩
  have HB3 : Hid (Below w.heap.size w w3) := bel_step HB2.out hb3
  clear hr3 hb3 K0' K1 J0' J1' HB2 HF
  go_wp2_with fail
  refine (HG.out _ _ _ _ _ M0.out.2.2.1 M0.out.2.2.2).mono ?_
  rintro e w4 ⟨x4, c4, rfl, hr4, _, hb4⟩
  have R3 : Hid (cell.RowU w4 x3 zs.length zs) := HV3.out.below hb4
  have R4 : Hid (cell.RowU w4 x4 zs.length zs) := hr4
  have M1 : Hid (cell.RowU w4 b0 len0 z0 ∧ cell.RowW w4 b1 len1 z1 ∧ cell.RowU w4 a0 len0 z0 ∧ cell.RowW w4 a1 len1 z1) := ⟨M0.out.1.below hb4, M0.out.2.1.below hb4, M0.out.2.2.1.below hb4, M0.out.2.2.2.below hb4⟩
  have HB4 : Hid (Below w.heap.size w w4) := bel_step HB3.out hb4
  clear hr4 hb4 HV3 M0 HB3 HG
  go_wp2_with fail
  refine (cell.words_law _ _ _ _ _ _ _ R3.out R4.out HZ.out).mono ?_
  rintro e w5 ⟨rfl, hb5⟩
  go_wp2_with fail
  refine (cell.words_law _ _ _ _ _ _ _ (M1.out.2.2.1.below hb5) (M1.out.1.below hb5) HM.out.1).mono ?_
  rintro e w6 ⟨rfl, hb6⟩
  go_wp2_with fail
  refine (cell.writes_law _ _ _ _ _ _ _ ((M1.out.2.2.2.below hb5).below hb6) ((M1.out.2.1.below hb5).below hb6) HM.out.2).mono ?_
  rintro e w7 ⟨rfl, hb7⟩
  go_wp2_with fail
  go_ret
  exact ⟨rfl, bel_step (bel_step (bel_step HB4.out hb5) hb6) hb7⟩

set_option maxRecDepth 100000 in
theorem lifted (os : Os) (started : os.Started) (H : Type) (enc : TypeId × Value → H) :
    ReturnsInHanded {} Try.checked os 4 .any (Rows.cellAppliesSpec.pre6 enc Try.prog Try.f4 Rows.cellAppliesRow.domain false) (Rows.cellAppliesSpec.post enc Try.prog Try.f4 false true false false) := by
  refine returnsInHanded_of_change_sized (C := Try.checked) own started (by kernel_rfl) Try.func4
    (ChangeSpec.witness6 (enc := enc) (C := Try.checked) false ⟨#[], #[.slice none 0 0, .slice none 0 0, .int .i64 0], []⟩ 8 (by kernel_rfl) (by kernel_rfl) (by kernel_rfl) (by kernel_rfl)) ?_
  intro W base args ds gs before hval0 hW hcnd hsz0 _
  have hval : ∀ (j : Nat) t v, Try.f4.params[j]? = some t → args[j]? = some v → Value.okWide Try.prog W .any base t v := hval0
  have hW' := hW
  obtain ⟨p, q, hA0, hV, rfl, hfz, hnd⟩ := hW
  have hA : DataW.TrodAll enc Try.prog W 0 (fun _ => true) true Try.f4.params.toList args.toList ds p := hA0
  have hsz : (DataW.weightsEach Try.prog (Try.f4.params.toList ++ Rows.cellAppliesSpec.plain.varTypes Try.prog) (ds ++ gs)).all (· ≤ reachBytes) = true := hsz0
  rw [Try.params4] at hA hval hsz
  obtain ⟨v0, vs0, d0, ds0, p0, q0, hargs, rfl, rfl, h0, r0⟩ := trodAll_cons hA
  obtain ⟨v1, vs1, d1, ds1, p1, q1, rfl, rfl, rfl, h1, r1⟩ := trodAll_cons r0
  obtain ⟨v2, vs2, d2, ds2, p2, q2, rfl, rfl, rfl, h2, r2⟩ := trodAll_cons r1
  obtain ⟨rfl, rfl, rfl⟩ := trodAll_nil r2
  obtain rfl : args = #[v0, v1, v2] := by cases args; simp_all
  obtain ⟨rfl, rfl⟩ := trodVars_none hV
  obtain ⟨a0, len0, cap0, rfl⟩ := okWide_slice Try.underlying22 (hval 0 22 v0 rfl rfl)
  have k0 := h0
  have lt0 : ∀ x ∈ p0, x.block < W.heap.size := by obtain ⟨m, hm⟩ := k0; exact DataW.trod_lt m _ _ _ hm
  obtain ⟨z0, w0⟩ : ∃ zs, cell.RowU W a0 len0 zs ∧ (a0 = none → cap0 = 0) ∧ len0 ≤ cap0 ∧ len0 * 4 ≤ 140737488351232 := by
    obtain ⟨fuel, hf⟩ := h0
    rcases open_ints Try.underlying22 Try.underlying39 (by kernel_rfl) hf with ⟨hcs, _⟩ | ⟨x, l, c, zs, hcs, _, hl, hm, hz, hx, hcell, hwz⟩
    · simp [Value.cells] at hcs
      obtain ⟨rfl, rfl, rfl⟩ := hcs
      exact ⟨[], cell.RowU.nil _ _, fun _ => rfl, Nat.le_refl _, by omega⟩
    · simp [Value.cells] at hcs
      obtain ⟨rfl, rfl, rfl⟩ := hcs
      obtain ⟨hd, _⟩ := Prod.mk.inj hx
      subst hd
      have hs := sized_slice hsz (j := 0) (t := 22) (e := 39) rfl rfl Try.underlying22
      rw [show Try.prog.bytesOf 39 = 4 from by kernel_rfl] at hs
      simp only [lits, List.length_map, List.length_take, List.length_drop, reachBytes] at hs
      have hz' : zs.length = cap0 := by simpa using hz
      have hr := cell.rowU_of (len := len0) (cap := cap0) (M := 140737488351232) (.inr ⟨x, rfl, hl, by omega, hz', hcell, hwz⟩)
      exact ⟨_, hr.1, hr.2.1, hl, hr.2.2⟩
  obtain ⟨a1, len1, cap1, rfl⟩ := okWide_slice Try.underlying28 (hval 1 28 v1 rfl rfl)
  have k1 := h1
  have lt1 : ∀ x ∈ p1, x.block < W.heap.size := by obtain ⟨m, hm⟩ := k1; exact DataW.trod_lt m _ _ _ hm
  obtain ⟨z1, w1⟩ : ∃ zs, cell.RowW W a1 len1 zs ∧ (a1 = none → cap1 = 0) ∧ len1 ≤ cap1 ∧ len1 * 16 ≤ 140737488351232 ∧ ∀ x ∈ zs, (Lit.int .i64 x.p).wf = true := by
    obtain ⟨fuel, hf⟩ := h1
    rcases Deep.open_slice_pairs Try.underlying28 Try.underlying42 (by kernel_rfl) rfl rfl (by kernel_rfl) (by kernel_rfl) hf with ⟨hcs, _⟩ | ⟨x, l, c, m, fu, V0, V1, D0, D1, P0, P1, hcs, _, hl, hm, hmm, hx, hall⟩
    · simp [Value.cells] at hcs
      obtain ⟨rfl, rfl, rfl⟩ := hcs
      exact ⟨[], cell.RowW.nil _ _, (fun _ => rfl), Nat.le_refl _, by omega, (fun x hx => by cases hx)⟩
    · simp [Value.cells] at hcs
      obtain ⟨rfl, rfl, rfl⟩ := hcs
      obtain ⟨hd, _⟩ := Prod.mk.inj hx
      subst hd
      have hs := sized_slice hsz (j := 1) (t := 28) (e := 42) rfl rfl Try.underlying28
      rw [show Try.prog.bytesOf 42 = 16 from by kernel_rfl] at hs
      simp only [List.length_map, List.length_range, reachBytes] at hs
      have hmc : m = cap1 := by simpa using hmm
      have hr := cell.rowW_of (len := len1) (w := W) (a := x) (m := m) (by omega) (fun j hj => by
        obtain ⟨c0, c1, t0, t1⟩ := hall j hj
        obtain ⟨z0, hv0, _, hw0⟩ := DataW.trod_int Try.underlying3 t0
        obtain ⟨z1, hv1, _, hw1⟩ := DataW.trod_int Try.underlying39 t1
        simp only [List.cons.injEq, and_true] at hv0 hv1
        rw [hv0] at c0
        rw [hv1] at c1
        exact ⟨z0, z1, c0, c1, hw0⟩)
      obtain ⟨zs, r1, r2⟩ := hr
      exact ⟨zs, r1, (fun h => by cases h), hl, by omega, r2⟩
  obtain ⟨a2, rfl, rfl, rfl, w2⟩ := open_int Try.underlying3 (hval 2 3 v2 rfl rfl) h2
  clear hA0 hval0
  refine (walk a0 len0 cap0 z0 a1 len1 cap1 z1 a2 W w0 w1 w2).mono fun e W' ⟨he, bel⟩ => ?_
  subst he
  exact ⟨_, rfl, _, _, _, [], _, [], hW', trodAll_mk1 (shut_bool Try.underlying4 _), (trodAll_cons_mk (Below.trod laidOut (by kernel_rfl) (of_decide_eq_true (by kernel_rfl)) k0 bel lt0) (trodAll_cons_mk (Below.trod laidOut (by kernel_rfl) (of_decide_eq_true (by kernel_rfl)) k1 bel lt1) (trodAll_cons_mk (shut_int Try.underlying3 w2) trodAll_mk0))), rfl, bel.frame _, fun h => by cases h⟩

theorem over : Rows.cellAppliesRow.holds Try.pinned (OpenSpec.ofChange Rows.cellAppliesSpec) :=
  OpenClaim.holds_of_wide 4 Try.f4 rfl rfl rfl rfl rfl rfl rfl ⟨rfl, rfl, rfl, rfl, rfl⟩ rfl rfl rfl rfl rfl (by kernel_rfl) Try.func4 (by kernel_rfl)
    (of_decide_eq_true (by kernel_rfl)) (by unfold Func.isWrapper; first | (rw [if_pos (by decide +kernel)]; kernel_rfl) | (rw [if_neg (by decide +kernel)]; exact ⟨rfl, rfl⟩))
    (fun os started H enc _ => lifted os started H enc)

end Go.Proofs.Ytiipnokmiknfoaa.cellApplies
namespace Go.Proofs.Ytiipnokmiknfoaa
theorem cellApplies_holds : Rows.CellAppliesSaid := cellApplies.over
#print axioms cellApplies_holds
end Go.Proofs.Ytiipnokmiknfoaa
