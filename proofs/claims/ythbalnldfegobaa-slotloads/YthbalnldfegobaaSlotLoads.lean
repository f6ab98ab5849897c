/- SlotLoads: the record that is loaded is the document's. -/
import Derived.Test.YthbalnldfegobaaSlT
import Derived.Test.YthbalnldfegobaaClSame
import Derived.Test.YthbalnldfegobaaClCopy
import Derived.Test.YthbalnldfegobaaRows
import Derived.WalkKit
import Derived.ProofKit
import Derived.OpenShut
import Derived.ShutString
import Derived.ChangeOld
import Derived.Below
import Derived.SizedLaws
namespace Go.Proofs.Ythbalnldfegobaa.slotLoads
open Go.ChangeShapes Go.WideShapes Go.ChangeAt Go.RowKit
set_option linter.unusedVariables false

theorem own : ownKnob Try.prog.godebug = none := by kernel_rfl
theorem laidOut : laidOutB Try.prog = true := by kernel_rfl

theorem walk (a0 : Option Addr) (len0 cap0 : Nat) (z0 : List Int) (a1 : Int) (w : World) (w0 : cell.RowU w a0 len0 z0 ∧ (a0 = none → cap0 = 0) ∧ len0 ≤ cap0 ∧ len0 * 4 ≤ 140737488351232) (w1 : (Lit.int .i64 a1).wf = true) :
    Calls Try.prog 4 #[.slice a0 len0 cap0, .int .i64 a1] w fun e w' => e = .returned (.bool true) ∧ Below w.heap.size w w' := by
  obtain ⟨hr0, hn0, hc0, hl0⟩ := w0
  have e0 := hr0.1
  have HA : Hid (∃ (zs : List Int) (c : Int), zs.length ≤ maxLen ∧ (∀ W b0 c0, cell.RowU W b0 len0 z0 → len0 ≤ c0 → Calls Try.prog 13 #[.slice b0 len0 c0, .int .i64 a1] W fun e w' => cell.GaveR W zs c e w') ∧ (∀ W b0 c0, cell.RowU W b0 len0 z0 → Calls Try.prog 14 #[.slice b0 len0 c0, .int .i64 a1] W fun e w' => cell.GaveR W zs c e w')) := by
    by_cases h : a1 < 1 ∨ 64 < a1 ∨ (len0 : Int) ≠ 2 * a1 + 2
    · exact ⟨[], 1, Nat.zero_le _, fun W b0 c0 _ _ => slot.load_size b0 len0 c0 a1 W h, fun W b0 c0 _ => slot.sloaded_size b0 len0 c0 a1 W h⟩
    · obtain ⟨k, rfl⟩ : ∃ k : Nat, a1 = k := ⟨a1.toNat, by omega⟩
      have h2 := slot.cnt_le (z0.getD 0 0) (z0.getD (k + 1) 0)
      by_cases h3 : slot.which z0 k = 2
      · exact ⟨[], 17, Nat.zero_le _, fun W b0 c0 r _ => slot.load_blank b0 len0 c0 k z0 W r (by omega) (by omega) (by omega) h3, fun W b0 c0 r => slot.sloaded_blank b0 len0 c0 k z0 W r (by omega) (by omega) (by omega) h3⟩
      · have h4 : slot.which z0 k ≤ 1 := by
          have h5 : slot.which z0 k ≤ 2 := h2
          omega
        exact ⟨slot.rcd z0 k (slot.which z0 k), 0, by rw [slot.rcd_len]; unfold maxLen; omega, fun W b0 c0 r hc => slot.load_yes b0 len0 c0 k _ z0 W r hc (by omega) (by omega) (by omega) rfl h4, fun W b0 c0 r => slot.sloaded_yes b0 len0 c0 k _ z0 W r (by omega) (by omega) (by omega) rfl h4⟩
  have hm0 : len0 ≤ maxLen := by unfold maxLen; omega
  have HA0 : Hid (Calls Try.prog 12 #[.slice a0 len0 cap0] w fun e w' => cell.GaveU w z0 e w') := cell.words_any a0 len0 cap0 z0 w hr0 hn0 hl0
  have H0 : Hid (cell.RowU w a0 len0 z0) := hr0
  have HM : Hid (len0 ≤ maxLen) := hm0
  have E0 : Hid (z0.length = len0) := e0
  clear hr0 hn0 hl0 e0 hm0 hc0
  obtain ⟨zs, c, hzs, hA, hB⟩ := HA.out
  have hcc : (c == c) = true := by simp
  have HF : Hid (∀ W b0 c0, cell.RowU W b0 len0 z0 → len0 ≤ c0 → Calls Try.prog 13 #[.slice b0 len0 c0, .int .i64 a1] W fun e w' => cell.GaveR W zs c e w') := hA
  have HG : Hid (∀ W b0 c0, cell.RowU W b0 len0 z0 → Calls Try.prog 14 #[.slice b0 len0 c0, .int .i64 a1] W fun e w' => cell.GaveR W zs c e w') := hB
  have HZ : Hid (zs.length ≤ maxLen) := hzs
  clear hA hB HA hzs
  go_enter Try.func4, Try.ntmps4
  go_wp2_with fail
  refine HA0.out.mono ?_
  rintro e w2 ⟨v1, rfl, hv1, hb1⟩
  obtain ⟨b0, c0, rfl, r0, _, hcp⟩ := hv1.row
  have hlz := E0.out
  have K0 : Hid (cell.RowU w2 b0 len0 z0 ∧ len0 ≤ c0) := by rw [hlz] at r0 hcp; exact ⟨r0, hcp⟩
  rw [hlz]
  have J0 : Hid (cell.RowU w2 a0 len0 z0) := H0.out.below hb1
  have HB2 : Hid (Below w.heap.size w w2) := hb1
  clear hv1 r0 hb1 hlz hcp HA0 H0
  go_wp2_with fail
  refine (HF.out _ _ _ K0.out.1 K0.out.2).mono ?_
  rintro e w3 ⟨x3, c3, rfl, hr3, _, hb3⟩
  have HV3 : Hid (cell.RowU w3 x3 zs.length zs) := hr3
  have M0 : Hid (cell.RowU w3 b0 len0 z0 ∧ cell.RowU w3 a0 len0 z0) := ⟨K0.out.1.below hb3, J0.out.below hb3⟩
  have HB3 : Hid (Below w.heap.size w w3) := bel_step HB2.out hb3
  clear hr3 hb3 K0 J0 HB2 HF
  go_wp2_with fail
  refine (HG.out _ _ _ M0.out.2).mono ?_
  rintro e w4 ⟨x4, c4, rfl, hr4, _, hb4⟩
  have R3 : Hid (cell.RowU w4 x3 zs.length zs) := HV3.out.below hb4
  have R4 : Hid (cell.RowU w4 x4 zs.length zs) := hr4
  have M1 : Hid (cell.RowU w4 b0 len0 z0 ∧ cell.RowU w4 a0 len0 z0) := ⟨M0.out.1.below hb4, M0.out.2.below hb4⟩
  have HB4 : Hid (Below w.heap.size w w4) := bel_step HB3.out hb4
  clear hr4 hb4 HV3 M0 HB3 HG
  go_wp2_with fail
  refine (cell.words_law _ _ _ _ _ _ _ R3.out R4.out HZ.out).mono ?_
  rintro e w5 ⟨rfl, hb5⟩
  go_wp2_with fail
  refine (cell.words_law _ _ _ _ _ _ _ (M1.out.2.below hb5) (M1.out.1.below hb5) HM.out).mono ?_
  rintro e w6 ⟨rfl, hb6⟩
  go_wp2_with fail
  go_ret
  exact ⟨rfl, bel_step (bel_step HB4.out hb5) hb6⟩

set_option maxRecDepth 100000 in
theorem lifted (os : Os) (started : os.Started) (H : Type) (enc : TypeId × Value → H) :
    ReturnsInHanded {} Try.checked os 4 .any (Rows.slotLoadsSpec.pre6 enc Try.prog Try.f4 Rows.slotLoadsRow.domain false) (Rows.slotLoadsSpec.post enc Try.prog Try.f4 false true false false) := by
  refine returnsInHanded_of_change_sized (C := Try.checked) own started (by kernel_rfl) Try.func4
    (ChangeSpec.witness6 (enc := enc) (C := Try.checked) false ⟨#[], #[.slice none 0 0, .int .i64 0], []⟩ 8 (by kernel_rfl) (by kernel_rfl) (by kernel_rfl) (by kernel_rfl)) ?_
  intro W base args ds gs before hval0 hW hcnd hsz0 _
  have hval : ∀ (j : Nat) t v, Try.f4.params[j]? = some t → args[j]? = some v → Value.okWide Try.prog W .any base t v := hval0
  have hW' := hW
  obtain ⟨p, q, hA0, hV, rfl, hfz, hnd⟩ := hW
  have hA : DataW.TrodAll enc Try.prog W 0 (fun _ => true) true Try.f4.params.toList args.toList ds p := hA0
  have hsz : (DataW.weightsEach Try.prog (Try.f4.params.toList ++ Rows.slotLoadsSpec.plain.varTypes Try.prog) (ds ++ gs)).all (· ≤ reachBytes) = true := hsz0
  rw [Try.params4] at hA hval hsz
  obtain ⟨v0, vs0, d0, ds0, p0, q0, hargs, rfl, rfl, h0, r0⟩ := trodAll_cons hA
  obtain ⟨v1, vs1, d1, ds1, p1, q1, rfl, rfl, rfl, h1, r1⟩ := trodAll_cons r0
  obtain ⟨rfl, rfl, rfl⟩ := trodAll_nil r1
  obtain rfl : args = #[v0, v1] := by cases args; simp_all
  obtain ⟨rfl, rfl⟩ := trodVars_none hV
  obtain ⟨a0, len0, cap0, rfl⟩ := okWide_slice Try.underlying22 (hval 0 22 v0 rfl rfl)
  have k0 := h0
  have lt0 : ∀ x ∈ p0, x.block < W.heap.size := by obtain ⟨m, hm⟩ := k0; exact DataW.trod_lt m _ _ _ hm
  obtain ⟨z0, w0⟩ : ∃ zs, cell.RowU W a0 len0 zs ∧ (a0 = none → cap0 = 0) ∧ len0 ≤ cap0 ∧ len0 * 4 ≤ 140737488351232 := by
    obtain ⟨fuel, hf⟩ := h0
    rcases open_ints Try.underlying22 Try.underlying45 (by kernel_rfl) hf with ⟨hcs, _⟩ | ⟨x, l, c, zs, hcs, _, hl, hm, hz, hx, hcell, hwz⟩
    · simp [Value.cells] at hcs
      obtain ⟨rfl, rfl, rfl⟩ := hcs
      exact ⟨[], cell.RowU.nil _ _, fun _ => rfl, Nat.le_refl _, by omega⟩
    · simp [Value.cells] at hcs
      obtain ⟨rfl, rfl, rfl⟩ := hcs
      obtain ⟨hd, _⟩ := Prod.mk.inj hx
      subst hd
      have hs := sized_slice hsz (j := 0) (t := 22) (e := 45) rfl rfl Try.underlying22
      rw [show Try.prog.bytesOf 45 = 4 from by kernel_rfl] at hs
      simp only [lits, List.length_map, List.length_take, List.length_drop, reachBytes] at hs
      have hz' : zs.length = cap0 := by simpa using hz
      have hr := cell.rowU_of (len := len0) (cap := cap0) (M := 140737488351232) (.inr ⟨x, rfl, hl, by omega, hz', hcell, hwz⟩)
      exact ⟨_, hr.1, hr.2.1, hl, hr.2.2⟩
  obtain ⟨a1, rfl, rfl, rfl, w1⟩ := open_int Try.underlying3 (hval 1 3 v1 rfl rfl) h1
  clear hA0 hval0
  refine (walk a0 len0 cap0 z0 a1 W w0 w1).mono fun e W' ⟨he, bel⟩ => ?_
  subst he
  exact ⟨_, rfl, _, _, _, [], _, [], hW', trodAll_mk1 (shut_bool Try.underlying4 _), (trodAll_cons_mk (Below.trod laidOut (by kernel_rfl) (of_decide_eq_true (by kernel_rfl)) k0 bel lt0) (trodAll_cons_mk (shut_int Try.underlying3 w1) trodAll_mk0)), rfl, bel.frame _, fun h => by cases h⟩

theorem over : Rows.slotLoadsRow.holds Try.pinned (OpenSpec.ofChange Rows.slotLoadsSpec) :=
  OpenClaim.holds_of_wide 4 Try.f4 rfl rfl rfl rfl rfl rfl rfl ⟨rfl, rfl, rfl, rfl, rfl⟩ rfl rfl rfl rfl rfl (by kernel_rfl) Try.func4 (by kernel_rfl)
    (of_decide_eq_true (by kernel_rfl)) (by unfold Func.isWrapper; first | (rw [if_pos (by decide +kernel)]; kernel_rfl) | (rw [if_neg (by decide +kernel)]; exact ⟨rfl, rfl⟩))
    (fun os started H enc _ => lifted os started H enc)

end Go.Proofs.Ythbalnldfegobaa.slotLoads
namespace Go.Proofs.Ythbalnldfegobaa
theorem slotLoads_holds : Rows.SlotLoadsSaid := slotLoads.over
#print axioms slotLoads_holds
end Go.Proofs.Ythbalnldfegobaa
