/- SlotStores: the writes of a store are the document's. -/
import Derived.Test.YthbalnldfegobaaSlT
import Derived.Test.YthbalnldfegobaaClSame
import Derived.Test.YthbalnldfegobaaClCopy
import Derived.Test.YthbalnldfegobaaRows
import Derived.WalkKit
import Derived.ProofKit
import Derived.OpenShut
import Derived.ShutString
import Derived.ChangeOld
import Derived.Below
import Derived.SizedLaws
namespace Go.Proofs.Ythbalnldfegobaa.slotStores
open Go.ChangeShapes Go.WideShapes Go.ChangeAt Go.RowKit
set_option linter.unusedVariables false

theorem own : ownKnob Try.prog.godebug = none := by kernel_rfl
theorem laidOut : laidOutB Try.prog = true := by kernel_rfl

theorem walk (a0 : Option Addr) (len0 cap0 : Nat) (z0 : List Int) (a1 : Option Addr) (len1 cap1 : Nat) (z1 : List Int) (w : World) (w0 : cell.RowU w a0 len0 z0 ∧ (a0 = none → cap0 = 0) ∧ len0 ≤ cap0 ∧ len0 * 4 ≤ 140737488351232) (w1 : cell.RowU w a1 len1 z1 ∧ (a1 = none → cap1 = 0) ∧ len1 ≤ cap1 ∧ len1 * 4 ≤ 140737488351232) :
    Calls Try.prog 5 #[.slice a0 len0 cap0, .slice a1 len1 cap1] w fun e w' => e = .returned (.bool true) ∧ Below w.heap.size w w' := by
  obtain ⟨hr0, hn0, _, hl0⟩ := w0
  obtain ⟨hr1, hn1, _, hl1⟩ := w1
  have e0 := hr0.1
  have e1 := hr1.1
  have HA : Hid (∃ (ls : List cell.Wr) (c : Int), ls.length ≤ 66 ∧ (∀ W b0 c0 b1 c1, cell.RowU W b0 len0 z0 → cell.RowU W b1 len1 z1 → Calls Try.prog 15 #[.slice b0 len0 c0, .slice b1 len1 c1] W fun e w' => cell.GaveL W ls c e w') ∧ (∀ W b0 c0 b1 c1, cell.RowU W b0 len0 z0 → cell.RowU W b1 len1 z1 → Calls Try.prog 16 #[.slice b0 len0 c0, .slice b1 len1 c1] W fun e w' => cell.GaveL W ls c e w')) := by
    by_cases h : len1 < 1 ∨ 64 < len1 ∨ len0 ≠ 2 * len1 + 2
    · exact ⟨[], 1, Nat.zero_le _, fun W b0 c0 b1 c1 _ _ => slot.store_size b0 b1 len0 c0 len1 c1 W h, fun W b0 c0 b1 c1 _ _ => slot.sstored_size b0 b1 len0 c0 len1 c1 W h⟩
    · have h2 := slot.cnt_le (z0.getD 0 0) (z0.getD (len1 + 1) 0)
      by_cases h3 : slot.which z0 len1 = 2
      · exact ⟨[], 17, Nat.zero_le _, fun W b0 c0 b1 c1 r _ => slot.store_blank b0 b1 len0 c0 len1 c1 z0 W r (by omega) (by omega) (by omega) h3, fun W b0 c0 b1 c1 r _ => slot.sstored_blank b0 b1 len0 c0 len1 c1 z0 W r (by omega) (by omega) (by omega) h3⟩
      · have h4 : slot.which z0 len1 ≤ 1 := by
          have h5 : slot.which z0 len1 ≤ 2 := h2
          omega
        exact ⟨slot.sto z0 z1 len1, 0, by rw [slot.sto_len]; omega, fun W b0 c0 b1 c1 r r' => slot.store_yes b0 b1 len0 c0 len1 c1 _ z0 z1 W r r' (by omega) (by omega) (by omega) rfl h4, fun W b0 c0 b1 c1 r r' => slot.sstored_yes b0 b1 len0 c0 len1 c1 _ z0 z1 W r r' (by omega) (by omega) (by omega) rfl h4⟩
  have hm0 : len0 ≤ maxLen := by unfold maxLen; omega
  have hm1 : len1 ≤ maxLen := by unfold maxLen; omega
  have HA0 : Hid (Calls Try.prog 12 #[.slice a0 len0 cap0] w fun e w' => cell.GaveU w z0 e w') := cell.words_any a0 len0 cap0 z0 w hr0 hn0 hl0
  have HA1 : Hid (∀ W, cell.RowU W a1 len1 z1 → Calls Try.prog 12 #[.slice a1 len1 cap1] W fun e w' => cell.GaveU W z1 e w') := fun W r => cell.words_any a1 len1 cap1 z1 W r hn1 hl1
  have H0 : Hid (cell.RowU w a0 len0 z0) := hr0
  have H1 : Hid (cell.RowU w a1 len1 z1) := hr1
  have HM : Hid (len0 ≤ maxLen ∧ len1 ≤ maxLen) := ⟨hm0, hm1⟩
  have E0 : Hid (z0.length = len0) := e0
  have E1 : Hid (z1.length = len1) := e1
  clear hr0 hr1 hn0 hn1 hl0 hl1 e0 e1 hm0 hm1
  go_enter Try.func5, Try.ntmps5
  go_wp2_with fail
  refine HA0.out.mono ?_
  rintro e w1 ⟨v1, rfl, hv1, hb1⟩
  obtain ⟨b0, c0, rfl, r0, _, _⟩ := hv1.row
  have K0 : Hid (cell.RowU w1 b0 len0 z0) := by have := E0.out; rw [this] at r0; exact r0
  have hlz := E0.out
  rw [hlz]
  have J0 : Hid (cell.RowU w1 a0 len0 z0) := H0.out.below hb1
  have J1 : Hid (cell.RowU w1 a1 len1 z1) := H1.out.below hb1
  have HB1 : Hid (Below w.heap.size w w1) := hb1
  clear hv1 r0 hb1 hlz HA0 H0 H1
  go_wp2_with fail
  refine (HA1.out _ J1.out).mono ?_
  rintro e w2 ⟨v2, rfl, hv2, hb2⟩
  obtain ⟨b1, c1, rfl, r1, _, _⟩ := hv2.row
  have hlz := E1.out
  have K1 : Hid (cell.RowU w2 b1 len1 z1) := by rw [hlz] at r1; exact r1
  rw [hlz]
  have K0' : Hid (cell.RowU w2 b0 len0 z0) := K0.out.below hb2
  have J0' : Hid (cell.RowU w2 a0 len0 z0) := J0.out.below hb2
  have J1' : Hid (cell.RowU w2 a1 len1 z1) := J1.out.below hb2
  have HB2 : Hid (Below w.heap.size w w2) := bel_step HB1.out hb2
  clear hv2 r1 hb2 hlz HA1 K0 J0 J1 HB1
  obtain ⟨ls, c, hls, hA, hB⟩ := HA.out
  have hcc : (c == c) = true := by simp
  have HF : Hid (∀ W b0 c0 b1 c1, cell.RowU W b0 len0 z0 → cell.RowU W b1 len1 z1 → Calls Try.prog 15 #[.slice b0 len0 c0, .slice b1 len1 c1] W fun e w' => cell.GaveL W ls c e w') := hA
  have HG : Hid (∀ W b0 c0 b1 c1, cell.RowU W b0 len0 z0 → cell.RowU W b1 len1 z1 → Calls Try.prog 16 #[.slice b0 len0 c0, .slice b1 len1 c1] W fun e w' => cell.GaveL W ls c e w') := hB
  clear hA hB HA
  go_wp2_with fail
  refine (HF.out _ _ _ _ _ K0'.out K1.out).mono ?_
  rintro e w3 ⟨v3, rfl, hv3, hb3⟩
  have HV3 : Hid (cell.Lw w3 w2.heap.size v3 ls) := hv3
  have M0 : Hid (cell.RowU w3 b0 len0 z0 ∧ cell.RowU w3 b1 len1 z1 ∧ cell.RowU w3 a0 len0 z0 ∧ cell.RowU w3 a1 len1 z1) := ⟨K0'.out.below hb3, K1.out.below hb3, J0'.out.below hb3, J1'.out.below hb3⟩
  have HB3 : Hid (Below w.heap.size w w3) := bel_step HB2.out hb3
  clear hv3 hb3 K0' K1 J0' J1' HB2 HF
  go_wp2_with fail
  refine (HG.out _ _ _ _ _ M0.out.2.2.1 M0.out.2.2.2).mono ?_
  rintro e w4 ⟨v4, rfl, hv4, hb4⟩
  obtain ⟨x3, c3, rfl, r3, _, _, _⟩ := (HV3.out.next hb4).row
  obtain ⟨x4, c4, rfl, r4, _, _, _⟩ := hv4.row
  have R3 : Hid (cell.RowW w4 x3 ls.length ls) := r3
  have R4 : Hid (cell.RowW w4 x4 ls.length ls) := r4
  have M1 : Hid (cell.RowU w4 b0 len0 z0 ∧ cell.RowU w4 b1 len1 z1 ∧ cell.RowU w4 a0 len0 z0 ∧ cell.RowU w4 a1 len1 z1) := ⟨M0.out.1.below hb4, M0.out.2.1.below hb4, M0.out.2.2.1.below hb4, M0.out.2.2.2.below hb4⟩
  have HB4 : Hid (Below w.heap.size w w4) := bel_step HB3.out hb4
  clear r3 r4 hv4 hb4 HV3 M0 HB3 HG
  go_wp2_with fail
  refine (cell.writes_law _ _ _ _ _ _ _ R3.out R4.out (by unfold maxLen; omega)).mono ?_
  rintro e w5 ⟨rfl, hb5⟩
  go_wp2_with fail
  refine (cell.words_law _ _ _ _ _ _ _ (M1.out.2.2.1.below hb5) (M1.out.1.below hb5) HM.out.1).mono ?_
  rintro e w6 ⟨rfl, hb6⟩
  go_wp2_with fail
  refine (cell.words_law _ _ _ _ _ _ _ ((M1.out.2.1.below hb5).below hb6) ((M1.out.2.2.2.below hb5).below hb6) HM.out.2).mono ?_
  rintro e w7 ⟨rfl, hb7⟩
  go_wp2_with fail
  go_ret
  exact ⟨rfl, bel_step (bel_step (bel_step HB4.out hb5) hb6) hb7⟩

set_option maxRecDepth 100000 in
theorem lifted (os : Os) (started : os.Started) (H : Type) (enc : TypeId × Value → H) :
    ReturnsInHanded {} Try.checked os 5 .any (Rows.slotStoresSpec.pre6 enc Try.prog Try.f5 Rows.slotStoresRow.domain false) (Rows.slotStoresSpec.post enc Try.prog Try.f5 false true false false) := by
  refine returnsInHanded_of_change_sized (C := Try.checked) own started (by kernel_rfl) Try.func5
    (ChangeSpec.witness6 (enc := enc) (C := Try.checked) false ⟨#[], #[.slice none 0 0, .slice none 0 0], []⟩ 8 (by kernel_rfl) (by kernel_rfl) (by kernel_rfl) (by kernel_rfl)) ?_
  intro W base args ds gs before hval0 hW hcnd hsz0 _
  have hval : ∀ (j : Nat) t v, Try.f5.params[j]? = some t → args[j]? = some v → Value.okWide Try.prog W .any base t v := hval0
  have hW' := hW
  obtain ⟨p, q, hA0, hV, rfl, hfz, hnd⟩ := hW
  have hA : DataW.TrodAll enc Try.prog W 0 (fun _ => true) true Try.f5.params.toList args.toList ds p := hA0
  have hsz : (DataW.weightsEach Try.prog (Try.f5.params.toList ++ Rows.slotStoresSpec.plain.varTypes Try.prog) (ds ++ gs)).all (· ≤ reachBytes) = true := hsz0
  rw [Try.params5] at hA hval hsz
  obtain ⟨v0, vs0, d0, ds0, p0, q0, hargs, rfl, rfl, h0, r0⟩ := trodAll_cons hA
  obtain ⟨v1, vs1, d1, ds1, p1, q1, rfl, rfl, rfl, h1, r1⟩ := trodAll_cons r0
  obtain ⟨rfl, rfl, rfl⟩ := trodAll_nil r1
  obtain rfl : args = #[v0, v1] := by cases args; simp_all
  obtain ⟨rfl, rfl⟩ := trodVars_none hV
  obtain ⟨a0, len0, cap0, rfl⟩ := okWide_slice Try.underlying22 (hval 0 22 v0 rfl rfl)
  have k0 := h0
  have lt0 : ∀ x ∈ p0, x.block < W.heap.size := by obtain ⟨m, hm⟩ := k0; exact DataW.trod_lt m _ _ _ hm
  obtain ⟨z0, w0⟩ : ∃ zs, cell.RowU W a0 len0 zs ∧ (a0 = none → cap0 = 0) ∧ len0 ≤ cap0 ∧ len0 * 4 ≤ 140737488351232 := by
    obtain ⟨fuel, hf⟩ := h0
    rcases open_ints Try.underlying22 Try.underlying45 (by kernel_rfl) hf with ⟨hcs, _⟩ | ⟨x, l, c, zs, hcs, _, hl, hm, hz, hx, hcell, hwz⟩
    · simp [Value.cells] at hcs
      obtain ⟨rfl, rfl, rfl⟩ := hcs
      exact ⟨[], cell.RowU.nil _ _, fun _ => rfl, Nat.le_refl _, by omega⟩
    · simp [Value.cells] at hcs
      obtain ⟨rfl, rfl, rfl⟩ := hcs
      obtain ⟨hd, _⟩ := Prod.mk.inj hx
      subst hd
      have hs := sized_slice hsz (j := 0) (t := 22) (e := 45) rfl rfl Try.underlying22
      rw [show Try.prog.bytesOf 45 = 4 from by kernel_rfl] at hs
      simp only [lits, List.length_map, List.length_take, List.length_drop, reachBytes] at hs
      have hz' : zs.length = cap0 := by simpa using hz
      have hr := cell.rowU_of (len := len0) (cap := cap0) (M := 140737488351232) (.inr ⟨x, rfl, hl, by omega, hz', hcell, hwz⟩)
      exact ⟨_, hr.1, hr.2.1, hl, hr.2.2⟩
  obtain ⟨a1, len1, cap1, rfl⟩ := okWide_slice Try.underlying22 (hval 1 22 v1 rfl rfl)
  have k1 := h1
  have lt1 : ∀ x ∈ p1, x.block < W.heap.size := by obtain ⟨m, hm⟩ := k1; exact DataW.trod_lt m _ _ _ hm
  obtain ⟨z1, w1⟩ : ∃ zs, cell.RowU W a1 len1 zs ∧ (a1 = none → cap1 = 0) ∧ len1 ≤ cap1 ∧ len1 * 4 ≤ 140737488351232 := by
    obtain ⟨fuel, hf⟩ := h1
    rcases open_ints Try.underlying22 Try.underlying45 (by kernel_rfl) hf with ⟨hcs, _⟩ | ⟨x, l, c, zs, hcs, _, hl, hm, hz, hx, hcell, hwz⟩
    · simp [Value.cells] at hcs
      obtain ⟨rfl, rfl, rfl⟩ := hcs
      exact ⟨[], cell.RowU.nil _ _, fun _ => rfl, Nat.le_refl _, by omega⟩
    · simp [Value.cells] at hcs
      obtain ⟨rfl, rfl, rfl⟩ := hcs
      obtain ⟨hd, _⟩ := Prod.mk.inj hx
      subst hd
      have hs := sized_slice hsz (j := 1) (t := 22) (e := 45) rfl rfl Try.underlying22
      rw [show Try.prog.bytesOf 45 = 4 from by kernel_rfl] at hs
      simp only [lits, List.length_map, List.length_take, List.length_drop, reachBytes] at hs
      have hz' : zs.length = cap1 := by simpa using hz
      have hr := cell.rowU_of (len := len1) (cap := cap1) (M := 140737488351232) (.inr ⟨x, rfl, hl, by omega, hz', hcell, hwz⟩)
      exact ⟨_, hr.1, hr.2.1, hl, hr.2.2⟩
  clear hA0 hval0
  refine (walk a0 len0 cap0 z0 a1 len1 cap1 z1 W w0 w1).mono fun e W' ⟨he, bel⟩ => ?_
  subst he
  exact ⟨_, rfl, _, _, _, [], _, [], hW', trodAll_mk1 (shut_bool Try.underlying4 _), (trodAll_cons_mk (Below.trod laidOut (by kernel_rfl) (of_decide_eq_true (by kernel_rfl)) k0 bel lt0) (trodAll_cons_mk (Below.trod laidOut (by kernel_rfl) (of_decide_eq_true (by kernel_rfl)) k1 bel lt1) trodAll_mk0)), rfl, bel.frame _, fun h => by cases h⟩

theorem over : Rows.slotStoresRow.holds Try.pinned (OpenSpec.ofChange Rows.slotStoresSpec) :=
  OpenClaim.holds_of_wide 5 Try.f5 rfl rfl rfl rfl rfl rfl rfl ⟨rfl, rfl, rfl, rfl, rfl⟩ rfl rfl rfl rfl rfl (by kernel_rfl) Try.func5 (by kernel_rfl)
    (of_decide_eq_true (by kernel_rfl)) (by unfold Func.isWrapper; first | (rw [if_pos (by decide +kernel)]; kernel_rfl) | (rw [if_neg (by decide +kernel)]; exact ⟨rfl, rfl⟩))
    (fun os started H enc _ => lifted os started H enc)

end Go.Proofs.Ythbalnldfegobaa.slotStores
namespace Go.Proofs.Ythbalnldfegobaa
theorem slotStores_holds : Rows.SlotStoresSaid := slotStores.over
#print axioms slotStores_holds
end Go.Proofs.Ythbalnldfegobaa
