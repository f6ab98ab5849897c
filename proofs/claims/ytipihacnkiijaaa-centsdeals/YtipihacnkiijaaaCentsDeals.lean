/- vendmeterlaw.CentsDeals returns true for every total and every slice of weights, and turns nothing of them: cents.Deal answers as the document's answer does. Conditions: none but that the slice's bytes fit into memory, as the statement's own reading has it. -/
import Derived.Test.YtipihacnkiijaaaDealBoth
import Derived.Test.YtipihacnkiijaaaRows
import Derived.WalkKit
import Derived.ProofKit
import Derived.OpenShut
import Derived.ShutString
import Derived.ChangeOld
import Derived.Below
import Derived.SizedLaws
namespace Go.Proofs.Ytipihacnkiijaaa.centsDeals
open Go.ChangeShapes Go.WideShapes Go.ChangeAt Go.RowKit
open Go.ChangeMaps (open_string shut_string)
set_option linter.unusedVariables false

theorem own : ownKnob Try.prog.godebug = none := by kernel_rfl
theorem laidOut : laidOutB Try.prog = true := by kernel_rfl

/-- WHAT THE WALK IS TOLD OF A SLICE OF INTEGERS THAT CAME IN: it is nil; or it leads to a row of 'cap' cells, the numbers 'zs' (the first 'len' are its elements, the rest its spare room), each fitting its kind. -/
def IsRow (k : IntKind) (w : World) (a : Option Addr) (len cap : Nat) (zs : List Int) : Prop :=
  (a = none ∧ len = 0 ∧ cap = 0 ∧ zs = []) ∨
  ∃ x, a = some x ∧ len ≤ cap ∧ cap * 8 ≤ 140737488351232 ∧ zs.length = cap ∧ (∀ i, i < zs.length → w.cell? (x.add i) = some (.int k (zs.getD i 0))) ∧ ∀ n ∈ zs, (Lit.int k n).wf = true

theorem walk (a0 : Int) (a1 : Option Addr) (len1 cap1 : Nat) (z1 : List Int) (w : World) (w0 : (Lit.int .i64 a0).wf = true) (w1 : IsRow .i64 w a1 len1 cap1 z1) :
    Calls Try.prog 3 #[.int .i64 a0, .slice a1 len1 cap1] w fun e w' => e = .returned (.bool true) ∧ Below w.heap.size w w' := by
  obtain ⟨hrow, hn, hl⟩ := cents.arg_of_isRow w1
  have hlen := hrow.1
  generalize z1.take len1 = zs at *
  clear w1 w0
  by_cases c1 : len1 = 0 ∨ 50 < len1
  · go_enter Try.func3, Try.ntmps3
    go_wp2_with fail
    refine (cents.ints_any _ _ _ _ _ hrow hn hl).mono ?_
    rintro e w1 ⟨a', cap', rfl, hr1, hb1⟩
    have hrow1 := hrow.below hb1
    go_wp2_with fail
    refine (cents.deal_size a0 _ _ _ _ c1 hl).mono ?_
    rintro e w2 ⟨rfl, hb2⟩
    have hr2 := hr1.below hb2
    have hrow2 := hrow1.below hb2
    go_wp2_with fail
    refine (cents.dealt_size a0 _ _ _ _ c1).mono ?_
    rintro e w3 ⟨rfl, hb3⟩
    have hr3 := hr2.below hb3
    have hrow3 := hrow2.below hb3
    have HB := (hb1.trans (hb2.mono hb1.size)).trans (hb3.mono (Nat.le_trans hb1.size hb2.size))
    clear hr1 hrow1 hr2 hrow2 hrow hb1 hb2 hb3
    go_wp2_with fail
    refine (cents.same_yes none none 0 0 0 [] _ (cents.row_nil _) (cents.row_nil _) (by omega)).mono ?_
    rintro e w4 ⟨rfl, hb4⟩
    go_wp2_with fail
    refine (cents.same_yes _ _ _ _ _ _ _ (hr3.below hb4) (hrow3.below hb4) hl).mono ?_
    rintro e w5 ⟨rfl, hb5⟩
    go_wp2
    go_ret
    exact ⟨rfl, (HB.trans (hb4.mono HB.size)).trans (hb5.mono (Nat.le_trans HB.size hb4.size))⟩
  · have n0 : 0 < len1 := by omega
    have n1 : len1 ≤ 50 := by omega
    clear c1
    by_cases c2 : (a0 < 0 ∨ 1000000000000 < a0) ∨ cents.okAll 0 1000000 zs = false
    · go_enter Try.func3, Try.ntmps3
      go_wp2_with fail
      refine (cents.ints_any _ _ _ _ _ hrow hn hl).mono ?_
      rintro e w1 ⟨a', cap', rfl, hr1, hb1⟩
      have hrow1 := hrow.below hb1
      go_wp2_with fail
      refine (cents.deal_range a0 _ _ _ _ _ hr1 n0 n1 c2).mono ?_
      rintro e w2 ⟨rfl, hb2⟩
      have hr2 := hr1.below hb2
      have hrow2 := hrow1.below hb2
      go_wp2_with fail
      refine (cents.dealt_range a0 _ _ _ _ _ hrow2 n0 n1 c2).mono ?_
      rintro e w3 ⟨rfl, hb3⟩
      have hr3 := hr2.below hb3
      have hrow3 := hrow2.below hb3
      have HB := (hb1.trans (hb2.mono hb1.size)).trans (hb3.mono (Nat.le_trans hb1.size hb2.size))
      clear hr1 hrow1 hr2 hrow2 hrow hb1 hb2 hb3
      go_wp2_with fail
      refine (cents.same_yes none none 0 0 0 [] _ (cents.row_nil _) (cents.row_nil _) (by omega)).mono ?_
      rintro e w4 ⟨rfl, hb4⟩
      go_wp2_with fail
      refine (cents.same_yes _ _ _ _ _ _ _ (hr3.below hb4) (hrow3.below hb4) hl).mono ?_
      rintro e w5 ⟨rfl, hb5⟩
      go_wp2
      go_ret
      exact ⟨rfl, (HB.trans (hb4.mono HB.size)).trans (hb5.mono (Nat.le_trans HB.size hb4.size))⟩
    · have t0 : 0 ≤ a0 := by omega
      have t1 : a0 ≤ 1000000000000 := by omega
      have hok : cents.okAll 0 1000000 zs = true := by
        cases h : cents.okAll 0 1000000 zs
        · exact absurd (.inr h) c2
        · rfl
      clear c2
      by_cases c3 : zs.sum = 0
      · go_enter Try.func3, Try.ntmps3
        go_wp2_with fail
        refine (cents.ints_any _ _ _ _ _ hrow hn hl).mono ?_
        rintro e w1 ⟨a', cap', rfl, hr1, hb1⟩
        have hrow1 := hrow.below hb1
        go_wp2_with fail
        refine (cents.deal_zero a0 _ _ _ _ _ hr1 n0 n1 t0 t1 hok c3).mono ?_
        rintro e w2 ⟨rfl, hb2⟩
        have hr2 := hr1.below hb2
        have hrow2 := hrow1.below hb2
        go_wp2_with fail
        refine (cents.dealt_zero a0 _ _ _ _ _ hrow2 n0 n1 t0 t1 hok c3).mono ?_
        rintro e w3 ⟨rfl, hb3⟩
        have hr3 := hr2.below hb3
        have hrow3 := hrow2.below hb3
        have HB := (hb1.trans (hb2.mono hb1.size)).trans (hb3.mono (Nat.le_trans hb1.size hb2.size))
        clear hr1 hrow1 hr2 hrow2 hrow hb1 hb2 hb3
        go_wp2_with fail
        refine (cents.same_yes none none 0 0 0 [] _ (cents.row_nil _) (cents.row_nil _) (by omega)).mono ?_
        rintro e w4 ⟨rfl, hb4⟩
        go_wp2_with fail
        refine (cents.same_yes _ _ _ _ _ _ _ (hr3.below hb4) (hrow3.below hb4) hl).mono ?_
        rintro e w5 ⟨rfl, hb5⟩
        go_wp2
        go_ret
        exact ⟨rfl, (HB.trans (hb4.mono HB.size)).trans (hb5.mono (Nat.le_trans HB.size hb4.size))⟩
      · have hs := cents.sum_pos hok c3
        clear c3
        go_enter Try.func3, Try.ntmps3
        go_wp2_with fail
        refine (cents.ints_any _ _ _ _ _ hrow hn hl).mono ?_
        rintro e w1 ⟨a', cap', rfl, hr1, hb1⟩
        have hrow1 := hrow.below hb1
        go_wp2_with fail
        refine (cents.deal_ok a0 _ _ _ _ _ hr1 n0 n1 t0 t1 hok hs (cents.left_ok a0 n0 hlen hs).1 (cents.left_ok a0 n0 hlen hs).2).mono ?_
        rintro e w2 ⟨g, f, rfl, hb2, hg, hm, hsrt, hc⟩
        have hr2 := hr1.below hb2
        have hrow2 := hrow1.below hb2
        go_wp2_with fail
        refine (cents.dealt_ok a0 _ _ _ _ _ hrow2 n0 n1 t0 t1 hok hs f hm hsrt).mono ?_
        rintro e w3 ⟨g', rfl, hb3, hc'⟩
        have hr3 := hr2.below hb3
        have hrow3 := hrow2.below hb3
        have HB := (hb1.trans (hb2.mono hb1.size)).trans (hb3.mono (Nat.le_trans hb1.size hb2.size))
        have ho1 := (cents.row_of hc).below hb3
        have ho2 := cents.row_of hc'
        clear hr1 hrow1 hr2 hrow2 hrow hb1 hb2 hb3 hc hc' hm hsrt
        go_wp2_with fail
        refine (cents.same_yes _ _ _ _ _ _ _ ho1 ho2 (by omega)).mono ?_
        rintro e w4 ⟨rfl, hb4⟩
        clear ho1 ho2
        go_wp2_with fail
        refine (cents.same_yes _ _ _ _ _ _ _ (hr3.below hb4) (hrow3.below hb4) hl).mono ?_
        rintro e w5 ⟨rfl, hb5⟩
        go_wp2
        go_ret
        exact ⟨rfl, (HB.trans (hb4.mono HB.size)).trans (hb5.mono (Nat.le_trans HB.size hb4.size))⟩

set_option maxRecDepth 100000 in
theorem lifted (os : Os) (started : os.Started) (H : Type) (enc : TypeId × Value → H) :
    ReturnsInHanded {} Try.checked os 3 .any (Rows.centsDealsSpec.pre6 enc Try.prog Try.f3 Rows.centsDealsRow.domain false) (Rows.centsDealsSpec.post enc Try.prog Try.f3 false true false false) := by
  refine returnsInHanded_of_change_sized (C := Try.checked) own started (by kernel_rfl) Try.func3
    (ChangeSpec.witness6 (enc := enc) (C := Try.checked) false ⟨#[], #[.int .i64 0, .slice none 0 0], []⟩ 8 (by kernel_rfl) (by kernel_rfl) (by kernel_rfl) (by kernel_rfl)) ?_
  intro W base args ds gs before hval0 hW hcnd hsz0 _
  have hval : ∀ (j : Nat) t v, Try.f3.params[j]? = some t → args[j]? = some v → Value.okWide Try.prog W .any base t v := hval0
  have hW' := hW
  obtain ⟨p, q, hA0, hV, rfl, hfz, hnd⟩ := hW
  have hA : DataW.TrodAll enc Try.prog W 0 (fun _ => true) true Try.f3.params.toList args.toList ds p := hA0
  have hsz : (DataW.weightsEach Try.prog (Try.f3.params.toList ++ Rows.centsDealsSpec.plain.varTypes Try.prog) (ds ++ gs)).all (· ≤ reachBytes) = true := hsz0
  rw [Try.params3] at hA hval hsz
  obtain ⟨v0, vs0, d0, ds0, p0, q0, hargs, rfl, rfl, h0, r0⟩ := trodAll_cons hA
  obtain ⟨v1, vs1, d1, ds1, p1, q1, rfl, rfl, rfl, h1, r1⟩ := trodAll_cons r0
  obtain ⟨rfl, rfl, rfl⟩ := trodAll_nil r1
  obtain rfl : args = #[v0, v1] := by cases args; simp_all
  obtain ⟨rfl, rfl⟩ := trodVars_none hV
  obtain ⟨a0, rfl, rfl, rfl, w0⟩ := open_int Try.underlying3 (hval 0 3 v0 rfl rfl) h0
  obtain ⟨a1, len1, cap1, rfl⟩ := okWide_slice Try.underlying22 (hval 1 22 v1 rfl rfl)
  have k1 := h1
  have lt1 : ∀ x ∈ p1, x.block < W.heap.size := by obtain ⟨m, hm⟩ := k1; exact DataW.trod_lt m _ _ _ hm
  obtain ⟨z1, w1⟩ : ∃ zs, IsRow .i64 W a1 len1 cap1 zs := by
    obtain ⟨fuel, hf⟩ := h1
    rcases open_ints Try.underlying22 Try.underlying3 (by kernel_rfl) hf with ⟨hcs, _⟩ | ⟨x, l, c, zs, hcs, _, hl, hm, hz, hx, hcell, hwz⟩
    · simp [Value.cells] at hcs
      obtain ⟨rfl, rfl, rfl⟩ := hcs
      exact ⟨[], .inl ⟨rfl, rfl, rfl, rfl⟩⟩
    · simp [Value.cells] at hcs
      obtain ⟨rfl, rfl, rfl⟩ := hcs
      obtain ⟨hd, _⟩ := Prod.mk.inj hx
      subst hd
      have hs := sized_slice hsz (j := 1) (t := 22) (e := 3) rfl rfl Try.underlying22
      rw [show Try.prog.bytesOf 3 = 8 from by kernel_rfl] at hs
      simp only [lits, List.length_map, List.length_take, List.length_drop, reachBytes] at hs
      have hz' : zs.length = cap1 := by simpa using hz
      exact ⟨zs, .inr ⟨_, rfl, hl, by omega, hz', hcell, hwz⟩⟩
  clear hA0 hval0
  refine (walk a0 a1 len1 cap1 z1 W w0 w1).mono fun e W' ⟨he, bel⟩ => ?_
  subst he
  exact ⟨_, rfl, _, _, _, [], _, [], hW', trodAll_mk1 (shut_bool Try.underlying4 _), (trodAll_cons_mk (shut_int Try.underlying3 w0) (trodAll_cons_mk (Below.trod laidOut (by kernel_rfl) (of_decide_eq_true (by kernel_rfl)) k1 bel lt1) trodAll_mk0)), rfl, bel.frame _, fun h => by cases h⟩

theorem over : Rows.centsDealsRow.holds Try.pinned (OpenSpec.ofChange Rows.centsDealsSpec) :=
  OpenClaim.holds_of_wide 3 Try.f3 rfl rfl rfl rfl rfl rfl rfl ⟨rfl, rfl, rfl, rfl, rfl⟩ rfl rfl rfl rfl rfl (by kernel_rfl) Try.func3 (by kernel_rfl)
    (of_decide_eq_true (by kernel_rfl)) (by unfold Func.isWrapper; first | (rw [if_pos (by decide +kernel)]; kernel_rfl) | (rw [if_neg (by decide +kernel)]; exact ⟨rfl, rfl⟩))
    (fun os started H enc _ => lifted os started H enc)

theorem proved : Rows.CentsDealsSaid := over
end Go.Proofs.Ytipihacnkiijaaa.centsDeals
namespace Go.Proofs.Ytipihacnkiijaaa
theorem centsDeals_holds : Rows.CentsDealsSaid := centsDeals.proved
#print axioms centsDeals_holds
end Go.Proofs.Ytipihacnkiijaaa
