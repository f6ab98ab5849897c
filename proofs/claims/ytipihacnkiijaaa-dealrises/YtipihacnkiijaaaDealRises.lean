/- vendmeterkeep.DealRises returns true for every total and every slice of numbers, and turns nothing of them: who weighs more gets no less, of alike ones the first. Conditions: none but that the slice's bytes fit into memory, as the statement's own reading has it. -/
import Derived.Test.YtipihacnkiijaaaDealLaw
import Derived.Test.YtipihacnkiijaaaRows
import Derived.WalkKit
import Derived.ProofKit
import Derived.OpenShut
import Derived.ShutString
import Derived.ChangeOld
import Derived.Below
import Derived.SizedLaws
namespace Go.Proofs.Ytipihacnkiijaaa.dealRises
open Go.ChangeShapes Go.WideShapes Go.ChangeAt Go.RowKit
open Go.ChangeMaps (open_string shut_string)
set_option linter.unusedVariables false

theorem own : ownKnob Try.prog.godebug = none := by kernel_rfl
theorem laidOut : laidOutB Try.prog = true := by kernel_rfl

/-- WHAT THE WALK IS TOLD OF A SLICE OF INTEGERS THAT CAME IN: it is nil; or it leads to a row of 'cap' cells, the numbers 'zs' (the first 'len' are its elements, the rest its spare room), each fitting its kind. -/
def IsRow (k : IntKind) (w : World) (a : Option Addr) (len cap : Nat) (zs : List Int) : Prop :=
  (a = none ∧ len = 0 ∧ cap = 0 ∧ zs = []) ∨
  ∃ x, a = some x ∧ len ≤ cap ∧ cap * 8 ≤ 140737488351232 ∧ zs.length = cap ∧ (∀ i, i < zs.length → w.cell? (x.add i) = some (.int k (zs.getD i 0))) ∧ ∀ n ∈ zs, (Lit.int k n).wf = true

theorem walk (a0 : Int) (a1 : Option Addr) (len1 cap1 : Nat) (z1 : List Int) (w : World) (w0 : (Lit.int .i64 a0).wf = true) (w1 : IsRow .i64 w a1 len1 cap1 z1) :
    Calls Try.prog 6 #[.int .i64 a0, .slice a1 len1 cap1] w fun e w' => e = .returned (.bool true) ∧ Below w.heap.size w w' := by
  obtain ⟨hrow, hn, hl⟩ := cents.arg_of_isRow w1
  have hwf := cents.arg_wf w1
  have ha1 := cents.pick_nonneg a0 1000000000001 (by omega)
  have ha2 := cents.pick_lt a0 1000000000001 (by omega)
  clear w1 hn
  go_enter Try.func6, Try.ntmps6
  go_wp2_with fail
  refine (cents.picked_any _ _ _ w0 (by omega) (by omega)).mono ?_
  rintro e w ⟨rfl, rfl⟩
  generalize cents.pick a0 1000000000001 = T at *
  have ha3 : T ≤ 1000000000000 := by omega
  clear ha2 w0
  go_wp2_with fail
  refine (cents.wts_any _ _ _ _ _ hrow hwf hl).mono ?_
  rintro e w1 ⟨a, n, cap, ys, rfl, hr1, n0, n1, hok, hs, hb1⟩
  clear hrow hwf hl
  go_wp2_with fail
  refine (cents.deal_law _ _ _ _ _ _ hr1 n0 n1 ha1 ha3 hok hs).mono ?_
  rintro e w2 ⟨g, o, rfl, D⟩
  have HB : Hid (Below w.heap.size w w2) := hb1.trans (D.below.mono hb1.size)
  have HC : Hid (∀ i, i < n → w2.cell? ⟨g, i, none⟩ = some (.int .i64 (o i))) := D.cell
  have HF : Hid (∀ i j, i < n → j < n → (ys.getD j 0 < ys.getD i 0 ∨ (ys.getD i 0 = ys.getD j 0 ∧ i < j)) → o j ≤ o i) := D.rises
  have hr2 := hr1.below D.below
  have hlen := hr2.1
  have hne : ((n : Int) != (n : Int)) = false := by simp
  obtain ⟨b, off, ra, hcw⟩ : ∃ b off, a = some ⟨b, off, none⟩ ∧ ∀ i, i < n → w2.cell? ⟨b, off + i, none⟩ = some (.int .i64 (ys.getD i 0)) := by
    rcases hr2.2 with h | h
    · omega
    · exact h
  subst ra
  have HW : Hid (∀ i, i < n → w2.cell? ⟨b, off + i, none⟩ = some (.int .i64 (ys.getD i 0))) := hcw
  clear D hb1 hr1 hr2 hok hcw hs ha1 ha3 hlen
  go_wp2_with fail
  go_loopw [9] (fun i wr => ∃ k : Nat, k ≤ n ∧ i = .int .i64 k ∧ Below w2.heap.size w2 wr) (fun i _ => n - (intOf i).toNat)
  case atStart => exact ⟨0, Nat.zero_le _, rfl, Below.refl _ _⟩
  case round =>
    obtain ⟨i, hi, rfl, hb⟩ := hrel
    by_cases hlt : i < n
    · go_wp2_with fail
      go_loopw [10] (fun v wr => ∃ j : Nat, j ≤ n ∧ v = .int .i64 j ∧ Below w2.heap.size w2 wr) (fun v _ => n - (intOf v).toNat)
      case atStart => exact ⟨0, Nat.zero_le _, rfl, hb⟩
      case round =>
        obtain ⟨j, hj, rfl, hbx⟩ := hrel
        by_cases hlj : j < n
        · have q1 := HW.out i hlt
          have q2 := HW.out j hlj
          have q3 := HC.out i hlt
          have q4 := HC.out j hlj
          have c1 : wr.cell? ⟨b, off + i, none⟩ = some (.int .i64 (ys.getD i 0)) := (hbx.cell (p := ⟨b, off + i, none⟩) (cents.block_lt q1)).trans q1
          have c2 : wr.cell? ⟨b, off + j, none⟩ = some (.int .i64 (ys.getD j 0)) := (hbx.cell (p := ⟨b, off + j, none⟩) (cents.block_lt q2)).trans q2
          have c3 : wr.cell? ⟨g, i, none⟩ = some (.int .i64 (o i)) := (hbx.cell (p := ⟨g, i, none⟩) (cents.block_lt q3)).trans q3
          have c4 : wr.cell? ⟨g, j, none⟩ = some (.int .i64 (o j)) := (hbx.cell (p := ⟨g, j, none⟩) (cents.block_lt q4)).trans q4
          have hf := HF.out i j hlt hlj
          have HX : Hid (Below w2.heap.size w2 wr) := hbx
          clear q1 q2 q3 q4 hbx hb
          generalize ys.getD i 0 = yi at *
          generalize ys.getD j 0 = yj at *
          generalize o i = oi at *
          generalize o j = oj at *
          by_cases h1 : yj < yi
          · have hle : ¬ oi < oj := by have := hf (.inl h1); omega
            have d1 : decide (yj < yi) = true := decide_eq_true h1
            have d2 : decide (oi < oj) = false := decide_eq_false hle
            clear hf
            go_wp2_with fail
            go_quiet (fail)
            go_wp2_with fail
            go_roundw
            case rel => exact ⟨j + 1, by omega, by go_num, ⟨HX.out.os, HX.out.tape, HX.out.output, HX.out.size, HX.out.block⟩⟩
            case measure => simp [intOf]; omega
          · have d1 : decide (yj < yi) = false := decide_eq_false h1
            by_cases h2 : yi = yj
            · subst h2
              have d2 : (yi == yi) = true := by simp
              by_cases h3 : i < j
              · have hle : ¬ oi < oj := by have := hf (.inr ⟨rfl, h3⟩); omega
                have d3 : decide ((i : Int) < (j : Int)) = true := decide_eq_true (by omega)
                have d4 : decide (oi < oj) = false := decide_eq_false hle
                clear hf
                go_wp2_with fail
                go_quiet (fail)
                go_wp2_with fail
                go_roundw
                case rel => exact ⟨j + 1, by omega, by go_num, ⟨HX.out.os, HX.out.tape, HX.out.output, HX.out.size, HX.out.block⟩⟩
                case measure => simp [intOf]; omega
              · have d3 : decide ((i : Int) < (j : Int)) = false := decide_eq_false (by omega)
                clear hf
                go_wp2_with fail
                go_quiet (fail)
                go_wp2_with fail
                go_roundw
                case rel => exact ⟨j + 1, by omega, by go_num, ⟨HX.out.os, HX.out.tape, HX.out.output, HX.out.size, HX.out.block⟩⟩
                case measure => simp [intOf]; omega
            · have d2 : (yi == yj) = false := by simpa using h2
              clear hf
              go_wp2_with fail
              go_quiet (fail)
              go_wp2_with fail
              go_roundw
              case rel => exact ⟨j + 1, by omega, by go_num, ⟨HX.out.os, HX.out.tape, HX.out.output, HX.out.size, HX.out.block⟩⟩
              case measure => simp [intOf]; omega
        · go_wp2_with fail
          go_roundw
          case rel => exact ⟨i + 1, by omega, by go_num, hbx⟩
          case measure => simp [intOf]; omega
    · go_wp2_with fail
      go_ret
      exact ⟨rfl, HB.out.trans (hb.mono HB.out.size)⟩

set_option maxRecDepth 100000 in
theorem lifted (os : Os) (started : os.Started) (H : Type) (enc : TypeId × Value → H) :
    ReturnsInHanded {} Try.checked os 6 .any (Rows.dealRisesSpec.pre6 enc Try.prog Try.f6 Rows.dealRisesRow.domain false) (Rows.dealRisesSpec.post enc Try.prog Try.f6 false true false false) := by
  refine returnsInHanded_of_change_sized (C := Try.checked) own started (by kernel_rfl) Try.func6
    (ChangeSpec.witness6 (enc := enc) (C := Try.checked) false ⟨#[], #[.int .i64 0, .slice none 0 0], []⟩ 8 (by kernel_rfl) (by kernel_rfl) (by kernel_rfl) (by kernel_rfl)) ?_
  intro W base args ds gs before hval0 hW hcnd hsz0 _
  have hval : ∀ (j : Nat) t v, Try.f6.params[j]? = some t → args[j]? = some v → Value.okWide Try.prog W .any base t v := hval0
  have hW' := hW
  obtain ⟨p, q, hA0, hV, rfl, hfz, hnd⟩ := hW
  have hA : DataW.TrodAll enc Try.prog W 0 (fun _ => true) true Try.f6.params.toList args.toList ds p := hA0
  have hsz : (DataW.weightsEach Try.prog (Try.f6.params.toList ++ Rows.dealRisesSpec.plain.varTypes Try.prog) (ds ++ gs)).all (· ≤ reachBytes) = true := hsz0
  rw [Try.params6] at hA hval hsz
  obtain ⟨v0, vs0, d0, ds0, p0, q0, hargs, rfl, rfl, h0, r0⟩ := trodAll_cons hA
  obtain ⟨v1, vs1, d1, ds1, p1, q1, rfl, rfl, rfl, h1, r1⟩ := trodAll_cons r0
  obtain ⟨rfl, rfl, rfl⟩ := trodAll_nil r1
  obtain rfl : args = #[v0, v1] := by cases args; simp_all
  obtain ⟨rfl, rfl⟩ := trodVars_none hV
  obtain ⟨a0, rfl, rfl, rfl, w0⟩ := open_int Try.underlying3 (hval 0 3 v0 rfl rfl) h0
  obtain ⟨a1, len1, cap1, rfl⟩ := okWide_slice Try.underlying22 (hval 1 22 v1 rfl rfl)
  have k1 := h1
  have lt1 : ∀ x ∈ p1, x.block < W.heap.size := by obtain ⟨m, hm⟩ := k1; exact DataW.trod_lt m _ _ _ hm
  obtain ⟨z1, w1⟩ : ∃ zs, IsRow .i64 W a1 len1 cap1 zs := by
    obtain ⟨fuel, hf⟩ := h1
    rcases open_ints Try.underlying22 Try.underlying3 (by kernel_rfl) hf with ⟨hcs, _⟩ | ⟨x, l, c, zs, hcs, _, hl, hm, hz, hx, hcell, hwz⟩
    · simp [Value.cells] at hcs
      obtain ⟨rfl, rfl, rfl⟩ := hcs
      exact ⟨[], .inl ⟨rfl, rfl, rfl, rfl⟩⟩
    · simp [Value.cells] at hcs
      obtain ⟨rfl, rfl, rfl⟩ := hcs
      obtain ⟨hd, _⟩ := Prod.mk.inj hx
      subst hd
      have hs := sized_slice hsz (j := 1) (t := 22) (e := 3) rfl rfl Try.underlying22
      rw [show Try.prog.bytesOf 3 = 8 from by kernel_rfl] at hs
      simp only [lits, List.length_map, List.length_take, List.length_drop, reachBytes] at hs
      have hz' : zs.length = cap1 := by simpa using hz
      exact ⟨zs, .inr ⟨_, rfl, hl, by omega, hz', hcell, hwz⟩⟩
  clear hA0 hval0
  refine (walk a0 a1 len1 cap1 z1 W w0 w1).mono fun e W' ⟨he, bel⟩ => ?_
  subst he
  exact ⟨_, rfl, _, _, _, [], _, [], hW', trodAll_mk1 (shut_bool Try.underlying4 _), (trodAll_cons_mk (shut_int Try.underlying3 w0) (trodAll_cons_mk (Below.trod laidOut (by kernel_rfl) (of_decide_eq_true (by kernel_rfl)) k1 bel lt1) trodAll_mk0)), rfl, bel.frame _, fun h => by cases h⟩

theorem over : Rows.dealRisesRow.holds Try.pinned (OpenSpec.ofChange Rows.dealRisesSpec) :=
  OpenClaim.holds_of_wide 6 Try.f6 rfl rfl rfl rfl rfl rfl rfl ⟨rfl, rfl, rfl, rfl, rfl⟩ rfl rfl rfl rfl rfl (by kernel_rfl) Try.func6 (by kernel_rfl)
    (of_decide_eq_true (by kernel_rfl)) (by unfold Func.isWrapper; first | (rw [if_pos (by decide +kernel)]; kernel_rfl) | (rw [if_neg (by decide +kernel)]; exact ⟨rfl, rfl⟩))
    (fun os started H enc _ => lifted os started H enc)

theorem proved : Rows.DealRisesSaid := over
end Go.Proofs.Ytipihacnkiijaaa.dealRises
namespace Go.Proofs.Ytipihacnkiijaaa
theorem dealRises_holds : Rows.DealRisesSaid := dealRises.proved
#print axioms dealRises_holds
end Go.Proofs.Ytipihacnkiijaaa
