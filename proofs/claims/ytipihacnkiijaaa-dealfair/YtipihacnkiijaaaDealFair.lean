/- vendmeterkeep.DealFair returns true for every total and every slice of numbers, and turns nothing of them: each gets its share, rounded down or up. Conditions: none but that the slice's bytes fit into memory, as the statement's own reading has it. -/
import Derived.Test.YtipihacnkiijaaaDealLaw
import Derived.Test.YtipihacnkiijaaaRows
import Derived.WalkKit
import Derived.ProofKit
import Derived.OpenShut
import Derived.ShutString
import Derived.ChangeOld
import Derived.Below
import Derived.SizedLaws
namespace Go.Proofs.Ytipihacnkiijaaa.dealFair
open Go.ChangeShapes Go.WideShapes Go.ChangeAt Go.RowKit
open Go.ChangeMaps (open_string shut_string)
set_option linter.unusedVariables false

theorem own : ownKnob Try.prog.godebug = none := by kernel_rfl
theorem laidOut : laidOutB Try.prog = true := by kernel_rfl

/-- WHAT THE WALK IS TOLD OF A SLICE OF INTEGERS THAT CAME IN: it is nil; or it leads to a row of 'cap' cells, the numbers 'zs' (the first 'len' are its elements, the rest its spare room), each fitting its kind. -/
def IsRow (k : IntKind) (w : World) (a : Option Addr) (len cap : Nat) (zs : List Int) : Prop :=
  (a = none ∧ len = 0 ∧ cap = 0 ∧ zs = []) ∨
  ∃ x, a = some x ∧ len ≤ cap ∧ cap * 8 ≤ 140737488351232 ∧ zs.length = cap ∧ (∀ i, i < zs.length → w.cell? (x.add i) = some (.int k (zs.getD i 0))) ∧ ∀ n ∈ zs, (Lit.int k n).wf = true

theorem walk (a0 : Int) (a1 : Option Addr) (len1 cap1 : Nat) (z1 : List Int) (w : World) (w0 : (Lit.int .i64 a0).wf = true) (w1 : IsRow .i64 w a1 len1 cap1 z1) :
    Calls Try.prog 5 #[.int .i64 a0, .slice a1 len1 cap1] w fun e w' => e = .returned (.bool true) ∧ Below w.heap.size w w' := by
  obtain ⟨hrow, hn, hl⟩ := cents.arg_of_isRow w1
  have hwf := cents.arg_wf w1
  have ha1 := cents.pick_nonneg a0 1000000000001 (by omega)
  have ha2 := cents.pick_lt a0 1000000000001 (by omega)
  clear w1 hn
  go_enter Try.func5, Try.ntmps5
  go_wp2_with fail
  refine (cents.picked_any _ _ _ w0 (by omega) (by omega)).mono ?_
  rintro e w ⟨rfl, rfl⟩
  generalize cents.pick a0 1000000000001 = T at *
  have ha3 : T ≤ 1000000000000 := by omega
  clear ha2 w0
  go_wp2_with fail
  refine (cents.wts_any _ _ _ _ _ hrow hwf hl).mono ?_
  rintro e w1 ⟨a, n, cap, ys, rfl, hr1, n0, n1, hok, hs, hb1⟩
  clear hrow hwf hl
  go_wp2_with fail
  refine (cents.deal_law _ _ _ _ _ _ hr1 n0 n1 ha1 ha3 hok hs).mono ?_
  rintro e w2 ⟨g, o, rfl, D⟩
  have HB : Hid (Below w.heap.size w w2) := hb1.trans (D.below.mono hb1.size)
  have HC : Hid (∀ i, i < n → w2.cell? ⟨g, i, none⟩ = some (.int .i64 (o i))) := D.cell
  have HF : Hid (∀ i, i < n → T * ys.getD i 0 / ys.sum ≤ o i ∧ o i ≤ (T * ys.getD i 0 + ys.sum - 1) / ys.sum) := D.fair
  have hr2 := hr1.below D.below
  have hlen := hr2.1
  have HY : Hid (∀ i, i < n → 0 ≤ ys.getD i 0 ∧ ys.getD i 0 ≤ 1000000) := fun i hi => cents.wgt_bd hlen hok hi
  have HK : Hid (cents.okAll 0 1000000 ys = true) := hok
  have hsb := cents.all_bd hlen n1 hok
  have hne : ((n : Int) != (n : Int)) = false := by simp
  obtain ⟨b, off, ra, hcw⟩ : ∃ b off, a = some ⟨b, off, none⟩ ∧ ∀ i, i < n → w2.cell? ⟨b, off + i, none⟩ = some (.int .i64 (ys.getD i 0)) := by
    rcases hr2.2 with h | h
    · omega
    · exact h
  subst ra
  have HW : Hid (∀ i, i < n → w2.cell? ⟨b, off + i, none⟩ = some (.int .i64 (ys.getD i 0))) := hcw
  clear D hb1 hr1 hr2 hok hcw
  go_wp2_with fail
  go_loop [9, 10] (fun s i => ∃ k : Nat, k ≤ n ∧ i = .int .i64 k ∧ s = .int .i64 (ys.take k).sum) (fun _ i => n - (intOf i).toNat)
  case atStart => exact ⟨0, Nat.zero_le _, rfl, rfl⟩
  case round =>
    obtain ⟨k, hk, rfl, rfl⟩ := hrel
    by_cases hlt : k < n
    · have hcell := HW.out k hlt
      have hzb := HY.out k hlt
      have hs2 := cents.sum_bd 1000000 (ys.take k) fun z hz => by have := cents.okAll_bd HK.out z (List.mem_of_mem_take hz); omega
      have hlen2 : (ys.take k).length = k := by rw [List.length_take]; omega
      rw [hlen2] at hs2
      have HS : Hid ((ys.take (k + 1)).sum = (ys.take k).sum + ys.getD k 0) := cents.sum_step ys k (by omega)
      clear hlen2 hs hsb
      generalize (ys.take k).sum = s at *
      generalize ys.getD k 0 = z at *
      go_wp2_with fail
      go_round
      case rel => exact ⟨k + 1, by omega, by go_num, by rw [HS.out]⟩
      case measure => simp [intOf]; omega
    · obtain rfl : k = n := by omega
      have ht : ys.take k = ys := List.take_of_length_le (by omega)
      rw [ht]
      clear hlt hk ht
      generalize ys.sum = S at *
      go_wp2_with fail
      go_loop [11] (fun i => ∃ j : Nat, j ≤ k ∧ i = .int .i64 j) (fun i => k - (intOf i).toNat)
      case atStart => exact ⟨0, Nat.zero_le _, rfl⟩
      case round =>
        obtain ⟨j, hj, rfl⟩ := hrel
        by_cases hlt : j < k
        · have c1 := HW.out j hlt
          have c2 := HC.out j hlt
          have hy := HY.out j hlt
          obtain ⟨f1, f2⟩ := HF.out j hlt
          generalize ys.getD j 0 = y at *
          generalize o j = x at *
          obtain ⟨p1, p2⟩ := cents.prod_bd2 T y ha1 ha3 hy.1 hy.2
          have b1 : 0 ≤ T * y / S := Int.ediv_nonneg p1 (by omega)
          have b2 : T * y / S ≤ 1000000000000000000 := Int.le_trans (Int.ediv_le_self _ p1) p2
          have b3 : 0 ≤ (T * y + S - 1) / S := Int.ediv_nonneg (by omega) (by omega)
          have b4 : (T * y + S - 1) / S ≤ 1000000000050000000 := Int.le_trans (Int.ediv_le_self _ (by omega)) (by omega)
          go_wp2_with fail
          go_round
          case rel => exact ⟨j + 1, by omega, by go_num⟩
          case measure => simp [intOf]; omega
        · go_wp2_with fail
          go_ret
          exact ⟨rfl, HB.out⟩

set_option maxRecDepth 100000 in
theorem lifted (os : Os) (started : os.Started) (H : Type) (enc : TypeId × Value → H) :
    ReturnsInHanded {} Try.checked os 5 .any (Rows.dealFairSpec.pre6 enc Try.prog Try.f5 Rows.dealFairRow.domain false) (Rows.dealFairSpec.post enc Try.prog Try.f5 false true false false) := by
  refine returnsInHanded_of_change_sized (C := Try.checked) own started (by kernel_rfl) Try.func5
    (ChangeSpec.witness6 (enc := enc) (C := Try.checked) false ⟨#[], #[.int .i64 0, .slice none 0 0], []⟩ 8 (by kernel_rfl) (by kernel_rfl) (by kernel_rfl) (by kernel_rfl)) ?_
  intro W base args ds gs before hval0 hW hcnd hsz0 _
  have hval : ∀ (j : Nat) t v, Try.f5.params[j]? = some t → args[j]? = some v → Value.okWide Try.prog W .any base t v := hval0
  have hW' := hW
  obtain ⟨p, q, hA0, hV, rfl, hfz, hnd⟩ := hW
  have hA : DataW.TrodAll enc Try.prog W 0 (fun _ => true) true Try.f5.params.toList args.toList ds p := hA0
  have hsz : (DataW.weightsEach Try.prog (Try.f5.params.toList ++ Rows.dealFairSpec.plain.varTypes Try.prog) (ds ++ gs)).all (· ≤ reachBytes) = true := hsz0
  rw [Try.params5] at hA hval hsz
  obtain ⟨v0, vs0, d0, ds0, p0, q0, hargs, rfl, rfl, h0, r0⟩ := trodAll_cons hA
  obtain ⟨v1, vs1, d1, ds1, p1, q1, rfl, rfl, rfl, h1, r1⟩ := trodAll_cons r0
  obtain ⟨rfl, rfl, rfl⟩ := trodAll_nil r1
  obtain rfl : args = #[v0, v1] := by cases args; simp_all
  obtain ⟨rfl, rfl⟩ := trodVars_none hV
  obtain ⟨a0, rfl, rfl, rfl, w0⟩ := open_int Try.underlying3 (hval 0 3 v0 rfl rfl) h0
  obtain ⟨a1, len1, cap1, rfl⟩ := okWide_slice Try.underlying22 (hval 1 22 v1 rfl rfl)
  have k1 := h1
  have lt1 : ∀ x ∈ p1, x.block < W.heap.size := by obtain ⟨m, hm⟩ := k1; exact DataW.trod_lt m _ _ _ hm
  obtain ⟨z1, w1⟩ : ∃ zs, IsRow .i64 W a1 len1 cap1 zs := by
    obtain ⟨fuel, hf⟩ := h1
    rcases open_ints Try.underlying22 Try.underlying3 (by kernel_rfl) hf with ⟨hcs, _⟩ | ⟨x, l, c, zs, hcs, _, hl, hm, hz, hx, hcell, hwz⟩
    · simp [Value.cells] at hcs
      obtain ⟨rfl, rfl, rfl⟩ := hcs
      exact ⟨[], .inl ⟨rfl, rfl, rfl, rfl⟩⟩
    · simp [Value.cells] at hcs
      obtain ⟨rfl, rfl, rfl⟩ := hcs
      obtain ⟨hd, _⟩ := Prod.mk.inj hx
      subst hd
      have hs := sized_slice hsz (j := 1) (t := 22) (e := 3) rfl rfl Try.underlying22
      rw [show Try.prog.bytesOf 3 = 8 from by kernel_rfl] at hs
      simp only [lits, List.length_map, List.length_take, List.length_drop, reachBytes] at hs
      have hz' : zs.length = cap1 := by simpa using hz
      exact ⟨zs, .inr ⟨_, rfl, hl, by omega, hz', hcell, hwz⟩⟩
  clear hA0 hval0
  refine (walk a0 a1 len1 cap1 z1 W w0 w1).mono fun e W' ⟨he, bel⟩ => ?_
  subst he
  exact ⟨_, rfl, _, _, _, [], _, [], hW', trodAll_mk1 (shut_bool Try.underlying4 _), (trodAll_cons_mk (shut_int Try.underlying3 w0) (trodAll_cons_mk (Below.trod laidOut (by kernel_rfl) (of_decide_eq_true (by kernel_rfl)) k1 bel lt1) trodAll_mk0)), rfl, bel.frame _, fun h => by cases h⟩

theorem over : Rows.dealFairRow.holds Try.pinned (OpenSpec.ofChange Rows.dealFairSpec) :=
  OpenClaim.holds_of_wide 5 Try.f5 rfl rfl rfl rfl rfl rfl rfl ⟨rfl, rfl, rfl, rfl, rfl⟩ rfl rfl rfl rfl rfl (by kernel_rfl) Try.func5 (by kernel_rfl)
    (of_decide_eq_true (by kernel_rfl)) (by unfold Func.isWrapper; first | (rw [if_pos (by decide +kernel)]; kernel_rfl) | (rw [if_neg (by decide +kernel)]; exact ⟨rfl, rfl⟩))
    (fun os started H enc _ => lifted os started H enc)

theorem proved : Rows.DealFairSaid := over
end Go.Proofs.Ytipihacnkiijaaa.dealFair
namespace Go.Proofs.Ytipihacnkiijaaa
theorem dealFair_holds : Rows.DealFairSaid := dealFair.proved
#print axioms dealFair_holds
end Go.Proofs.Ytipihacnkiijaaa
