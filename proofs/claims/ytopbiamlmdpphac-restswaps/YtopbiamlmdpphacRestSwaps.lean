/- The rest by 97 tells two digits that change places, neighbours or with one between: the call returns true whatever it is given. -/
import Derived.Test.YtopbiamlmdpphacCkLaw
import Derived.Test.YtopbiamlmdpphacRows
import Derived.WalkKit
import Derived.ProofKit
import Derived.OpenShut
import Derived.ShutString
import Derived.ChangeOld
import Derived.Below
namespace Go.Proofs.Ytopbiamlmdpphac.restSwaps
open Go.ChangeShapes Go.WideShapes Go.ChangeAt Go.RowKit
open Go.ChangeMaps (open_string shut_string)
set_option linter.unusedVariables false

theorem own : ownKnob Try.prog.godebug = none := by kernel_rfl
theorem laidOut : laidOutB Try.prog = true := by kernel_rfl

/-- WHAT THE WALK IS TOLD OF A SLICE OF INTEGERS THAT CAME IN: it is nil; or it leads to a row of 'cap' cells, the numbers 'zs' (the first 'len' are its elements, the rest its spare room), each fitting its kind. -/
def IsRow (k : IntKind) (w : World) (a : Option Addr) (len cap : Nat) (zs : List Int) : Prop :=
  (a = none ∧ len = 0 ∧ cap = 0 ∧ zs = []) ∨
  ∃ x, a = some x ∧ len ≤ cap ∧ cap ≤ maxLen ∧ zs.length = cap ∧ (∀ i, i < zs.length → w.cell? (x.add i) = some (.int k (zs.getD i 0))) ∧ ∀ n ∈ zs, (Lit.int k n).wf = true

theorem walk (a0 : Option Addr) (len0 cap0 : Nat) (z0 : List Int) (a1 : Int) (a2 : Int) (w : World) (w0 : IsRow .u8 w a0 len0 cap0 z0) (w1 : (Lit.int .i64 a1).wf = true) (w2 : (Lit.int .i64 a2).wf = true) :
    Calls Try.prog 4 #[.slice a0 len0 cap0, .int .i64 a1, .int .i64 a2] w fun e w' => e = .returned (.bool true) ∧ Below w.heap.size w w' := by
  obtain ⟨hr, hl⟩ := check.rowB_of w0
  have HN : Hid (Calls Try.prog 6 #[.slice a0 len0 cap0, .int .i64 200] w fun e w' => check.NumPost w 200 e w') := check.numerals_any a0 len0 cap0 _ 200 w hr hl (by omega) (by omega)
  have HR : Hid (∀ (s : ByteArray) (w : World), Calls Try.prog 7 #[.string s] w fun e w' => e = .returned (.tuple #[.int .i64 (check.restR s.data.toList), .int .i64 (check.flawR s.data.toList)]) ∧ Below w.heap.size w w') := fun s w => check.rest_any s w
  have hpk : (check.pick a2 2).toNat < 2 := check.pick_toNat a2 2 (by omega)
  have HP : Hid (∀ w, Calls Try.prog 9 #[.int .i64 a2, .int .i64 2] w fun e w' => e = .returned (.int .i64 (((check.pick a2 2).toNat : Nat) : Int)) ∧ w' = w) := fun w => check.picked_nat a2 2 w w2 (by omega) (by omega)
  generalize (check.pick a2 2).toNat = fr at *
  obtain ⟨far, hfar⟩ : ∃ far : Nat, far = 1 + fr := ⟨_, rfl⟩
  have hf1 : 1 ≤ far := by omega
  have hf2 : far ≤ 2 := by omega
  have ef : 1 + (fr : Int) = (far : Int) := by omega
  clear w0 hr hl w2 hpk hfar
  go_enter Try.func4, Try.ntmps4
  go_wp2_with fail
  refine HN.out.mono ?_
  rintro e w3 ⟨s, rfl, s1, s2, sd, hb3⟩
  by_cases hlen : s.size ≤ far
  · have hlen' : (s.size : Int) ≤ 1 + (fr : Int) := by omega
    have HB3 : Hid (Below w.heap.size w w3) := hb3
    obtain ⟨S, hS, S1, S2, S3, Sd⟩ : ∃ S : ByteArray, S = ⟨#[48, 49, 50]⟩ ∧ far < S.size ∧ S.size ≤ 200 ∧ 1 ≤ S.size ∧ check.allD S.data.toList = true := ⟨_, rfl, by show far < 3; omega, by decide, by decide, by decide⟩
    have HS : Hid (∀ w, Calls Try.prog 10 #[.string S, .int .i64 a1, .int .i64 (far : Int)] w fun e w' => check.SwapPost w S far e w') := fun w => check.swapped_any S a1 far w S1 S2 hf1 w1
    have HD : Hid ((1 ≤ S.data.toList.length ∧ S.data.toList.length ≤ 200) ∧ check.allD S.data.toList = true) := ⟨by rw [check.len_eq]; exact ⟨S3, S2⟩, Sd⟩
    clear hb3 w1 s1 s2 sd S1 S2 S3 Sd
    go_wp2_with fail
    refine (HP.out _).mono ?_
    rintro e w4 ⟨rfl, rfl⟩
    go_wp2_with fail
    rw [← hS]
    clear hS
    refine (HS.out _).mono ?_
    rintro e w5 ⟨t, A, m, B, c, c', rfl, hs, ht, hm, hb5⟩
    have HB5 : Hid (Below w.heap.size w w5) := HB3.out.trans (hb5.mono HB3.out.size)
    obtain ⟨f1, f2, f3⟩ := check.swap_rest HD.out.1.1 HD.out.1.2 HD.out.2 hs ht (by omega)
    have HT := HR.out t
    have HU := HR.out S
    rw [f2] at HT
    rw [f1] at HU
    have HTT : Hid (∀ w, Calls Try.prog 7 #[.string t] w fun e w' => e = .returned (.tuple #[.int .i64 (check.restR t.data.toList), .int .i64 0]) ∧ Below w.heap.size w w') := HT
    have HUU : Hid (∀ w, Calls Try.prog 7 #[.string S] w fun e w' => e = .returned (.tuple #[.int .i64 (check.restR S.data.toList), .int .i64 0]) ∧ Below w.heap.size w w') := HU
    obtain ⟨q, hq0⟩ : ∃ q : Bool, (S.data.toList == t.data.toList) = q := ⟨_, rfl⟩
    have hq : (S.toList == t.toList) = q := by rw [ByteArray.toList_eq S, ByteArray.toList_eq t]; exact hq0
    rw [hq0] at f3
    clear hq0
    clear hb5 hs ht hm f1 f2 HT HU HD
    generalize check.restR S.data.toList = x at *
    generalize check.restR t.data.toList = y at *
    go_wp2_with fail
    refine (HUU.out _).mono ?_
    rintro e w6 ⟨rfl, hb6⟩
    have HB6 : Hid (Below w.heap.size w w6) := HB5.out.trans (hb6.mono HB5.out.size)
    clear hb6
    go_wp2_with fail
    refine (HTT.out _).mono ?_
    rintro e w7 ⟨rfl, hb7⟩
    have HB7 : Hid (Below w.heap.size w w7) := HB6.out.trans (hb7.mono HB6.out.size)
    clear hb7
    have HF3 : Hid ((x == y) = q) := f3
    clear f3
    cases q
    · go_wp2_with fail
      go_ret
      exact ⟨check.ret_bool (by rw [HF3.out]; rfl), HB7.out⟩
    · go_wp2_with fail
      go_ret
      exact ⟨check.ret_bool (by rw [HF3.out]), HB7.out⟩
  · have hlen' : ¬ (s.size : Int) ≤ 1 + (fr : Int) := by omega
    have HB3 : Hid (Below w.heap.size w w3) := hb3
    obtain ⟨S, hS, S1, S2, S3, Sd⟩ : ∃ S : ByteArray, S = s ∧ far < S.size ∧ S.size ≤ 200 ∧ 1 ≤ S.size ∧ check.allD S.data.toList = true := ⟨_, rfl, by omega, s2, s1, sd⟩
    have HS : Hid (∀ w, Calls Try.prog 10 #[.string S, .int .i64 a1, .int .i64 (far : Int)] w fun e w' => check.SwapPost w S far e w') := fun w => check.swapped_any S a1 far w S1 S2 hf1 w1
    have HD : Hid ((1 ≤ S.data.toList.length ∧ S.data.toList.length ≤ 200) ∧ check.allD S.data.toList = true) := ⟨by rw [check.len_eq]; exact ⟨S3, S2⟩, Sd⟩
    subst hS
    clear hb3 w1 s1 s2 sd S1 S2 S3 Sd
    go_wp2_with fail
    refine (HP.out _).mono ?_
    rintro e w4 ⟨rfl, rfl⟩
    go_wp2_with fail
    refine (HS.out _).mono ?_
    rintro e w5 ⟨t, A, m, B, c, c', rfl, hs, ht, hm, hb5⟩
    have HB5 : Hid (Below w.heap.size w w5) := HB3.out.trans (hb5.mono HB3.out.size)
    obtain ⟨f1, f2, f3⟩ := check.swap_rest HD.out.1.1 HD.out.1.2 HD.out.2 hs ht (by omega)
    have HT := HR.out t
    have HU := HR.out S
    rw [f2] at HT
    rw [f1] at HU
    have HTT : Hid (∀ w, Calls Try.prog 7 #[.string t] w fun e w' => e = .returned (.tuple #[.int .i64 (check.restR t.data.toList), .int .i64 0]) ∧ Below w.heap.size w w') := HT
    have HUU : Hid (∀ w, Calls Try.prog 7 #[.string S] w fun e w' => e = .returned (.tuple #[.int .i64 (check.restR S.data.toList), .int .i64 0]) ∧ Below w.heap.size w w') := HU
    obtain ⟨q, hq0⟩ : ∃ q : Bool, (S.data.toList == t.data.toList) = q := ⟨_, rfl⟩
    have hq : (S.toList == t.toList) = q := by rw [ByteArray.toList_eq S, ByteArray.toList_eq t]; exact hq0
    rw [hq0] at f3
    clear hq0
    clear hb5 hs ht hm f1 f2 HT HU HD
    generalize check.restR S.data.toList = x at *
    generalize check.restR t.data.toList = y at *
    go_wp2_with fail
    refine (HUU.out _).mono ?_
    rintro e w6 ⟨rfl, hb6⟩
    have HB6 : Hid (Below w.heap.size w w6) := HB5.out.trans (hb6.mono HB5.out.size)
    clear hb6
    go_wp2_with fail
    refine (HTT.out _).mono ?_
    rintro e w7 ⟨rfl, hb7⟩
    have HB7 : Hid (Below w.heap.size w w7) := HB6.out.trans (hb7.mono HB6.out.size)
    clear hb7
    have HF3 : Hid ((x == y) = q) := f3
    clear f3
    cases q
    · go_wp2_with fail
      go_ret
      exact ⟨check.ret_bool (by rw [HF3.out]; rfl), HB7.out⟩
    · go_wp2_with fail
      go_ret
      exact ⟨check.ret_bool (by rw [HF3.out]), HB7.out⟩

set_option maxRecDepth 100000 in
theorem lifted (os : Os) (started : os.Started) (H : Type) (enc : TypeId × Value → H) :
    ReturnsInHanded {} Try.checked os 4 .any (Rows.restSwapsSpec.pre6 enc Try.prog Try.f4 Rows.restSwapsRow.domain false) (Rows.restSwapsSpec.post enc Try.prog Try.f4 false true false false) := by
  refine returnsInHanded_of_change (C := Try.checked) own started (by kernel_rfl) Try.func4
    (ChangeSpec.witness6 (enc := enc) (C := Try.checked) false ⟨#[], #[.slice none 0 0, .int .i64 0, .int .i64 0], []⟩ 8 (by kernel_rfl) (by kernel_rfl) (by kernel_rfl) (by kernel_rfl)) ?_
  intro W base args ds gs before hval0 hW hcnd _
  have hval : ∀ (j : Nat) t v, Try.f4.params[j]? = some t → args[j]? = some v → Value.okWide Try.prog W .any base t v := hval0
  have hW' := hW
  obtain ⟨p, q, hA0, hV, rfl, hfz, hnd⟩ := hW
  have hA : DataW.TrodAll enc Try.prog W 0 (fun _ => true) true Try.f4.params.toList args.toList ds p := hA0
  rw [Try.params4] at hA hval
  obtain ⟨v0, vs0, d0, ds0, p0, q0, hargs, rfl, rfl, h0, r0⟩ := trodAll_cons hA
  obtain ⟨v1, vs1, d1, ds1, p1, q1, rfl, rfl, rfl, h1, r1⟩ := trodAll_cons r0
  obtain ⟨v2, vs2, d2, ds2, p2, q2, rfl, rfl, rfl, h2, r2⟩ := trodAll_cons r1
  obtain ⟨rfl, rfl, rfl⟩ := trodAll_nil r2
  obtain rfl : args = #[v0, v1, v2] := by cases args; simp_all
  obtain ⟨rfl, rfl⟩ := trodVars_none hV
  obtain ⟨a0, len0, cap0, rfl⟩ := okWide_slice Try.underlying22 (hval 0 22 v0 rfl rfl)
  have k0 := h0
  have lt0 : ∀ x ∈ p0, x.block < W.heap.size := by obtain ⟨m, hm⟩ := k0; exact DataW.trod_lt m _ _ _ hm
  obtain ⟨z0, w0⟩ : ∃ zs, IsRow .u8 W a0 len0 cap0 zs := by
    obtain ⟨fuel, hf⟩ := h0
    rcases open_ints Try.underlying22 Try.underlying5 (by kernel_rfl) hf with ⟨hcs, _⟩ | ⟨x, l, c, zs, hcs, _, hl, hm, hz, _, hcell, hwz⟩
    · simp [Value.cells] at hcs
      obtain ⟨rfl, rfl, rfl⟩ := hcs
      exact ⟨[], .inl ⟨rfl, rfl, rfl, rfl⟩⟩
    · simp [Value.cells] at hcs
      obtain ⟨rfl, rfl, rfl⟩ := hcs
      exact ⟨zs, .inr ⟨_, rfl, hl, hm, by simpa using hz, hcell, hwz⟩⟩
  obtain ⟨a1, rfl, rfl, rfl, w1⟩ := open_int Try.underlying3 (hval 1 3 v1 rfl rfl) h1
  obtain ⟨a2, rfl, rfl, rfl, w2⟩ := open_int Try.underlying3 (hval 2 3 v2 rfl rfl) h2
  clear hA0 hval0
  refine (walk a0 len0 cap0 z0 a1 a2 W w0 w1 w2).mono fun e W' ⟨he, bel⟩ => ?_
  subst he
  exact ⟨_, rfl, _, _, _, [], _, [], hW', trodAll_mk1 (shut_bool Try.underlying4 _), (trodAll_cons_mk (Below.trod laidOut (by kernel_rfl) (of_decide_eq_true (by kernel_rfl)) k0 bel lt0) (trodAll_cons_mk (shut_int Try.underlying3 w1) (trodAll_cons_mk (shut_int Try.underlying3 w2) trodAll_mk0))), rfl, bel.frame _, fun h => by cases h⟩

theorem over : Rows.restSwapsRow.holds Try.pinned (OpenSpec.ofChange Rows.restSwapsSpec) :=
  OpenClaim.holds_of_wide 4 Try.f4 rfl rfl rfl rfl rfl rfl rfl ⟨rfl, rfl, rfl, rfl, rfl⟩ rfl rfl rfl rfl rfl (by kernel_rfl) Try.func4 (by kernel_rfl)
    (of_decide_eq_true (by kernel_rfl)) (by unfold Func.isWrapper; first | (rw [if_pos (by decide +kernel)]; kernel_rfl) | (rw [if_neg (by decide +kernel)]; exact ⟨rfl, rfl⟩))
    (fun os started H enc _ => lifted os started H enc)

theorem proved : Rows.RestSwapsSaid := over
end Go.Proofs.Ytopbiamlmdpphac.restSwaps
namespace Go.Proofs.Ytopbiamlmdpphac
theorem restSwaps_holds : Rows.RestSwapsSaid := restSwaps.proved
#print axioms restSwaps_holds
end Go.Proofs.Ytopbiamlmdpphac
