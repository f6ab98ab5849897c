/- The rest of two texts, one behind the other, is told by their rests: the call returns true whatever it is given. -/
import Derived.Test.YtopbiamlmdpphacCkLaw
import Derived.Test.YtopbiamlmdpphacRows
import Derived.WalkKit
import Derived.ProofKit
import Derived.OpenShut
import Derived.ShutString
import Derived.ChangeOld
import Derived.Below
namespace Go.Proofs.Ytopbiamlmdpphac.restJoins
open Go.ChangeShapes Go.WideShapes Go.ChangeAt Go.RowKit
open Go.ChangeMaps (open_string shut_string)
set_option linter.unusedVariables false

theorem own : ownKnob Try.prog.godebug = none := by kernel_rfl
theorem laidOut : laidOutB Try.prog = true := by kernel_rfl

/-- WHAT THE WALK IS TOLD OF A SLICE OF INTEGERS THAT CAME IN: it is nil; or it leads to a row of 'cap' cells, the numbers 'zs' (the first 'len' are its elements, the rest its spare room), each fitting its kind. -/
def IsRow (k : IntKind) (w : World) (a : Option Addr) (len cap : Nat) (zs : List Int) : Prop :=
  (a = none ∧ len = 0 ∧ cap = 0 ∧ zs = []) ∨
  ∃ x, a = some x ∧ len ≤ cap ∧ cap ≤ maxLen ∧ zs.length = cap ∧ (∀ i, i < zs.length → w.cell? (x.add i) = some (.int k (zs.getD i 0))) ∧ ∀ n ∈ zs, (Lit.int k n).wf = true

theorem walk (a0 : Option Addr) (len0 cap0 : Nat) (z0 : List Int) (a1 : Option Addr) (len1 cap1 : Nat) (z1 : List Int) (w : World) (w0 : IsRow .u8 w a0 len0 cap0 z0) (w1 : IsRow .u8 w a1 len1 cap1 z1) :
    Calls Try.prog 5 #[.slice a0 len0 cap0, .slice a1 len1 cap1] w fun e w' => e = .returned (.bool true) ∧ Below w.heap.size w w' := by
  obtain ⟨hr, hl⟩ := check.rowB_of w0
  obtain ⟨hr1, hl1⟩ := check.rowB_of w1
  have HN : Hid (Calls Try.prog 6 #[.slice a0 len0 cap0, .int .i64 100] w fun e w' => check.NumPost w 100 e w') := check.numerals_any a0 len0 cap0 _ 100 w hr hl (by omega) (by omega)
  have HN1 : Hid (∀ w', Below w.heap.size w w' → Calls Try.prog 6 #[.slice a1 len1 cap1, .int .i64 100] w' fun e w'' => check.NumPost w' 100 e w'') := fun w' hb => check.numerals_any a1 len1 cap1 _ 100 w' (hr1.below hb) hl1 (by omega) (by omega)
  have HR : Hid (∀ (s : ByteArray) (w : World), Calls Try.prog 7 #[.string s] w fun e w' => e = .returned (.tuple #[.int .i64 (check.restR s.data.toList), .int .i64 (check.flawR s.data.toList)]) ∧ Below w.heap.size w w') := fun s w => check.rest_any s w
  clear w0 hr hl w1 hr1 hl1
  go_enter Try.func5, Try.ntmps5
  go_wp2_with fail
  refine HN.out.mono ?_
  rintro e w3 ⟨s, rfl, s1, s2, sd, hb3⟩
  have HB3 : Hid (Below w.heap.size w w3) := hb3
  clear hb3
  go_wp2_with fail
  refine (HN1.out _ HB3.out).mono ?_
  rintro e w4 ⟨t, rfl, t1, t2, td, hb4⟩
  have HB4 : Hid (Below w.heap.size w w4) := HB3.out.trans (hb4.mono HB3.out.size)
  clear hb4
  obtain ⟨f1, f2, f3, f4⟩ := check.join_rest (s := s.data.toList) (t := t.data.toList) (by rw [check.len_eq]; exact s1) (by rw [check.len_eq]; exact s2) sd (by rw [check.len_eq]; exact t1) (by rw [check.len_eq]; exact t2) td
  obtain ⟨f5, f6⟩ := check.one_rest (check.take_parts s 0 s1 sd).2.1
  rw [check.len_eq] at f4
  have R1 := HR.out s
  have R2 := HR.out t
  have R3 := HR.out (s ++ t)
  have R4 := HR.out (s.extract 0 1)
  have e4 : (s.extract 0 1).data.toList = [s[0]] := by
    rw [check.ext0, check.take_snoc s 0 s1]; rfl
  rw [e4, f5, f6] at R4
  rw [check.cat_list, f3, f4] at R3
  rw [f1, check.restR_good f1] at R1
  rw [f2] at R2
  have hsh0 : check.restN 0 (check.digs s.data.toList) < 97 := check.restN_lt _ 0 (by decide)
  obtain ⟨b1, b2⟩ := check.rest_bd f2
  generalize check.restN 0 (check.digs s.data.toList) = x at *
  generalize check.restR t.data.toList = y at *
  have H1 : Hid (∀ w, Calls Try.prog 7 #[.string s] w fun e w' => e = .returned (.tuple #[.int .i64 (x : Int), .int .i64 0]) ∧ Below w.heap.size w w') := R1
  have H2 : Hid (∀ w, Calls Try.prog 7 #[.string t] w fun e w' => e = .returned (.tuple #[.int .i64 y, .int .i64 0]) ∧ Below w.heap.size w w') := R2
  have H3 : Hid (∀ w, Calls Try.prog 7 #[.string (s ++ t)] w fun e w' => e = .returned (.tuple #[.int .i64 ((((check.shiftN t.size x : Nat) : Int) + y) % 97), .int .i64 0]) ∧ Below w.heap.size w w') := R3
  have H4 : Hid (∀ w, Calls Try.prog 7 #[.string (s.extract 0 1)] w fun e w' => e = .returned (.tuple #[.int .i64 (((s[0].toNat : Nat) : Int) - 48), .int .i64 0]) ∧ Below w.heap.size w w') := R4
  have c1 := check.isD_bd (check.take_parts s 0 s1 sd).2.1
  obtain ⟨c1, c2⟩ := c1
  have hs1 : (1 : Int) ≤ (s.size : Int) := by omega
  have hne0 : ((((s[0].toNat : Nat) : Int) - 48) != (((s[0].toNat : Nat) : Int) - 48)) = false := by simp
  clear R1 R2 R3 R4 f1 f2 f3 f4 f5 f6 e4 sd td
  go_wp2_with fail
  refine (H1.out _).mono ?_
  rintro e w5 ⟨rfl, hb5⟩
  have HB5 : Hid (Below w.heap.size w w5) := HB4.out.trans (hb5.mono HB4.out.size)
  clear hb5
  go_wp2_with fail
  refine (H2.out _).mono ?_
  rintro e w6 ⟨rfl, hb6⟩
  have HB6 : Hid (Below w.heap.size w w6) := HB5.out.trans (hb6.mono HB5.out.size)
  clear hb6
  go_wp2_with fail
  refine (H3.out _).mono ?_
  rintro e w7 ⟨rfl, hb7⟩
  have HB7 : Hid (Below w.heap.size w w7) := HB6.out.trans (hb7.mono HB6.out.size)
  clear hb7
  go_wp2_with fail
  refine (H4.out _).mono ?_
  rintro e w8 ⟨rfl, hb8⟩
  have HB8 : Hid (Below w.heap.size w w8) := HB7.out.trans (hb8.mono HB7.out.size)
  clear hb8
  go_wp2_with fail
  go_loop [7, 15] (fun v i => ∃ k : Nat, k ≤ t.size ∧ i = .int .i64 (k : Int) ∧ v = .int .i64 ((check.shiftN k x : Nat) : Int)) (fun _ i => t.size - (intOf i).toNat)
  case atStart => exact ⟨0, Nat.zero_le _, rfl, rfl⟩
  case round =>
    obtain ⟨k, hk, rfl, rfl⟩ := hrel
    have hsb := check.shiftN_lt k x hsh0
    by_cases hlt : k < t.size
    · have HT : Hid (((check.shiftN (k + 1) x : Nat) : Int) = ((check.shiftN k x : Nat) : Int) * 10 % 97) := by
        show _ = _
        rw [check.shiftN_succ]; omega
      generalize check.shiftN k x = p at *
      go_wp2_with fail
      go_round
      case rel => exact ⟨k + 1, by omega, by go_num, by rw [HT.out]⟩
      case measure => simp [intOf]; omega
    · have hkt : k = t.size := by omega
      rw [hkt]
      rw [hkt] at hsb
      have hq : (((((check.shiftN t.size x : Nat) : Int) + y) % 97) == ((((check.shiftN t.size x : Nat) : Int) + y) % 97)) = true := by simp
      generalize check.shiftN t.size x = p at *
      clear hkt hlt
      go_wp2_with fail
      go_ret
      exact ⟨rfl, HB8.out⟩

set_option maxRecDepth 100000 in
theorem lifted (os : Os) (started : os.Started) (H : Type) (enc : TypeId × Value → H) :
    ReturnsInHanded {} Try.checked os 5 .any (Rows.restJoinsSpec.pre6 enc Try.prog Try.f5 Rows.restJoinsRow.domain false) (Rows.restJoinsSpec.post enc Try.prog Try.f5 false true false false) := by
  refine returnsInHanded_of_change (C := Try.checked) own started (by kernel_rfl) Try.func5
    (ChangeSpec.witness6 (enc := enc) (C := Try.checked) false ⟨#[], #[.slice none 0 0, .slice none 0 0], []⟩ 8 (by kernel_rfl) (by kernel_rfl) (by kernel_rfl) (by kernel_rfl)) ?_
  intro W base args ds gs before hval0 hW hcnd _
  have hval : ∀ (j : Nat) t v, Try.f5.params[j]? = some t → args[j]? = some v → Value.okWide Try.prog W .any base t v := hval0
  have hW' := hW
  obtain ⟨p, q, hA0, hV, rfl, hfz, hnd⟩ := hW
  have hA : DataW.TrodAll enc Try.prog W 0 (fun _ => true) true Try.f5.params.toList args.toList ds p := hA0
  rw [Try.params5] at hA hval
  obtain ⟨v0, vs0, d0, ds0, p0, q0, hargs, rfl, rfl, h0, r0⟩ := trodAll_cons hA
  obtain ⟨v1, vs1, d1, ds1, p1, q1, rfl, rfl, rfl, h1, r1⟩ := trodAll_cons r0
  obtain ⟨rfl, rfl, rfl⟩ := trodAll_nil r1
  obtain rfl : args = #[v0, v1] := by cases args; simp_all
  obtain ⟨rfl, rfl⟩ := trodVars_none hV
  obtain ⟨a0, len0, cap0, rfl⟩ := okWide_slice Try.underlying22 (hval 0 22 v0 rfl rfl)
  have k0 := h0
  have lt0 : ∀ x ∈ p0, x.block < W.heap.size := by obtain ⟨m, hm⟩ := k0; exact DataW.trod_lt m _ _ _ hm
  obtain ⟨z0, w0⟩ : ∃ zs, IsRow .u8 W a0 len0 cap0 zs := by
    obtain ⟨fuel, hf⟩ := h0
    rcases open_ints Try.underlying22 Try.underlying5 (by kernel_rfl) hf with ⟨hcs, _⟩ | ⟨x, l, c, zs, hcs, _, hl, hm, hz, _, hcell, hwz⟩
    · simp [Value.cells] at hcs
      obtain ⟨rfl, rfl, rfl⟩ := hcs
      exact ⟨[], .inl ⟨rfl, rfl, rfl, rfl⟩⟩
    · simp [Value.cells] at hcs
      obtain ⟨rfl, rfl, rfl⟩ := hcs
      exact ⟨zs, .inr ⟨_, rfl, hl, hm, by simpa using hz, hcell, hwz⟩⟩
  obtain ⟨a1, len1, cap1, rfl⟩ := okWide_slice Try.underlying22 (hval 1 22 v1 rfl rfl)
  have k1 := h1
  have lt1 : ∀ x ∈ p1, x.block < W.heap.size := by obtain ⟨m, hm⟩ := k1; exact DataW.trod_lt m _ _ _ hm
  obtain ⟨z1, w1⟩ : ∃ zs, IsRow .u8 W a1 len1 cap1 zs := by
    obtain ⟨fuel, hf⟩ := h1
    rcases open_ints Try.underlying22 Try.underlying5 (by kernel_rfl) hf with ⟨hcs, _⟩ | ⟨x, l, c, zs, hcs, _, hl, hm, hz, _, hcell, hwz⟩
    · simp [Value.cells] at hcs
      obtain ⟨rfl, rfl, rfl⟩ := hcs
      exact ⟨[], .inl ⟨rfl, rfl, rfl, rfl⟩⟩
    · simp [Value.cells] at hcs
      obtain ⟨rfl, rfl, rfl⟩ := hcs
      exact ⟨zs, .inr ⟨_, rfl, hl, hm, by simpa using hz, hcell, hwz⟩⟩
  clear hA0 hval0
  refine (walk a0 len0 cap0 z0 a1 len1 cap1 z1 W w0 w1).mono fun e W' ⟨he, bel⟩ => ?_
  subst he
  exact ⟨_, rfl, _, _, _, [], _, [], hW', trodAll_mk1 (shut_bool Try.underlying4 _), (trodAll_cons_mk (Below.trod laidOut (by kernel_rfl) (of_decide_eq_true (by kernel_rfl)) k0 bel lt0) (trodAll_cons_mk (Below.trod laidOut (by kernel_rfl) (of_decide_eq_true (by kernel_rfl)) k1 bel lt1) trodAll_mk0)), rfl, bel.frame _, fun h => by cases h⟩

theorem over : Rows.restJoinsRow.holds Try.pinned (OpenSpec.ofChange Rows.restJoinsSpec) :=
  OpenClaim.holds_of_wide 5 Try.f5 rfl rfl rfl rfl rfl rfl rfl ⟨rfl, rfl, rfl, rfl, rfl⟩ rfl rfl rfl rfl rfl (by kernel_rfl) Try.func5 (by kernel_rfl)
    (of_decide_eq_true (by kernel_rfl)) (by unfold Func.isWrapper; first | (rw [if_pos (by decide +kernel)]; kernel_rfl) | (rw [if_neg (by decide +kernel)]; exact ⟨rfl, rfl⟩))
    (fun os started H enc _ => lifted os started H enc)

theorem proved : Rows.RestJoinsSaid := over
end Go.Proofs.Ytopbiamlmdpphac.restJoins
namespace Go.Proofs.Ytopbiamlmdpphac
theorem restJoins_holds : Rows.RestJoinsSaid := restJoins.proved
#print axioms restJoins_holds
end Go.Proofs.Ytopbiamlmdpphac
