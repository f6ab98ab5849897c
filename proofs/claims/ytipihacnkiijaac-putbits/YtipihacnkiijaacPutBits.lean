/- vendmeterkeep.PutBits returns true for every wide number, every field and every number: what is put into a field is there, and disturbs no other. No condition. -/
import Derived.Test.YtipihacnkiijaacPut
import Derived.Test.YtipihacnkiijaacPick
import Derived.Test.YtipihacnkiijaacEq3
import Derived.Test.YtipihacnkiijaacRows
import Derived.WalkKit
import Derived.ProofKit
import Derived.OpenShut
import Derived.Below
import Derived.ShutString
namespace Go.Proofs.Ytipihacnkiijaac.putBits
open Go.ChangeShapes Go.WideShapes Go.ChangeAt Go.RowKit
open Go.ChangeMaps (open_string shut_string)
set_option linter.unusedVariables false

theorem own : ownKnob Try.prog.godebug = none := by kernel_rfl

set_option maxRecDepth 100000 in
set_option maxHeartbeats 2000000 in
theorem walk (x0 y0 z0 : Int) (a1 : Int) (a2 : Int) (a3 : Int) (w0 : (Lit.int .u32 x0).wf = true ∧ (Lit.int .u32 y0).wf = true ∧ (Lit.int .u32 z0).wf = true) (w1 : (Lit.int .i64 a1).wf = true) (w2 : (Lit.int .i64 a2).wf = true) (w3 : (Lit.int .u64 a3).wf = true) (w : World) :
    Calls Try.prog 7 #[.agg #[.int .u32 x0, .int .u32 y0, .int .u32 z0], .int .i64 a1, .int .i64 a2, .int .u64 a3] w fun e w' => e = .returned (.bool true) ∧ Below w.heap.size w w' := by
  have hx := words.ok_wf w0
  obtain ⟨⟨xa, xa'⟩, ⟨xb, xb'⟩, xc, xc'⟩ := hx
  simp only at xa xa' xb xb' xc xc'
  obtain ⟨a, rfl⟩ := Int.eq_ofNat_of_zero_le xa
  obtain ⟨b, rfl⟩ := Int.eq_ofNat_of_zero_le xb
  obtain ⟨c, rfl⟩ := Int.eq_ofNat_of_zero_le xc
  have hv := bounds_u64 w3
  obtain ⟨v, rfl⟩ := Int.eq_ofNat_of_zero_le hv.1
  have l0 := words.pick_nonneg a1 96 (by omega)
  have l1 := words.pick_lt a1 96 (by omega)
  have ha : a < 2 ^ 32 := by omega
  have hb : b < 2 ^ 32 := by omega
  have hc : c < 2 ^ 32 := by omega
  clear w0 w3
  go_enter Try.func7, Try.ntmps7
  go_wp2_with fail
  refine (words.picked_any _ _ _ w1 (by omega) (by omega)).mono ?_
  rintro e wr ⟨rfl, rfl⟩
  generalize words.pick a1 96 = L at *
  obtain ⟨l, rfl⟩ := Int.eq_ofNat_of_zero_le l0
  by_cases hq64 : (64 : Int) ≤ 96 - (l : Int)
  · have p0 := words.pick_nonneg a2 64 (by omega)
    have p1 := words.pick_lt a2 64 (by omega)
    go_wp2_with fail
    refine (words.picked_any _ _ _ w2 (by omega) (by omega)).mono ?_
    rintro e wr ⟨rfl, rfl⟩
    generalize words.pick a2 64 = P at *
    obtain ⟨m, hm⟩ : ∃ m : Nat, P = (m : Int) - 1 := ⟨(P + 1).toNat, by omega⟩
    subst hm
    have em : 1 + ((m : Int) - 1) = (m : Int) := by omega
    have m0 : 1 ≤ m := by omega
    have m1 : m ≤ 64 := by omega
    have m2 : l + m ≤ 96 := by omega
    clear p0 p1
    by_cases h64 : (m : Int) < 64
    · obtain ⟨T, hT, T0, T1, hu⟩ : ∃ T : Int, (2 : Int) ^ m = T ∧ 0 < T ∧ T < 18446744073709551616 ∧ (v : Int).tmod T = ((v % 2 ^ m : Nat) : Int) := ⟨_, rfl, words.pow_pos m, words.pow_lt (by omega), words.tmod_pow v m⟩
      have hu2 : v % 2 ^ m < 2 ^ m := Nat.mod_lt _ (Nat.two_pow_pos m)
      have HU : words.Fits (v % 2 ^ m) m := ⟨hu2⟩
      have hu3 : v % 2 ^ m ≤ v := Nat.mod_le _ _
      clear hu2
      generalize v % 2 ^ m = u at *
      go_wp2_with fail
      refine (words.bits_any a b c l m _ ha hb hc m0 (by omega) (by omega)).mono ?_
      rintro e wA ⟨rfl, hbA⟩
      have T0 := (words.trio_new w (.int .u32 (a : Int)) (.int .u32 (b : Int)) (.int .u32 (c : Int))).below hbA
      have B1 : Below w.heap.size w wA := ((Below.refl _ w).alloc (Nat.le_refl _) _).trans (hbA.mono (by simp))
      have HP : Hid (words.putN (words.putN a u m l) (words.bitsN a b c l m) m l = a ∧ words.putN (words.putN b u m ((l : Int) - 32)) (words.bitsN a b c l m) m ((l : Int) - 32) = b ∧ words.putN (words.putN c u m ((l : Int) - 64)) (words.bitsN a b c l m) m ((l : Int) - 64) = c) := words.put_back ha hb hc HU.out (by omega)
      have HQ : Hid (words.bitsN (words.putN a u m l) (words.putN b u m ((l : Int) - 32)) (words.putN c u m ((l : Int) - 64)) l m = u) := words.bits_put ha hb hc HU.out (by omega) (by omega)
      have HOL : words.Fits (words.bitsN a b c l m) m := ⟨words.bits_lt⟩
      generalize words.bitsN a b c l m = old at *
      have c0 := T0.c0
      have c1 := T0.c1
      have c2 := T0.c2
      have HT0 : Hid (words.Wat wA w.heap.size ⟨a, b, c⟩) := T0
      have HB1 : Hid (Below w.heap.size w wA) := B1
      clear T0 B1 hbA
      go_wp2_with fail
      refine (words.put_any a b c u l m _ ha hb hc HU.out m0 (by omega) (by omega)).mono ?_
      rintro e wB ⟨rfl, hbB⟩
      have T0 := HT0.out.below hbB
      have B2 := HB1.out.trans (hbB.mono HB1.out.size)
      have y0l := words.put_lt a u m l ha
      have y1l := words.put_lt b u m ((l : Int) - 32) hb
      have y2l := words.put_lt c u m ((l : Int) - 64) hc
      clear hbB HT0 HB1 c0 c1 c2
      generalize words.putN a u m l = y0 at *
      generalize words.putN b u m ((l : Int) - 32) = y1 at *
      generalize words.putN c u m ((l : Int) - 64) = y2 at *
      have HT0 : Hid (words.Wat (wB.alloc (.cells #[.int .u32 (y0 : Int), .int .u32 (y1 : Int), .int .u32 (y2 : Int)] 24)) w.heap.size ⟨a, b, c⟩) := T0.alloc _
      have HX : Hid (words.Wat (wB.alloc (.cells #[.int .u32 (y0 : Int), .int .u32 (y1 : Int), .int .u32 (y2 : Int)] 24)) wB.heap.size ⟨y0, y1, y2⟩) := words.trio_new _ _ _ _
      have HB2 : Hid (Below w.heap.size w (wB.alloc (.cells #[.int .u32 (y0 : Int), .int .u32 (y1 : Int), .int .u32 (y2 : Int)] 24))) := B2.alloc B2.size _
      clear T0 B2
      go_wp2_with fail
      refine (words.bits_any y0 y1 y2 l m _ y0l y1l y2l m0 (by omega) (by omega)).mono ?_
      rintro e wC ⟨rfl, hbC⟩
      rw [HQ.out]
      have T0 := HT0.out.below hbC
      have TX := HX.out.below hbC
      have B3 := HB2.out.trans (hbC.mono HB2.out.size)
      have c0 := TX.c0
      have c1 := TX.c1
      have c2 := TX.c2
      have HT1 : Hid (words.Wat wC w.heap.size ⟨a, b, c⟩) := T0
      have HB3 : Hid (Below w.heap.size w wC) := B3
      clear T0 TX B3 hbC HT0 HX HB2 HQ
      go_wp2_with fail
      refine (words.put_any y0 y1 y2 old l m _ y0l y1l y2l HOL.out m0 (by omega) (by omega)).mono ?_
      rintro e wD ⟨rfl, hbD⟩
      rw [HP.out.1, HP.out.2.1, HP.out.2.2]
      have T0 := (HT1.out.below hbD).alloc (.cells #[.int .u32 (a : Int), .int .u32 (b : Int), .int .u32 (c : Int)] 24)
      have B4 := HB3.out.trans (hbD.mono HB3.out.size)
      have HB4 : Hid (Below w.heap.size w (wD.alloc (.cells #[.int .u32 (a : Int), .int .u32 (b : Int), .int .u32 (c : Int)] 24))) := B4.alloc B4.size _
      clear c0 c1 c2
      have c0 := T0.c0
      have c1 := T0.c1
      have c2 := T0.c2
      have q1 : ((u : Int) == (u : Int)) = true := by simp
      have q2 : ∀ wx, (Op.equalIn 10000 24 (.agg #[.int .u32 (a : Int), .int .u32 (b : Int), .int .u32 (c : Int)]) (.agg #[.int .u32 (a : Int), .int .u32 (b : Int), .int .u32 (c : Int)])).run Try.prog wx = .ok true wx := fun wx => words.eq3_same ⟨a, b, c⟩ wx
      clear T0 B4 hbD HT1 HB3 HP HOL y0l y1l y2l
      go_wp2_with fail
      go_ret
      exact ⟨rfl, HB4.out⟩
    · have hu2 : v < 2 ^ m := by
        have : m = 64 := by omega
        rw [this]; omega
      have HU : words.Fits v m := ⟨hu2⟩
      have hdm : decide ((m : Int) < 64) = false := decide_eq_false h64
      have hge : (64 : Int) ≤ (m : Int) := by omega
      clear hu2
      go_wp2_with fail
      refine (words.bits_any a b c l m _ ha hb hc m0 (by omega) (by omega)).mono ?_
      rintro e wA ⟨rfl, hbA⟩
      have T0 := (words.trio_new w (.int .u32 (a : Int)) (.int .u32 (b : Int)) (.int .u32 (c : Int))).below hbA
      have B1 : Below w.heap.size w wA := ((Below.refl _ w).alloc (Nat.le_refl _) _).trans (hbA.mono (by simp))
      have HP : Hid (words.putN (words.putN a v m l) (words.bitsN a b c l m) m l = a ∧ words.putN (words.putN b v m ((l : Int) - 32)) (words.bitsN a b c l m) m ((l : Int) - 32) = b ∧ words.putN (words.putN c v m ((l : Int) - 64)) (words.bitsN a b c l m) m ((l : Int) - 64) = c) := words.put_back ha hb hc HU.out (by omega)
      have HQ : Hid (words.bitsN (words.putN a v m l) (words.putN b v m ((l : Int) - 32)) (words.putN c v m ((l : Int) - 64)) l m = v) := words.bits_put ha hb hc HU.out (by omega) (by omega)
      have HOL : words.Fits (words.bitsN a b c l m) m := ⟨words.bits_lt⟩
      generalize words.bitsN a b c l m = old at *
      have c0 := T0.c0
      have c1 := T0.c1
      have c2 := T0.c2
      have HT0 : Hid (words.Wat wA w.heap.size ⟨a, b, c⟩) := T0
      have HB1 : Hid (Below w.heap.size w wA) := B1
      clear T0 B1 hbA
      go_wp2_with fail
      refine (words.put_any a b c v l m _ ha hb hc HU.out m0 (by omega) (by omega)).mono ?_
      rintro e wB ⟨rfl, hbB⟩
      have T0 := HT0.out.below hbB
      have B2 := HB1.out.trans (hbB.mono HB1.out.size)
      have y0l := words.put_lt a v m l ha
      have y1l := words.put_lt b v m ((l : Int) - 32) hb
      have y2l := words.put_lt c v m ((l : Int) - 64) hc
      clear hbB HT0 HB1 c0 c1 c2
      generalize words.putN a v m l = y0 at *
      generalize words.putN b v m ((l : Int) - 32) = y1 at *
      generalize words.putN c v m ((l : Int) - 64) = y2 at *
      have HT0 : Hid (words.Wat (wB.alloc (.cells #[.int .u32 (y0 : Int), .int .u32 (y1 : Int), .int .u32 (y2 : Int)] 24)) w.heap.size ⟨a, b, c⟩) := T0.alloc _
      have HX : Hid (words.Wat (wB.alloc (.cells #[.int .u32 (y0 : Int), .int .u32 (y1 : Int), .int .u32 (y2 : Int)] 24)) wB.heap.size ⟨y0, y1, y2⟩) := words.trio_new _ _ _ _
      have HB2 : Hid (Below w.heap.size w (wB.alloc (.cells #[.int .u32 (y0 : Int), .int .u32 (y1 : Int), .int .u32 (y2 : Int)] 24))) := B2.alloc B2.size _
      clear T0 B2
      go_wp2_with fail
      refine (words.bits_any y0 y1 y2 l m _ y0l y1l y2l m0 (by omega) (by omega)).mono ?_
      rintro e wC ⟨rfl, hbC⟩
      rw [HQ.out]
      have T0 := HT0.out.below hbC
      have TX := HX.out.below hbC
      have B3 := HB2.out.trans (hbC.mono HB2.out.size)
      have c0 := TX.c0
      have c1 := TX.c1
      have c2 := TX.c2
      have HT1 : Hid (words.Wat wC w.heap.size ⟨a, b, c⟩) := T0
      have HB3 : Hid (Below w.heap.size w wC) := B3
      clear T0 TX B3 hbC HT0 HX HB2 HQ
      go_wp2_with fail
      refine (words.put_any y0 y1 y2 old l m _ y0l y1l y2l HOL.out m0 (by omega) (by omega)).mono ?_
      rintro e wD ⟨rfl, hbD⟩
      rw [HP.out.1, HP.out.2.1, HP.out.2.2]
      have T0 := (HT1.out.below hbD).alloc (.cells #[.int .u32 (a : Int), .int .u32 (b : Int), .int .u32 (c : Int)] 24)
      have B4 := HB3.out.trans (hbD.mono HB3.out.size)
      have HB4 : Hid (Below w.heap.size w (wD.alloc (.cells #[.int .u32 (a : Int), .int .u32 (b : Int), .int .u32 (c : Int)] 24))) := B4.alloc B4.size _
      clear c0 c1 c2
      have c0 := T0.c0
      have c1 := T0.c1
      have c2 := T0.c2
      have q1 : ((v : Int) == (v : Int)) = true := by simp
      have q2 : ∀ wx, (Op.equalIn 10000 24 (.agg #[.int .u32 (a : Int), .int .u32 (b : Int), .int .u32 (c : Int)]) (.agg #[.int .u32 (a : Int), .int .u32 (b : Int), .int .u32 (c : Int)])).run Try.prog wx = .ok true wx := fun wx => words.eq3_same ⟨a, b, c⟩ wx
      clear T0 B4 hbD HT1 HB3 HP HOL y0l y1l y2l
      go_wp2_with fail
      go_ret
      exact ⟨rfl, HB4.out⟩
  · have p0 := words.pick_nonneg a2 (96 - (l : Int)) (by omega)
    have p1 := words.pick_lt a2 (96 - (l : Int)) (by omega)
    go_wp2_with fail
    refine (words.picked_any _ _ _ w2 (by omega) (by omega)).mono ?_
    rintro e wr ⟨rfl, rfl⟩
    generalize words.pick a2 (96 - (l : Int)) = P at *
    obtain ⟨m, hm⟩ : ∃ m : Nat, P = (m : Int) - 1 := ⟨(P + 1).toNat, by omega⟩
    subst hm
    have em : 1 + ((m : Int) - 1) = (m : Int) := by omega
    have m0 : 1 ≤ m := by omega
    have m1 : m ≤ 64 := by omega
    have m2 : l + m ≤ 96 := by omega
    clear p0 p1
    by_cases h64 : (m : Int) < 64
    · obtain ⟨T, hT, T0, T1, hu⟩ : ∃ T : Int, (2 : Int) ^ m = T ∧ 0 < T ∧ T < 18446744073709551616 ∧ (v : Int).tmod T = ((v % 2 ^ m : Nat) : Int) := ⟨_, rfl, words.pow_pos m, words.pow_lt (by omega), words.tmod_pow v m⟩
      have hu2 : v % 2 ^ m < 2 ^ m := Nat.mod_lt _ (Nat.two_pow_pos m)
      have HU : words.Fits (v % 2 ^ m) m := ⟨hu2⟩
      have hu3 : v % 2 ^ m ≤ v := Nat.mod_le _ _
      clear hu2
      generalize v % 2 ^ m = u at *
      go_wp2_with fail
      refine (words.bits_any a b c l m _ ha hb hc m0 (by omega) (by omega)).mono ?_
      rintro e wA ⟨rfl, hbA⟩
      have T0 := (words.trio_new w (.int .u32 (a : Int)) (.int .u32 (b : Int)) (.int .u32 (c : Int))).below hbA
      have B1 : Below w.heap.size w wA := ((Below.refl _ w).alloc (Nat.le_refl _) _).trans (hbA.mono (by simp))
      have HP : Hid (words.putN (words.putN a u m l) (words.bitsN a b c l m) m l = a ∧ words.putN (words.putN b u m ((l : Int) - 32)) (words.bitsN a b c l m) m ((l : Int) - 32) = b ∧ words.putN (words.putN c u m ((l : Int) - 64)) (words.bitsN a b c l m) m ((l : Int) - 64) = c) := words.put_back ha hb hc HU.out (by omega)
      have HQ : Hid (words.bitsN (words.putN a u m l) (words.putN b u m ((l : Int) - 32)) (words.putN c u m ((l : Int) - 64)) l m = u) := words.bits_put ha hb hc HU.out (by omega) (by omega)
      have HOL : words.Fits (words.bitsN a b c l m) m := ⟨words.bits_lt⟩
      generalize words.bitsN a b c l m = old at *
      have c0 := T0.c0
      have c1 := T0.c1
      have c2 := T0.c2
      have HT0 : Hid (words.Wat wA w.heap.size ⟨a, b, c⟩) := T0
      have HB1 : Hid (Below w.heap.size w wA) := B1
      clear T0 B1 hbA
      go_wp2_with fail
      refine (words.put_any a b c u l m _ ha hb hc HU.out m0 (by omega) (by omega)).mono ?_
      rintro e wB ⟨rfl, hbB⟩
      have T0 := HT0.out.below hbB
      have B2 := HB1.out.trans (hbB.mono HB1.out.size)
      have y0l := words.put_lt a u m l ha
      have y1l := words.put_lt b u m ((l : Int) - 32) hb
      have y2l := words.put_lt c u m ((l : Int) - 64) hc
      clear hbB HT0 HB1 c0 c1 c2
      generalize words.putN a u m l = y0 at *
      generalize words.putN b u m ((l : Int) - 32) = y1 at *
      generalize words.putN c u m ((l : Int) - 64) = y2 at *
      have HT0 : Hid (words.Wat (wB.alloc (.cells #[.int .u32 (y0 : Int), .int .u32 (y1 : Int), .int .u32 (y2 : Int)] 24)) w.heap.size ⟨a, b, c⟩) := T0.alloc _
      have HX : Hid (words.Wat (wB.alloc (.cells #[.int .u32 (y0 : Int), .int .u32 (y1 : Int), .int .u32 (y2 : Int)] 24)) wB.heap.size ⟨y0, y1, y2⟩) := words.trio_new _ _ _ _
      have HB2 : Hid (Below w.heap.size w (wB.alloc (.cells #[.int .u32 (y0 : Int), .int .u32 (y1 : Int), .int .u32 (y2 : Int)] 24))) := B2.alloc B2.size _
      clear T0 B2
      go_wp2_with fail
      refine (words.bits_any y0 y1 y2 l m _ y0l y1l y2l m0 (by omega) (by omega)).mono ?_
      rintro e wC ⟨rfl, hbC⟩
      rw [HQ.out]
      have T0 := HT0.out.below hbC
      have TX := HX.out.below hbC
      have B3 := HB2.out.trans (hbC.mono HB2.out.size)
      have c0 := TX.c0
      have c1 := TX.c1
      have c2 := TX.c2
      have HT1 : Hid (words.Wat wC w.heap.size ⟨a, b, c⟩) := T0
      have HB3 : Hid (Below w.heap.size w wC) := B3
      clear T0 TX B3 hbC HT0 HX HB2 HQ
      go_wp2_with fail
      refine (words.put_any y0 y1 y2 old l m _ y0l y1l y2l HOL.out m0 (by omega) (by omega)).mono ?_
      rintro e wD ⟨rfl, hbD⟩
      rw [HP.out.1, HP.out.2.1, HP.out.2.2]
      have T0 := (HT1.out.below hbD).alloc (.cells #[.int .u32 (a : Int), .int .u32 (b : Int), .int .u32 (c : Int)] 24)
      have B4 := HB3.out.trans (hbD.mono HB3.out.size)
      have HB4 : Hid (Below w.heap.size w (wD.alloc (.cells #[.int .u32 (a : Int), .int .u32 (b : Int), .int .u32 (c : Int)] 24))) := B4.alloc B4.size _
      clear c0 c1 c2
      have c0 := T0.c0
      have c1 := T0.c1
      have c2 := T0.c2
      have q1 : ((u : Int) == (u : Int)) = true := by simp
      have q2 : ∀ wx, (Op.equalIn 10000 24 (.agg #[.int .u32 (a : Int), .int .u32 (b : Int), .int .u32 (c : Int)]) (.agg #[.int .u32 (a : Int), .int .u32 (b : Int), .int .u32 (c : Int)])).run Try.prog wx = .ok true wx := fun wx => words.eq3_same ⟨a, b, c⟩ wx
      clear T0 B4 hbD HT1 HB3 HP HOL y0l y1l y2l
      go_wp2_with fail
      go_ret
      exact ⟨rfl, HB4.out⟩
    · omega

set_option maxRecDepth 100000 in
theorem lifted (os : Os) (started : os.Started) (H : Type) (enc : TypeId × Value → H) :
    ReturnsInHanded {} Try.checked os 7 .any (Rows.putBitsSpec.pre6 enc Try.prog Try.f7 Rows.putBitsRow.domain false) (Rows.putBitsSpec.post enc Try.prog Try.f7 false true false false) := by
  refine returnsInHanded_of_change (C := Try.checked) own started (by kernel_rfl) Try.func7
    (ChangeSpec.witness6 (enc := enc) (C := Try.checked) false ⟨#[], #[.agg #[.int .u32 0, .int .u32 0, .int .u32 0], .int .i64 0, .int .i64 0, .int .u64 0], []⟩ 8 (by kernel_rfl) (by kernel_rfl) (by kernel_rfl) (by kernel_rfl)) ?_
  intro W base args ds gs before hval0 hW hcnd _
  have hval : ∀ (j : Nat) t v, Try.f7.params[j]? = some t → args[j]? = some v → Value.okWide Try.prog W .any base t v := hval0
  have hW' := hW
  obtain ⟨p, q, hA0, hV, rfl, hfz, hnd⟩ := hW
  have hA : DataW.TrodAll enc Try.prog W 0 (fun _ => true) true Try.f7.params.toList args.toList ds p := hA0
  rw [Try.params7] at hA hval
  obtain ⟨v0, vs0, d0, ds0, p0, q0, hargs, rfl, rfl, h0, r0⟩ := trodAll_cons hA
  obtain ⟨v1, vs1, d1, ds1, p1, q1, rfl, rfl, rfl, h1, r1⟩ := trodAll_cons r0
  obtain ⟨v2, vs2, d2, ds2, p2, q2, rfl, rfl, rfl, h2, r2⟩ := trodAll_cons r1
  obtain ⟨v3, vs3, d3, ds3, p3, q3, rfl, rfl, rfl, h3, r3⟩ := trodAll_cons r2
  obtain ⟨rfl, rfl, rfl⟩ := trodAll_nil r3
  obtain rfl : args = #[v0, v1, v2, v3] := by cases args; simp_all
  obtain ⟨rfl, rfl⟩ := trodVars_none hV
  obtain ⟨x0, y0, z0, rfl, rfl, rfl, w0⟩ := words.open_wide (hval 0 24 v0 rfl rfl) h0
  obtain ⟨a1, rfl, rfl, rfl, w1⟩ := open_int Try.underlying3 (hval 1 3 v1 rfl rfl) h1
  obtain ⟨a2, rfl, rfl, rfl, w2⟩ := open_int Try.underlying3 (hval 2 3 v2 rfl rfl) h2
  obtain ⟨a3, rfl, rfl, rfl, w3⟩ := open_int Try.underlying37 (hval 3 37 v3 rfl rfl) h3
  clear hA0 hval0
  simp only [List.append_nil] at hW'
  refine (walk x0 y0 z0 a1 a2 a3 w0 w1 w2 w3 W).mono fun e W' ⟨he, hg⟩ => ?_
  subst he
  exact ⟨_, rfl, _, _, _, [], [], [], hW', (trodAll_cons_mk (shut_bool Try.underlying4 _) trodAll_mk0), (trodAll_cons_mk (words.shut_wide w0) (trodAll_cons_mk (shut_int Try.underlying3 w1) (trodAll_cons_mk (shut_int Try.underlying3 w2) (trodAll_cons_mk (shut_int Try.underlying37 w3) trodAll_mk0)))), rfl, hg.frame _, fun h => by cases h⟩

theorem over : Rows.putBitsRow.holds Try.pinned (OpenSpec.ofChange Rows.putBitsSpec) :=
  OpenClaim.holds_of_wide 7 Try.f7 rfl rfl rfl rfl rfl rfl rfl ⟨rfl, rfl, rfl, rfl, rfl⟩ rfl rfl rfl rfl rfl (by kernel_rfl) Try.func7 (by kernel_rfl)
    (of_decide_eq_true (by kernel_rfl)) (by unfold Func.isWrapper; first | (rw [if_pos (by decide +kernel)]; kernel_rfl) | (rw [if_neg (by decide +kernel)]; exact ⟨rfl, rfl⟩))
    (fun os started H enc _ => lifted os started H enc)

end Go.Proofs.Ytipihacnkiijaac.putBits
namespace Go.Proofs.Ytipihacnkiijaac
theorem putBits_holds : Rows.PutBitsSaid := putBits.over
#print axioms putBits_holds
end Go.Proofs.Ytipihacnkiijaac
