/- What the document's answer to Bits gives back; what is refused. -/
import Derived.Test.YtopbiamlmdpphaaBigFieldN
import Derived.Test.YtopbiamlmdpphaaField
namespace Go.Proofs.Ytopbiamlmdpphaa.words
open Go.RowKit

theorem within_yes (n lo hi : Int) (w : World) (h1 : lo ≤ n) (h2 : n ≤ hi) :
    Calls Try.prog 57 #[.int .i64 n, .int .i64 lo, .int .i64 hi] w fun e w' => e = .returned (.bool true) ∧ w' = w := by
  go_enter Try.func57, Try.ntmps57
  go_wp2
  go_ret
  exact ⟨rfl, rfl⟩
theorem within_no (n lo hi : Int) (w : World) (h : n < lo ∨ hi < n) :
    Calls Try.prog 57 #[.int .i64 n, .int .i64 lo, .int .i64 hi] w fun e w' => e = .returned (.bool false) ∧ w' = w := by
  by_cases h0 : n < lo
  · clear h
    go_enter Try.func57, Try.ntmps57
    go_wp2
    go_ret
    exact ⟨rfl, rfl⟩
  · have h1 : lo ≤ n := by omega
    have h2 : decide (n ≤ hi) = false := by simp; omega
    clear h h0
    go_enter Try.func57, Try.ntmps57
    go_wp2
    go_ret
    exact ⟨rfl, rfl⟩

/-- Is this a field (P2.7)? -/
def IsF (lo n : Int) : Prop := 0 ≤ lo ∧ 1 ≤ n ∧ n ≤ 64 ∧ lo + n ≤ 96

theorem fieldMay_yes (lo n : Int) (w : World) (h : IsF lo n) :
    Calls Try.prog 40 #[.int .i64 lo, .int .i64 n] w fun e w' => e = .returned (.bool true) ∧ w' = w := by
  obtain ⟨h1, h2, h3, h4⟩ := h
  go_enter Try.func40, Try.ntmps40
  go_wp2_with fail
  refine (within_yes _ _ _ _ h1 (by omega)).mono ?_
  rintro e w' ⟨rfl, rfl⟩
  go_wp2_with fail
  refine (within_yes _ _ _ _ h2 h3).mono ?_
  rintro e w' ⟨rfl, rfl⟩
  go_wp2_with fail
  go_ret
  exact ⟨rfl, rfl⟩
theorem fieldMay_no (lo n : Int) (w : World) (h : ¬ IsF lo n) :
    Calls Try.prog 40 #[.int .i64 lo, .int .i64 n] w fun e w' => e = .returned (.bool false) ∧ w' = w := by
  have HF : Hid (¬ IsF lo n) := h
  clear h
  by_cases h1 : lo < 0 ∨ 95 < lo
  · go_enter Try.func40, Try.ntmps40
    go_wp2_with fail
    refine (within_no _ _ _ _ h1).mono ?_
    rintro e w' ⟨rfl, rfl⟩
    go_wp2_with fail
    go_ret
    exact ⟨rfl, rfl⟩
  · have l0 : 0 ≤ lo := by omega
    have l1 : lo ≤ 95 := by omega
    by_cases h2 : n < 1 ∨ 64 < n
    · clear h1
      go_enter Try.func40, Try.ntmps40
      go_wp2_with fail
      refine (within_yes _ _ _ _ l0 l1).mono ?_
      rintro e w' ⟨rfl, rfl⟩
      go_wp2_with fail
      refine (within_no _ _ _ _ h2).mono ?_
      rintro e w' ⟨rfl, rfl⟩
      go_wp2_with fail
      go_ret
      exact ⟨rfl, rfl⟩
    · have n0 : 1 ≤ n := by omega
      have n1 : n ≤ 64 := by omega
      have h3 : decide (lo + n ≤ 96) = false := by
        rw [decide_eq_false_iff_not]
        intro h4
        exact HF.out ⟨l0, n0, n1, h4⟩
      clear h1 h2
      go_enter Try.func40, Try.ntmps40
      go_wp2_with fail
      refine (within_yes _ _ _ _ l0 l1).mono ?_
      rintro e w' ⟨rfl, rfl⟩
      go_wp2_with fail
      refine (within_yes _ _ _ _ n0 n1).mono ?_
      rintro e w' ⟨rfl, rfl⟩
      go_wp2_with fail
      go_ret
      exact ⟨rfl, rfl⟩

theorem isField_no (lo n : Int) (w : World) (h : ¬ IsF lo n) :
    Calls Try.prog 37 #[.int .i64 lo, .int .i64 n] w fun e w' => e = .returned (.bool false) ∧ w' = w := by
  have HF : Hid (¬ IsF lo n) := h
  clear h
  by_cases h1 : 0 ≤ lo
  · by_cases h2 : 1 ≤ n
    · by_cases h3 : n ≤ 64
      · have h4 : decide (lo ≤ 96 - n) = false := by
          rw [decide_eq_false_iff_not]
          intro h4
          exact HF.out ⟨h1, h2, h3, by omega⟩
        go_enter Try.func37, Try.ntmps37
        go_wp2_with fail
        go_ret
        exact ⟨rfl, rfl⟩
      · have h4 : decide (n ≤ 64) = false := by simp; omega
        clear h3
        go_enter Try.func37, Try.ntmps37
        go_wp2_with fail
        go_ret
        exact ⟨rfl, rfl⟩
    · have h4 : decide (1 ≤ n) = false := by simp; omega
      clear h2
      go_enter Try.func37, Try.ntmps37
      go_wp2_with fail
      go_ret
      exact ⟨rfl, rfl⟩
  · have h4 : decide (0 ≤ lo) = false := by simp; omega
    clear h1
    go_enter Try.func37, Try.ntmps37
    go_wp2_with fail
    go_ret
    exact ⟨rfl, rfl⟩

/-- A number and an error's number were given back. -/
def BitsPost (w : World) (v n : Int) (e : Ending) (w' : World) : Prop := e = .returned (.tuple #[.int .u64 v, .int .i64 n]) ∧ Below w.heap.size w w'

theorem bits_no (x y z lo n : Int) (w : World) (h : ¬ IsF lo n) :
    Calls Try.prog 17 #[.agg #[.int .u32 x, .int .u32 y, .int .u32 z], .int .i64 lo, .int .i64 n] w fun e w' => BitsPost w 0 2 e w' := by
  have HI : Hid (∀ w, Calls Try.prog 37 #[.int .i64 lo, .int .i64 n] w fun e w' => e = .returned (.bool false) ∧ w' = w) := fun w => isField_no lo n w h
  clear h
  go_enter Try.func17, Try.ntmps17
  go_wp2_with fail
  refine (HI.out _).mono ?_
  rintro e w' ⟨rfl, rfl⟩
  go_wp2_with fail
  go_ret2
  exact ⟨rfl, (Below.refl _ w).alloc (Nat.le_refl _) _⟩
theorem field_no (x y z lo n : Int) (w : World) (h : ¬ IsF lo n) :
    Calls Try.prog 18 #[.agg #[.int .u32 x, .int .u32 y, .int .u32 z], .int .i64 lo, .int .i64 n] w fun e w' => BitsPost w 0 2 e w' := by
  have HI : Hid (∀ w, Calls Try.prog 40 #[.int .i64 lo, .int .i64 n] w fun e w' => e = .returned (.bool false) ∧ w' = w) := fun w => fieldMay_no lo n w h
  clear h
  go_enter Try.func18, Try.ntmps18
  go_wp2_with fail
  refine (HI.out _).mono ?_
  rintro e w' ⟨rfl, rfl⟩
  go_wp2_with fail
  go_ret2
  exact ⟨rfl, (Below.refl _ w).alloc (Nat.le_refl _) _⟩

set_option maxHeartbeats 2000000 in
theorem field_abs (a b c lo n V X D T : Nat) (w : World) (ha : a < 4294967296) (hb : b < 4294967296) (hc : c < 4294967296) (hf : IsF lo n)
    (HV : Hid (big96V a b c = V)) (hT : T < 18446744073709551616)
    (HR : Hid (∀ z x w, Bg w x V → Ob w z → Calls Try.prog 41 #[.pointer (some ⟨z, 0, none⟩), .pointer (some ⟨x, 0, none⟩), .int .u64 (lo : Int)] w fun e w' => OpPost w z X e w'))
    (HS : Hid (∀ z x w, Bg w x 1 → Ob w z → x ≠ z → Calls Try.prog 42 #[.pointer (some ⟨z, 0, none⟩), .pointer (some ⟨x, 0, none⟩), .int .u64 (n : Int)] w fun e w' => OpPost w z D e w'))
    (HM : Hid (∀ z y w, Bg w z X → Bg w y D → Calls Try.prog 43 #[.pointer (some ⟨z, 0, none⟩), .pointer (some ⟨z, 0, none⟩), .pointer (some ⟨y, 0, none⟩)] w fun e w' => OpPost w z T e w')) :
    Calls Try.prog 18 #[.agg #[.int .u32 (a : Int), .int .u32 (b : Int), .int .u32 (c : Int)], .int .i64 (lo : Int), .int .i64 (n : Int)] w fun e w' => BitsPost w (T : Int) 0 e w' := by
  have HI : Hid (∀ w, Calls Try.prog 40 #[.int .i64 (lo : Int), .int .i64 (n : Int)] w fun e w' => e = .returned (.bool true) ∧ w' = w) := fun w => fieldMay_yes lo n w hf
  have HT : Hid (Trio ((w.alloc (.cells #[.int .u32 (a : Int), .int .u32 (b : Int), .int .u32 (c : Int)] 24)).alloc (.cells #[.bool false, .slice none 0 0] 53)) w.heap.size (.int .u32 (a : Int)) (.int .u32 (b : Int)) (.int .u32 (c : Int))) := (trio_new _ _ _ _).alloc _
  have HO : Hid (Ob ((w.alloc (.cells #[.int .u32 (a : Int), .int .u32 (b : Int), .int .u32 (c : Int)] 24)).alloc (.cells #[.bool false, .slice none 0 0] 53)) (w.heap.size + 1)) := by
    show Ob _ _
    have := ob_new (w.alloc (.cells #[.int .u32 (a : Int), .int .u32 (b : Int), .int .u32 (c : Int)] 24))
    simpa using this
  have HB : Hid (Below w.heap.size w ((w.alloc (.cells #[.int .u32 (a : Int), .int .u32 (b : Int), .int .u32 (c : Int)] 24)).alloc (.cells #[.bool false, .slice none 0 0] 53))) := bel2 _ _ _
  obtain ⟨f1, f2, f3, f4⟩ := hf
  have c0 := HT.out.c0
  have c1 := HT.out.c1
  have c2 := HT.out.c2
  have d0 := (trio_new w (.int .u32 (a : Int)) (.int .u32 (b : Int)) (.int .u32 (c : Int))).c0
  have d1 := (trio_new w (.int .u32 (a : Int)) (.int .u32 (b : Int)) (.int .u32 (c : Int))).c1
  have d2 := (trio_new w (.int .u32 (a : Int)) (.int .u32 (b : Int)) (.int .u32 (c : Int))).c2
  go_enter Try.func18, Try.ntmps18
  go_wp2_with fail
  refine (HI.out _).mono ?_
  rintro e w' ⟨rfl, rfl⟩
  go_wp2_with fail
  refine (big96_any a b c _ ha hb hc).mono ?_
  rintro e w1 ⟨x, rfl, hx, hg, hb1⟩
  rw [HV.out] at hg
  have HB1 : Hid (Below w.heap.size w w1) := HB.out.trans (hb1.mono HB.out.size)
  have HO1 : Hid (Ob w1 (w.heap.size + 1)) := HO.out.below hb1
  have HG : Hid (Bg w1 x V) := hg
  clear hg hb1 hx c0 c1 c2 d0 d1 d2 HT HO HB HI
  go_wp2_with fail
  refine (HR.out _ _ _ HG.out HO1.out).mono ?_
  rintro e w2 ⟨rfl, hg2, hex2⟩
  have HB2 : Hid (Below w.heap.size w w2) := hex2.below HB1.out (by omega)
  have HG2 : Hid (Bg w2 (w.heap.size + 1) X) := hg2
  have hzl := hg2.ob.lt
  clear hg2 hex2 HB1 HO1 HG
  have hal : Below w2.heap.size w2 (w2.alloc (.cells #[.bool false, .slice none 0 0] 53)) := (Below.refl _ _).alloc (Nat.le_refl _) _
  have HG2' : Hid (Bg (w2.alloc (.cells #[.bool false, .slice none 0 0] 53)) (w.heap.size + 1) X) := HG2.out.below hal
  have HP : Hid (Ob (w2.alloc (.cells #[.bool false, .slice none 0 0] 53)) w2.heap.size) := ob_new w2
  have HB2' : Hid (Below w.heap.size w (w2.alloc (.cells #[.bool false, .slice none 0 0] 53))) := HB2.out.alloc HB2.out.size _
  clear hal HG2 HB2
  go_wp2_with fail
  refine (newInt_any 1 _ (by omega)).mono ?_
  rintro e w3 ⟨q, rfl, hq, hg3, hb3⟩
  have HB3 : Hid (Below w.heap.size w w3) := HB2'.out.trans (hb3.mono HB2'.out.size)
  have HG3 : Hid (Bg w3 (w.heap.size + 1) X) := HG2'.out.below hb3
  have HP3 : Hid (Ob w3 w2.heap.size) := HP.out.below hb3
  have HQ : Hid (Bg w3 q 1) := hg3
  have hqp : q ≠ w2.heap.size := by simp at hq; omega
  clear hg3 hb3 hq HB2' HG2' HP
  go_wp2_with fail
  refine (HS.out _ _ _ HQ.out HP3.out hqp).mono ?_
  rintro e w4 ⟨rfl, hg4, hex4⟩
  have HB4 : Hid (Below w.heap.size w w4) := hex4.below HB3.out (by have := HB3.out.size; omega)
  have HG4 : Hid (Bg w4 (w.heap.size + 1) X) := HG3.out.ex HP3.out hex4 (by omega)
  have HD4 : Hid (Bg w4 w2.heap.size D) := hg4
  clear hg4 hex4 HB3 HG3 HP3 HQ hqp
  go_wp2_with fail
  refine (HM.out _ _ _ HG4.out HD4.out).mono ?_
  rintro e w5 ⟨rfl, hg5, hex5⟩
  have HB5 : Hid (Below w.heap.size w w5) := hex5.below HB4.out (by omega)
  have HG5 : Hid (Bg w5 (w.heap.size + 1) T) := hg5
  clear hg5 hex5 HB4 HG4 HD4
  go_wp2_with fail
  refine (uint64_any _ T _ HG5.out hT).mono ?_
  rintro e w6 ⟨rfl, rfl⟩
  go_wp2_with fail
  go_ret2
  exact ⟨rfl, HB5.out⟩

theorem field_yes (a b c lo n : Nat) (w : World) (ha : a < 4294967296) (hb : b < 4294967296) (hc : c < 4294967296) (hf : IsF lo n) :
    Calls Try.prog 18 #[.agg #[.int .u32 (a : Int), .int .u32 (b : Int), .int .u32 (c : Int)], .int .i64 (lo : Int), .int .i64 (n : Int)] w fun e w' => BitsPost w ((big96V a b c / 2 ^ lo % 2 ^ n : Nat) : Int) 0 e w' := by
  have hf' := hf
  obtain ⟨f1, f2, f3, f4⟩ := hf'
  have hV : big96V a b c < 79228162514264337593543950336 := by unfold big96V; omega
  have hX : big96V a b c / 2 ^ lo < 79228162514264337593543950336 := Nat.lt_of_le_of_lt (Nat.div_le_self _ _) hV
  have h64 : (2 : Nat) ^ n ≤ 2 ^ 64 := Nat.pow_le_pow_right (by decide) (by omega)
  have hT : big96V a b c / 2 ^ lo % 2 ^ n < 18446744073709551616 := Nat.lt_of_lt_of_le (Nat.mod_lt _ (Nat.two_pow_pos n)) h64
  have hD : (2 : Nat) ^ n < 340282366920938463463374607431768211456 := Nat.lt_of_le_of_lt h64 (by decide)
  refine field_abs a b c lo n _ _ (2 ^ n) _ w ha hb hc hf rfl hT
    (fun z x w hx hz => Rsh_any z x _ lo w hx hz (len100' (by omega)) (by omega))
    (fun z x w hx hz hxz => ?_)
    (fun z y w hz hy => Mod_of z z y _ _ _ _ w hz hy hz.ob (len100' hD) (div_pow _ n hX (by omega)))
  have h := Lsh_any z x 1 n w hx hz hxz (len100' (by omega)) (by omega)
  rw [Nat.one_mul] at h
  exact h

end Go.Proofs.Ytopbiamlmdpphaa.words
