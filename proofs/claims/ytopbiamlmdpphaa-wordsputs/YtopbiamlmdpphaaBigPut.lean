/- What the document's answer to Put gives back; what Put refuses. -/
import Derived.Test.YtopbiamlmdpphaaBigField
import Derived.Test.YtopbiamlmdpphaaBigSub
import Derived.Test.YtopbiamlmdpphaaPut
namespace Go.Proofs.Ytopbiamlmdpphaa.words
open Go.RowKit

theorem big96_top {a b c : Nat} (ha : a < 2 ^ 32) (hb : b < 2 ^ 32) (hc : c < 2 ^ 32) : big96V a b c < 2 ^ 96 := by
  unfold big96V
  omega
theorem put_val {a b c v lo n : Nat} (ha : a < 2 ^ 32) (hb : b < 2 ^ 32) (hc : c < 2 ^ 32) (hv : v < 2 ^ n) (hn : n ≤ 64) (hl : lo + n ≤ 96) :
    big96V a b c / 2 ^ lo % 2 ^ n * 2 ^ lo ≤ big96V a b c ∧ big96V (putN a v n lo) (putN b v n ((lo : Int) - 32)) (putN c v n ((lo : Int) - 64)) = big96V a b c - big96V a b c / 2 ^ lo % 2 ^ n * 2 ^ lo + v * 2 ^ lo := by
  have pa := put_lt a v n lo ha
  have pb := put_lt b v n ((lo : Int) - 32) hb
  have pc := put_lt c v n ((lo : Int) - 64) hc
  have hbit : ∀ m, m < 96 → (big96V (putN a v n lo) (putN b v n ((lo : Int) - 32)) (putN c v n ((lo : Int) - 64))).testBit m = if lo ≤ m ∧ m < lo + n then v.testBit (m - lo) else (big96V a b c).testBit m := fun m hm => by
    rw [big96_bit pa pb, put_bits hv m hm, big96_bit ha hb]
  have hfv : big96V (putN a v n lo) (putN b v n ((lo : Int) - 32)) (putN c v n ((lo : Int) - 64)) / 2 ^ lo % 2 ^ n = v := by
    rw [← bits_val pa pb pc hn, bits_put ha hb hc hv hn hl]
  have hVt := big96_top ha hb hc
  have hWt := big96_top pa pb pc
  generalize big96V (putN a v n lo) (putN b v n ((lo : Int) - 32)) (putN c v n ((lo : Int) - 64)) = W at *
  generalize big96V a b c = V at *
  have hlow : W % 2 ^ lo = V % 2 ^ lo := by
    apply Nat.eq_of_testBit_eq
    intro j
    rw [Nat.testBit_mod_two_pow, Nat.testBit_mod_two_pow]
    by_cases hj : j < lo
    · rw [hbit j (by omega), if_neg (by omega)]
    · rw [decide_eq_false hj, Bool.false_and, Bool.false_and]
  have hhigh : W / 2 ^ lo / 2 ^ n = V / 2 ^ lo / 2 ^ n := by
    rw [Nat.div_div_eq_div_mul, Nat.div_div_eq_div_mul, ← Nat.pow_add]
    apply Nat.eq_of_testBit_eq
    intro j
    rw [Nat.testBit_div_two_pow, Nat.testBit_div_two_pow]
    by_cases hj : lo + n + j < 96
    · rw [Nat.add_comm j, hbit _ hj, if_neg (by omega)]
    · rw [bit_hi hVt (by omega), bit_hi hWt (by omega)]
  have eV := Nat.div_add_mod V (2 ^ lo)
  have eW := Nat.div_add_mod W (2 ^ lo)
  have eV2 := Nat.div_add_mod (V / 2 ^ lo) (2 ^ n)
  have eW2 := Nat.div_add_mod (W / 2 ^ lo) (2 ^ n)
  rw [hhigh, hfv] at eW2
  rw [hlow] at eW
  generalize V / 2 ^ lo % 2 ^ n = old at *
  generalize V / 2 ^ lo / 2 ^ n = H at *
  generalize V % 2 ^ lo = L at *
  rw [← eV2, Nat.mul_add] at eV
  rw [← eW2, Nat.mul_add] at eW
  rw [Nat.mul_comm old, Nat.mul_comm v]
  generalize 2 ^ lo * (2 ^ n * H) = p at *
  generalize 2 ^ lo * old = q at *
  generalize 2 ^ lo * v = r at *
  omega

/-- While a field is put: the number x is M. -/
structure Pf (w W : World) (a b c x M : Nat) : Prop where
  below : Below w.heap.size w W
  box : Trio W w.heap.size (.int .u32 (a : Int)) (.int .u32 (b : Int)) (.int .u32 (c : Int))
  res : Trio W (w.heap.size + 1) (.int .u32 0) (.int .u32 0) (.int .u32 0)
  num : Bg W x M
  far : w.heap.size + 2 ≤ x
variable {w W W' : World} {a b c x M : Nat}
theorem Pf.next (h : Pf w W a b c x M) (hb : Below W.heap.size W W') : Pf w W' a b c x M := ⟨h.below.trans (hb.mono h.below.size), h.box.below hb, h.res.below hb, h.num.below hb, h.far⟩
theorem Pf.alloc (h : Pf w W a b c x M) (o : Obj) : Pf w (W.alloc o) a b c x M := h.next ((Below.refl _ _).alloc (Nat.le_refl _) o)
theorem Pf.ex (h : Pf w W a b c x M) {z : Nat} (ho : Ob W z) (he : Ex W W' z) (hz : w.heap.size + 2 ≤ z) (hx : x ≠ z) : Pf w W' a b c x M := ⟨he.below h.below (by omega), h.box.ex he (by omega), h.res.ex he (by omega), h.num.ex ho he hx, h.far⟩
theorem Pf.op (h : Pf w W a b c x M) {M' : Nat} (hg : Bg W' x M') (he : Ex W W' x) : Pf w W' a b c x M' :=
  have := h.far
  ⟨he.below h.below (by omega), h.box.ex he (by omega), h.res.ex he (by omega), hg, h.far⟩

/-- A wide number and an error's number were given back. -/
def PutPost (w : World) (Y : W3) (n : Int) (e : Ending) (w' : World) : Prop := e = .returned (.tuple #[.agg #[.int .u32 Y.a, .int .u32 Y.b, .int .u32 Y.c], .int .i64 n]) ∧ Below w.heap.size w w'

set_option maxRecDepth 100000 in
set_option maxHeartbeats 4000000 in
theorem fieldPut_64 (a b c lo n v V old O1 M1 O2 M2 : Nat) (Y : W3) (w : World) (ha : a < 4294967296) (hb : b < 4294967296) (hc : c < 4294967296) (hf : IsF lo n) (hn : n = 64)
    (HV : Hid (big96V a b c = V)) (HE : Hid (V - O1 = M1 ∧ M1 + O2 = M2)) (hle : O1 ≤ V) (hold : old < 18446744073709551616) (hv64 : v < 18446744073709551616)
    (HLn : Hid ((dig V).length ≤ 100 ∧ (dig O1).length ≤ 100 ∧ (dig M1).length ≤ 100 ∧ (dig O2).length ≤ 100))
    (HF : Hid (∀ w, Calls Try.prog 18 #[.agg #[.int .u32 (a : Int), .int .u32 (b : Int), .int .u32 (c : Int)], .int .i64 (lo : Int), .int .i64 (n : Int)] w fun e w' => BitsPost w (old : Int) 0 e w'))
    (HL1 : Hid (∀ z x w, Bg w x old → Ob w z → x ≠ z → Calls Try.prog 42 #[.pointer (some ⟨z, 0, none⟩), .pointer (some ⟨x, 0, none⟩), .int .u64 (lo : Int)] w fun e w' => OpPost w z O1 e w'))
    (HL2 : Hid (∀ z x w, Bg w x v → Ob w z → x ≠ z → Calls Try.prog 42 #[.pointer (some ⟨z, 0, none⟩), .pointer (some ⟨x, 0, none⟩), .int .u64 (lo : Int)] w fun e w' => OpPost w z O2 e w'))
    (HW : Hid (∀ n w, Bg w n M2 → Calls Try.prog 27 #[.pointer (some ⟨n, 0, none⟩)] w fun e w' => WPost w Y 0 e w')) :
    Calls Try.prog 20 #[.agg #[.int .u32 (a : Int), .int .u32 (b : Int), .int .u32 (c : Int)], .int .i64 (lo : Int), .int .i64 (n : Int), .int .u64 (v : Int)] w fun e w' => PutPost w Y 0 e w' := by
  have HI : Hid (∀ w, Calls Try.prog 40 #[.int .i64 (lo : Int), .int .i64 (n : Int)] w fun e w' => e = .returned (.bool true) ∧ w' = w) := fun w => fieldMay_yes lo n w hf
  obtain ⟨f1, f2, f3, f4⟩ := hf
  have HT : Hid (Trio ((w.alloc (.cells #[.int .u32 (a : Int), .int .u32 (b : Int), .int .u32 (c : Int)] 24)).alloc (.cells #[.int .u32 0, .int .u32 0, .int .u32 0] 24)) w.heap.size (.int .u32 (a : Int)) (.int .u32 (b : Int)) (.int .u32 (c : Int))) := (trio_new _ _ _ _).alloc _
  have HR : Hid (Trio ((w.alloc (.cells #[.int .u32 (a : Int), .int .u32 (b : Int), .int .u32 (c : Int)] 24)).alloc (.cells #[.int .u32 0, .int .u32 0, .int .u32 0] 24)) (w.heap.size + 1) (.int .u32 0) (.int .u32 0) (.int .u32 0)) := trio_b _ _ _ _ _
  have HB : Hid (Below w.heap.size w ((w.alloc (.cells #[.int .u32 (a : Int), .int .u32 (b : Int), .int .u32 (c : Int)] 24)).alloc (.cells #[.int .u32 0, .int .u32 0, .int .u32 0] 24))) := bel2 _ _ _
  have hd : decide ((n : Int) < 64) = false := by simp; omega
  clear hn
  have c0 := HT.out.c0
  have c1 := HT.out.c1
  have c2 := HT.out.c2
  go_enter Try.func20, Try.ntmps20
  go_wp2_with fail
  refine (HI.out _).mono ?_
  rintro e w' ⟨rfl, rfl⟩
  go_wp2_with fail
  refine (HF.out _).mono ?_
  rintro e W1 ⟨rfl, hb1⟩
  have T1 := HT.out.below hb1
  have HR1 : Hid (Trio W1 (w.heap.size + 1) (.int .u32 0) (.int .u32 0) (.int .u32 0)) := HR.out.below hb1
  have HT1 : Hid (Trio W1 w.heap.size (.int .u32 (a : Int)) (.int .u32 (b : Int)) (.int .u32 (c : Int))) := T1
  have HB1 : Hid (Below w.heap.size w W1) := HB.out.trans (hb1.mono HB.out.size)
  have hW1 := HR1.out.lt
  clear c0 c1 c2 hb1 HT HR HB HF HI
  have c0 := T1.c0
  have c1 := T1.c1
  have c2 := T1.c2
  clear T1
  go_wp2_with fail
  refine (big96_any a b c _ ha hb hc).mono ?_
  rintro e W2 ⟨x, rfl, hx, hg, hb2⟩
  rw [HV.out] at hg
  have H0 : Hid (Pf w W2 a b c x V) := ⟨HB1.out.trans (hb2.mono HB1.out.size), HT1.out.below hb2, HR1.out.below hb2, hg, by omega⟩
  have hxf : w.heap.size + 2 ≤ x := by omega
  clear hg hb2 hx c0 c1 c2 HT1 HR1 HB1 hW1
  have A1 : Hid (Pf w ((W2.alloc (.cells #[.bool false, .slice none 0 0] 53)).alloc (.cells #[.bool false, .slice none 0 0] 53)) a b c x V) := (H0.out.alloc _).alloc _
  have O11 : Hid (Ob ((W2.alloc (.cells #[.bool false, .slice none 0 0] 53)).alloc (.cells #[.bool false, .slice none 0 0] 53)) W2.heap.size) := (ob_new W2).below ((Below.refl _ _).alloc (Nat.le_refl _) _)
  have O21 : Hid (Ob ((W2.alloc (.cells #[.bool false, .slice none 0 0] 53)).alloc (.cells #[.bool false, .slice none 0 0] 53)) (W2.heap.size + 1)) := by
    show Ob _ _
    have := ob_new (W2.alloc (.cells #[.bool false, .slice none 0 0] 53))
    simpa using this
  have hx1 := H0.out.num.ob.lt
  have hs1 : w.heap.size + 2 ≤ W2.heap.size := by have := H0.out.far; omega
  clear H0
  go_wp2_with fail
  refine (setUint_any (W2.heap.size + 1) old _ O21.out hold).mono ?_
  rintro e u1 ⟨rfl, hg, hex⟩
  have B1 : Hid (Pf w u1 a b c x V) := A1.out.ex O21.out hex (by omega) (by omega)
  have S1 : Hid (Bg u1 (W2.heap.size + 1) old) := hg
  have Q1 : Hid (Ob u1 W2.heap.size) := O11.out.ex hex (by omega)
  clear hg hex A1 O11 O21
  go_wp2_with fail
  refine (HL1.out _ _ _ S1.out Q1.out (by omega)).mono ?_
  rintro e v1 ⟨rfl, hg, hex⟩
  have C1 : Hid (Pf w v1 a b c x V) := B1.out.ex Q1.out hex (by omega) (by omega)
  have T1 : Hid (Bg v1 W2.heap.size O1) := hg
  clear hg hex B1 S1 Q1
  go_wp2_with fail
  refine (Sub_any x x W2.heap.size V O1 _ C1.out.num T1.out C1.out.num.ob (by omega) HLn.out.1 HLn.out.2.1 hle).mono ?_
  rintro e W3 ⟨rfl, hg, hex⟩
  rw [HE.out.1] at hg
  have H1 : Hid (Pf w W3 a b c x M1) := C1.out.op hg hex
  clear hg hex C1 T1 hx1 hs1
  have A2 : Hid (Pf w ((W3.alloc (.cells #[.bool false, .slice none 0 0] 53)).alloc (.cells #[.bool false, .slice none 0 0] 53)) a b c x M1) := (H1.out.alloc _).alloc _
  have O12 : Hid (Ob ((W3.alloc (.cells #[.bool false, .slice none 0 0] 53)).alloc (.cells #[.bool false, .slice none 0 0] 53)) W3.heap.size) := (ob_new W3).below ((Below.refl _ _).alloc (Nat.le_refl _) _)
  have O22 : Hid (Ob ((W3.alloc (.cells #[.bool false, .slice none 0 0] 53)).alloc (.cells #[.bool false, .slice none 0 0] 53)) (W3.heap.size + 1)) := by
    show Ob _ _
    have := ob_new (W3.alloc (.cells #[.bool false, .slice none 0 0] 53))
    simpa using this
  have hx2 := H1.out.num.ob.lt
  have hs2 : w.heap.size + 2 ≤ W3.heap.size := by have := H1.out.far; omega
  clear H1
  go_wp2_with fail
  refine (setUint_any (W3.heap.size + 1) v _ O22.out hv64).mono ?_
  rintro e u2 ⟨rfl, hg, hex⟩
  have B2 : Hid (Pf w u2 a b c x M1) := A2.out.ex O22.out hex (by omega) (by omega)
  have S2 : Hid (Bg u2 (W3.heap.size + 1) v) := hg
  have Q2 : Hid (Ob u2 W3.heap.size) := O12.out.ex hex (by omega)
  clear hg hex A2 O12 O22
  go_wp2_with fail
  refine (HL2.out _ _ _ S2.out Q2.out (by omega)).mono ?_
  rintro e v2 ⟨rfl, hg, hex⟩
  have C2 : Hid (Pf w v2 a b c x M1) := B2.out.ex Q2.out hex (by omega) (by omega)
  have T2 : Hid (Bg v2 W3.heap.size O2) := hg
  clear hg hex B2 S2 Q2
  go_wp2_with fail
  refine (Add_any x x W3.heap.size M1 O2 _ C2.out.num T2.out C2.out.num.ob (by omega) HLn.out.2.2.1 HLn.out.2.2.2).mono ?_
  rintro e W4 ⟨rfl, hg, hex⟩
  rw [HE.out.2] at hg
  have H2 : Hid (Pf w W4 a b c x M2) := C2.out.op hg hex
  clear hg hex C2 T2 hx2 hs2
  go_wp2_with fail
  refine (HW.out x _ H2.out.num).mono ?_
  rintro e W5 ⟨rfl, hb5⟩
  have P5 := H2.out.next hb5
  have P6 := P5.alloc (.cells #[.int .u32 Y.a, .int .u32 Y.b, .int .u32 Y.c] 24)
  have R6 := P6.res
  have HR6 : Hid (Trio (W5.alloc (.cells #[.int .u32 Y.a, .int .u32 Y.b, .int .u32 Y.c] 24)) (w.heap.size + 1) (.int .u32 0) (.int .u32 0) (.int .u32 0)) := R6
  have HB6 : Hid (Below w.heap.size w (W5.alloc (.cells #[.int .u32 Y.a, .int .u32 Y.b, .int .u32 Y.c] 24))) := P6.below
  have r0 := R6.c0
  have r1 := R6.c1
  have r2 := R6.c2
  have g0 := R6.free 0
  have g1 := R6.free 1
  have g2 := R6.free 2
  have s0 := P5.res.c0
  have s1 := P5.res.c1
  have s2 := P5.res.c2
  have t0 := P5.res.free 0
  have t1 := P5.res.free 1
  have t2 := P5.res.free 2
  clear hb5 P5 P6 R6 H2 HW
  go_wp2_with fail
  have RR := HR6.out.put (.int .u32 Y.a) (.int .u32 Y.b) (.int .u32 Y.c)
  refine bodyPost_ret (v := .tuple #[.agg #[.int .u32 Y.a, .int .u32 Y.b, .int .u32 Y.c], .int .i64 0]) (by simp [results, Try.results20, RR.c0, RR.c1, RR.c2, go_sem]) rfl ⟨rfl, below_put3 HB6.out _ _ _ _ (by omega)⟩

set_option maxRecDepth 100000 in
set_option maxHeartbeats 4000000 in
theorem fieldPut_lt (a b c lo n v V old O1 M1 O2 M2 : Nat) (Y : W3) (w : World) (ha : a < 4294967296) (hb : b < 4294967296) (hc : c < 4294967296) (hf : IsF lo n) (hn : n < 64) (hv : v < 2 ^ n)
    (HV : Hid (big96V a b c = V)) (HE : Hid (V - O1 = M1 ∧ M1 + O2 = M2)) (hle : O1 ≤ V) (hold : old < 18446744073709551616) (hv64 : v < 18446744073709551616)
    (HLn : Hid ((dig V).length ≤ 100 ∧ (dig O1).length ≤ 100 ∧ (dig M1).length ≤ 100 ∧ (dig O2).length ≤ 100))
    (HF : Hid (∀ w, Calls Try.prog 18 #[.agg #[.int .u32 (a : Int), .int .u32 (b : Int), .int .u32 (c : Int)], .int .i64 (lo : Int), .int .i64 (n : Int)] w fun e w' => BitsPost w (old : Int) 0 e w'))
    (HL1 : Hid (∀ z x w, Bg w x old → Ob w z → x ≠ z → Calls Try.prog 42 #[.pointer (some ⟨z, 0, none⟩), .pointer (some ⟨x, 0, none⟩), .int .u64 (lo : Int)] w fun e w' => OpPost w z O1 e w'))
    (HL2 : Hid (∀ z x w, Bg w x v → Ob w z → x ≠ z → Calls Try.prog 42 #[.pointer (some ⟨z, 0, none⟩), .pointer (some ⟨x, 0, none⟩), .int .u64 (lo : Int)] w fun e w' => OpPost w z O2 e w'))
    (HW : Hid (∀ n w, Bg w n M2 → Calls Try.prog 27 #[.pointer (some ⟨n, 0, none⟩)] w fun e w' => WPost w Y 0 e w')) :
    Calls Try.prog 20 #[.agg #[.int .u32 (a : Int), .int .u32 (b : Int), .int .u32 (c : Int)], .int .i64 (lo : Int), .int .i64 (n : Int), .int .u64 (v : Int)] w fun e w' => PutPost w Y 0 e w' := by
  have HI : Hid (∀ w, Calls Try.prog 40 #[.int .i64 (lo : Int), .int .i64 (n : Int)] w fun e w' => e = .returned (.bool true) ∧ w' = w) := fun w => fieldMay_yes lo n w hf
  obtain ⟨f1, f2, f3, f4⟩ := hf
  have HT : Hid (Trio ((w.alloc (.cells #[.int .u32 (a : Int), .int .u32 (b : Int), .int .u32 (c : Int)] 24)).alloc (.cells #[.int .u32 0, .int .u32 0, .int .u32 0] 24)) w.heap.size (.int .u32 (a : Int)) (.int .u32 (b : Int)) (.int .u32 (c : Int))) := (trio_new _ _ _ _).alloc _
  have HR : Hid (Trio ((w.alloc (.cells #[.int .u32 (a : Int), .int .u32 (b : Int), .int .u32 (c : Int)] 24)).alloc (.cells #[.int .u32 0, .int .u32 0, .int .u32 0] 24)) (w.heap.size + 1) (.int .u32 0) (.int .u32 0) (.int .u32 0)) := trio_b _ _ _ _ _
  have HB : Hid (Below w.heap.size w ((w.alloc (.cells #[.int .u32 (a : Int), .int .u32 (b : Int), .int .u32 (c : Int)] 24)).alloc (.cells #[.int .u32 0, .int .u32 0, .int .u32 0] 24))) := bel2 _ _ _
  have hd : (n : Int) < 64 := by omega
  have hsh : (v : Int) / 2 ^ n = 0 := by
    have : ((v / 2 ^ n : Nat) : Int) = 0 := by rw [Nat.div_eq_of_lt hv]; rfl
    rw [Int.natCast_ediv, Int.natCast_pow] at this
    exact this
  clear hv
  have c0 := HT.out.c0
  have c1 := HT.out.c1
  have c2 := HT.out.c2
  go_enter Try.func20, Try.ntmps20
  go_wp2_with fail
  refine (HI.out _).mono ?_
  rintro e w' ⟨rfl, rfl⟩
  go_wp2_with fail
  refine (HF.out _).mono ?_
  rintro e W1 ⟨rfl, hb1⟩
  have T1 := HT.out.below hb1
  have HR1 : Hid (Trio W1 (w.heap.size + 1) (.int .u32 0) (.int .u32 0) (.int .u32 0)) := HR.out.below hb1
  have HT1 : Hid (Trio W1 w.heap.size (.int .u32 (a : Int)) (.int .u32 (b : Int)) (.int .u32 (c : Int))) := T1
  have HB1 : Hid (Below w.heap.size w W1) := HB.out.trans (hb1.mono HB.out.size)
  have hW1 := HR1.out.lt
  clear c0 c1 c2 hb1 HT HR HB HF HI
  have c0 := T1.c0
  have c1 := T1.c1
  have c2 := T1.c2
  clear T1
  go_wp2_with fail
  refine (big96_any a b c _ ha hb hc).mono ?_
  rintro e W2 ⟨x, rfl, hx, hg, hb2⟩
  rw [HV.out] at hg
  have H0 : Hid (Pf w W2 a b c x V) := ⟨HB1.out.trans (hb2.mono HB1.out.size), HT1.out.below hb2, HR1.out.below hb2, hg, by omega⟩
  have hxf : w.heap.size + 2 ≤ x := by omega
  clear hg hb2 hx c0 c1 c2 HT1 HR1 HB1 hW1
  have A1 : Hid (Pf w ((W2.alloc (.cells #[.bool false, .slice none 0 0] 53)).alloc (.cells #[.bool false, .slice none 0 0] 53)) a b c x V) := (H0.out.alloc _).alloc _
  have O11 : Hid (Ob ((W2.alloc (.cells #[.bool false, .slice none 0 0] 53)).alloc (.cells #[.bool false, .slice none 0 0] 53)) W2.heap.size) := (ob_new W2).below ((Below.refl _ _).alloc (Nat.le_refl _) _)
  have O21 : Hid (Ob ((W2.alloc (.cells #[.bool false, .slice none 0 0] 53)).alloc (.cells #[.bool false, .slice none 0 0] 53)) (W2.heap.size + 1)) := by
    show Ob _ _
    have := ob_new (W2.alloc (.cells #[.bool false, .slice none 0 0] 53))
    simpa using this
  have hx1 := H0.out.num.ob.lt
  have hs1 : w.heap.size + 2 ≤ W2.heap.size := by have := H0.out.far; omega
  clear H0
  go_wp2_with fail
  refine (setUint_any (W2.heap.size + 1) old _ O21.out hold).mono ?_
  rintro e u1 ⟨rfl, hg, hex⟩
  have B1 : Hid (Pf w u1 a b c x V) := A1.out.ex O21.out hex (by omega) (by omega)
  have S1 : Hid (Bg u1 (W2.heap.size + 1) old) := hg
  have Q1 : Hid (Ob u1 W2.heap.size) := O11.out.ex hex (by omega)
  clear hg hex A1 O11 O21
  go_wp2_with fail
  refine (HL1.out _ _ _ S1.out Q1.out (by omega)).mono ?_
  rintro e v1 ⟨rfl, hg, hex⟩
  have C1 : Hid (Pf w v1 a b c x V) := B1.out.ex Q1.out hex (by omega) (by omega)
  have T1 : Hid (Bg v1 W2.heap.size O1) := hg
  clear hg hex B1 S1 Q1
  go_wp2_with fail
  refine (Sub_any x x W2.heap.size V O1 _ C1.out.num T1.out C1.out.num.ob (by omega) HLn.out.1 HLn.out.2.1 hle).mono ?_
  rintro e W3 ⟨rfl, hg, hex⟩
  rw [HE.out.1] at hg
  have H1 : Hid (Pf w W3 a b c x M1) := C1.out.op hg hex
  clear hg hex C1 T1 hx1 hs1
  have A2 : Hid (Pf w ((W3.alloc (.cells #[.bool false, .slice none 0 0] 53)).alloc (.cells #[.bool false, .slice none 0 0] 53)) a b c x M1) := (H1.out.alloc _).alloc _
  have O12 : Hid (Ob ((W3.alloc (.cells #[.bool false, .slice none 0 0] 53)).alloc (.cells #[.bool false, .slice none 0 0] 53)) W3.heap.size) := (ob_new W3).below ((Below.refl _ _).alloc (Nat.le_refl _) _)
  have O22 : Hid (Ob ((W3.alloc (.cells #[.bool false, .slice none 0 0] 53)).alloc (.cells #[.bool false, .slice none 0 0] 53)) (W3.heap.size + 1)) := by
    show Ob _ _
    have := ob_new (W3.alloc (.cells #[.bool false, .slice none 0 0] 53))
    simpa using this
  have hx2 := H1.out.num.ob.lt
  have hs2 : w.heap.size + 2 ≤ W3.heap.size := by have := H1.out.far; omega
  clear H1
  go_wp2_with fail
  refine (setUint_any (W3.heap.size + 1) v _ O22.out hv64).mono ?_
  rintro e u2 ⟨rfl, hg, hex⟩
  have B2 : Hid (Pf w u2 a b c x M1) := A2.out.ex O22.out hex (by omega) (by omega)
  have S2 : Hid (Bg u2 (W3.heap.size + 1) v) := hg
  have Q2 : Hid (Ob u2 W3.heap.size) := O12.out.ex hex (by omega)
  clear hg hex A2 O12 O22
  go_wp2_with fail
  refine (HL2.out _ _ _ S2.out Q2.out (by omega)).mono ?_
  rintro e v2 ⟨rfl, hg, hex⟩
  have C2 : Hid (Pf w v2 a b c x M1) := B2.out.ex Q2.out hex (by omega) (by omega)
  have T2 : Hid (Bg v2 W3.heap.size O2) := hg
  clear hg hex B2 S2 Q2
  go_wp2_with fail
  refine (Add_any x x W3.heap.size M1 O2 _ C2.out.num T2.out C2.out.num.ob (by omega) HLn.out.2.2.1 HLn.out.2.2.2).mono ?_
  rintro e W4 ⟨rfl, hg, hex⟩
  rw [HE.out.2] at hg
  have H2 : Hid (Pf w W4 a b c x M2) := C2.out.op hg hex
  clear hg hex C2 T2 hx2 hs2
  go_wp2_with fail
  refine (HW.out x _ H2.out.num).mono ?_
  rintro e W5 ⟨rfl, hb5⟩
  have P5 := H2.out.next hb5
  have P6 := P5.alloc (.cells #[.int .u32 Y.a, .int .u32 Y.b, .int .u32 Y.c] 24)
  have R6 := P6.res
  have HR6 : Hid (Trio (W5.alloc (.cells #[.int .u32 Y.a, .int .u32 Y.b, .int .u32 Y.c] 24)) (w.heap.size + 1) (.int .u32 0) (.int .u32 0) (.int .u32 0)) := R6
  have HB6 : Hid (Below w.heap.size w (W5.alloc (.cells #[.int .u32 Y.a, .int .u32 Y.b, .int .u32 Y.c] 24))) := P6.below
  have r0 := R6.c0
  have r1 := R6.c1
  have r2 := R6.c2
  have g0 := R6.free 0
  have g1 := R6.free 1
  have g2 := R6.free 2
  have s0 := P5.res.c0
  have s1 := P5.res.c1
  have s2 := P5.res.c2
  have t0 := P5.res.free 0
  have t1 := P5.res.free 1
  have t2 := P5.res.free 2
  clear hb5 P5 P6 R6 H2 HW
  go_wp2_with fail
  have RR := HR6.out.put (.int .u32 Y.a) (.int .u32 Y.b) (.int .u32 Y.c)
  refine bodyPost_ret (v := .tuple #[.agg #[.int .u32 Y.a, .int .u32 Y.b, .int .u32 Y.c], .int .i64 0]) (by simp [results, Try.results20, RR.c0, RR.c1, RR.c2, go_sem]) rfl ⟨rfl, below_put3 HB6.out _ _ _ _ (by omega)⟩

end Go.Proofs.Ytopbiamlmdpphaa.words
