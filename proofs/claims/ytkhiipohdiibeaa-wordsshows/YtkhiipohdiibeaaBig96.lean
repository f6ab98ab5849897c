/- A wide number as a number of any size. -/
import Derived.Test.YtkhiipohdiibeaaBigOp
namespace Go.Proofs.Ytkhiipohdiibeaa.words
open Go.RowKit

theorem len100 {m : Nat} (h : m < 4294967296 ^ 8) : (dig m).length ≤ 100 := by
  have := dig_len 8 h
  omega
theorem Trio.ex {w w' : World} {G z : Nat} {y0 y1 y2 : Value} (h : Trio w G y0 y1 y2) (he : Ex w w' z) (hne : G ≠ z) : Trio w' G y0 y1 y2 := by
  have hlt := h.lt
  unfold Trio at *
  rw [he.block G hlt hne]; exact h

/-- A step of big96: the words so far times 2^32, and the next one. -/
theorem big_bd {m x : Nat} (k : Nat) (hm : m < 4294967296 ^ k) (hx : x < 4294967296) : m * 4294967296 < 4294967296 ^ (k + 1) ∧ m * 4294967296 + x < 4294967296 ^ (k + 1) := by
  rw [Nat.pow_succ]
  have : (m + 1) * 4294967296 ≤ 4294967296 ^ k * 4294967296 := Nat.mul_le_mul_right _ hm
  rw [Nat.add_mul] at this
  omega

def big96V (a b c : Nat) : Nat := ((0 * 4294967296 + c) * 4294967296 + b) * 4294967296 + a

set_option maxHeartbeats 2000000 in
theorem big96_abs (a b c M0 M1 M2 M3 M4 : Nat) (w : World) (ha : a < 4294967296) (hb : b < 4294967296) (hc : c < 4294967296)
    (HE : Hid (0 * 4294967296 = M0 ∧ M0 + c = M1 ∧ M1 * 4294967296 = M2 ∧ M2 + b = M3 ∧ M3 * 4294967296 = M4))
    (HL : Hid ((dig 0).length ≤ 100 ∧ (dig M0).length ≤ 100 ∧ (dig M1).length ≤ 100 ∧ (dig M2).length ≤ 100 ∧ (dig M3).length ≤ 100 ∧ (dig M4).length ≤ 100 ∧ (dig 4294967296).length ≤ 100 ∧ (dig a).length ≤ 100 ∧ (dig b).length ≤ 100 ∧ (dig c).length ≤ 100)) :
    Calls Try.prog 12 #[.agg #[.int .u32 (a : Int), .int .u32 (b : Int), .int .u32 (c : Int)]] w fun e w' => NewPost w (M4 + a) e w' := by
  have HT : Hid (Trio ((w.alloc (.cells #[.int .u32 (a : Int), .int .u32 (b : Int), .int .u32 (c : Int)] 24)).alloc (.cells #[.bool false, .slice none 0 0] 47)) w.heap.size (.int .u32 (a : Int)) (.int .u32 (b : Int)) (.int .u32 (c : Int))) := (trio_new _ _ _ _).alloc _
  have HN : Hid (Bg ((w.alloc (.cells #[.int .u32 (a : Int), .int .u32 (b : Int), .int .u32 (c : Int)] 24)).alloc (.cells #[.bool false, .slice none 0 0] 47)) (w.heap.size + 1) 0) := by
    refine ⟨none, 0, 0, ?_, by rw [dig_zero]; exact ru_nil _⟩
    show ((w.heap.push _).push _)[w.heap.size + 1]? = _
    have : w.heap.size + 1 = (w.heap.push (.cells #[.int .u32 (a : Int), .int .u32 (b : Int), .int .u32 (c : Int)] 24)).size := by simp
    rw [this, Array.getElem?_push_size]
  have HB : Hid (Below w.heap.size w ((w.alloc (.cells #[.int .u32 (a : Int), .int .u32 (b : Int), .int .u32 (c : Int)] 24)).alloc (.cells #[.bool false, .slice none 0 0] 47))) := bel2 _ _ _
  go_enter Try.func12, Try.ntmps12
  go_wp2_with fail
  generalize hW : ((w.alloc (.cells #[.int .u32 (a : Int), .int .u32 (b : Int), .int .u32 (c : Int)] 24)).alloc (.cells #[.bool false, .slice none 0 0] 47)) = W at *
  clear hW
  refine wp_loop_rounds 4 ?_
  rw [rounds_succ]
  go_wp2_with fail
  refine (newInt_any 4294967296 _ (by decide)).mono ?_
  rintro e w1 ⟨q1, rfl, hq1, hg1, hb1⟩
  have T1 := HT.out.below hb1
  have N1 := HN.out.below hb1
  have B1 := HB.out.trans (hb1.mono HB.out.size)
  have nl1 := HN.out.ob.lt
  have HG1 : Hid (Bg w1 q1 4294967296) := hg1
  have ne1 : q1 ≠ w.heap.size + 1 := by omega
  have HT : Hid (Trio w1 w.heap.size (.int .u32 (a : Int)) (.int .u32 (b : Int)) (.int .u32 (c : Int))) := T1
  have HN : Hid (Bg w1 (w.heap.size + 1) 0) := N1
  have HB : Hid (Below w.heap.size w w1) := B1
  clear T1 N1 B1 hb1 hg1 hq1
  go_wp2_with fail
  refine (Mul_any (w.heap.size + 1) (w.heap.size + 1) q1 0 4294967296 _ HN.out HG1.out HN.out.ob ne1 HL.out.1 HL.out.2.2.2.2.2.2.1).mono ?_
  rintro e w2 ⟨rfl, hg2, hex⟩
  rw [HE.out.1] at hg2
  have T2 := HT.out.ex hex (by omega)
  have B2 := hex.below HB.out (by omega)
  have HT : Hid (Trio w2 w.heap.size (.int .u32 (a : Int)) (.int .u32 (b : Int)) (.int .u32 (c : Int))) := T2
  have HN : Hid (Bg w2 (w.heap.size + 1) M0) := hg2
  have HB : Hid (Below w.heap.size w w2) := B2
  have c0 := T2.c0
  have c1 := T2.c1
  have c2 := T2.c2
  clear T2 B2 hex hg2 HG1
  go_wp2_with fail
  refine (newInt_any c _ (by omega)).mono ?_
  rintro e w3 ⟨q3, rfl, hq3, hg3, hb3⟩
  have T3 := HT.out.below hb3
  have N3 := HN.out.below hb3
  have B3 := HB.out.trans (hb3.mono HB.out.size)
  have nl3 := HN.out.ob.lt
  have HG3 : Hid (Bg w3 q3 c) := hg3
  have ne3 : q3 ≠ w.heap.size + 1 := by omega
  have HT : Hid (Trio w3 w.heap.size (.int .u32 (a : Int)) (.int .u32 (b : Int)) (.int .u32 (c : Int))) := T3
  have HN : Hid (Bg w3 (w.heap.size + 1) M0) := N3
  have HB : Hid (Below w.heap.size w w3) := B3
  clear T3 N3 B3 hb3 hg3 hq3 c0 c1 c2
  go_wp2_with fail
  refine (Add_any (w.heap.size + 1) (w.heap.size + 1) q3 M0 c _ HN.out HG3.out HN.out.ob ne3 HL.out.2.1 HL.out.2.2.2.2.2.2.2.2.2).mono ?_
  rintro e W ⟨rfl, hg4, hex⟩
  rw [HE.out.2.1] at hg4
  have T4 := HT.out.ex hex (by omega)
  have B4 := hex.below HB.out (by omega)
  have HT : Hid (Trio W w.heap.size (.int .u32 (a : Int)) (.int .u32 (b : Int)) (.int .u32 (c : Int))) := T4
  have HN : Hid (Bg W (w.heap.size + 1) (M1)) := hg4
  have HB : Hid (Below w.heap.size w W) := B4
  clear T4 B4 hex hg4 HG3 ne1 ne3 nl1 nl3
  go_wp2_with fail
  rw [rounds_succ]
  go_wp2_with fail
  refine (newInt_any 4294967296 _ (by decide)).mono ?_
  rintro e w1 ⟨q1, rfl, hq1, hg1, hb1⟩
  have T1 := HT.out.below hb1
  have N1 := HN.out.below hb1
  have B1 := HB.out.trans (hb1.mono HB.out.size)
  have nl1 := HN.out.ob.lt
  have HG1 : Hid (Bg w1 q1 4294967296) := hg1
  have ne1 : q1 ≠ w.heap.size + 1 := by omega
  have HT : Hid (Trio w1 w.heap.size (.int .u32 (a : Int)) (.int .u32 (b : Int)) (.int .u32 (c : Int))) := T1
  have HN : Hid (Bg w1 (w.heap.size + 1) M1) := N1
  have HB : Hid (Below w.heap.size w w1) := B1
  clear T1 N1 B1 hb1 hg1 hq1
  go_wp2_with fail
  refine (Mul_any (w.heap.size + 1) (w.heap.size + 1) q1 M1 4294967296 _ HN.out HG1.out HN.out.ob ne1 HL.out.2.2.1 HL.out.2.2.2.2.2.2.1).mono ?_
  rintro e w2 ⟨rfl, hg2, hex⟩
  rw [HE.out.2.2.1] at hg2
  have T2 := HT.out.ex hex (by omega)
  have B2 := hex.below HB.out (by omega)
  have HT : Hid (Trio w2 w.heap.size (.int .u32 (a : Int)) (.int .u32 (b : Int)) (.int .u32 (c : Int))) := T2
  have HN : Hid (Bg w2 (w.heap.size + 1) M2) := hg2
  have HB : Hid (Below w.heap.size w w2) := B2
  have c0 := T2.c0
  have c1 := T2.c1
  have c2 := T2.c2
  clear T2 B2 hex hg2 HG1
  go_wp2_with fail
  refine (newInt_any b _ (by omega)).mono ?_
  rintro e w3 ⟨q3, rfl, hq3, hg3, hb3⟩
  have T3 := HT.out.below hb3
  have N3 := HN.out.below hb3
  have B3 := HB.out.trans (hb3.mono HB.out.size)
  have nl3 := HN.out.ob.lt
  have HG3 : Hid (Bg w3 q3 b) := hg3
  have ne3 : q3 ≠ w.heap.size + 1 := by omega
  have HT : Hid (Trio w3 w.heap.size (.int .u32 (a : Int)) (.int .u32 (b : Int)) (.int .u32 (c : Int))) := T3
  have HN : Hid (Bg w3 (w.heap.size + 1) M2) := N3
  have HB : Hid (Below w.heap.size w w3) := B3
  clear T3 N3 B3 hb3 hg3 hq3 c0 c1 c2
  go_wp2_with fail
  refine (Add_any (w.heap.size + 1) (w.heap.size + 1) q3 M2 b _ HN.out HG3.out HN.out.ob ne3 HL.out.2.2.2.1 HL.out.2.2.2.2.2.2.2.2.1).mono ?_
  rintro e W ⟨rfl, hg4, hex⟩
  rw [HE.out.2.2.2.1] at hg4
  have T4 := HT.out.ex hex (by omega)
  have B4 := hex.below HB.out (by omega)
  have HT : Hid (Trio W w.heap.size (.int .u32 (a : Int)) (.int .u32 (b : Int)) (.int .u32 (c : Int))) := T4
  have HN : Hid (Bg W (w.heap.size + 1) (M3)) := hg4
  have HB : Hid (Below w.heap.size w W) := B4
  clear T4 B4 hex hg4 HG3 ne1 ne3 nl1 nl3
  go_wp2_with fail
  rw [rounds_succ]
  go_wp2_with fail
  refine (newInt_any 4294967296 _ (by decide)).mono ?_
  rintro e w1 ⟨q1, rfl, hq1, hg1, hb1⟩
  have T1 := HT.out.below hb1
  have N1 := HN.out.below hb1
  have B1 := HB.out.trans (hb1.mono HB.out.size)
  have nl1 := HN.out.ob.lt
  have HG1 : Hid (Bg w1 q1 4294967296) := hg1
  have ne1 : q1 ≠ w.heap.size + 1 := by omega
  have HT : Hid (Trio w1 w.heap.size (.int .u32 (a : Int)) (.int .u32 (b : Int)) (.int .u32 (c : Int))) := T1
  have HN : Hid (Bg w1 (w.heap.size + 1) M3) := N1
  have HB : Hid (Below w.heap.size w w1) := B1
  clear T1 N1 B1 hb1 hg1 hq1
  go_wp2_with fail
  refine (Mul_any (w.heap.size + 1) (w.heap.size + 1) q1 M3 4294967296 _ HN.out HG1.out HN.out.ob ne1 HL.out.2.2.2.2.1 HL.out.2.2.2.2.2.2.1).mono ?_
  rintro e w2 ⟨rfl, hg2, hex⟩
  rw [HE.out.2.2.2.2] at hg2
  have T2 := HT.out.ex hex (by omega)
  have B2 := hex.below HB.out (by omega)
  have HT : Hid (Trio w2 w.heap.size (.int .u32 (a : Int)) (.int .u32 (b : Int)) (.int .u32 (c : Int))) := T2
  have HN : Hid (Bg w2 (w.heap.size + 1) M4) := hg2
  have HB : Hid (Below w.heap.size w w2) := B2
  have c0 := T2.c0
  have c1 := T2.c1
  have c2 := T2.c2
  clear T2 B2 hex hg2 HG1
  go_wp2_with fail
  refine (newInt_any a _ (by omega)).mono ?_
  rintro e w3 ⟨q3, rfl, hq3, hg3, hb3⟩
  have T3 := HT.out.below hb3
  have N3 := HN.out.below hb3
  have B3 := HB.out.trans (hb3.mono HB.out.size)
  have nl3 := HN.out.ob.lt
  have HG3 : Hid (Bg w3 q3 a) := hg3
  have ne3 : q3 ≠ w.heap.size + 1 := by omega
  have HT : Hid (Trio w3 w.heap.size (.int .u32 (a : Int)) (.int .u32 (b : Int)) (.int .u32 (c : Int))) := T3
  have HN : Hid (Bg w3 (w.heap.size + 1) M4) := N3
  have HB : Hid (Below w.heap.size w w3) := B3
  clear T3 N3 B3 hb3 hg3 hq3 c0 c1 c2
  go_wp2_with fail
  refine (Add_any (w.heap.size + 1) (w.heap.size + 1) q3 M4 a _ HN.out HG3.out HN.out.ob ne3 HL.out.2.2.2.2.2.1 HL.out.2.2.2.2.2.2.2.1).mono ?_
  rintro e W ⟨rfl, hg4, hex⟩
  have T4 := HT.out.ex hex (by omega)
  have B4 := hex.below HB.out (by omega)
  have HT : Hid (Trio W w.heap.size (.int .u32 (a : Int)) (.int .u32 (b : Int)) (.int .u32 (c : Int))) := T4
  have HN : Hid (Bg W (w.heap.size + 1) (M4 + a)) := hg4
  have HB : Hid (Below w.heap.size w W) := B4
  clear T4 B4 hex hg4 HG3 ne1 ne3 nl1 nl3
  go_wp2_with fail
  rw [rounds_succ]
  go_wp2_with fail
  go_ret
  exact NewPost.mk (by omega) HN.out HB.out

theorem big96_any (a b c : Nat) (w : World) (ha : a < 4294967296) (hb : b < 4294967296) (hc : c < 4294967296) :
    Calls Try.prog 12 #[.agg #[.int .u32 (a : Int), .int .u32 (b : Int), .int .u32 (c : Int)]] w fun e w' => NewPost w (big96V a b c) e w' := by
  have m1 := big_bd (m := 0) (x := c) 1 (by decide) hc
  have m2 := big_bd (m := 0 * 4294967296 + c) (x := b) 2 m1.2 hb
  have m3 := big_bd (m := (0 * 4294967296 + c) * 4294967296 + b) (x := a) 3 m2.2 ha
  have hs : ∀ k, k ≤ 8 → ∀ m, m < 4294967296 ^ k → (dig m).length ≤ 100 := fun k hk m hm => len100 (Nat.lt_of_lt_of_le hm (Nat.pow_le_pow_right (by decide) hk))
  have h1 : ∀ x, x < 4294967296 → (dig x).length ≤ 100 := fun x hx => hs 1 (by omega) x (by rw [Nat.pow_one]; exact hx)
  have hB : (dig 4294967296).length ≤ 100 := hs 2 (by omega) _ (by decide)
  have h0 : (dig 0).length ≤ 100 := by rw [dig_zero]; simp
  exact big96_abs a b c _ _ _ _ _ w ha hb hc ⟨rfl, rfl, rfl, rfl, rfl⟩ ⟨h0, hs 2 (by omega) _ m1.1, hs 2 (by omega) _ m1.2, hs 3 (by omega) _ m2.1, hs 3 (by omega) _ m2.2, hs 4 (by omega) _ m3.1, hB, h1 a ha, h1 b hb, h1 c hc⟩

end Go.Proofs.Ytkhiipohdiibeaa.words
