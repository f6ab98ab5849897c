/- What the document's answer to Read gives back. -/
import Derived.Test.YtopbiamlmdpphaaBigAdded
import Derived.Test.YtopbiamlmdpphaaWReadOk
namespace Go.Proofs.Ytopbiamlmdpphaa.words
open Go.RowKit

theorem bitLen_any (z m : Nat) (w : World) (hg : Bg w z m) (hm : (dig m).length ≤ 100) :
    Calls Try.prog 36 #[.pointer (some ⟨z, 0, none⟩)] w fun e w' => LenPost w m e w' := by
  obtain ⟨xa, xn, xc, x0, x1, xr⟩ := hg.parts
  have HL : Hid (Calls Try.prog 56 #[.slice xa xn xc] w fun e w' => LenPost w m e w') := length_any xa xn xc m w xr (by rw [← xr.len]; exact hm)
  clear hg xr hm
  go_enter Try.func36, Try.ntmps36
  go_wp2_with fail
  refine HL.out.mono ?_
  rintro e w1 ⟨rfl, L, rfl, hL⟩
  have HP : Hid (LenPost w1 m (.returned (.int .i64 ((L : Nat) : Int))) w1) := ⟨rfl, L, rfl, hL⟩
  clear hL
  go_wp2_with fail
  go_ret
  exact HP.out

/-- More than 96 bits. -/
theorem bits96 {m L : Nat} (h : BitsOf m L) : 96 < L ↔ 79228162514264337593543950336 ≤ m := by
  constructor
  · intro hl
    have h0 : 0 < m := by
      rcases Nat.eq_zero_or_pos m with e | e
      · have := h.2.1 e; omega
      · exact e
    have := (h.2.2 h0).2
    have h2 : (2 : Nat) ^ 96 ≤ 2 ^ (L - 1) := Nat.pow_le_pow_right (by decide) (by omega)
    have h3 : (2 : Nat) ^ 96 = 79228162514264337593543950336 := by decide
    omega
  · intro hm
    rcases Nat.lt_or_ge 96 L with h1 | h1
    · exact h1
    · have h2 : (2 : Nat) ^ L ≤ 2 ^ 96 := Nat.pow_le_pow_right (by decide) h1
      have h3 : (2 : Nat) ^ 96 = 79228162514264337593543950336 := by decide
      have := h.1
      omega

theorem dval_lt (l : List UInt8) (h : allD l = true) : dval l < ((10 ^ l.length : Nat) : Int) := by
  induction l using snoc_ind with
  | h0 => simp [dval]
  | h1 l c ih =>
    rw [allD_append, Bool.and_eq_true] at h
    have hc := isD_bd (c := c) (by simpa [allD] using h.2)
    have := ih h.1
    rw [dval_snoc, List.length_append, List.length_singleton, Nat.pow_succ]
    omega
theorem dval_40 (l : List UInt8) (h : allD l = true) (hl : l.length ≤ 40) : dval l < 10000000000000000000000000000000000000000 := by
  have h1 := dval_lt l h
  have h2 : (10 : Nat) ^ l.length ≤ 10 ^ 40 := Nat.pow_le_pow_right (by decide) hl
  have h3 : (10 : Nat) ^ 40 = 10000000000000000000000000000000000000000 := by decide
  omega
theorem len_40 {m : Nat} (h : m < 1000000000000000000000000000000000000000000) : (dig m).length ≤ 60 := by
  have := dig_len (m := m) 5 (by omega)
  omega

theorem dig8_yes (z : Int) (w : World) (h1 : 48 ≤ z) (h2 : z ≤ 57) :
    Calls Try.prog 35 #[.int .u8 z] w fun e w' => e = .returned (.bool true) ∧ w' = w := by
  go_enter Try.func35, Try.ntmps35
  go_wp2
  go_ret
  exact ⟨rfl, rfl⟩
theorem dig8_no (z : Int) (w : World) (h : z < 48 ∨ 57 < z) :
    Calls Try.prog 35 #[.int .u8 z] w fun e w' => e = .returned (.bool false) ∧ w' = w := by
  by_cases h0 : z < 48
  · clear h
    go_enter Try.func35, Try.ntmps35
    go_wp2
    go_ret
    exact ⟨rfl, rfl⟩
  · have h1 : 48 ≤ z := by omega
    have h2 : decide (z ≤ 57) = false := by simp; omega
    clear h h0
    go_enter Try.func35, Try.ntmps35
    go_wp2
    go_ret
    exact ⟨rfl, rfl⟩




set_option maxHeartbeats 1000000 in
theorem wideRead_size (s : ByteArray) (w : World) (h : 40 < s.size) :
    Calls Try.prog 16 #[.string s] w fun e w' => e = .returned (.tuple #[wv ⟨0, 0, 0⟩, .int .i64 1]) ∧ Below w.heap.size w w' := by
  have h1 : (40 : Int) < (s.size : Int) := by omega
  have HT : Hid (Trio (w.alloc (.cells #[.int .u32 0, .int .u32 0, .int .u32 0] 24)) w.heap.size (.int .u32 0) (.int .u32 0) (.int .u32 0)) := trio_new _ _ _ _
  have HB : Hid (Below w.heap.size w (w.alloc (.cells #[.int .u32 0, .int .u32 0, .int .u32 0] 24))) := (Below.refl _ w).alloc (Nat.le_refl _) _
  go_enter Try.func16, Try.ntmps16
  go_wp2_with fail
  have RR := HT.out
  refine bodyPost_ret (v := .tuple #[.agg #[.int .u32 0, .int .u32 0, .int .u32 0], .int .i64 1]) (by simp [results, Try.results16, RR.c0, RR.c1, RR.c2, go_sem]) rfl ⟨rfl, HB.out⟩

set_option maxHeartbeats 1000000 in
theorem wideRead_empty (s : ByteArray) (w : World) (h : s.size = 0) :
    Calls Try.prog 16 #[.string s] w fun e w' => e = .returned (.tuple #[wv ⟨0, 0, 0⟩, .int .i64 3]) ∧ Below w.heap.size w w' := by
  have h1 : ¬ (40 : Int) < (s.size : Int) := by omega
  have h2 : ((s.size : Int) == 0) = true := by simp [h]
  have HT : Hid (Trio (w.alloc (.cells #[.int .u32 0, .int .u32 0, .int .u32 0] 24)) w.heap.size (.int .u32 0) (.int .u32 0) (.int .u32 0)) := trio_new _ _ _ _
  have HB : Hid (Below w.heap.size w (w.alloc (.cells #[.int .u32 0, .int .u32 0, .int .u32 0] 24))) := (Below.refl _ w).alloc (Nat.le_refl _) _
  go_enter Try.func16, Try.ntmps16
  go_wp2_with fail
  have RR := HT.out
  refine bodyPost_ret (v := .tuple #[.agg #[.int .u32 0, .int .u32 0, .int .u32 0], .int .i64 3]) (by simp [results, Try.results16, RR.c0, RR.c1, RR.c2, go_sem]) rfl ⟨rfl, HB.out⟩

set_option maxHeartbeats 1000000 in
theorem wideRead_nought (s : ByteArray) (w : World) (h : s.size ≤ 40) (hp : 1 < s.size) (hz : (s[0]).toNat = 48) :
    Calls Try.prog 16 #[.string s] w fun e w' => e = .returned (.tuple #[wv ⟨0, 0, 0⟩, .int .i64 3]) ∧ Below w.heap.size w w' := by
  have h1 : ¬ (40 : Int) < (s.size : Int) := by omega
  have h2 : ((s.size : Int) == 0) = false := beq_eq_false_iff_ne.2 (by omega)
  have h3 : (1 : Int) < (s.size : Int) := by omega
  have h4 : ((((s[0]).toNat : Nat) : Int) == 48) = true := by rw [hz]; rfl
  have hp0 : 0 < s.size := by omega
  have HT : Hid (Trio (w.alloc (.cells #[.int .u32 0, .int .u32 0, .int .u32 0] 24)) w.heap.size (.int .u32 0) (.int .u32 0) (.int .u32 0)) := trio_new _ _ _ _
  have HB : Hid (Below w.heap.size w (w.alloc (.cells #[.int .u32 0, .int .u32 0, .int .u32 0] 24))) := (Below.refl _ w).alloc (Nat.le_refl _) _
  go_enter Try.func16, Try.ntmps16
  go_wp2_with fail
  have RR := HT.out
  refine bodyPost_ret (v := .tuple #[.agg #[.int .u32 0, .int .u32 0, .int .u32 0], .int .i64 3]) (by simp [results, Try.results16, RR.c0, RR.c1, RR.c2, go_sem]) rfl ⟨rfl, HB.out⟩

/-- While the document's answer reads digits: the number is M. -/
structure Rb (w wr : World) (M : Nat) : Prop where
  below : Below w.heap.size w wr
  res : Trio wr w.heap.size (.int .u32 0) (.int .u32 0) (.int .u32 0)
  num : Bg wr (w.heap.size + 1) M
theorem Rb.next {w wr w' : World} {M : Nat} (h : Rb w wr M) (hb : Below wr.heap.size wr w') : Rb w w' M := ⟨h.below.trans (hb.mono h.below.size), h.res.below hb, h.num.below hb⟩
theorem Rb.op {w wr w' : World} {M M' : Nat} (h : Rb w wr M) (hg : Bg w' (w.heap.size + 1) M') (he : Ex wr w' (w.heap.size + 1)) : Rb w w' M' := ⟨he.below h.below (by omega), h.res.ex he (by omega), hg⟩

/-- What the document's answer gives back where the form is not told by the beginning. -/
def RefPost (w : World) (l : List UInt8) (e : Ending) (w' : World) : Prop :=
  (allD l = true ∧ ReadPost w (dval l) e w') ∨ (allD l = false ∧ e = .returned (.tuple #[wv ⟨0, 0, 0⟩, .int .i64 3]) ∧ Below w.heap.size w w')

theorem allD_no (s : ByteArray) (k : Nat) (h : k < s.size) (hn : isD s[k] = false) : allD s.data.toList = false := by
  have e : s.data.toList = s.data.toList.take k ++ [s[k]] ++ s.data.toList.drop (k + 1) := by rw [← take_snoc s k h, List.take_append_drop]
  rw [e, allD_append, allD_append]
  simp [allD, hn]
theorem isD_no8 {c : UInt8} (h : ((c.toNat : Nat) : Int) < 48 ∨ 57 < ((c.toNat : Nat) : Int)) : isD c = false := by simp [isD]; omega
theorem isD_yes8 {c : UInt8} (h1 : 48 ≤ ((c.toNat : Nat) : Int)) (h2 : ((c.toNat : Nat) : Int) ≤ 57) : isD c = true := by simp [isD]; omega
theorem rb_new (w : World) : Rb w ((w.alloc (.cells #[.int .u32 0, .int .u32 0, .int .u32 0] 24)).alloc (.cells #[.bool false, .slice none 0 0] 53)) 0 := by
  refine ⟨bel2 _ _ _, (trio_new _ _ _ _).alloc _, none, 0, 0, ?_, by rw [dig_zero]; exact ru_nil _⟩
  show ((w.heap.push _).push _)[w.heap.size + 1]? = _
  have : w.heap.size + 1 = (w.heap.push (.cells #[.int .u32 0, .int .u32 0, .int .u32 0] 24)).size := by simp
  rw [this, Array.getElem?_push_size]

set_option maxHeartbeats 4000000 in
theorem wideRead_one (s : ByteArray) (w : World) (h : s.size ≤ 40) (h0 : s.size = 1) :
    Calls Try.prog 16 #[.string s] w fun e w' => RefPost w s.data.toList e w' := by
  have h1 : ¬ (40 : Int) < (s.size : Int) := by omega
  have h2 : ((s.size : Int) == 0) = false := by simp [h0]
  have h3 : decide ((1 : Int) < (s.size : Int)) = false := by simp [h0]
  clear h0
  have HR0 : Hid (Rb w ((w.alloc (.cells #[.int .u32 0, .int .u32 0, .int .u32 0] 24)).alloc (.cells #[.bool false, .slice none 0 0] 53)) 0) := rb_new w
  have HNI : Hid (∀ (x : Nat) (w : World), x < 1000 → Calls Try.prog 26 #[.int .i64 (x : Int)] w fun e w' => NewPost w x e w') := fun x w hx => newInt_any x w (by omega)
  go_enter Try.func16, Try.ntmps16
  go_wp2_with fail
  go_loopw [5] (fun i wr => ∃ (k M : Nat), k ≤ s.size ∧ i = .int .i64 (k : Int) ∧ allD (s.data.toList.take k) = true ∧ (M : Int) = dval (s.data.toList.take k) ∧ Rb w wr M) (fun i _ => s.size - (intOf i).toNat)
  case atStart => exact ⟨0, 0, Nat.zero_le _, rfl, rfl, rfl, HR0.out⟩
  case round =>
    obtain ⟨k, M, hk, rfl, hok, hM, hrb⟩ := hrel
    have HK : Hid (allD (s.data.toList.take k) = true ∧ (M : Int) = dval (s.data.toList.take k)) := ⟨hok, hM⟩
    have hMb : M < 10000000000000000000000000000000000000000 := by
      have := dval_40 _ hok (by rw [List.length_take, Array.length_toList]; exact Nat.le_trans (Nat.min_le_right _ _) h)
      omega
    have HRB : Hid (Rb w wr M) := hrb
    have nl := hrb.num.ob.lt
    clear hok hM hrb HR0
    by_cases hp : k < s.size
    · have HT : Hid (s.data.toList.take (k + 1) = s.data.toList.take k ++ [s[k]]) := take_snoc s k hp
      by_cases hdg : ((s[k].toNat : Nat) : Int) < 48 ∨ 57 < ((s[k].toNat : Nat) : Int)
      · have HX : Hid (((s[k].toNat : Nat) : Int) < 48 ∨ 57 < ((s[k].toNat : Nat) : Int)) := hdg
        have HN : Hid (allD s.data.toList = false) := allD_no s k hp (isD_no8 hdg)
        have r0 := HRB.out.res.c0
        have r1 := HRB.out.res.c1
        have r2 := HRB.out.res.c2
        have g0 := HRB.out.res.free 0
        have g1 := HRB.out.res.free 1
        have g2 := HRB.out.res.free 2
        clear hdg
        go_wp2_with fail
        refine (dig8_no _ _ HX.out).mono ?_
        rintro e w' ⟨rfl, rfl⟩
        go_wp2_with fail
        have RR := HRB.out.res.put (.int .u32 0) (.int .u32 0) (.int .u32 0)
        refine bodyPost_ret (v := .tuple #[.agg #[.int .u32 0, .int .u32 0, .int .u32 0], .int .i64 3]) (by simp [results, Try.results16, RR.c0, RR.c1, RR.c2, go_sem]) rfl (.inr ⟨HN.out, rfl, below_put3 HRB.out.below _ _ _ _ (Nat.le_refl _)⟩)
      · have c1 : 48 ≤ ((s[k].toNat : Nat) : Int) := by omega
        have c2 : ((s[k].toNat : Nat) : Int) ≤ 57 := by omega
        have HX : Hid (48 ≤ ((s[k].toNat : Nat) : Int) ∧ ((s[k].toNat : Nat) : Int) ≤ 57) := ⟨c1, c2⟩
        obtain ⟨dg, hdgn⟩ : ∃ dg : Nat, ((s[k].toNat : Nat) : Int) - 48 = (dg : Int) := ⟨s[k].toNat - 48, by omega⟩
        have hdl : dg < 10 := by omega
        have HNX : Hid (allD (s.data.toList.take (k + 1)) = true ∧ ((M * 10 + dg : Nat) : Int) = dval (s.data.toList.take (k + 1))) := by
          constructor
          · rw [HT.out, allD_append, HK.out.1]; simp [allD, isD_yes8 c1 c2]
          · rw [HT.out, dval_snoc, ← HK.out.2]; omega
        clear hdg HT HK
        go_wp2_with fail
        refine (dig8_yes _ _ HX.out.1 HX.out.2).mono ?_
        rintro e w' ⟨rfl, rfl⟩
        go_wp2_with fail
        refine (HNI.out 10 _ (by omega)).mono ?_
        rintro e w1 ⟨q, rfl, hq, hgq, hb1⟩
        have R1 : Hid (Rb w w1 M) := HRB.out.next hb1
        have HQ : Hid (Bg w1 q 10) := hgq
        have hqn : q ≠ w.heap.size + 1 := by omega
        clear hb1 hgq HRB
        go_wp2_with fail
        refine (Mul_any (w.heap.size + 1) (w.heap.size + 1) q M 10 _ R1.out.num HQ.out R1.out.num.ob hqn (by have := len_40 (m := M) (by omega); omega) (by have := len_40 (m := 10) (by omega); omega)).mono ?_
        rintro e w2 ⟨rfl, hg2, hex⟩
        have R2 : Hid (Rb w w2 (M * 10)) := R1.out.op hg2 hex
        have nl2 := hg2.ob.lt
        clear hg2 hex R1 HQ hqn hq nl
        go_wp2_with fail
        refine (HNI.out dg _ (by omega)).mono ?_
        rintro e w3 ⟨q3, rfl, hq3, hgq3, hb3⟩
        have R3 : Hid (Rb w w3 (M * 10)) := R2.out.next hb3
        have HQ3 : Hid (Bg w3 q3 dg) := hgq3
        have hqn3 : q3 ≠ w.heap.size + 1 := by omega
        clear hb3 hgq3 R2
        go_wp2_with fail
        refine (Add_any (w.heap.size + 1) (w.heap.size + 1) q3 (M * 10) dg _ R3.out.num HQ3.out R3.out.num.ob hqn3 (by have := len_40 (m := M * 10) (by omega); omega) (by have := len_40 (m := dg) (by omega); omega)).mono ?_
        rintro e w4 ⟨rfl, hg4, hex4⟩
        have R4 : Hid (Rb w w4 (M * 10 + dg)) := R3.out.op hg4 hex4
        clear hg4 hex4 R3 HQ3 hqn3 hq3 nl2 hdgn c1 c2 HX
        go_wp2_with fail
        go_roundw
        case rel => exact ⟨k + 1, M * 10 + dg, by omega, by go_num, HNX.out.1, HNX.out.2, R4.out⟩
        case measure => simp [intOf]; omega
    · have HD : Hid (allD s.data.toList = true ∧ (M : Int) = dval s.data.toList) := by
        have h := HK.out
        rw [List.take_of_length_le (by simp; omega)] at h
        exact h
      clear HK
      go_wp2_with fail
      refine (bitLen_any (w.heap.size + 1) M _ HRB.out.num (by have := len_40 (m := M) (by omega); omega)).mono ?_
      rintro e w1 ⟨rfl, L, rfl, hL, hLb⟩
      have HL : Hid (96 < L ↔ 79228162514264337593543950336 ≤ M) := bits96 hL
      clear hL
      by_cases h96 : 96 < L
      · have h96' : (96 : Int) < (L : Int) := by omega
        have HM : Hid (top ≤ dval s.data.toList) := by
          have h1 := HL.out.1 h96
          have h2 := HD.out.2
          show top ≤ _
          rw [← h2]; unfold top; omega
        have r0 := HRB.out.res.c0
        have r1 := HRB.out.res.c1
        have r2 := HRB.out.res.c2
        have g0 := HRB.out.res.free 0
        have g1 := HRB.out.res.free 1
        have g2 := HRB.out.res.free 2
        clear h96 HL
        go_wp2_with fail
        have RR := HRB.out.res.put (.int .u32 0) (.int .u32 0) (.int .u32 0)
        refine bodyPost_ret (v := .tuple #[.agg #[.int .u32 0, .int .u32 0, .int .u32 0], .int .i64 2]) (by simp [results, Try.results16, RR.c0, RR.c1, RR.c2, go_sem]) rfl (.inl ⟨HD.out.1, .inr ⟨HM.out, rfl⟩, below_put3 HRB.out.below _ _ _ _ (Nat.le_refl _)⟩)
      · have h96' : ¬ (96 : Int) < (L : Int) := by omega
        have hMt : M < 79228162514264337593543950336 := by
          have := HL.out.2
          omega
        have HM : Hid (dval s.data.toList < top) := by
          have h2 := HD.out.2
          show _ < top
          rw [← h2]; unfold top; omega
        have hval : (ofVal (dval s.data.toList)).val + 0 * top = (M : Int) := by
          rw [← HD.out.2, ofVal_val (by omega) (by unfold top; omega)]; omega
        have HW : Hid (Calls Try.prog 27 #[.pointer (some ⟨w.heap.size + 1, 0, none⟩)] w1 fun e w' => WPost w1 (ofVal (dval s.data.toList)) 0 e w') := wide96_W (w.heap.size + 1) M _ 0 w1 HRB.out.num (ofVal_ok _) (by omega) (by omega) hval
        clear h96 HL hMt hval
        generalize hYY : ofVal (dval s.data.toList) = Y at *
        have HY : Hid (ofVal (dval s.data.toList) = Y) := hYY
        clear hYY
        go_wp2_with fail
        refine HW.out.mono ?_
        rintro e w2 ⟨rfl, hb2⟩
        have R2 := HRB.out.next hb2
        have T2 := R2.res.alloc (.cells #[.int .u32 Y.a, .int .u32 Y.b, .int .u32 Y.c] 24)
        have HB2 : Hid (Below w.heap.size w (w2.alloc (.cells #[.int .u32 Y.a, .int .u32 Y.b, .int .u32 Y.c] 24))) := R2.below.alloc R2.below.size _
        have HT2 : Hid (Trio (w2.alloc (.cells #[.int .u32 Y.a, .int .u32 Y.b, .int .u32 Y.c] 24)) w.heap.size (.int .u32 0) (.int .u32 0) (.int .u32 0)) := T2
        have r0 := T2.c0
        have r1 := T2.c1
        have r2 := T2.c2
        have g0 := T2.free 0
        have g1 := T2.free 1
        have g2 := T2.free 2
        have R2r := R2.res
        have s0 := R2r.c0
        have s1 := R2r.c1
        have s2 := R2r.c2
        have t0 := R2r.free 0
        have t1 := R2r.free 1
        have t2 := R2r.free 2
        have HB3 : Hid (Below w.heap.size w w2) := R2.below
        have HT3 : Hid (Trio w2 w.heap.size (.int .u32 0) (.int .u32 0) (.int .u32 0)) := R2r
        clear hb2 R2 T2 HRB HW R2r
        go_wp2_with fail
        have RR := HT2.out.put (.int .u32 Y.a) (.int .u32 Y.b) (.int .u32 Y.c)
        refine bodyPost_ret (v := .tuple #[.agg #[.int .u32 Y.a, .int .u32 Y.b, .int .u32 Y.c], .int .i64 0]) (by simp [results, Try.results16, RR.c0, RR.c1, RR.c2, go_sem]) rfl (.inl ⟨HD.out.1, .inl ⟨HM.out, by rw [HY.out]⟩, below_put3 HB2.out _ _ _ _ (Nat.le_refl _)⟩)

set_option maxHeartbeats 4000000 in
theorem wideRead_more (s : ByteArray) (w : World) (h : s.size ≤ 40) (hp1 : 1 < s.size) (hz : (s[0]).toNat ≠ 48) :
    Calls Try.prog 16 #[.string s] w fun e w' => RefPost w s.data.toList e w' := by
  have h1 : ¬ (40 : Int) < (s.size : Int) := by omega
  have h2 : ((s.size : Int) == 0) = false := beq_eq_false_iff_ne.2 (by omega)
  have h3 : (1 : Int) < (s.size : Int) := by omega
  have hp0 : 0 < s.size := by omega
  have h4 : ((((s[0]).toNat : Nat) : Int) == 48) = false := beq_eq_false_iff_ne.2 (by omega)
  clear hz
  have HR0 : Hid (Rb w ((w.alloc (.cells #[.int .u32 0, .int .u32 0, .int .u32 0] 24)).alloc (.cells #[.bool false, .slice none 0 0] 53)) 0) := rb_new w
  have HNI : Hid (∀ (x : Nat) (w : World), x < 1000 → Calls Try.prog 26 #[.int .i64 (x : Int)] w fun e w' => NewPost w x e w') := fun x w hx => newInt_any x w (by omega)
  go_enter Try.func16, Try.ntmps16
  go_wp2_with fail
  go_loopw [5] (fun i wr => ∃ (k M : Nat), k ≤ s.size ∧ i = .int .i64 (k : Int) ∧ allD (s.data.toList.take k) = true ∧ (M : Int) = dval (s.data.toList.take k) ∧ Rb w wr M) (fun i _ => s.size - (intOf i).toNat)
  case atStart => exact ⟨0, 0, Nat.zero_le _, rfl, rfl, rfl, HR0.out⟩
  case round =>
    obtain ⟨k, M, hk, rfl, hok, hM, hrb⟩ := hrel
    have HK : Hid (allD (s.data.toList.take k) = true ∧ (M : Int) = dval (s.data.toList.take k)) := ⟨hok, hM⟩
    have hMb : M < 10000000000000000000000000000000000000000 := by
      have := dval_40 _ hok (by rw [List.length_take, Array.length_toList]; exact Nat.le_trans (Nat.min_le_right _ _) h)
      omega
    have HRB : Hid (Rb w wr M) := hrb
    have nl := hrb.num.ob.lt
    clear hok hM hrb HR0
    by_cases hp : k < s.size
    · have HT : Hid (s.data.toList.take (k + 1) = s.data.toList.take k ++ [s[k]]) := take_snoc s k hp
      by_cases hdg : ((s[k].toNat : Nat) : Int) < 48 ∨ 57 < ((s[k].toNat : Nat) : Int)
      · have HX : Hid (((s[k].toNat : Nat) : Int) < 48 ∨ 57 < ((s[k].toNat : Nat) : Int)) := hdg
        have HN : Hid (allD s.data.toList = false) := allD_no s k hp (isD_no8 hdg)
        have r0 := HRB.out.res.c0
        have r1 := HRB.out.res.c1
        have r2 := HRB.out.res.c2
        have g0 := HRB.out.res.free 0
        have g1 := HRB.out.res.free 1
        have g2 := HRB.out.res.free 2
        clear hdg
        go_wp2_with fail
        refine (dig8_no _ _ HX.out).mono ?_
        rintro e w' ⟨rfl, rfl⟩
        go_wp2_with fail
        have RR := HRB.out.res.put (.int .u32 0) (.int .u32 0) (.int .u32 0)
        refine bodyPost_ret (v := .tuple #[.agg #[.int .u32 0, .int .u32 0, .int .u32 0], .int .i64 3]) (by simp [results, Try.results16, RR.c0, RR.c1, RR.c2, go_sem]) rfl (.inr ⟨HN.out, rfl, below_put3 HRB.out.below _ _ _ _ (Nat.le_refl _)⟩)
      · have c1 : 48 ≤ ((s[k].toNat : Nat) : Int) := by omega
        have c2 : ((s[k].toNat : Nat) : Int) ≤ 57 := by omega
        have HX : Hid (48 ≤ ((s[k].toNat : Nat) : Int) ∧ ((s[k].toNat : Nat) : Int) ≤ 57) := ⟨c1, c2⟩
        obtain ⟨dg, hdgn⟩ : ∃ dg : Nat, ((s[k].toNat : Nat) : Int) - 48 = (dg : Int) := ⟨s[k].toNat - 48, by omega⟩
        have hdl : dg < 10 := by omega
        have HNX : Hid (allD (s.data.toList.take (k + 1)) = true ∧ ((M * 10 + dg : Nat) : Int) = dval (s.data.toList.take (k + 1))) := by
          constructor
          · rw [HT.out, allD_append, HK.out.1]; simp [allD, isD_yes8 c1 c2]
          · rw [HT.out, dval_snoc, ← HK.out.2]; omega
        clear hdg HT HK
        go_wp2_with fail
        refine (dig8_yes _ _ HX.out.1 HX.out.2).mono ?_
        rintro e w' ⟨rfl, rfl⟩
        go_wp2_with fail
        refine (HNI.out 10 _ (by omega)).mono ?_
        rintro e w1 ⟨q, rfl, hq, hgq, hb1⟩
        have R1 : Hid (Rb w w1 M) := HRB.out.next hb1
        have HQ : Hid (Bg w1 q 10) := hgq
        have hqn : q ≠ w.heap.size + 1 := by omega
        clear hb1 hgq HRB
        go_wp2_with fail
        refine (Mul_any (w.heap.size + 1) (w.heap.size + 1) q M 10 _ R1.out.num HQ.out R1.out.num.ob hqn (by have := len_40 (m := M) (by omega); omega) (by have := len_40 (m := 10) (by omega); omega)).mono ?_
        rintro e w2 ⟨rfl, hg2, hex⟩
        have R2 : Hid (Rb w w2 (M * 10)) := R1.out.op hg2 hex
        have nl2 := hg2.ob.lt
        clear hg2 hex R1 HQ hqn hq nl
        go_wp2_with fail
        refine (HNI.out dg _ (by omega)).mono ?_
        rintro e w3 ⟨q3, rfl, hq3, hgq3, hb3⟩
        have R3 : Hid (Rb w w3 (M * 10)) := R2.out.next hb3
        have HQ3 : Hid (Bg w3 q3 dg) := hgq3
        have hqn3 : q3 ≠ w.heap.size + 1 := by omega
        clear hb3 hgq3 R2
        go_wp2_with fail
        refine (Add_any (w.heap.size + 1) (w.heap.size + 1) q3 (M * 10) dg _ R3.out.num HQ3.out R3.out.num.ob hqn3 (by have := len_40 (m := M * 10) (by omega); omega) (by have := len_40 (m := dg) (by omega); omega)).mono ?_
        rintro e w4 ⟨rfl, hg4, hex4⟩
        have R4 : Hid (Rb w w4 (M * 10 + dg)) := R3.out.op hg4 hex4
        clear hg4 hex4 R3 HQ3 hqn3 hq3 nl2 hdgn c1 c2 HX
        go_wp2_with fail
        go_roundw
        case rel => exact ⟨k + 1, M * 10 + dg, by omega, by go_num, HNX.out.1, HNX.out.2, R4.out⟩
        case measure => simp [intOf]; omega
    · have HD : Hid (allD s.data.toList = true ∧ (M : Int) = dval s.data.toList) := by
        have h := HK.out
        rw [List.take_of_length_le (by simp; omega)] at h
        exact h
      clear HK
      go_wp2_with fail
      refine (bitLen_any (w.heap.size + 1) M _ HRB.out.num (by have := len_40 (m := M) (by omega); omega)).mono ?_
      rintro e w1 ⟨rfl, L, rfl, hL, hLb⟩
      have HL : Hid (96 < L ↔ 79228162514264337593543950336 ≤ M) := bits96 hL
      clear hL
      by_cases h96 : 96 < L
      · have h96' : (96 : Int) < (L : Int) := by omega
        have HM : Hid (top ≤ dval s.data.toList) := by
          have h1 := HL.out.1 h96
          have h2 := HD.out.2
          show top ≤ _
          rw [← h2]; unfold top; omega
        have r0 := HRB.out.res.c0
        have r1 := HRB.out.res.c1
        have r2 := HRB.out.res.c2
        have g0 := HRB.out.res.free 0
        have g1 := HRB.out.res.free 1
        have g2 := HRB.out.res.free 2
        clear h96 HL
        go_wp2_with fail
        have RR := HRB.out.res.put (.int .u32 0) (.int .u32 0) (.int .u32 0)
        refine bodyPost_ret (v := .tuple #[.agg #[.int .u32 0, .int .u32 0, .int .u32 0], .int .i64 2]) (by simp [results, Try.results16, RR.c0, RR.c1, RR.c2, go_sem]) rfl (.inl ⟨HD.out.1, .inr ⟨HM.out, rfl⟩, below_put3 HRB.out.below _ _ _ _ (Nat.le_refl _)⟩)
      · have h96' : ¬ (96 : Int) < (L : Int) := by omega
        have hMt : M < 79228162514264337593543950336 := by
          have := HL.out.2
          omega
        have HM : Hid (dval s.data.toList < top) := by
          have h2 := HD.out.2
          show _ < top
          rw [← h2]; unfold top; omega
        have hval : (ofVal (dval s.data.toList)).val + 0 * top = (M : Int) := by
          rw [← HD.out.2, ofVal_val (by omega) (by unfold top; omega)]; omega
        have HW : Hid (Calls Try.prog 27 #[.pointer (some ⟨w.heap.size + 1, 0, none⟩)] w1 fun e w' => WPost w1 (ofVal (dval s.data.toList)) 0 e w') := wide96_W (w.heap.size + 1) M _ 0 w1 HRB.out.num (ofVal_ok _) (by omega) (by omega) hval
        clear h96 HL hMt hval
        generalize hYY : ofVal (dval s.data.toList) = Y at *
        have HY : Hid (ofVal (dval s.data.toList) = Y) := hYY
        clear hYY
        go_wp2_with fail
        refine HW.out.mono ?_
        rintro e w2 ⟨rfl, hb2⟩
        have R2 := HRB.out.next hb2
        have T2 := R2.res.alloc (.cells #[.int .u32 Y.a, .int .u32 Y.b, .int .u32 Y.c] 24)
        have HB2 : Hid (Below w.heap.size w (w2.alloc (.cells #[.int .u32 Y.a, .int .u32 Y.b, .int .u32 Y.c] 24))) := R2.below.alloc R2.below.size _
        have HT2 : Hid (Trio (w2.alloc (.cells #[.int .u32 Y.a, .int .u32 Y.b, .int .u32 Y.c] 24)) w.heap.size (.int .u32 0) (.int .u32 0) (.int .u32 0)) := T2
        have r0 := T2.c0
        have r1 := T2.c1
        have r2 := T2.c2
        have g0 := T2.free 0
        have g1 := T2.free 1
        have g2 := T2.free 2
        have R2r := R2.res
        have s0 := R2r.c0
        have s1 := R2r.c1
        have s2 := R2r.c2
        have t0 := R2r.free 0
        have t1 := R2r.free 1
        have t2 := R2r.free 2
        have HB3 : Hid (Below w.heap.size w w2) := R2.below
        have HT3 : Hid (Trio w2 w.heap.size (.int .u32 0) (.int .u32 0) (.int .u32 0)) := R2r
        clear hb2 R2 T2 HRB HW R2r
        go_wp2_with fail
        have RR := HT2.out.put (.int .u32 Y.a) (.int .u32 Y.b) (.int .u32 Y.c)
        refine bodyPost_ret (v := .tuple #[.agg #[.int .u32 Y.a, .int .u32 Y.b, .int .u32 Y.c], .int .i64 0]) (by simp [results, Try.results16, RR.c0, RR.c1, RR.c2, go_sem]) rfl (.inl ⟨HD.out.1, .inl ⟨HM.out, by rw [HY.out]⟩, below_put3 HB2.out _ _ _ _ (Nat.le_refl _)⟩)

theorem whole_at (s : ByteArray) (h : 0 < s.size) : s.data.toList.head? = some s[0] := by
  rw [List.head?_eq_getElem?, List.getElem?_eq_getElem (by simpa using h)]; rfl

/-- What the document's answer to Read gives back. -/
theorem wideRead_any (s : ByteArray) (w : World) (h : s.size ≤ 40) :
    Calls Try.prog 16 #[.string s] w fun e w' => (whole s.data.toList = true ∧ ReadPost w (dval s.data.toList) e w') ∨ (whole s.data.toList = false ∧ e = .returned (.tuple #[wv ⟨0, 0, 0⟩, .int .i64 3]) ∧ Below w.heap.size w w') := by
  have ln : s.data.toList.length = s.size := Array.length_toList
  rcases (by omega : s.size = 0 ∨ s.size = 1 ∨ 1 < s.size) with h0 | h0 | h0
  · have e : s.data.toList = [] := List.eq_nil_of_length_eq_zero (by omega)
    refine (wideRead_empty s w h0).mono fun e' w' hp => .inr ⟨by rw [e]; rfl, hp⟩
  · have e : whole s.data.toList = allD s.data.toList := by
      obtain ⟨c, hc⟩ : ∃ c, s.data.toList = [c] := by
        match hl : s.data.toList, ln with
        | [c], _ => exact ⟨c, rfl⟩
        | [], h => simp at h; omega
        | _ :: _ :: _, h => simp at h; omega
      rw [hc]
      by_cases h48 : c = 48
      · subst h48; rfl
      · have h1 : ([c] == [48]) = false := by simpa using h48
        have h2 : (some c != some 48) = true := by simpa using h48
        unfold whole
        rw [h1]
        simp [h48]
    rw [e]
    exact wideRead_one s w h h0
  · have hh := whole_at s (by omega)
    by_cases hz : (s[0]).toNat = 48
    · refine (wideRead_nought s w h h0 hz).mono fun e' w' hp => .inr ⟨?_, hp⟩
      have e48 : s[0] = 48 := UInt8.toNat_inj.1 hz
      have h1 : (s.data.toList == [48]) = false := by
        rw [beq_eq_false_iff_ne]
        intro e
        rw [e] at ln
        simp at ln; omega
      unfold whole
      rw [h1, hh, e48]
      simp
    · have e : whole s.data.toList = allD s.data.toList := by
        have h1 : (s.data.toList == [48]) = false := by
          rw [beq_eq_false_iff_ne]
          intro e
          rw [e] at ln
          simp at ln; omega
        have h2 : (s.data.toList != []) = true := by
          rw [bne_iff_ne]
          intro e
          rw [e] at ln
          simp at ln; omega
        have h3 : (some s[0] != some 48) = true := by
          rw [bne_iff_ne]
          intro e
          exact hz (by rw [Option.some.inj e]; rfl)
        unfold whole
        rw [h1, h2, hh, h3, Bool.false_or, Bool.true_and, Bool.true_and]
      rw [e]
      exact wideRead_more s w h h0 hz

end Go.Proofs.Ytopbiamlmdpphaa.words
