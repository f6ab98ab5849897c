/- What words.Read gives back. -/
import Derived.Test.YtkhiipohdiibeaaWForm
namespace Go.Proofs.Ytkhiipohdiibeaa.words
open Go.RowKit

/-- A number's three words. -/
def ofVal (n : Int) : W3 := carry3 n 0 0
theorem ofVal_ok (n : Int) : (ofVal n).ok := carry3_ok _ _ _
theorem ofVal_val {n : Int} (h0 : 0 ≤ n) (h1 : n < top) : (ofVal n).val = n := by
  unfold ofVal carry3 W3.val; unfold top at h1; simp only; omega

/-- What P2.6 says. -/
def readV (l : List UInt8) : W3 := if 40 < l.length then ⟨0, 0, 0⟩ else if whole l then (if dval l < top then ofVal (dval l) else ⟨0, 0, 0⟩) else ⟨0, 0, 0⟩
def readE (l : List UInt8) : Int := if 40 < l.length then 1 else if whole l then (if dval l < top then 0 else 2) else 3

theorem dval_more (a b : List UInt8) (hb : allD b = true) (h0 : 0 ≤ dval a) : dval a ≤ dval (a ++ b) ∧ 0 ≤ dval (a ++ b) := by
  induction b using snoc_ind with
  | h0 => simp; exact h0
  | h1 l c ih =>
    rw [allD_append, Bool.and_eq_true] at hb
    have hc := isD_bd (c := c) (by simpa [allD] using hb.2)
    have := ih hb.1
    rw [← List.append_assoc, dval_snoc]
    omega
theorem dval_nonneg (a : List UInt8) (h : allD a = true) : 0 ≤ dval a := by
  have := (dval_more [] a h (by simp [dval])).2
  simpa using this

theorem whole_D {l : List UInt8} (h : whole l = true) : allD l = true := by
  unfold whole at h
  rw [Bool.or_eq_true] at h
  rcases h with h | h
  · have : l = [48] := by simpa using h
    rw [this]; rfl
  · simp at h; exact h.2

theorem Trio.iter {w : World} {G I : Nat} {y0 y1 y2 : Value} {s : ByteArray} {k : Nat} (h : Trio w G y0 y1 y2) (hne : G ≠ I) : Trio (w.iterAt I s k) G y0 y1 y2 := by
  unfold Trio at *
  rw [Lib.iterAt_other _ _ _ _ _ hne]; exact h

/-- One digit more. -/
theorem read_step {X : W3} (hX : X.ok) {d : Int} (d0 : 0 ≤ d) (d1 : d ≤ 9) :
    (timesO X 10 = 0 → plusO (timesW X 10) d = 0 → (plusW (timesW X 10) d).val = X.val * 10 + d) ∧ (timesO X 10 ≠ 0 ∨ plusO (timesW X 10) d ≠ 0 → top ≤ X.val * 10 + d) := by
  have h1 := times_val X 10
  have h2 := plus_val (timesW X 10) d
  have h3 := times_over hX (m := 10) (by omega) (by omega)
  have hT : (timesW X 10).ok := carry3_ok _ _ _
  have h4 := plus_over hT (x := d) d0 (by omega)
  have h5 := W3.bd hT
  have h6 : 0 ≤ (plusW (timesW X 10) d).val := (W3.bd (carry3_ok (d + (timesW X 10).a) (timesW X 10).b (timesW X 10).c)).1
  unfold top at *
  constructor
  · intro e1 e2
    rw [e1] at h1; rw [e2] at h2; omega
  · intro h
    omega

theorem take_parts (s : ByteArray) (k : Nat) (hp : k < s.size) (h : allD s.data.toList = true) : allD (s.data.toList.take k) = true ∧ isD s[k] = true ∧ allD (s.data.toList.drop (k + 1)) = true := by
  have e : s.data.toList = s.data.toList.take k ++ [s[k]] ++ s.data.toList.drop (k + 1) := by rw [← take_snoc s k hp, List.take_append_drop]
  rw [e, allD_append, allD_append, Bool.and_eq_true, Bool.and_eq_true] at h
  exact ⟨h.1.1, by simpa [allD] using h.1.2, h.2⟩

/-- A result in the variable R. -/
theorem read_ret {w' : World} {R : Nat} {a b c : Value} (h : Trio w' R a b c) : w'.cell? ⟨R, 0, none⟩ = some a ∧ w'.cell? ⟨R, 1, none⟩ = some b ∧ w'.cell? ⟨R, 2, none⟩ = some c := ⟨h.c0, h.c1, h.c2⟩

set_option maxHeartbeats 1000000 in
theorem read_size (s : ByteArray) (w : World) (h : 40 < s.size) :
    Calls Try.prog 10 #[.string s] w fun e w' => e = .returned (.tuple #[wv ⟨0, 0, 0⟩, .int .i64 1]) ∧ Below w.heap.size w w' := by
  have h1 : (40 : Int) < (s.size : Int) := by omega
  have T := trio_new w (.int .u32 0) (.int .u32 0) (.int .u32 0)
  have HT : Hid (Trio (w.alloc (.cells #[.int .u32 0, .int .u32 0, .int .u32 0] 24)) w.heap.size (.int .u32 0) (.int .u32 0) (.int .u32 0)) := T
  clear T
  go_enter Try.func10, Try.ntmps10
  go_wp2_with fail
  have RR := HT.out
  refine bodyPost_ret (v := .tuple #[.agg #[.int .u32 0, .int .u32 0, .int .u32 0], .int .i64 1]) (by simp [results, Try.results10, RR.c0, RR.c1, RR.c2, go_sem]) rfl ⟨rfl, (Below.refl _ w).alloc (Nat.le_refl _) _⟩

set_option maxHeartbeats 1000000 in
theorem read_form (s : ByteArray) (w : World) (h : s.size ≤ 40) (hf : whole s.data.toList = false) :
    Calls Try.prog 10 #[.string s] w fun e w' => e = .returned (.tuple #[wv ⟨0, 0, 0⟩, .int .i64 3]) ∧ Below w.heap.size w w' := by
  have h1 : ¬ (40 : Int) < (s.size : Int) := by omega
  have T := trio_new w (.int .u32 0) (.int .u32 0) (.int .u32 0)
  have HT : Hid (Trio (w.alloc (.cells #[.int .u32 0, .int .u32 0, .int .u32 0] 24)) w.heap.size (.int .u32 0) (.int .u32 0) (.int .u32 0)) := T
  have HB : Hid (Below w.heap.size w (w.alloc (.cells #[.int .u32 0, .int .u32 0, .int .u32 0] 24))) := (Below.refl _ w).alloc (Nat.le_refl _) _
  clear T
  go_enter Try.func10, Try.ntmps10
  go_wp2_with fail
  refine (inForm_any s _).mono ?_
  rintro e w1 ⟨rfl, hb1⟩
  rw [hf]
  have T1 := HT.out.below hb1
  have HB1 : Hid (Below w.heap.size w w1) := HB.out.trans (hb1.mono HB.out.size)
  have r0 := T1.c0
  have r1 := T1.c1
  have r2 := T1.c2
  have g0 := T1.free 0
  have g1 := T1.free 1
  have g2 := T1.free 2
  have HT1 : Hid (Trio w1 w.heap.size (.int .u32 0) (.int .u32 0) (.int .u32 0)) := T1
  clear T1 hb1 hf HT HB
  go_wp2_with fail
  have RR := HT1.out.put (.int .u32 0) (.int .u32 0) (.int .u32 0)
  refine bodyPost_ret (v := .tuple #[.agg #[.int .u32 0, .int .u32 0, .int .u32 0], .int .i64 3]) (by simp [results, Try.results10, RR.c0, RR.c1, RR.c2, go_sem]) rfl ⟨rfl, below_put3 HB1.out _ _ _ _ (Nat.le_refl _)⟩

end Go.Proofs.Ytkhiipohdiibeaa.words
