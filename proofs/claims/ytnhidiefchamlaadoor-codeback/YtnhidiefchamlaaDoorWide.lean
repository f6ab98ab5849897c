/- Wide numbers: three words of 32 bits, the least first: plain facts. -/
import Derived.Test.YtnhidiefchamlaaDoorProg
namespace Go.Proofs.YtnhidiefchamlaaDoor.words

/-- A wide number's words. -/
structure W3 where
  a : Int
  b : Int
  c : Int

def W3.ok (w : W3) : Prop := (0 ≤ w.a ∧ w.a < 4294967296) ∧ (0 ≤ w.b ∧ w.b < 4294967296) ∧ (0 ≤ w.c ∧ w.c < 4294967296)
def W3.val (w : W3) : Int := w.a + w.b * 4294967296 + w.c * 18446744073709551616
/-- 2 to the 96th. -/
def top : Int := 79228162514264337593543950336

theorem W3.bd {w : W3} (h : w.ok) : 0 ≤ w.val ∧ w.val < top := by
  obtain ⟨h1, h2, h3⟩ := h
  unfold W3.val top; omega

theorem W3.inj {x y : W3} (hx : x.ok) (hy : y.ok) (h : x.val = y.val) : x = y := by
  obtain ⟨x1, x2, x3⟩ := hx
  obtain ⟨y1, y2, y3⟩ := hy
  obtain ⟨xa, xb, xc⟩ := x
  obtain ⟨ya, yb, yc⟩ := y
  simp only [W3.val] at *
  have h1 : xa = ya := by omega
  have h2 : xb = yb := by omega
  have h3 : xc = yc := by omega
  rw [h1, h2, h3]

/-- What is made of three numbers, each carried on to the next. -/
def carry3 (p q r : Int) : W3 := ⟨p % 4294967296, (p / 4294967296 + q) % 4294967296, ((p / 4294967296 + q) / 4294967296 + r) % 4294967296⟩
def carry3o (p q r : Int) : Int := ((p / 4294967296 + q) / 4294967296 + r) / 4294967296

theorem carry3_ok (p q r : Int) : (carry3 p q r).ok := by
  unfold carry3 W3.ok; simp only; omega
theorem carry3_val (p q r : Int) : (carry3 p q r).val + carry3o p q r * top = p + q * 4294967296 + r * 18446744073709551616 := by
  unfold carry3 carry3o W3.val top; simp only; omega

/-- The sum's words, and what runs over. -/
def plusW (w : W3) (x : Int) : W3 := carry3 (x + w.a) w.b w.c
def plusO (w : W3) (x : Int) : Int := carry3o (x + w.a) w.b w.c
theorem plus_val (w : W3) (x : Int) : (plusW w x).val + plusO w x * top = w.val + x := by
  have := carry3_val (x + w.a) w.b w.c
  unfold plusW plusO
  rw [this]; unfold W3.val; omega
theorem plus_over {w : W3} (h : w.ok) {x : Int} (h0 : 0 ≤ x) (h1 : x < 4294967296) : 0 ≤ plusO w x ∧ plusO w x ≤ 1 := by
  obtain ⟨⟨a1, a2⟩, ⟨b1, b2⟩, c1, c2⟩ := h
  unfold plusO carry3o; omega

/-- The product's words, and what runs over. -/
def timesW (w : W3) (m : Int) : W3 := carry3 (w.a * m) (w.b * m) (w.c * m)
def timesO (w : W3) (m : Int) : Int := carry3o (w.a * m) (w.b * m) (w.c * m)
theorem times_val (w : W3) (m : Int) : (timesW w m).val + timesO w m * top = w.val * m := by
  have := carry3_val (w.a * m) (w.b * m) (w.c * m)
  unfold timesW timesO
  rw [this]; unfold W3.val
  rw [Int.add_mul, Int.add_mul, Int.mul_right_comm w.b, Int.mul_right_comm w.c]
theorem prod_bd {x m : Int} (x0 : 0 ≤ x) (x1 : x < 4294967296) (m0 : 0 ≤ m) (m1 : m < 4294967296) : 0 ≤ x * m ∧ x * m ≤ 4294967295 * 4294967295 :=
  ⟨Int.mul_nonneg x0 m0, Int.mul_le_mul (by omega) (by omega) m0 (by omega)⟩
theorem times_over {w : W3} (h : w.ok) {m : Int} (h0 : 0 ≤ m) (h1 : m < 4294967296) : 0 ≤ timesO w m ∧ timesO w m < 4294967296 := by
  obtain ⟨⟨a1, a2⟩, ⟨b1, b2⟩, c1, c2⟩ := h
  have p1 := prod_bd a1 a2 h0 h1
  have p2 := prod_bd b1 b2 h0 h1
  have p3 := prod_bd c1 c2 h0 h1
  unfold timesO carry3o; omega
theorem times_mod {w : W3} (m : Int) : (timesW w m).val = w.val * m % top := by
  have h := times_val w m
  have b := W3.bd (carry3_ok (w.a * m) (w.b * m) (w.c * m))
  have e : (timesW w m).val = (carry3 (w.a * m) (w.b * m) (w.c * m)).val := rfl
  rw [← h, Int.add_mul_emod_self_right, Int.emod_eq_of_lt (by omega) (by omega)]

theorem times_turns (w : W3) (x y : Int) : timesW (timesW w x) y = timesW (timesW w y) x := by
  apply W3.inj (x := timesW (timesW w x) y) (y := timesW (timesW w y) x) (carry3_ok _ _ _) (carry3_ok _ _ _)
  rw [times_mod, times_mod, times_mod, times_mod]
  rw [Int.mul_emod, Int.emod_emod, ← Int.mul_emod, Int.mul_emod (w.val * y % top), Int.emod_emod, ← Int.mul_emod, Int.mul_right_comm]
theorem times_one {w : W3} (h : w.ok) : timesW w 1 = w ∧ timesO w 1 = 0 := by
  have hv := times_val w 1
  have b := W3.bd h
  have e : (timesW w 1).val = w.val := by rw [times_mod, Int.mul_one, Int.emod_eq_of_lt b.1 b.2]
  refine ⟨W3.inj (carry3_ok _ _ _) h e, ?_⟩
  rw [e] at hv
  unfold top at hv
  omega

/-- The quotient's words, and what is left. -/
def over2 (w : W3) (d : Int) : Int := w.c % d
def over1 (w : W3) (d : Int) : Int := (over2 w d * 4294967296 + w.b) % d
def overR (w : W3) (d : Int) : Int := (over1 w d * 4294967296 + w.a) % d
def overW (w : W3) (d : Int) : W3 := ⟨(over1 w d * 4294967296 + w.a) / d, (over2 w d * 4294967296 + w.b) / d, w.c / d⟩

theorem word_div {r x d : Int} (h0 : 0 < d) (r0 : 0 ≤ r) (r1 : r < d) (x0 : 0 ≤ x) (x1 : x < 4294967296) : 0 ≤ (r * 4294967296 + x) / d ∧ (r * 4294967296 + x) / d < 4294967296 := by
  refine ⟨Int.ediv_nonneg (by omega) (by omega), ?_⟩
  rw [Int.ediv_lt_iff_lt_mul h0]
  omega
theorem over_left {w : W3} (d : Int) (h : 0 < d) : 0 ≤ overR w d ∧ overR w d < d := ⟨Int.emod_nonneg _ (by omega), Int.emod_lt_of_pos _ h⟩
theorem over_ok {w : W3} (hw : w.ok) {d : Int} (h : 0 < d) : (overW w d).ok := by
  obtain ⟨⟨a1, a2⟩, ⟨b1, b2⟩, c1, c2⟩ := hw
  have r2 : 0 ≤ over2 w d ∧ over2 w d < d := ⟨Int.emod_nonneg _ (by omega), Int.emod_lt_of_pos _ h⟩
  have r1 : 0 ≤ over1 w d ∧ over1 w d < d := ⟨Int.emod_nonneg _ (by omega), Int.emod_lt_of_pos _ h⟩
  refine ⟨word_div h r1.1 r1.2 a1 a2, word_div h r2.1 r2.2 b1 b2, ?_⟩
  have := word_div h (r := 0) (by omega) h c1 c2
  simpa [overW] using this
theorem over_val (w : W3) (d : Int) : (overW w d).val * d + overR w d = w.val := by
  have e2 := Int.emod_add_mul_ediv w.c d
  have e1 := Int.emod_add_mul_ediv (over2 w d * 4294967296 + w.b) d
  have e0 := Int.emod_add_mul_ediv (over1 w d * 4294967296 + w.a) d
  have f2 : over2 w d = w.c % d := rfl
  have f1 : over1 w d = (over2 w d * 4294967296 + w.b) % d := rfl
  have f0 : overR w d = (over1 w d * 4294967296 + w.a) % d := rfl
  rw [← f2] at e2; rw [← f1] at e1; rw [← f0] at e0
  unfold W3.val overW
  simp only
  rw [Int.add_mul, Int.add_mul, Int.mul_right_comm _ 4294967296, Int.mul_right_comm _ 18446744073709551616, Int.mul_comm _ d, Int.mul_comm _ d, Int.mul_comm _ d]
  generalize d * ((over1 w d * 4294967296 + w.a) / d) = P0 at *
  generalize d * ((over2 w d * 4294967296 + w.b) / d) = P1 at *
  generalize d * (w.c / d) = P2 at *
  omega

/-- Quotient times divisor, and what is left, is the number. -/
theorem over_back {w : W3} (hw : w.ok) {d : Int} (h : 0 < d) :
    timesO (overW w d) d = 0 ∧ plusW (timesW (overW w d) d) (overR w d) = w ∧ plusO (timesW (overW w d) d) (overR w d) = 0 := by
  have hv := over_val w d
  have hl := over_left (w := w) d h
  have hb := W3.bd hw
  have ht := times_val (overW w d) d
  have hx := W3.bd (carry3_ok ((overW w d).a * d) ((overW w d).b * d) ((overW w d).c * d))
  have hx' : 0 ≤ (timesW (overW w d) d).val ∧ (timesW (overW w d) d).val < top := hx
  have hp := plus_val (timesW (overW w d) d) (overR w d)
  have hq := W3.bd (carry3_ok (overR w d + (timesW (overW w d) d).a) (timesW (overW w d) d).b (timesW (overW w d) d).c)
  have hq' : 0 ≤ (plusW (timesW (overW w d) d) (overR w d)).val ∧ (plusW (timesW (overW w d) d) (overR w d)).val < top := hq
  have hnn : 0 ≤ (overW w d).val := (W3.bd (over_ok hw h)).1
  have hm : 0 ≤ (overW w d).val * d := Int.mul_nonneg hnn (by omega)
  unfold top at *
  have e0 : timesO (overW w d) d = 0 := by omega
  refine ⟨e0, ?_, ?_⟩
  · apply W3.inj (carry3_ok _ _ _) hw
    rw [e0] at ht
    show (plusW (timesW (overW w d) d) (overR w d)).val = w.val
    omega
  · omega

/-- As a is below b, the same, or above it. -/
def cmp3 (x y : Int) : Int := if x < y then -1 else if y < x then 1 else 0

theorem cmp_plus {w : W3} (hw : w.ok) {x : Int} (h0 : 0 ≤ x) (h1 : x < 4294967296) :
    cmp3 (plusW w x).val w.val = (if plusO w x ≠ 0 then -1 else if x = 0 then 0 else 1) ∧ cmp3 w.val (plusW w x).val = -(if plusO w x ≠ 0 then -1 else if x = 0 then 0 else 1) := by
  have hv := plus_val w x
  have ho := plus_over hw h0 h1
  have hb := W3.bd hw
  unfold top at *
  unfold cmp3
  constructor
  · repeat' split
    all_goals omega
  · repeat' split
    all_goals omega

end Go.Proofs.YtnhidiefchamlaaDoor.words
