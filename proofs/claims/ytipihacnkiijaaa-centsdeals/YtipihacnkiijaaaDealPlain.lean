/- What is dealt out: plain facts on shares, on what was rounded away, and on who gets a cent more. -/
import Derived.Test.YtipihacnkiijaaaDealOk
namespace Go.Proofs.Ytipihacnkiijaaa.cents

def sumTo (g : Nat → Int) : Nat → Int
  | 0 => 0
  | k + 1 => sumTo g k + g k

theorem sumTo_add (g h : Nat → Int) (n : Nat) : sumTo (fun i => g i + h i) n = sumTo g n + sumTo h n := by
  induction n with
  | zero => rfl
  | succ n ih => simp only [sumTo, ih]; omega
theorem sumTo_congr {g h : Nat → Int} {n : Nat} (e : ∀ i, i < n → g i = h i) : sumTo g n = sumTo h n := by
  induction n with
  | zero => rfl
  | succ n ih => simp only [sumTo]; rw [ih fun i hi => e i (by omega), e n (by omega)]
theorem sumTo_mul (c : Int) (g : Nat → Int) (n : Nat) : sumTo (fun i => c * g i) n = c * sumTo g n := by
  induction n with
  | zero => simp [sumTo]
  | succ n ih => simp only [sumTo, ih]; rw [Int.mul_add]
theorem sumTo_range (g : Nat → Int) (n : Nat) : ((List.range n).map g).sum = sumTo g n := by
  induction n with
  | zero => rfl
  | succ n ih => rw [List.range_succ, List.map_append, List.sum_append, ih]; simp [sumTo]
theorem sumTo_list (l : List Int) : sumTo (fun i => l.getD i 0) l.length = l.sum := by
  rw [← sumTo_range]
  congr 1
  apply List.ext_getElem?
  intro i
  by_cases h : i < l.length
  · simp [h]
  · rw [List.getElem?_eq_none (by simp; omega), List.getElem?_eq_none (by omega)]
theorem sumTo_bd {g : Nat → Int} {n : Nat} {c : Int} (h : ∀ i, i < n → 0 ≤ g i ∧ g i < c) : 0 ≤ sumTo g n ∧ (sumTo g n < c * n ∨ n = 0) := by
  induction n with
  | zero => simp [sumTo]
  | succ n ih =>
    obtain ⟨i1, i2⟩ := ih fun i hi => h i (by omega)
    have hn := h n (by omega)
    simp only [sumTo]
    refine ⟨by omega, .inl ?_⟩
    have e : c * ((n + 1 : Nat) : Int) = c * (n : Int) + c := by rw [Int.natCast_add, Int.mul_add]; simp
    rw [e]
    rcases i2 with i2 | i2
    · omega
    · subst i2; simp [sumTo]; omega

variable {total all : Int} {zs : List Int} {len : Nat}

theorem lost_eq (i : Nat) : lost total all zs (i : Int) = total * zs.getD i 0 - all * share total all zs i := by
  unfold lost share
  rw [Int.toNat_natCast]
  have := Int.emod_add_mul_ediv (total * zs.getD i 0) all
  omega

theorem lost_bd (ha : 0 < all) (z : Int) : 0 ≤ lost total all zs z ∧ lost total all zs z < all := ⟨Int.emod_nonneg _ (by omega), Int.emod_lt_of_pos _ ha⟩

/-- What is left, times the sum of the weights, is all that was rounded away. -/
theorem left_eq (hlen : zs.length = len) (hall : zs.sum = all) : all * leftOf total all zs len = sumTo (fun i => lost total all zs (i : Int)) len := by
  have e1 : sumTo (fun i => lost total all zs (i : Int)) len = sumTo (fun i => total * zs.getD i 0) len - all * sumTo (share total all zs) len := by
    rw [← sumTo_mul]
    have : sumTo (fun i => total * zs.getD i 0) len = sumTo (fun i => lost total all zs (i : Int) + all * share total all zs i) len := sumTo_congr fun i _ => by rw [lost_eq]; omega
    rw [this, sumTo_add]; omega
  rw [e1, sumTo_mul, ← hlen, sumTo_list, hall]
  unfold leftOf shares
  rw [sumTo_range, hlen, Int.mul_sub, Int.mul_comm total all]

theorem left_bd (h0 : 0 < len) (hlen : zs.length = len) (hall : zs.sum = all) (ha : 0 < all) : 0 ≤ leftOf total all zs len ∧ leftOf total all zs len < len := by
  have h := left_eq (total := total) hlen hall
  have hb := sumTo_bd (g := fun i => lost total all zs (i : Int)) (n := len) (c := all) fun i _ => lost_bd ha _
  rw [← h] at hb
  constructor
  · by_cases hneg : leftOf total all zs len < 0
    · have := Int.mul_lt_mul_of_pos_left hneg ha
      rw [Int.mul_zero] at this
      omega
    · omega
  · rcases hb.2 with hb2 | hb2
    · exact Int.lt_of_mul_lt_mul_left hb2 (by omega)
    · omega

theorem bump_sum (f : Nat → Int) (t n : Nat) (h : ∀ k, k < t → 0 ≤ f k ∧ f k < n) : sumTo (fun i => bump f t i) n = t := by
  have one : ∀ (x : Int) (n : Nat), 0 ≤ x → sumTo (fun i => if x = (i : Int) then 1 else 0) n = if x < n then 1 else 0 := by
    intro x n hx
    induction n with
    | zero => simp [sumTo]; omega
    | succ n ih =>
      simp only [sumTo, ih]
      split <;> split <;> split <;> omega
  induction t with
  | zero =>
    have : ∀ n, sumTo (fun i => bump f 0 i) n = 0 := by intro n; induction n with
      | zero => rfl
      | succ n ih => rw [sumTo, ih]; rfl
    rw [this]; rfl
  | succ t ih =>
    have e : sumTo (fun i => bump f (t + 1) i) n = sumTo (fun i => bump f t i) n + sumTo (fun i => if f t = (i : Int) then 1 else 0) n := by rw [← sumTo_add]; rfl
    have ht := h t (by omega)
    rw [e, ih fun k hk => h k (by omega), one _ _ ht.1, if_pos ht.2]
    omega

/-- What is dealt out adds up. -/
theorem deal_adds (hlen : zs.length = len) (h0 : 0 < len) (hall : zs.sum = all) (ha : 0 < all) {f : Nat → Int} (hm : Mix idz f 0 len) :
    sumTo (fun i => share total all zs i + bump f (leftOf total all zs len).toNat i) len = total := by
  have hl := left_bd (total := total) h0 hlen hall ha
  rw [sumTo_add, bump_sum f _ len fun k hk => in0_of hm k (by omega), ← sumTo_range]
  have : leftOf total all zs len = total - (shares total all zs len).sum := rfl
  unfold shares at this
  omega

end Go.Proofs.Ytipihacnkiijaaa.cents
