/- Each gets its share, rounded down or up; who weighs more gets no less: plain facts. -/
import Derived.Test.YtipihacnkiijaaaDealPlain
namespace Go.Proofs.Ytipihacnkiijaaa.cents

variable {total all : Int} {zs : List Int} {len : Nat} {f : Nat → Int} {key : Int → Int}

theorem inj_of (hs : Srt key f 0 len) {i j : Nat} (hi : i < len) (hj : j < len) (h : f i = f j) : i = j := by
  by_cases h1 : i < j
  · have := hs i j (Nat.zero_le _) h1 hj
    unfold Lo at this; rw [h] at this; omega
  · by_cases h2 : j < i
    · have := hs j i (Nat.zero_le _) h2 hi
      unfold Lo at this; rw [h] at this; omega
    · omega

theorem bump_none {t i : Nat} (h : ∀ k, k < t → f k ≠ (i : Int)) : bump f t i = 0 := by
  induction t with
  | zero => rfl
  | succ t ih => rw [bump, ih fun k hk => h k (by omega), if_neg (h t (by omega))]; rfl

theorem bump_one (hs : Srt key f 0 len) {t i k : Nat} (ht : t ≤ len) (hk : k < t) (h : f k = (i : Int)) : bump f t i = 1 := by
  induction t with
  | zero => omega
  | succ t ih =>
    rw [bump]
    by_cases e : k = t
    · subst e
      rw [if_pos h, bump_none]
      · rfl
      · intro j hj hj2
        have := inj_of hs (i := j) (j := k) (by omega) (by omega) (by rw [hj2, h])
        omega
    · rw [ih (by omega) (by omega), if_neg]
      · rfl
      · intro h2
        have := inj_of hs (i := t) (j := k) (by omega) (by omega) (by rw [h2, h])
        exact e this.symm

theorem bump_cases (hs : Srt key f 0 len) {t i : Nat} (ht : t ≤ len) : bump f t i = 0 ∨ (bump f t i = 1 ∧ ∃ k, k < t ∧ f k = (i : Int)) := by
  by_cases h : ∃ k, k < t ∧ f k = (i : Int)
  · obtain ⟨k, hk, e⟩ := h
    exact .inr ⟨bump_one hs ht hk e, k, hk, e⟩
  · exact .inl (bump_none fun k hk e => h ⟨k, hk, e⟩)

theorem sum_bump (g : Nat → Int) (t n : Nat) (h : ∀ k, k < t → 0 ≤ f k ∧ f k < n) : sumTo (fun i => g i * bump f t i) n = sumTo (fun k => g (f k).toNat) t := by
  have one : ∀ (x : Int) (n : Nat), 0 ≤ x → sumTo (fun i => if x = (i : Int) then g i else 0) n = if x < n then g x.toNat else 0 := by
    intro x n hx
    induction n with
    | zero => simp [sumTo]; omega
    | succ n ih =>
      simp only [sumTo, ih]
      by_cases e : x = (n : Int)
      · subst e; rw [if_neg (by omega), if_pos rfl, if_pos (by omega)]; simp
      · rw [if_neg e]
        by_cases e2 : x < n
        · rw [if_pos e2, if_pos (by omega)]; omega
        · rw [if_neg e2, if_neg (by omega)]; omega
  induction t with
  | zero =>
    have : ∀ n, sumTo (fun i => g i * bump f 0 i) n = 0 := by intro n; induction n with
      | zero => rfl
      | succ n ih => rw [sumTo, ih]; simp [bump]
    rw [this]; rfl
  | succ t ih =>
    have e : sumTo (fun i => g i * bump f (t + 1) i) n = sumTo (fun i => g i * bump f t i) n + sumTo (fun i => if f t = (i : Int) then g i else 0) n := by
      rw [← sumTo_add]
      apply sumTo_congr
      intro i _
      simp only [bump]
      rw [Int.mul_add]
      split <;> simp
    have ht := h t (by omega)
    rw [e, ih fun k hk => h k (by omega), one _ _ ht.1, if_pos ht.2]
    rfl

/-- Whatever is summed over all places may be summed in the order of f. -/
theorem sum_order (g : Nat → Int) (hm : Mix idz f 0 len) (hs : Srt key f 0 len) : sumTo (fun k => g (f k).toNat) len = sumTo g len := by
  rw [← sum_bump g len len fun k hk => in0_of hm k hk]
  apply sumTo_congr
  intro i hi
  obtain ⟨k, _, hk, e⟩ := hm.to i (Nat.zero_le _) hi
  rw [bump_one hs (Nat.le_refl _) hk e]
  omega

theorem sumTo_le {g h : Nat → Int} {n : Nat} (e : ∀ i, i < n → g i ≤ h i) : sumTo g n ≤ sumTo h n := by
  induction n with
  | zero => exact Int.le_refl _
  | succ n ih =>
    simp only [sumTo]
    have := ih fun i hi => e i (by omega)
    have := e n (by omega)
    omega

theorem sumTo_cut (c : Int) (k n : Nat) (h : k ≤ n) : sumTo (fun p => if p < k then c else 0) n = c * k := by
  induction n with
  | zero => have : k = 0 := by omega
            subst this; simp [sumTo]
  | succ n ih =>
    rw [sumTo]
    by_cases e : k ≤ n
    · rw [ih e, if_neg (by omega)]; omega
    · have e2 : k = n + 1 := by omega
      subst e2
      have : sumTo (fun p => if p < n + 1 then c else 0) n = sumTo (fun p => if p < n then c else 0) n := sumTo_congr fun i hi => by rw [if_pos (by omega), if_pos hi]
      rw [this, if_pos (by omega)]
      have hn : ∀ m, sumTo (fun p => if p < m then c else 0) m = c * m := by
        intro m
        have : sumTo (fun p => if p < m then c else 0) m = sumTo (fun _ => c) m := sumTo_congr fun i hi => by rw [if_pos hi]
        rw [this]
        clear this
        induction m with
        | zero => simp [sumTo]
        | succ m ihm => rw [sumTo, ihm, Int.natCast_add, Int.mul_add]; simp
      rw [hn, Int.natCast_add, Int.mul_add]; simp

/-- Who gets a cent more, of him something was rounded away. -/
theorem lost_pos (h0 : 0 < len) (hlen : zs.length = len) (hall : zs.sum = all) (ha : 0 < all) (hm : Mix idz f 0 len) (hs : Srt (lost total all zs) f 0 len) {i k : Nat} (hk : k < (leftOf total all zs len).toNat) (e : f k = (i : Int)) :
    0 < lost total all zs (i : Int) := by
  have hl := left_bd (total := total) h0 hlen hall ha
  have heq := left_eq (total := total) hlen hall
  have hb := lost_bd (total := total) (zs := zs) ha (i : Int)
  by_cases hz : lost total all zs (i : Int) = 0
  · exfalso
    rw [← sum_order (fun i => lost total all zs (i : Int)) hm hs] at heq
    have hle : sumTo (fun p => lost total all zs (((f p).toNat : Nat) : Int)) len ≤ sumTo (fun p => if p < k then all else 0) len := by
      apply sumTo_le
      intro p hp
      have hp2 := in0_of hm p hp
      rw [Int.toNat_of_nonneg hp2.1]
      by_cases h1 : p < k
      · rw [if_pos h1]; have := lost_bd (total := total) (zs := zs) ha (f p); omega
      · rw [if_neg h1]
        by_cases h2 : p = k
        · subst h2; rw [e, hz]; exact Int.le_refl _
        · have := hs k p (Nat.zero_le _) (by omega) hp
          unfold Lo at this
          rw [e, hz] at this
          omega
    rw [sumTo_cut _ _ _ (by omega)] at hle
    rw [← heq] at hle
    have := Int.le_of_mul_le_mul_left hle ha
    omega
  · omega

/-- Each gets its share, rounded down or up. -/
theorem deal_fair (h0 : 0 < len) (hlen : zs.length = len) (hall : zs.sum = all) (ha : 0 < all) (hm : Mix idz f 0 len) (hs : Srt (lost total all zs) f 0 len) (i : Nat) :
    total * zs.getD i 0 / all ≤ share total all zs i + bump f (leftOf total all zs len).toNat i ∧ share total all zs i + bump f (leftOf total all zs len).toNat i ≤ (total * zs.getD i 0 + all - 1) / all := by
  have hl := left_bd (total := total) h0 hlen hall ha
  have hsh : share total all zs i = total * zs.getD i 0 / all := rfl
  have hlo := lost_eq (total := total) (all := all) (zs := zs) i
  rcases bump_cases (i := i) hs (t := (leftOf total all zs len).toNat) (by omega) with h | ⟨h, k, hk, e⟩
  · rw [h, hsh]
    refine ⟨by omega, ?_⟩
    rw [Int.add_zero]
    exact Int.ediv_le_ediv ha (by omega)
  · have hp := lost_pos h0 hlen hall ha hm hs hk e
    rw [h, ← hsh]
    refine ⟨by omega, ?_⟩
    rw [Int.le_ediv_iff_mul_le ha, Int.add_mul, Int.mul_comm (share total all zs i) all]
    omega

/-- Who weighs more gets no less; of alike ones the first gets no less. -/
theorem deal_rises (ht : 0 ≤ total) (h0 : 0 < len) (hlen : zs.length = len) (hall : zs.sum = all) (ha : 0 < all) (hm : Mix idz f 0 len) (hs : Srt (lost total all zs) f 0 len) (i j : Nat) (hi : i < len) (hj : j < len)
    (h : zs.getD j 0 < zs.getD i 0 ∨ (zs.getD i 0 = zs.getD j 0 ∧ i < j)) :
    share total all zs j + bump f (leftOf total all zs len).toNat j ≤ share total all zs i + bump f (leftOf total all zs len).toNat i := by
  have hl := left_bd (total := total) h0 hlen hall ha
  have hle : zs.getD j 0 ≤ zs.getD i 0 := by omega
  have hmul : total * zs.getD j 0 ≤ total * zs.getD i 0 := Int.mul_le_mul_of_nonneg_left hle ht
  have hsh : share total all zs j ≤ share total all zs i := Int.ediv_le_ediv ha hmul
  have hlj := lost_eq (total := total) (all := all) (zs := zs) j
  have hli := lost_eq (total := total) (all := all) (zs := zs) i
  rcases bump_cases (i := j) hs (t := (leftOf total all zs len).toNat) (by omega) with hbj | ⟨hbj, q, hq, eq⟩
  · have := (bump_bd f (leftOf total all zs len).toNat i).1
    omega
  · rcases bump_cases (i := i) hs (t := (leftOf total all zs len).toNat) (by omega) with hbi | ⟨hbi, _⟩
    · by_cases hlt : share total all zs j < share total all zs i
      · omega
      · exfalso
        have he : share total all zs j = share total all zs i := by omega
        have hpos := lost_pos h0 hlen hall ha hm hs hq eq
        obtain ⟨p, _, hp, ep⟩ := hm.to i (Nat.zero_le _) hi
        have ep' : f p = (i : Int) := ep
        have hlo : Lo (lost total all zs) (i : Int) (j : Int) := by
          unfold Lo
          rw [hlj, hli, he]
          rcases h with h | ⟨h, hij⟩
          · left
            by_cases hT : total = 0
            · exfalso
              subst hT
              rw [lost] at hpos
              simp at hpos
            · have := Int.mul_lt_mul_of_pos_left h (show 0 < total by omega)
              omega
          · right
            rw [h]
            omega
        have hpq : p < q := by
          by_cases h1 : p < q
          · exact h1
          · exfalso
            by_cases h2 : p = q
            · subst h2
              rw [ep'] at eq
              have : i = j := by omega
              subst this
              unfold Lo at hlo
              omega
            · have := hs q p (Nat.zero_le _) (by omega) hp
              rw [eq, ep'] at this
              unfold Lo at this hlo
              omega
        have := bump_one (i := i) hs (t := (leftOf total all zs len).toNat) (by omega) (show p < _ by omega) ep'
        omega
    · omega

end Go.Proofs.Ytipihacnkiijaaa.cents
