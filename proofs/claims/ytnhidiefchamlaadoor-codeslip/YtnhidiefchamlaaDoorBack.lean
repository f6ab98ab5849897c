/- What is shown is read, and what is read is shown as it was: plain facts on the two texts. -/
import Derived.Test.YtnhidiefchamlaaDoorPlain
import Derived.Test.YtnhidiefchamlaaDoorShowT
namespace Go.Proofs.YtnhidiefchamlaaDoor.cents

theorem dg_toNat {d : Nat} (h : d < 10) : (UInt8.ofNat (48 + d)).toNat = 48 + d := by
  simp [UInt8.toNat_ofNat']; omega

theorem dg_isD {d : Nat} (h : d < 10) : isD (UInt8.ofNat (48 + d)) = true := by
  unfold isD; rw [dg_toNat h]; simp; omega

theorem allD_one {c : UInt8} (h : isD c = true) : allD [c] = true := by unfold allD; rw [List.all_cons, h]; rfl
theorem allD_two {c d : UInt8} (h : isD c = true) (h2 : isD d = true) : allD [c, d] = true := by unfold allD; rw [List.all_cons, List.all_cons, h, h2]; rfl
theorem head_app {x y : List UInt8} (h : x ≠ []) : (x ++ y).head? = x.head? := by
  cases x with
  | nil => exact absurd rfl h
  | cons a t => rfl

theorem dval_one (c : UInt8) : dval [c] = (c.toNat : Int) - 48 := by simp [dval]

theorem dec_step {u : Nat} (h : ¬ u < 10) : Lib.decDigits u = Lib.decDigits (u / 10) ++ [UInt8.ofNat (48 + u % 10)] := by
  rw [Lib.decDigits, dif_neg h]

theorem dec_facts (k : Nat) : ∀ u, u ≤ k → allD (Lib.decDigits u) = true ∧ dval (Lib.decDigits u) = u ∧ Lib.decDigits u ≠ [] ∧ (0 < u → (Lib.decDigits u).head? ≠ some 48) := by
  induction k with
  | zero =>
    intro u hu
    obtain rfl : u = 0 := by omega
    rw [Lib.decDigits_one (by omega)]
    exact ⟨rfl, rfl, by simp, by omega⟩
  | succ k ih =>
    intro u hu
    by_cases h : u < 10
    · rw [Lib.decDigits_one h]
      refine ⟨allD_one (dg_isD h), ?_, by simp, fun h0 => ?_⟩
      · rw [dval_one, dg_toNat h]; omega
      · simp only [List.head?_cons, ne_eq, Option.some.injEq]
        intro e
        have := congrArg UInt8.toNat e
        rw [dg_toNat h] at this
        have e2 : (48 : UInt8).toNat = 48 := rfl
        omega
    · obtain ⟨i1, i2, i3, i4⟩ := ih (u / 10) (by omega)
      rw [dec_step h]
      have hd : u % 10 < 10 := by omega
      refine ⟨by rw [allD_append, i1, allD_one (dg_isD hd)]; rfl, ?_, by simp, fun _ => ?_⟩
      · rw [dval_snoc, i2, dg_toNat hd]; omega
      · rw [head_app i3]
        exact i4 (by omega)

theorem dec_whole (u : Nat) : whole (Lib.decDigits u) = true := by
  obtain ⟨h1, _, h3, h4⟩ := dec_facts u u (Nat.le_refl _)
  unfold whole
  by_cases h0 : u = 0
  · subst h0
    rw [Lib.decDigits_one (by omega)]
    rfl
  · have h5 := h4 (by omega)
    have e2 : (Lib.decDigits u != []) = true := by simpa using h3
    have e3 : ((Lib.decDigits u).head? != some 48) = true := by simpa using h5
    rw [e2, e3, h1]
    simp

/-- Digits without noughts ahead are those of their number. -/
theorem dec_back (u : List UInt8) (h : whole u = true) : Lib.decDigits (dval u).toNat = u := by
  have key : ∀ u : List UInt8, allD u = true → u ≠ [] → (u.head? ≠ some 48 ∨ u = [48]) → Lib.decDigits (dval u).toNat = u ∧ (u.head? ≠ some 48 → 0 < dval u) := by
    intro u
    induction u using snoc_ind with
    | h0 => intro _ h; exact absurd rfl h
    | h1 v c ih =>
      intro hD _ hh
      rw [allD_append, Bool.and_eq_true] at hD
      have hc := isD_bd (c := c) (by simpa [allD] using hD.2)
      by_cases hv : v = []
      · subst hv
        rw [List.nil_append, dval_one]
        refine ⟨?_, fun h0 => ?_⟩
        · rw [Lib.decDigits_one (by omega)]
          have e : 48 + ((c.toNat : Int) - 48).toNat = c.toNat := by omega
          rw [e, UInt8.ofNat_toNat]
        · have : c.toNat ≠ 48 := by
            intro e
            apply h0
            have : c = 48 := UInt8.toNat_inj.1 e
            simp [this]
          omega
      · have hh2 : v.head? ≠ some 48 := by
          rcases hh with hh | hh
          · rwa [head_app hv] at hh
          · exfalso
            have := congrArg List.length hh
            simp at this
            exact hv this
        obtain ⟨i1, i2⟩ := ih hD.1 hv (.inl hh2)
        have hp := i2 hh2
        rw [dval_snoc]
        refine ⟨?_, fun _ => by omega⟩
        rw [dec_step (by omega)]
        have e1 : (dval v * 10 + ((c.toNat : Int) - 48)).toNat / 10 = (dval v).toNat := by omega
        have e2 : 48 + (dval v * 10 + ((c.toNat : Int) - 48)).toNat % 10 = c.toNat := by omega
        rw [e1, e2, i1, UInt8.ofNat_toNat]
  refine (key u (whole_D h) ?_ ?_).1
  · intro e; rw [e] at h; simp [whole] at h
  · unfold whole at h
    rw [Bool.or_eq_true] at h
    rcases h with h | h
    · right; simpa using h
    · left
      rw [Bool.and_eq_true, Bool.and_eq_true] at h
      simpa using h.1.2

/-- The two digits of the cents. -/
theorem showP_eq (m : Int) : showP m = Lib.decDigits (m / 100).toNat ++ 46 :: [UInt8.ofNat (48 + (m / 10 % 10).toNat), UInt8.ofNat (48 + (m % 10).toNat)] := by
  unfold showP
  rw [Lib.decDigits_one (i := (m / 10 % 10).toNat) (by omega), Lib.decDigits_one (i := (m % 10).toNat) (by omega)]
  simp

theorem showP_form (m : Int) (h : 0 ≤ m) : form (showP m) = true ∧ dval (units (showP m) ++ rests (showP m)) = m := by
  rw [showP_eq m]
  have d1 : (m / 10 % 10).toNat < 10 := by omega
  have d2 : (m % 10).toNat < 10 := by omega
  obtain ⟨f1, f2, f3⟩ := form_mk (u := Lib.decDigits (m / 100).toNat) (r := [UInt8.ofNat (48 + (m / 10 % 10).toNat), UInt8.ofNat (48 + (m % 10).toNat)]) (dec_whole _) rfl (allD_two (dg_isD d1) (dg_isD d2))
  refine ⟨f1, ?_⟩
  rw [f2, f3]
  have e : Lib.decDigits (m / 100).toNat ++ [UInt8.ofNat (48 + (m / 10 % 10).toNat), UInt8.ofNat (48 + (m % 10).toNat)] = (Lib.decDigits (m / 100).toNat ++ [UInt8.ofNat (48 + (m / 10 % 10).toNat)]) ++ [UInt8.ofNat (48 + (m % 10).toNat)] := by simp
  rw [e, dval_snoc, dval_snoc, dg_toNat d1, dg_toNat d2, (dec_facts _ _ (Nat.le_refl _)).2.1]
  omega

theorem showP_pos (m : Int) : neg (showP m) = false := by
  rw [showP_eq m]
  obtain ⟨h1, _, h3, _⟩ := dec_facts (m / 100).toNat _ (Nat.le_refl _)
  unfold neg
  rw [head_app h3]
  cases hd : Lib.decDigits (m / 100).toNat with
  | nil => exact absurd hd h3
  | cons a t =>
    rw [hd] at h1
    have ha : isD a = true := by simp [allD] at h1; exact h1.1
    simp only [List.head?_cons]
    rw [beq_eq_false_iff_ne]
    intro e
    rw [Option.some.inj e] at ha
    cases ha

theorem showP_len (m : Int) (h : 0 ≤ m) (h2 : m ≤ 1000000000000) : (showP m).length ≤ 19 := by
  rw [showP_eq m]
  have : (Lib.decDigits (m / 100).toNat).length ≤ 16 := by rw [Lib.decDigits_length]; exact ndig16 _ (by omega)
  simp; omega

theorem read_shown (n : Int) (h0 : -1000000000000 ≤ n) (h1 : n ≤ 1000000000000) : readR (showT n) = (n, 0) := by
  unfold showT
  by_cases hn : n < 0
  · rw [if_pos hn]
    have hl := showP_len (-n) (by omega) (by omega)
    obtain ⟨hf, hd⟩ := showP_form (-n) (by omega)
    have hng : neg (45 :: showP (-n)) = true := rfl
    have hb : body (45 :: showP (-n)) = showP (-n) := rfl
    have hz : ¬ (45 :: showP (-n)) = [45, 48, 46, 48, 48] := by
      intro e
      have := (neg_zero hng (by rw [hb]; exact hf)).2 e
      rw [hb, hd] at this
      omega
    rw [readR_good (by simp; omega) (by rw [hb]; exact hf) hz, hb, hd, if_neg (by omega), hng]
    simp
  · rw [if_neg hn]
    have hl := showP_len n (by omega) (by omega)
    obtain ⟨hf, hd⟩ := showP_form n (by omega)
    have hng := showP_pos n
    have hb : body (showP n) = showP n := by unfold body; rw [hng]; rfl
    have hz : ¬ showP n = [45, 48, 46, 48, 48] := by
      intro e; rw [e] at hng; cases hng
    rw [readR_good (by omega) (by rw [hb]; exact hf) hz, hb, hd, if_neg (by omega), hng]
    simp

theorem form_shown {t : List UInt8} (h : form t = true) : 0 ≤ dval (units t ++ rests t) ∧ showP (dval (units t ++ rests t)) = t := by
  obtain ⟨u, r, e, hr, hu, hd, e1, e2⟩ := form_split h
  rw [e1, e2]
  match r, hr with
  | [x, y], _ =>
    have hx := isD_bd (c := x) (by simp [allD] at hd; exact hd.1)
    have hy := isD_bd (c := y) (by simp [allD] at hd; exact hd.2)
    have hn := (cval_eq u (whole_D hu)).1
    have ed : dval (u ++ [x, y]) = (dval u * 10 + ((x.toNat : Int) - 48)) * 10 + ((y.toNat : Int) - 48) := by
      have : u ++ [x, y] = (u ++ [x]) ++ [y] := by simp
      rw [this, dval_snoc, dval_snoc]
    rw [ed]
    refine ⟨by omega, ?_⟩
    rw [showP_eq _, e]
    have a1 : ((dval u * 10 + ((x.toNat : Int) - 48)) * 10 + ((y.toNat : Int) - 48)) / 100 = dval u := by omega
    have a2 : 48 + (((dval u * 10 + ((x.toNat : Int) - 48)) * 10 + ((y.toNat : Int) - 48)) / 10 % 10).toNat = x.toNat := by omega
    have a3 : 48 + (((dval u * 10 + ((x.toNat : Int) - 48)) * 10 + ((y.toNat : Int) - 48)) % 10).toNat = y.toNat := by omega
    rw [a1, a2, a3, UInt8.ofNat_toNat, UInt8.ofNat_toNat, dec_back u hu]

/-- Where something was read, it is in range, and shown as it was; else the number is 0. -/
theorem shown_read (l : List UInt8) : ((readR l).2 = 0 ∧ -1000000000000 ≤ (readR l).1 ∧ (readR l).1 ≤ 1000000000000 ∧ showT (readR l).1 = l) ∨ (¬ (readR l).2 = 0 ∧ (readR l).1 = 0) := by
  by_cases h1 : 20 < l.length
  · right; unfold readR; rw [if_pos h1]; simp
  · cases hf : form (body l)
    · right; rw [readR_form h1 hf]; simp
    · by_cases hz : l = [45, 48, 46, 48, 48]
      · right; rw [readR_zero h1 hz]; simp
      · rw [readR_good h1 hf hz]
        obtain ⟨hp, hs⟩ := form_shown hf
        have hnz := fun hn => neg_zero (l := l) hn hf
        generalize dval (units (body l) ++ rests (body l)) = d at *
        by_cases hM : 1000000000000 < d
        · right; rw [if_pos hM]; simp
        · left
          rw [if_neg hM]
          cases hn : neg l
          · have hb : body l = l := by unfold body; rw [hn]; rfl
            refine ⟨rfl, ?_, ?_, ?_⟩
            · simp; omega
            · simp; omega
            · simp only [Bool.false_eq_true, if_false]
              unfold showT
              rw [if_neg (by omega), hs, hb]
          · have hb : body l = l.drop 1 := by unfold body; rw [hn]; rfl
            have hd : ¬ d = 0 := fun e => hz ((hnz hn).1 e)
            refine ⟨rfl, ?_, ?_, ?_⟩
            · simp; omega
            · simp; omega
            · simp only [if_true]
              unfold showT
              rw [if_pos (by omega), Int.neg_neg, hs, hb]
              cases l with
              | nil => cases hn
              | cons a t =>
                have : a = 45 := by simpa [neg] using hn
                rw [this]; rfl

end Go.Proofs.YtnhidiefchamlaaDoor.cents
