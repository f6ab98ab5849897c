/- Plain facts on the texts of amounts: no program in sight but the words of the module before. -/
import Derived.Test.YtnhidiefchamlaaDoorReadN
namespace Go.Proofs.YtnhidiefchamlaaDoor.cents

theorem D_not46 {u : List UInt8} (h : allD u = true) : (46 : UInt8) ∉ u := by
  intro hm
  have := List.all_eq_true.1 h 46 hm
  simp [isD] at this

theorem ix_split (u r : List UInt8) (h : (46 : UInt8) ∉ u) : Lib.indexByte (u ++ 46 :: r) 46 = u.length := by
  induction u with
  | nil => simp [Lib.indexByte]
  | cons a t ih =>
    have ha : ¬ a = 46 := fun e => h (by simp [e])
    have hi := ih (fun e => h (List.mem_cons_of_mem _ e))
    simp only [List.cons_append, Lib.indexByte]
    rw [if_neg (by simpa using ha), hi, if_neg (by simp)]
    simp

theorem ix_some (t : List UInt8) (i : Nat) (h : Lib.indexByte t 46 = i) : t = t.take i ++ 46 :: t.drop (i + 1) := by
  induction t generalizing i with
  | nil => simp [Lib.indexByte] at h
  | cons a t ih =>
    simp only [Lib.indexByte] at h
    by_cases ha : (a == 46) = true
    · rw [if_pos ha] at h
      have : i = 0 := by omega
      subst this
      have : a = 46 := by simpa using ha
      simp [this]
    · rw [if_neg ha] at h
      by_cases hb : (Lib.indexByte t 46 == -1) = true
      · rw [if_pos hb] at h; omega
      · rw [if_neg hb] at h
        rcases ix_lt t 46 with h1 | h1
        · exact absurd (by simp [h1]) hb
        · obtain ⟨j, hj⟩ := Int.eq_ofNat_of_zero_le h1.1
          have : i = j + 1 := by omega
          subst this
          have := ih j hj
          simp only [List.take_succ_cons, List.drop_succ_cons, List.cons_append]
          rw [← this]

theorem form_mk {u r : List UInt8} (h1 : whole u = true) (h2 : r.length = 2) (h3 : allD r = true) : form (u ++ 46 :: r) = true ∧ units (u ++ 46 :: r) = u ∧ rests (u ++ 46 :: r) = r := by
  have hi := ix_split u r (D_not46 (whole_D h1))
  refine ⟨?_, ?_, ?_⟩
  · have hdr : (u ++ 46 :: r).drop (u.length + 1) = r := by rw [List.drop_append, List.drop_of_length_le (by omega)]; simp
    rw [form_eq hi, hdr]
    simp [h1, h2, h3]
  · unfold units; rw [hi]; simp
  · unfold rests; rw [hi]; simp [List.drop_append]

theorem form_split {t : List UInt8} (h : form t = true) : ∃ u r, t = u ++ 46 :: r ∧ r.length = 2 ∧ whole u = true ∧ allD r = true ∧ units t = u ∧ rests t = r := by
  rcases ix_lt t 46 with h1 | h1
  · rw [form_no h1] at h; cases h
  · obtain ⟨i, hi⟩ := Int.eq_ofNat_of_zero_le h1.1
    rw [form_eq hi] at h
    simp only [Bool.and_eq_true, beq_iff_eq] at h
    exact ⟨t.take i, t.drop (i + 1), ix_some t i hi, h.2.1, h.1, h.2.2, by unfold units; rw [hi]; rfl, by unfold rests; rw [hi]; rfl⟩

theorem whole_ne {u : List UInt8} (h : whole u = true) : 0 < u.length := by
  cases u with
  | nil => simp [whole] at h
  | cons a t => simp

/-- The digits that are read up to place k: from place f on, and without what stands three places ahead of the end. -/
def seen (l : List UInt8) (f : Nat) : Nat → List UInt8
  | 0 => []
  | k + 1 => if k < f ∨ k + 3 = l.length then seen l f k else seen l f k ++ [l.getD k 0]

theorem seen_skip {l : List UInt8} {f k : Nat} (h : k + 3 = l.length) : seen l f (k + 1) = seen l f k := by simp [seen, h]
theorem seen_next {l : List UInt8} {f k : Nat} (h1 : f ≤ k) (h2 : ¬ k + 3 = l.length) : seen l f (k + 1) = seen l f k ++ [l.getD k 0] := by
  simp only [seen]; rw [if_neg (by omega)]

theorem seen_lo (l : List UInt8) (f k : Nat) (h : k + 3 ≤ l.length) : seen l f k = (l.take k).drop f := by
  induction k with
  | zero => simp [seen]
  | succ k ih =>
    have ih := ih (by omega)
    by_cases hf : k < f
    · simp only [seen]
      rw [if_pos (.inl hf), ih, List.drop_of_length_le (by simp; omega), List.drop_of_length_le (by simp; omega)]
    · rw [seen_next (by omega) (by omega), ih, List.take_succ_eq_append_getElem (by omega), List.drop_append_of_le_length (by simp; omega)]
      congr 2
      simp [List.getD, List.getElem?_eq_getElem (show k < l.length by omega)]

theorem seen_all (l : List UInt8) (f : Nat) (h : f + 3 ≤ l.length) : seen l f l.length = (l.take (l.length - 3)).drop f ++ l.drop (l.length - 2) := by
  obtain ⟨p, hp⟩ : ∃ p, l.length = p + 3 := ⟨l.length - 3, by omega⟩
  have e1 : seen l f (p + 1) = (l.take p).drop f := by rw [seen_skip (by omega), seen_lo l f p (by omega)]
  have e2 : seen l f (p + 2) = (l.take p).drop f ++ [l.getD (p + 1) 0] := by rw [seen_next (by omega) (by omega), e1]
  have e3 : seen l f (p + 3) = (l.take p).drop f ++ [l.getD (p + 1) 0] ++ [l.getD (p + 2) 0] := by rw [seen_next (by omega) (by omega), e2]
  rw [hp, e3, show p + 3 - 3 = p by omega, show p + 3 - 2 = p + 1 by omega, List.append_assoc]
  congr 1
  rw [List.drop_eq_getElem_cons (by omega), List.drop_eq_getElem_cons (by omega), List.drop_of_length_le (by omega)]
  simp [List.getD, List.getElem?_eq_getElem (show p + 1 < l.length by omega), List.getElem?_eq_getElem (show p + 2 < l.length by omega)]

theorem form_parts {l : List UInt8} {f : Nat} (hb : body l = l.drop f) (hf : f ≤ l.length) (h : form (body l) = true) : 4 ≤ l.length - f ∧ l.getD (l.length - 3) 0 = 46 ∧ (l.getD f 0 = 48 → ¬ 4 < l.length - f) ∧ ∀ k, f ≤ k → k < l.length → ¬ k + 3 = l.length → isD (l.getD k 0) = true := by
  obtain ⟨u, r, e, hr, hu, hd, _, _⟩ := form_split h
  rw [hb] at e
  have hl : l.length - f = u.length + 3 := by
    have := congrArg List.length e
    simp [hr] at this; omega
  have h1 := whole_ne hu
  have get : ∀ k, f ≤ k → l.getD k 0 = (u ++ 46 :: r).getD (k - f) 0 := by
    intro k hk
    rw [← e]
    simp only [List.getD, List.getElem?_drop]
    rw [show f + (k - f) = k by omega]
  refine ⟨by omega, ?_, ?_, ?_⟩
  · rw [get _ (by omega), show l.length - 3 - f = u.length by omega]
    simp [List.getD]
  · intro h0
    rw [get f (Nat.le_refl _), show f - f = 0 by omega] at h0
    cases u with
    | nil => simp at h1
    | cons a t =>
      simp at h0
      subst h0
      have ht : t = [] := by simpa [whole] using hu
      subst ht
      simp at hl; omega
  · intro k hk hk2 hk3
    rw [get k hk]
    by_cases hlt : k - f < u.length
    · have := List.all_eq_true.1 (whole_D hu) (u[k - f]) (List.getElem_mem hlt)
      simpa [List.getD, List.getElem?_append_left hlt, List.getElem?_eq_getElem hlt] using this
    · have hlt2 : k - f - u.length - 1 < r.length := by omega
      have := List.all_eq_true.1 hd (r[k - f - u.length - 1]) (List.getElem_mem hlt2)
      have hq : (u ++ 46 :: r)[k - f]? = some (r[k - f - u.length - 1]) := by
        rw [List.getElem?_append_right (by omega)]
        obtain ⟨q, hq⟩ : ∃ q, k - f - u.length = q + 1 := ⟨k - f - u.length - 1, by omega⟩
        have hq2 : k - f - u.length - 1 = q := by omega
        simp only [hq, List.getElem?_cons_succ, Nat.add_sub_cancel]
        exact List.getElem?_eq_getElem (by omega)
      simpa [List.getD, hq] using this

theorem form_whole {l : List UInt8} {f : Nat} (hb : body l = l.drop f) (h4 : 4 ≤ l.length - f) (h46 : l.getD (l.length - 3) 0 = 46) (hz : l.getD f 0 = 48 → ¬ 4 < l.length - f) (hd : allD (seen l f l.length) = true) :
    form (body l) = true ∧ units (body l) ++ rests (body l) = seen l f l.length := by
  rw [seen_all l f (by omega), allD_append, Bool.and_eq_true] at hd
  rw [seen_all l f (by omega)]
  have hdr : l.drop (l.length - 3) = 46 :: l.drop (l.length - 2) := by
    rw [List.drop_eq_getElem_cons (by omega), show l.length - 3 + 1 = l.length - 2 by omega]
    congr 1
    simpa [List.getD, List.getElem?_eq_getElem (show l.length - 3 < l.length by omega)] using h46
  have e : body l = (l.take (l.length - 3)).drop f ++ 46 :: l.drop (l.length - 2) := by
    rw [hb, ← hdr]
    conv => lhs; rw [← List.take_append_drop (l.length - 3) l]
    rw [List.drop_append_of_le_length (by simp; omega)]
  have hw : whole ((l.take (l.length - 3)).drop f) = true := by
    have hlen : ((l.take (l.length - 3)).drop f).length = l.length - 3 - f := by simp
    have hhead : ((l.take (l.length - 3)).drop f).head? = some (l.getD f 0) := by
      rw [List.head?_eq_getElem?, List.getElem?_drop, List.getElem?_take]
      simp [List.getD, List.getElem?_eq_getElem (show f < l.length by omega)]
      omega
    generalize (l.take (l.length - 3)).drop f = u at *
    unfold whole
    by_cases h0 : l.getD f 0 = 48
    · have h1 := hz h0
      rw [h0] at hhead
      cases u with
      | nil => simp at hhead
      | cons a t =>
        simp at hhead hlen
        have : t = [] := List.eq_nil_of_length_eq_zero (by omega)
        simp [hhead, this]
    · cases u with
      | nil => simp at hhead
      | cons a t =>
        simp only [List.head?_cons, Option.some.injEq] at hhead
        rw [← hhead] at h0
        simp [h0, hd.1]
  obtain ⟨f1, f2, f3⟩ := form_mk hw (show (l.drop (l.length - 2)).length = 2 by simp; omega) hd.2
  rw [← e] at f1 f2 f3
  exact ⟨f1, by rw [f2, f3]⟩

theorem dval_zero (l : List UInt8) (h : allD l = true) (h0 : dval l = 0) : ∀ c ∈ l, c = 48 := by
  induction l using snoc_ind with
  | h0 => intro c hc; cases hc
  | h1 l c ih =>
    rw [allD_append, Bool.and_eq_true] at h
    have hn := (cval_eq l h.1).1
    have hc := isD_bd (c := c) (by simpa [allD] using h.2)
    rw [dval_snoc] at h0
    have hz := ih h.1 (by omega)
    intro d hd
    rw [List.mem_append] at hd
    rcases hd with hd | hd
    · exact hz d hd
    · rw [List.mem_singleton.1 hd]
      apply UInt8.toNat_inj.1
      show c.toNat = 48
      omega

/-- A minus ahead of nothing: just one text. -/
theorem neg_zero {l : List UInt8} (hn : neg l = true) (h : form (body l) = true) : dval (units (body l) ++ rests (body l)) = 0 ↔ l = [45, 48, 46, 48, 48] := by
  constructor
  · intro h0
    obtain ⟨u, r, e, hr, hu, hd, e1, e2⟩ := form_split h
    rw [e1, e2] at h0
    have hz := dval_zero (u ++ r) (by rw [allD_append, whole_D hu, hd]; rfl) h0
    have hu1 : u = [48] := by
      cases u with
      | nil => simp [whole] at hu
      | cons a t =>
        have ha : a = 48 := hz a (by simp)
        subst ha
        have ht : t = [] := by simpa [whole] using hu
        rw [ht]
    have hr1 : r = [48, 48] := by
      match r, hr with
      | [x, y], _ => rw [hz x (by simp), hz y (by simp)]
    subst hu1 hr1
    have hb : body l = l.drop 1 := by unfold body; rw [hn]; rfl
    rw [hb] at e
    cases l with
    | nil => simp at e
    | cons a t =>
      simp at e
      have ha : a = 45 := by simpa [neg] using hn
      rw [ha, e]
  · intro e
    subst e
    decide

/-- The number that digits make, but not above the bound and one. -/
def satv (l : List UInt8) : Int := l.foldl (fun v c => if 1000000000000 < 10 * v + ((c.toNat : Int) - 48) then 1000000000001 else 10 * v + ((c.toNat : Int) - 48)) 0
theorem satv_snoc (l : List UInt8) (c : UInt8) : satv (l ++ [c]) = if 1000000000000 < 10 * satv l + ((c.toNat : Int) - 48) then 1000000000001 else 10 * satv l + ((c.toNat : Int) - 48) := by unfold satv; rw [List.foldl_append]; rfl
theorem satv_eq (l : List UInt8) (h : allD l = true) : satv l = if 1000000000000 < dval l then 1000000000001 else dval l := by
  induction l using snoc_ind with
  | h0 => simp [satv, dval]
  | h1 l c ih =>
    rw [allD_append, Bool.and_eq_true] at h
    have hn := (cval_eq l h.1).1
    have hc := isD_bd (c := c) (by simpa [allD] using h.2)
    rw [satv_snoc, dval_snoc, ih h.1]
    by_cases hd : 1000000000000 < dval l
    · rw [if_pos hd, if_pos (by omega), if_pos (by omega)]
    · rw [if_neg hd]
      by_cases h2 : 1000000000000 < 10 * dval l + ((c.toNat : Int) - 48)
      · rw [if_pos h2, if_pos (by omega)]
      · rw [if_neg h2, if_neg (by omega)]; omega
theorem satv_bd (l : List UInt8) (h : allD l = true) : 0 ≤ satv l ∧ satv l ≤ 1000000000001 := by
  have := (cval_eq l h).1
  rw [satv_eq l h]
  split <;> omega

end Go.Proofs.YtnhidiefchamlaaDoor.cents
