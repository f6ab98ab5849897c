/- What a meter shows, in digits: plain facts. -/
import Derived.Test.YtnhidiefchamlaaDoorRcN
import Derived.Test.YtnhidiefchamlaaDoorMtN
namespace Go.Proofs.YtnhidiefchamlaaDoor.cod
open Go.Proofs.YtnhidiefchamlaaDoor.met (Mt)
open Go.Proofs.YtnhidiefchamlaaDoor.rcp (pad)
open Go.Proofs.YtnhidiefchamlaaDoor.token (dv dv_lt dv_snoc dv_zeros dv_rest)
open Go.Proofs.YtnhidiefchamlaaDoor.check (allD isD isD_bd digs digs_append restN rest_slip rest_swap rest_swap2)
set_option linter.unusedVariables false

theorem dval_dv (l : List UInt8) (h : allD l = true) : cents.dval l = ((dv l : Nat) : Int) := by
  induction l using cents.snoc_ind with
  | h0 => rfl
  | h1 l c ih =>
    have h' : allD l = true ∧ isD c = true := by simpa [allD] using h
    have hc : 48 ≤ c.toNat := by have := h'.2; simp [isD] at this; exact this.1
    rw [cents.dval_snoc, dv_snoc, ih h'.1]
    omega
theorem dec_len_lt (k : Nat) : ∀ v : Nat, v < 10 ^ (k + 1) → (Lib.decDigits v).length ≤ k + 1 := by
  induction k with
  | zero =>
    intro v hv
    have : ∀ x, x < 10 → (Lib.decDigits x).length ≤ 0 + 1 := by decide +kernel
    exact this v (by omega)
  | succ k ih =>
    intro v hv
    by_cases h10 : v < 10
    · have : ∀ x, x < 10 → (Lib.decDigits x).length ≤ 1 := by decide +kernel
      have := this v h10
      omega
    · rw [cents.dec_step h10, List.length_append]
      have := ih (v / 10) (by rw [Nat.pow_succ] at hv; omega)
      simp
      omega
/-- Eighteen digits. -/
def codeL (n : Nat) : List UInt8 := pad n 18
theorem code_facts {n : Nat} (h : n < 1000000000000000000) : (codeL n).length = 18 ∧ allD (codeL n) = true ∧ dv (codeL n) = n := by
  have hl := dec_len_lt 17 n (by simpa using h)
  have hf := cents.dec_facts n n (Nat.le_refl _)
  have hd : allD (Lib.decDigits n) = true := hf.1
  refine ⟨?_, ?_, ?_⟩
  · unfold codeL pad
    rw [List.length_append, List.length_replicate]
    omega
  · unfold codeL pad allD
    rw [List.all_append, Bool.and_eq_true]
    refine ⟨List.all_eq_true.2 fun c hc => ?_, hd⟩
    rw [(List.mem_replicate.1 hc).2]; decide
  · unfold codeL pad
    rw [dv_zeros]
    have := dval_dv _ hd
    rw [hf.2.1] at this
    omega
/-- The number that a meter shows. -/
def num (m : Mt) : Nat := 97 * (50 * (1048576 * m.cr.toNat + m.h.toNat) + m.me.toNat)
theorem num_lt {m : Mt} (h : m.may) : num m < 1000000000000000000 ∧ 0 ≤ m.h ∧ m.h ≤ 1048575 := by
  obtain ⟨h0, h1⟩ : 0 ≤ m.h ∧ m.h ≤ 1048575 := by
    rcases h.win with ⟨a, _⟩ | ⟨a, b, _⟩
    · omega
    · omega
  have h2 := h.cr; have h3 := h.me
  unfold num
  omega
def CodeIs (m : Mt) (l : List UInt8) (e : Int) : Prop := (m.may ∧ l = codeL (num m) ∧ e = 0) ∨ (¬ m.may ∧ l = [] ∧ e = 5)
theorem CodeIs.one {m : Mt} {l l' : List UInt8} {e e' : Int} (h : CodeIs m l e) (h' : CodeIs m l' e') : l = l' ∧ e = e' := by
  rcases h with ⟨a, rfl, rfl⟩ | ⟨a, rfl, rfl⟩ <;> rcases h' with ⟨a', rfl, rfl⟩ | ⟨a', rfl, rfl⟩ <;> first | exact ⟨rfl, rfl⟩ | contradiction
/-- What is told. -/
structure Sh where
  me : Int
  cr : Int
  hi : Int
def sh0 : Sh := ⟨0, 0, 0⟩
def shOf (n : Nat) : Sh := ⟨((n / 97 % 50 : Nat) : Int), ((n / 97 / 52428800 : Nat) : Int), ((n / 97 / 50 % 1048576 : Nat) : Int)⟩
def UncIs (l : List UInt8) (x : Sh) (e : Int) : Prop :=
  (l.length ≠ 18 ∧ x = sh0 ∧ e = 6) ∨ (l.length = 18 ∧ allD l = false ∧ x = sh0 ∧ e = 7) ∨ (l.length = 18 ∧ allD l = true ∧ dv l % 97 ≠ 0 ∧ x = sh0 ∧ e = 8) ∨
  (l.length = 18 ∧ allD l = true ∧ dv l % 97 = 0 ∧ 99999999 < dv l / 97 / 52428800 ∧ x = sh0 ∧ e = 2) ∨ (l.length = 18 ∧ allD l = true ∧ dv l % 97 = 0 ∧ ¬ 99999999 < dv l / 97 / 52428800 ∧ x = shOf (dv l) ∧ e = 0)
theorem UncIs.one {l : List UInt8} {x y : Sh} {e f : Int} (h : UncIs l x e) (h' : UncIs l y f) : x = y ∧ e = f := by
  rcases h with ⟨a, rfl, rfl⟩ | ⟨a, b, rfl, rfl⟩ | ⟨a, b, c, rfl, rfl⟩ | ⟨a, b, c, d, rfl, rfl⟩ | ⟨a, b, c, d, rfl, rfl⟩ <;> rcases h' with ⟨a', rfl, rfl⟩ | ⟨a', b', rfl, rfl⟩ | ⟨a', b', c', rfl, rfl⟩ | ⟨a', b', c', d', rfl, rfl⟩ | ⟨a', b', c', d', rfl, rfl⟩ <;> first | exact ⟨rfl, rfl⟩ | contradiction | (rw [b] at b'; cases b')
/-- What was shown is read. -/
theorem unc_code {m : Mt} (h : m.may) : UncIs (codeL (num m)) ⟨m.me, m.cr, m.h⟩ 0 := by
  obtain ⟨hn, h0, h1⟩ := num_lt h
  obtain ⟨a, b, c⟩ := code_facts hn
  have h2 := h.cr; have h3 := h.me
  have e1 : num m % 97 = 0 := by unfold num; omega
  have e2 : num m / 97 = 50 * (1048576 * m.cr.toNat + m.h.toNat) + m.me.toNat := by unfold num; omega
  refine .inr (.inr (.inr (.inr ⟨a, b, by rw [c]; exact e1, by rw [c, e2]; omega, ?_, rfl⟩)))
  rw [c]
  unfold shOf
  rw [e2]
  congr 1 <;> omega
/-- A text that is no multiple of 97. -/
theorem unc_bad {l : List UInt8} (h : l.length = 18) (hd : allD l = true) (hr : restN 0 (digs l) ≠ 0) : UncIs l sh0 8 := .inr (.inr (.inl ⟨h, hd, by rw [← dv_rest]; exact hr, rfl, rfl⟩))
theorem dg_ne {c c' : UInt8} (hc : isD c = true) (hc' : isD c' = true) (h : c ≠ c') : c.toNat - 48 ≠ c'.toNat - 48 := by
  have h1 := isD_bd hc; have h2 := isD_bd hc'
  intro e
  exact h (UInt8.toNat_inj.1 (by omega))
theorem dg_lt {c : UInt8} (hc : isD c = true) : c.toNat - 48 < 10 := by have := isD_bd hc; omega
theorem mid_D {A B : List UInt8} {c : UInt8} (h : allD (A ++ c :: B) = true) : allD A = true ∧ isD c = true ∧ allD B = true := by
  unfold allD at *
  rw [List.all_append, List.all_cons, Bool.and_eq_true, Bool.and_eq_true] at h
  exact h
theorem mk_D {A B : List UInt8} {c : UInt8} (h1 : allD A = true) (h2 : isD c = true) (h3 : allD B = true) : allD (A ++ c :: B) = true := by
  unfold allD at *
  rw [List.all_append, List.all_cons, Bool.and_eq_true, Bool.and_eq_true]
  exact ⟨h1, h2, h3⟩
theorem dg_cons (c : UInt8) (l : List UInt8) : digs (c :: l) = (c.toNat - 48) :: digs l := rfl
theorem code_rest {m : Mt} (h : m.may) : restN 0 (digs (codeL (num m))) = 0 := by
  rw [dv_rest, (code_facts (num_lt h).1).2.2]
  unfold num; omega
/-- One wrong digit is told. -/
theorem slip_unc {m : Mt} (h : m.may) {t A B : List UInt8} {c c' : UInt8} (hs : codeL (num m) = A ++ c :: B) (ht : t = A ++ c' :: B) (hc' : isD c' = true) (hne : c ≠ c') : UncIs t sh0 8 := by
  obtain ⟨sl, sd, _⟩ := code_facts (num_lt h).1
  have sr := code_rest h
  rw [hs] at sd sl sr
  have h3 := mid_D sd
  refine unc_bad (by rw [ht]; simpa using sl) (by rw [ht]; exact mk_D h3.1 hc' h3.2.2) ?_
  rw [ht]
  intro e
  rw [digs_append, dg_cons] at sr e
  exact dg_ne h3.2.1 hc' hne (rest_slip _ _ _ _ 0 (dg_lt h3.2.1) (dg_lt hc') (sr.trans e.symm))
/-- Two digits that changed places are told. -/
theorem swap_unc {m : Mt} (h : m.may) {t A x B : List UInt8} {c c' : UInt8} (hs : codeL (num m) = A ++ c :: (x ++ c' :: B)) (ht : t = A ++ c' :: (x ++ c :: B)) (hm : x.length ≤ 1) (hne : t ≠ codeL (num m)) : UncIs t sh0 8 := by
  have hcc : c ≠ c' := by
    intro e
    exact hne (by rw [ht, hs, e])
  obtain ⟨sl, sd, _⟩ := code_facts (num_lt h).1
  have sr := code_rest h
  rw [hs] at sd sl sr
  have h3 := mid_D sd
  have h4 := mid_D h3.2.2
  refine unc_bad (by rw [ht]; simpa using sl) (by rw [ht]; exact mk_D h3.1 h4.2.1 (mk_D h4.1 h3.2.1 h4.2.2)) ?_
  rw [ht]
  intro e
  rw [digs_append, dg_cons, digs_append, dg_cons] at sr e
  have hd := dg_ne h3.2.1 h4.2.1 hcc
  match x, hm with
  | [], _ => exact hd (rest_swap _ _ _ _ 0 (dg_lt h3.2.1) (dg_lt h4.2.1) (sr.trans e.symm))
  | [y], _ => exact hd (rest_swap2 _ _ _ (y.toNat - 48) _ 0 (dg_lt h3.2.1) (dg_lt h4.2.1) (sr.trans e.symm))
  | y :: z :: r, h => simp at h

end Go.Proofs.YtnhidiefchamlaaDoor.cod
