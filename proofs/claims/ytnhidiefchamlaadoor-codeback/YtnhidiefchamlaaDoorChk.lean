/- The check digit and the rest by 97: plain facts. -/
import Derived.Test.YtnhidiefchamlaaDoorProg
namespace Go.Proofs.YtnhidiefchamlaaDoor.check

/-- The motions of a pentagon. -/
def mulN (a b : Nat) : Nat :=
  if a < 5 then (if b < 5 then (a % 5 + b % 5) % 5 else 5 + (a % 5 + b % 5) % 5)
  else (if b < 5 then 5 + (a % 5 + 5 - b % 5) % 5 else (a % 5 + 5 - b % 5) % 5)
def invN (a : Nat) : Nat := if a < 5 then (5 - a) % 5 else a
def mv1 (d : Nat) : Nat := [1, 5, 7, 6, 2, 8, 3, 0, 9, 4].getD d 0
/-- A digit, moved so often. -/
def mvN : Nat → Nat → Nat
  | 0, d => d
  | k + 1, d => mv1 (mvN k d)
/-- The sum of digits, the last one first, from a place on. -/
def foldN : Nat → Nat → List Nat → Nat
  | _, c, [] => c
  | p, c, d :: l => foldN (p + 1) (mulN c (mvN (p % 8) d)) l

def AllD (l : List Nat) : Prop := ∀ d ∈ l, d < 10

theorem mul_lt : ∀ a, a < 10 → ∀ b, b < 10 → mulN a b < 10 := by decide
theorem mul_assoc : ∀ a, a < 10 → ∀ b, b < 10 → ∀ c, c < 10 → mulN (mulN a b) c = mulN a (mulN b c) := by decide +kernel
theorem mul_right : ∀ a, a < 10 → ∀ b, b < 10 → ∀ c, c < 10 → mulN a c = mulN b c → a = b := by decide +kernel
theorem mul_left : ∀ a, a < 10 → ∀ b, b < 10 → ∀ c, c < 10 → mulN a b = mulN a c → b = c := by decide +kernel
theorem inv_lt : ∀ a, a < 10 → invN a < 10 := by decide
theorem inv_mul : ∀ a, a < 10 → mulN (invN a) a = 0 := by decide
theorem mul_inv : ∀ a, a < 10 → mulN a (invN a) = 0 := by decide
theorem mul_one : ∀ a, a < 10 → mulN a 0 = a := by decide
theorem one_mul : ∀ a, a < 10 → mulN 0 a = a := by decide
theorem mv1_lt : ∀ d, d < 10 → mv1 d < 10 := by decide
theorem mv1_inj : ∀ d, d < 10 → ∀ e, e < 10 → mv1 d = mv1 e → d = e := by decide
theorem swap_all : ∀ i, i < 8 → ∀ a, a < 10 → ∀ b, b < 10 → mulN (mvN i a) (mvN ((i + 1) % 8) b) = mulN (mvN i b) (mvN ((i + 1) % 8) a) → a = b := by decide +kernel

theorem mvN_lt (k d : Nat) (h : d < 10) : mvN k d < 10 := by
  induction k with
  | zero => exact h
  | succ k ih => exact mv1_lt _ ih
theorem mvN_inj (k d e : Nat) (hd : d < 10) (he : e < 10) (h : mvN k d = mvN k e) : d = e := by
  induction k with
  | zero => exact h
  | succ k ih => exact ih (mv1_inj _ (mvN_lt k d hd) _ (mvN_lt k e he) h)

theorem AllD.tail {d : Nat} {l : List Nat} (h : AllD (d :: l)) : AllD l := fun x hx => h x (List.mem_cons_of_mem _ hx)
theorem AllD.head {d : Nat} {l : List Nat} (h : AllD (d :: l)) : d < 10 := h d List.mem_cons_self

theorem foldN_lt (l : List Nat) (p c : Nat) (hc : c < 10) (hl : AllD l) : foldN p c l < 10 := by
  induction l generalizing p c with
  | nil => exact hc
  | cons d l ih => exact ih _ _ (mul_lt _ hc _ (mvN_lt _ _ hl.head)) hl.tail
theorem foldN_inj (l : List Nat) (p c c' : Nat) (hc : c < 10) (hc' : c' < 10) (hl : AllD l) (h : foldN p c l = foldN p c' l) : c = c' := by
  induction l generalizing p c c' with
  | nil => exact h
  | cons d l ih => exact mul_right _ hc _ hc' _ (mvN_lt _ _ hl.head) (ih _ _ _ (mul_lt _ hc _ (mvN_lt _ _ hl.head)) (mul_lt _ hc' _ (mvN_lt _ _ hl.head)) hl.tail h)
theorem foldN_append (l m : List Nat) (p c : Nat) : foldN p c (l ++ m) = foldN (p + l.length) (foldN p c l) m := by
  induction l generalizing p c with
  | nil => rfl
  | cons d l ih => simp only [List.cons_append, foldN, List.length_cons]; rw [ih]; congr 1; omega
/-- What stands ahead of all may be joined behind. -/
theorem foldN_mul (l : List Nat) (p c x : Nat) (hx : x < 10) (hc : c < 10) (hl : AllD l) : foldN p (mulN x c) l = mulN x (foldN p c l) := by
  induction l generalizing p c with
  | nil => rfl
  | cons d l ih =>
    have hd := mvN_lt (p % 8) d hl.head
    show foldN (p + 1) (mulN (mulN x c) _) l = _
    rw [mul_assoc _ hx _ hc _ hd]
    exact ih _ _ (mul_lt _ hc _ hd) hl.tail

theorem AllD.left {l m : List Nat} (h : AllD (l ++ m)) : AllD l := fun x hx => h x (List.mem_append_left _ hx)
theorem AllD.right {l m : List Nat} (h : AllD (l ++ m)) : AllD m := fun x hx => h x (List.mem_append_right _ hx)

/-- One wrong digit is told. -/
theorem fold_slip (A B : List Nat) (d e p c : Nat) (hc : c < 10) (h1 : AllD (A ++ d :: B)) (he : e < 10) (h : foldN p c (A ++ d :: B) = foldN p c (A ++ e :: B)) : d = e := by
  rw [foldN_append, foldN_append] at h
  have hA := foldN_lt A p c hc h1.left
  have hd := h1.right.head
  have h2 := foldN_inj _ _ _ _ (mul_lt _ hA _ (mvN_lt _ _ hd)) (mul_lt _ hA _ (mvN_lt _ _ he)) h1.right.tail h
  exact mvN_inj _ _ _ hd he (mul_left _ hA _ (mvN_lt _ _ hd) _ (mvN_lt _ _ he) h2)
/-- Two neighbours that change places are told. -/
theorem fold_swap (A B : List Nat) (d e p c : Nat) (hc : c < 10) (h1 : AllD (A ++ d :: e :: B)) (h : foldN p c (A ++ d :: e :: B) = foldN p c (A ++ e :: d :: B)) : d = e := by
  rw [foldN_append, foldN_append] at h
  have hA := foldN_lt A p c hc h1.left
  have hd := h1.right.head
  have he := h1.right.tail.head
  have b := fun k x (hx : x < 10) => mvN_lt k x hx
  have h2 := foldN_inj _ _ _ _ (mul_lt _ (mul_lt _ hA _ (b _ _ hd)) _ (b _ _ he)) (mul_lt _ (mul_lt _ hA _ (b _ _ he)) _ (b _ _ hd)) h1.right.tail.tail h
  rw [mul_assoc _ hA _ (b _ _ hd) _ (b _ _ he), mul_assoc _ hA _ (b _ _ he) _ (b _ _ hd)] at h2
  have h3 := mul_left _ hA _ (mul_lt _ (b _ _ hd) _ (b _ _ he)) _ (mul_lt _ (b _ _ he) _ (b _ _ hd)) h2
  have h4 := swap_all ((p + A.length) % 8) (Nat.mod_lt _ (by decide)) d hd e he
  rw [show ((p + A.length) % 8 + 1) % 8 = (p + A.length + 1) % 8 by omega] at h4
  exact h4 h3
/-- The digit that goes behind. -/
theorem fold_digit (l : List Nat) (d : Nat) (hd : d < 10) (hl : AllD l) : foldN 0 0 (d :: l) = mulN d (foldN 1 0 l) := by
  show foldN 1 (mulN 0 d) l = _
  rw [one_mul _ hd]
  have := foldN_mul l 1 0 d hd (by decide) hl
  rwa [mul_one _ hd] at this
theorem fold_zero (l : List Nat) (d : Nat) (hd : d < 10) (hl : AllD l) : foldN 0 0 (d :: l) = 0 ↔ d = invN (foldN 1 0 l) := by
  have hb := foldN_lt l 1 0 (by decide) hl
  rw [fold_digit l d hd hl]
  constructor
  · intro h
    exact mul_right _ hd _ (inv_lt _ hb) _ hb (h.trans (inv_mul _ hb).symm)
  · rintro rfl; exact inv_mul _ hb

/-- The rest by 97. -/
def restN (c : Nat) (l : List Nat) : Nat := l.foldl (fun n d => (n * 10 + d) % 97) c
theorem restN_cons (c d : Nat) (l : List Nat) : restN c (d :: l) = restN ((c * 10 + d) % 97) l := rfl
theorem restN_append (c : Nat) (l m : List Nat) : restN c (l ++ m) = restN (restN c l) m := by simp [restN, List.foldl_append]
theorem restN_lt (l : List Nat) (c : Nat) (hc : c < 97) : restN c l < 97 := by
  induction l generalizing c with
  | nil => exact hc
  | cons d l ih => exact ih _ (Nat.mod_lt _ (by decide))
theorem restN_inj (l : List Nat) (c c' : Nat) (hc : c < 97) (hc' : c' < 97) (h : restN c l = restN c' l) : c = c' := by
  induction l generalizing c c' with
  | nil => exact h
  | cons d l ih =>
    have := ih _ _ (Nat.mod_lt _ (by decide)) (Nat.mod_lt _ (by decide)) h
    omega
theorem rest_slip (A B : List Nat) (d e c : Nat) (hd : d < 10) (he : e < 10) (h : restN c (A ++ d :: B) = restN c (A ++ e :: B)) : d = e := by
  rw [restN_append, restN_append, restN_cons, restN_cons] at h
  have := restN_inj B _ _ (Nat.mod_lt _ (by decide)) (Nat.mod_lt _ (by decide)) h
  omega
theorem rest_swap (A B : List Nat) (d e c : Nat) (hd : d < 10) (he : e < 10) (h : restN c (A ++ d :: e :: B) = restN c (A ++ e :: d :: B)) : d = e := by
  rw [restN_append, restN_append, restN_cons, restN_cons, restN_cons, restN_cons] at h
  have := restN_inj B _ _ (Nat.mod_lt _ (by decide)) (Nat.mod_lt _ (by decide)) h
  omega
theorem rest_swap2 (A B : List Nat) (d m e c : Nat) (hd : d < 10) (he : e < 10) (h : restN c (A ++ d :: m :: e :: B) = restN c (A ++ e :: m :: d :: B)) : d = e := by
  rw [restN_append, restN_append, restN_cons, restN_cons, restN_cons, restN_cons, restN_cons, restN_cons] at h
  have := restN_inj B _ _ (Nat.mod_lt _ (by decide)) (Nat.mod_lt _ (by decide)) h
  omega
/-- A rest, moved on by so many places. -/
def shiftN : Nat → Nat → Nat
  | 0, a => a
  | k + 1, a => shiftN k a * 10 % 97
theorem shiftN_succ (k a : Nat) : shiftN (k + 1) a = shiftN k a * 10 % 97 := rfl
theorem rest_snoc (c d : Nat) (l : List Nat) : restN c (l ++ [d]) = (restN c l * 10 + d) % 97 := by rw [restN_append]; rfl
theorem list_snoc_ind {α : Type} {P : List α → Prop} (h0 : P []) (h1 : ∀ l c, P l → P (l ++ [c])) (l : List α) : P l := by
  have : ∀ n, ∀ l : List α, l.length = n → P l := by
    intro n
    induction n with
    | zero => intro l hl; rw [List.eq_nil_of_length_eq_zero hl]; exact h0
    | succ n ih =>
      intro l hl
      have hne : l ≠ [] := by intro e; rw [e] at hl; cases hl
      rw [← List.dropLast_concat_getLast hne]
      exact h1 _ _ (ih _ (by simp [hl]))
  exact this _ l rfl
theorem rest_join (l : List Nat) (c : Nat) (hc : c < 97) : restN c l = (shiftN l.length c + restN 0 l) % 97 := by
  induction l using list_snoc_ind with
  | h0 => simp [restN, shiftN]; omega
  | h1 l d ih =>
    rw [rest_snoc, rest_snoc, ih, List.length_append, List.length_singleton, shiftN_succ]
    omega
/-- From the right, by powers of ten. -/
def powN : Nat → Nat
  | 0 => 1
  | k + 1 => 10 * powN k % 97
theorem powN_lt (k : Nat) : powN k < 97 := by
  cases k with
  | zero => decide
  | succ k => exact Nat.mod_lt _ (by decide)
theorem shift_pow (k a : Nat) (ha : a < 97) : shiftN k a = a * powN k % 97 := by
  induction k with
  | zero => simp [shiftN, powN]; omega
  | succ k ih =>
    rw [shiftN_succ, ih, powN, Nat.mod_mul_mod, Nat.mul_mod_mod, Nat.mul_assoc, Nat.mul_comm (powN k) 10]
theorem rest_right (d : Nat) (l : List Nat) (hd : d < 10) : restN 0 (d :: l) = (restN 0 l + powN l.length * d) % 97 := by
  rw [restN_cons, rest_join _ _ (Nat.mod_lt _ (by decide)), shift_pow _ _ (Nat.mod_lt _ (by decide))]
  rw [show (0 * 10 + d) % 97 = d by omega, Nat.mul_comm d, Nat.mod_add_mod, Nat.add_comm]
end Go.Proofs.YtnhidiefchamlaaDoor.check
