/- Tariffs: plain facts. -/
namespace Go.Proofs.YtlianhienbhbgaaDoor.tar
set_option linter.unusedVariables false

/-- A pair of numbers: of a step how far it goes, and its price; of a debt what is owed, and what it grows by. -/
structure Du where
  a : Int
  b : Int
def du0 : Du := ⟨0, 0⟩
/-- Three numbers: of a line its units, its price, its cost. -/
structure Tr where
  a : Int
  b : Int
  c : Int
def tr0 : Tr := ⟨0, 0, 0⟩

theorem take_one (l : List Du) (k : Nat) (h : k < l.length) : l.take (k + 1) = l.take k ++ [l.getD k du0] := by
  rw [List.take_succ_eq_append_getElem h]
  simp [List.getD, List.getElem?_eq_getElem h]
theorem drop_one (l : List Du) (k : Nat) (h : k < l.length) : l.drop k = l.getD k du0 :: l.drop (k + 1) := by
  rw [List.drop_eq_getElem_cons h]
  simp [List.getD, List.getElem?_eq_getElem h]
/-- How far the steps ahead of the place k go. -/
def low (l : List Du) (k : Nat) : Int := if k = 0 then 0 else (l.getD (k - 1) du0).a
theorem low_next (l : List Du) (k : Nat) : low l (k + 1) = (l.getD k du0).a := rfl
theorem low_zero (l : List Du) : low l 0 = 0 := rfl
/-- What is wrong with a tariff. -/
def Fits (l : List Du) : Prop := ∀ i, i < l.length → (1 ≤ (l.getD i du0).a ∧ (l.getD i du0).a ≤ 10000000) ∧ 1 ≤ (l.getD i du0).b ∧ (l.getD i du0).b ≤ 100000
def Rises (l : List Du) : Prop := ∀ i, 1 ≤ i → i < l.length → (l.getD (i - 1) du0).a < (l.getD i du0).a
def Sized (l : List Du) : Prop := 1 ≤ l.length ∧ l.length ≤ 8
def Ends (l : List Du) : Prop := (l.getD (l.length - 1) du0).a = 10000000
def Right (l : List Du) : Prop := Sized l ∧ Fits l ∧ Rises l ∧ Ends l
def FaultIs (l : List Du) (e : Int) : Prop := (¬ Sized l ∧ e = 1) ∨ (Sized l ∧ ¬ Fits l ∧ e = 2) ∨ (Sized l ∧ Fits l ∧ ¬ (Rises l ∧ Ends l) ∧ e = 3) ∨ (Right l ∧ e = 0)
theorem FaultIs.one {l : List Du} {e f : Int} (h : FaultIs l e) (h' : FaultIs l f) : e = f := by
  rcases h with ⟨a, rfl⟩ | ⟨a, b, rfl⟩ | ⟨a, b, c, rfl⟩ | ⟨⟨a, b, c⟩, rfl⟩ <;> rcases h' with ⟨a', rfl⟩ | ⟨a', b', rfl⟩ | ⟨a', b', c', rfl⟩ | ⟨⟨a', b', c'⟩, rfl⟩ <;> first | rfl | contradiction
theorem FaultIs.ok {l : List Du} {e : Int} (h : FaultIs l e) : e = 0 ↔ Right l := by
  rcases h with ⟨a, rfl⟩ | ⟨a, b, rfl⟩ | ⟨a, b, c, rfl⟩ | ⟨h, rfl⟩
  · exact ⟨fun h => absurd h (by decide), fun h => absurd h.1 a⟩
  · exact ⟨fun h => absurd h (by decide), fun h => absurd h.2.1 b⟩
  · exact ⟨fun h => absurd h (by decide), fun h => absurd h.2.2 c⟩
  · exact ⟨fun _ => h, fun _ => rfl⟩
theorem fault_is (l : List Du) : ∃ e, FaultIs l e := by
  by_cases a : Sized l
  · by_cases b : Fits l
    · by_cases c : Rises l ∧ Ends l
      · exact ⟨0, .inr (.inr (.inr ⟨⟨a, b, c⟩, rfl⟩))⟩
      · exact ⟨3, .inr (.inr (.inl ⟨a, b, c, rfl⟩))⟩
    · exact ⟨2, .inr (.inl ⟨a, b, rfl⟩)⟩
  · exact ⟨1, .inl ⟨a, rfl⟩⟩
/-- How many units from x to y lie from lo to hi. -/
def ov (lo hi x y : Int) : Int := max 0 (min hi y - max lo x)
theorem ov_pos (lo hi x y : Int) : 0 ≤ ov lo hi x y := by unfold ov; omega
/-- What the units from x to y cost, as far as the place k. -/
def costK (l : List Du) (x y : Int) : Nat → Int
  | 0 => 0
  | k + 1 => costK l x y k + ov (low l k) (l.getD k du0).a x y * (l.getD k du0).b
def cost (l : List Du) (x y : Int) : Int := costK l x y l.length
theorem costK_next (l : List Du) (x y : Int) (k : Nat) : costK l x y (k + 1) = costK l x y k + ov (low l k) (l.getD k du0).a x y * (l.getD k du0).b := rfl
/-- How many of them lie there. -/
def manyK (l : List Du) (x y : Int) : Nat → Int
  | 0 => 0
  | k + 1 => manyK l x y k + ov (low l k) (l.getD k du0).a x y
theorem Right.price {l : List Du} (h : Right l) (k : Nat) (hk : k < l.length) : 1 ≤ (l.getD k du0).b ∧ (l.getD k du0).b ≤ 100000 := (h.2.1 k hk).2
theorem Right.upto {l : List Du} (h : Right l) (k : Nat) (hk : k < l.length) : 1 ≤ (l.getD k du0).a ∧ (l.getD k du0).a ≤ 10000000 := (h.2.1 k hk).1
theorem Right.rise {l : List Du} (h : Right l) (k : Nat) (hk : k < l.length) : low l k < (l.getD k du0).a := by
  by_cases e : k = 0
  · subst e; rw [low_zero]; have := (h.upto 0 hk).1; omega
  · unfold low; rw [if_neg e]; exact h.2.2.1 k (by omega) hk
theorem Right.low_pos {l : List Du} (h : Right l) (k : Nat) (hk : k ≤ l.length) : 0 ≤ low l k := by
  unfold low
  by_cases e : k = 0
  · rw [if_pos e]; omega
  · rw [if_neg e]; have := (h.upto (k - 1) (by omega)).1; omega
theorem Right.low_end {l : List Du} (h : Right l) : low l l.length = 10000000 := by
  unfold low
  rw [if_neg (by have := h.1.1; omega)]
  exact h.2.2.2
/-- The units up to a place are those that lie ahead of it. -/
theorem many_eq {l : List Du} (h : Right l) (x y : Int) (hx : 0 ≤ x) (hxy : x ≤ y) (k : Nat) (hk : k ≤ l.length) : manyK l x y k = max 0 (min (low l k) y - x) := by
  induction k with
  | zero => unfold manyK; rw [low_zero]; omega
  | succ k ih =>
    have h1 := ih (by omega)
    have h2 := h.rise k (by omega)
    have h3 := h.low_pos k (by omega)
    unfold manyK
    rw [h1, low_next]
    unfold ov
    omega
theorem many_all {l : List Du} (h : Right l) (x y : Int) (hx : 0 ≤ x) (hxy : x ≤ y) (hy : y ≤ 10000000) : manyK l x y l.length = y - x := by
  rw [many_eq h x y hx hxy _ (Nat.le_refl _), h.low_end]; omega
theorem costK_pos {l : List Du} (h : Right l) (x y : Int) (k : Nat) (hk : k ≤ l.length) : 0 ≤ costK l x y k := by
  induction k with
  | zero => exact Int.le_refl _
  | succ k ih =>
    have h1 := ih (by omega)
    have h2 := Int.mul_nonneg (ov_pos (low l k) (l.getD k du0).a x y) (show 0 ≤ (l.getD k du0).b by have := (h.price k (by omega)).1; omega)
    unfold costK; omega
theorem cost_many {l : List Du} (h : Right l) (x y : Int) (k : Nat) (hk : k ≤ l.length) : manyK l x y k ≤ costK l x y k ∧ costK l x y k ≤ manyK l x y k * 100000 := by
  induction k with
  | zero => exact ⟨Int.le_refl _, Int.le_refl _⟩
  | succ k ih =>
    have h1 := ih (by omega)
    have h0 := ov_pos (low l k) (l.getD k du0).a x y
    have hp := h.price k (by omega)
    have h2 : ov (low l k) (l.getD k du0).a x y * 1 ≤ ov (low l k) (l.getD k du0).a x y * (l.getD k du0).b := Int.mul_le_mul_of_nonneg_left hp.1 h0
    have h3 : ov (low l k) (l.getD k du0).a x y * (l.getD k du0).b ≤ ov (low l k) (l.getD k du0).a x y * 100000 := Int.mul_le_mul_of_nonneg_left hp.2 h0
    unfold costK manyK
    rw [Int.mul_one] at h2
    constructor
    · omega
    · rw [Int.add_mul]; omega
theorem cost_bd {l : List Du} (h : Right l) (x y : Int) (hx : 0 ≤ x) (hxy : x ≤ y) (hy : y ≤ 10000000) : y - x ≤ cost l x y ∧ cost l x y ≤ (y - x) * 100000 := by
  have := cost_many h x y l.length (Nat.le_refl _)
  rw [many_all h x y hx hxy hy] at this
  exact this
theorem ov_adds (lo hi x y z : Int) (h : lo ≤ hi) (h1 : x ≤ y) (h2 : y ≤ z) : ov lo hi x z = ov lo hi x y + ov lo hi y z := by unfold ov; omega
theorem costK_adds {l : List Du} (h : Right l) (x y z : Int) (h1 : x ≤ y) (h2 : y ≤ z) (k : Nat) (hk : k ≤ l.length) : costK l x z k = costK l x y k + costK l y z k := by
  induction k with
  | zero => rfl
  | succ k ih =>
    have h3 := ih (by omega)
    have h4 := h.rise k (by omega)
    unfold costK
    rw [h3, ov_adds _ _ x y z (by omega) h1 h2, Int.add_mul]
    omega
theorem cost_adds {l : List Du} (h : Right l) (x y z : Int) (h1 : x ≤ y) (h2 : y ≤ z) : cost l x z = cost l x y + cost l y z := costK_adds h x y z h1 h2 _ (Nat.le_refl _)
theorem cost_self {l : List Du} (h : Right l) (x : Int) : cost l x x = 0 := by
  have := cost_adds h x x x (Int.le_refl _) (Int.le_refl _); omega
theorem costK_mono {l : List Du} (h : Right l) (x y : Int) (j k : Nat) (hjk : j ≤ k) (hk : k ≤ l.length) : costK l x y j ≤ costK l x y k := by
  induction k with
  | zero => have : j = 0 := by omega
            subst this; exact Int.le_refl _
  | succ k ih =>
    by_cases e : j = k + 1
    · subst e; exact Int.le_refl _
    · have h1 := ih (by omega) (by omega)
      have h2 := Int.mul_nonneg (ov_pos (low l k) (l.getD k du0).a x y) (show 0 ≤ (l.getD k du0).b by have := (h.price k (by omega)).1; omega)
      rw [costK_next]; omega
theorem low_mono {l : List Du} (h : Right l) (j k : Nat) (hjk : j ≤ k) (hk : k ≤ l.length) : low l j ≤ low l k := by
  induction k with
  | zero => have : j = 0 := by omega
            subst this; exact Int.le_refl _
  | succ k ih =>
    by_cases e : j = k + 1
    · subst e; exact Int.le_refl _
    · have h1 := ih (by omega) (by omega)
      have h2 := h.rise k (by omega)
      rw [low_next]; omega
/-- One unit costs what its step says. -/
theorem costK_none {l : List Du} (h : Right l) (n : Int) (k : Nat) (hk : k ≤ l.length) (hn : low l k ≤ n) : costK l n (n + 1) k = 0 := by
  induction k with
  | zero => rfl
  | succ k ih =>
    have h2 := h.rise k (by omega)
    rw [low_next] at hn
    have h1 := ih (by omega) (by omega)
    unfold costK
    rw [h1, show ov (low l k) (l.getD k du0).a n (n + 1) = 0 by unfold ov; omega]
    omega
theorem costK_after {l : List Du} (h : Right l) (n : Int) (j k : Nat) (hjk : j ≤ k) (hk : k ≤ l.length) (hn : n + 1 ≤ low l j) : costK l n (n + 1) k = costK l n (n + 1) j := by
  induction k with
  | zero => have : j = 0 := by omega
            subst this; rfl
  | succ k ih =>
    by_cases e : j = k + 1
    · subst e; rfl
    · have h1 := ih (by omega) (by omega)
      have h2 := low_mono h j k (by omega) (by omega)
      rw [costK_next, h1, show ov (low l k) (l.getD k du0).a n (n + 1) = 0 by unfold ov; omega]
      omega
theorem cost_unit {l : List Du} (h : Right l) (n : Int) (k : Nat) (hk : k < l.length) (h1 : low l k ≤ n) (h2 : n + 1 ≤ (l.getD k du0).a) : cost l n (n + 1) = (l.getD k du0).b := by
  have e1 := costK_after h n (k + 1) l.length (by omega) (Nat.le_refl _) (by rw [low_next]; exact h2)
  unfold cost
  rw [e1]
  unfold costK
  rw [costK_none h n k (by omega) h1, show ov (low l k) (l.getD k du0).a n (n + 1) = 1 by unfold ov; omega]
  omega
/-- What the four ask for. -/
def Mays (x n : Int) : Prop := (0 ≤ x ∧ x ≤ 10000000) ∧ (0 ≤ n ∧ n ≤ 2097151) ∧ x + n ≤ 10000000
def MayIs (l : List Du) (x n : Int) (e : Int) : Prop := (¬ Right l ∧ FaultIs l e) ∨ (Right l ∧ ¬ Mays x n ∧ e = 2) ∨ (Right l ∧ Mays x n ∧ e = 0)
theorem MayIs.one {l : List Du} {x n e f : Int} (h : MayIs l x n e) (h' : MayIs l x n f) : e = f := by
  rcases h with ⟨a, b⟩ | ⟨a, b, rfl⟩ | ⟨a, b, rfl⟩ <;> rcases h' with ⟨a', b'⟩ | ⟨a', b', rfl⟩ | ⟨a', b', rfl⟩ <;> first | rfl | exact b.one b' | contradiction
theorem MayIs.ok {l : List Du} {x n e : Int} (h : MayIs l x n e) : e = 0 ↔ Right l ∧ Mays x n := by
  rcases h with ⟨a, b⟩ | ⟨a, b, rfl⟩ | ⟨a, b, rfl⟩
  · exact ⟨fun h => absurd (b.ok.1 h) a, fun h => absurd h.1 a⟩
  · exact ⟨fun h => absurd h (by decide), fun h => absurd h.2 b⟩
  · exact ⟨fun _ => ⟨a, b⟩, fun _ => rfl⟩
def PriceIs (l : List Du) (x n : Int) (p e : Int) : Prop := MayIs l x n e ∧ ((e = 0 ∧ p = cost l x (x + n)) ∨ (e ≠ 0 ∧ p = 0))
theorem PriceIs.one {l : List Du} {x n p e q f : Int} (h : PriceIs l x n p e) (h' : PriceIs l x n q f) : p = q ∧ e = f := by
  obtain ⟨a, b⟩ := h
  obtain ⟨a', b'⟩ := h'
  obtain rfl := a.one a'
  rcases b with ⟨_, rfl⟩ | ⟨c, rfl⟩ <;> rcases b' with ⟨_, rfl⟩ | ⟨c', rfl⟩ <;> first | exact ⟨rfl, rfl⟩ | contradiction
/-- The lines, as far as the place k. -/
def billK (l : List Du) (x y : Int) : Nat → List Tr
  | 0 => []
  | k + 1 => billK l x y k ++ (if 0 < ov (low l k) (l.getD k du0).a x y then [⟨ov (low l k) (l.getD k du0).a x y, (l.getD k du0).b, ov (low l k) (l.getD k du0).a x y * (l.getD k du0).b⟩] else [])
def BillIs (l : List Du) (x n : Int) (z : List Tr) (e : Int) : Prop := MayIs l x n e ∧ ((e = 0 ∧ z = billK l x (x + n) l.length) ∨ (e ≠ 0 ∧ z = []))
theorem BillIs.one {l : List Du} {x n e f : Int} {p q : List Tr} (h : BillIs l x n p e) (h' : BillIs l x n q f) : p = q ∧ e = f := by
  obtain ⟨a, b⟩ := h
  obtain ⟨a', b'⟩ := h'
  obtain rfl := a.one a'
  rcases b with ⟨_, rfl⟩ | ⟨c, rfl⟩ <;> rcases b' with ⟨_, rfl⟩ | ⟨c', rfl⟩ <;> first | exact ⟨rfl, rfl⟩ | contradiction
theorem bill_len (l : List Du) (x y : Int) (k : Nat) : (billK l x y k).length ≤ k := by
  induction k with
  | zero => exact Nat.le_refl _
  | succ k ih => unfold billK; rw [List.length_append]; split <;> simp <;> omega
theorem BillIs.small {l : List Du} {x n e : Int} {z : List Tr} (h : BillIs l x n z e) : z.length ≤ 1000000 := by
  rcases h.2 with ⟨h0, rfl⟩ | ⟨_, rfl⟩
  · have h1 := bill_len l x (x + n) l.length
    have h2 := (h.1.ok.1 h0).1.1.2
    omega
  · exact Nat.zero_le _
/-- The lines add up. -/
def sumA : List Tr → Int
  | [] => 0
  | t :: l => t.a + sumA l
def sumC : List Tr → Int
  | [] => 0
  | t :: l => t.c + sumC l
theorem sumA_app (l m : List Tr) : sumA (l ++ m) = sumA l + sumA m := by
  induction l with
  | nil => simp [sumA]
  | cons t l ih => simp only [List.cons_append, sumA, ih]; omega
theorem sumC_app (l m : List Tr) : sumC (l ++ m) = sumC l + sumC m := by
  induction l with
  | nil => simp [sumC]
  | cons t l ih => simp only [List.cons_append, sumC, ih]; omega
theorem bill_sums (l : List Du) (x y : Int) (k : Nat) : sumA (billK l x y k) = manyK l x y k ∧ sumC (billK l x y k) = costK l x y k := by
  induction k with
  | zero => exact ⟨rfl, rfl⟩
  | succ k ih =>
    have h0 := ov_pos (low l k) (l.getD k du0).a x y
    unfold billK manyK costK
    rw [sumA_app, sumC_app, ih.1, ih.2]
    by_cases h : 0 < ov (low l k) (l.getD k du0).a x y
    · rw [if_pos h]; simp [sumA, sumC]
    · have e : ov (low l k) (l.getD k du0).a x y = 0 := by omega
      rw [if_neg h, e]; simp [sumA, sumC]
def LineOk (t : Tr) : Prop := 1 ≤ t.a ∧ t.a ≤ 10000000 ∧ 1 ≤ t.b ∧ t.b ≤ 100000 ∧ t.c = t.a * t.b
theorem bill_ok {l : List Du} (h : Right l) (x y : Int) (k : Nat) (hk : k ≤ l.length) : ∀ t ∈ billK l x y k, LineOk t := by
  induction k with
  | zero => intro t ht; cases ht
  | succ k ih =>
    intro t ht
    unfold billK at ht
    rcases List.mem_append.1 ht with ht | ht
    · exact ih (by omega) t ht
    · by_cases hp : 0 < ov (low l k) (l.getD k du0).a x y
      · rw [if_pos hp] at ht
        have e := List.mem_singleton.1 ht
        subst e
        have h1 := h.price k (by omega)
        have h2 := h.upto k (by omega)
        have h3 := h.low_pos k (by omega)
        exact ⟨by show 1 ≤ ov _ _ _ _; omega, by show ov _ _ _ _ ≤ _; unfold ov; omega, h1.1, h1.2, rfl⟩
      · rw [if_neg hp] at ht; cases ht
/-- The most that there can be. -/
def Top (x : Int) : Int := min 2097151 (10000000 - x)
def MostOf (l : List Du) (x m u : Int) : Prop := (0 ≤ u ∧ u ≤ Top x) ∧ cost l x (x + u) ≤ m ∧ (u = Top x ∨ m < cost l x (x + (u + 1)))
theorem MostOf.one {l : List Du} {x m u v : Int} (h : Right l) (hx : 0 ≤ x) (a : MostOf l x m u) (b : MostOf l x m v) : u = v := by
  obtain ⟨⟨a1, a2⟩, a3, a4⟩ := a
  obtain ⟨⟨b1, b2⟩, b3, b4⟩ := b
  rcases Int.lt_trichotomy u v with c | c | c
  · rcases a4 with a4 | a4
    · omega
    · have h1 := cost_adds h x (x + (u + 1)) (x + v) (by omega) (by omega)
      have h2 := cost_bd h (x + (u + 1)) (x + v) (by omega) (by omega) (by unfold Top at b2; omega)
      omega
  · exact c
  · rcases b4 with b4 | b4
    · omega
    · have h1 := cost_adds h x (x + (v + 1)) (x + u) (by omega) (by omega)
      have h2 := cost_bd h (x + (v + 1)) (x + u) (by omega) (by omega) (by unfold Top at a2; omega)
      omega
def MayMost (x m : Int) : Prop := (0 ≤ x ∧ x ≤ 10000000) ∧ 0 ≤ m ∧ m ≤ 1000000000000
def MostIs (l : List Du) (x m : Int) (u p e : Int) : Prop := (¬ Right l ∧ FaultIs l e ∧ u = 0 ∧ p = 0) ∨ (Right l ∧ ¬ MayMost x m ∧ e = 2 ∧ u = 0 ∧ p = 0) ∨ (Right l ∧ MayMost x m ∧ e = 0 ∧ MostOf l x m u ∧ p = cost l x (x + u))
theorem MostIs.one {l : List Du} {x m u p e u' p' e' : Int} (h : MostIs l x m u p e) (h' : MostIs l x m u' p' e') : u = u' ∧ p = p' ∧ e = e' := by
  rcases h with ⟨a, b, rfl, rfl⟩ | ⟨a, b, rfl, rfl, rfl⟩ | ⟨a, b, rfl, c, rfl⟩ <;> rcases h' with ⟨a', b', rfl, rfl⟩ | ⟨a', b', rfl, rfl, rfl⟩ | ⟨a', b', rfl, c', rfl⟩ <;> first | exact ⟨rfl, rfl, b.one b'⟩ | exact ⟨rfl, rfl, rfl⟩ | contradiction | skip
  obtain rfl := c.one a b.1.1 c'
  exact ⟨rfl, rfl, rfl⟩
theorem rise_not {l : List Du} {k : Nat} (h1 : 1 ≤ k) (hk : k < l.length) (h : (l.getD k du0).a ≤ (l.getD (k - 1) du0).a) : ¬ (Rises l ∧ Ends l) := fun hh => by
  have := hh.1 k h1 hk; omega
/-- What bounds a product. -/
theorem prod_bd {o p : Int} (h0 : 0 ≤ o) (h1 : o ≤ 10000000) (h2 : 1 ≤ p) (h3 : p ≤ 100000) : 0 ≤ o * p ∧ o * p ≤ 1000000000000 := by
  have a := Int.mul_nonneg h0 (show 0 ≤ p by omega)
  have b : o * p ≤ 10000000 * 100000 := Int.le_trans (Int.mul_le_mul_of_nonneg_left h3 h0) (Int.mul_le_mul_of_nonneg_right h1 (by decide))
  exact ⟨a, by omega⟩
theorem costK_le {l : List Du} (h : Right l) (x y : Int) (hx : 0 ≤ x) (hxy : x ≤ y) (hy : y ≤ 10000000) (k : Nat) (hk : k ≤ l.length) : costK l x y k ≤ 1000000000000 := by
  have h1 := costK_mono h x y k l.length hk (Nat.le_refl _)
  have h2 := (cost_bd h x y hx hxy hy).2
  unfold cost at h2
  omega
theorem ov_le (lo hi x y : Int) (h0 : 0 ≤ lo) (h1 : hi ≤ 10000000) : ov lo hi x y ≤ 10000000 := by unfold ov; omega
theorem billK_yes (l : List Du) (x y : Int) (k : Nat) (h : 0 < ov (low l k) (l.getD k du0).a x y) : billK l x y (k + 1) = billK l x y k ++ [⟨ov (low l k) (l.getD k du0).a x y, (l.getD k du0).b, ov (low l k) (l.getD k du0).a x y * (l.getD k du0).b⟩] := by
  unfold billK; rw [if_pos h]
  cases k <;> rfl
theorem billK_no (l : List Du) (x y : Int) (k : Nat) (h : ¬ 0 < ov (low l k) (l.getD k du0).a x y) : billK l x y (k + 1) = billK l x y k := by
  conv => lhs; unfold billK
  rw [if_neg h, List.append_nil]
theorem sums_pos (l : List Tr) (h : ∀ t ∈ l, LineOk t) : 0 ≤ sumA l ∧ 0 ≤ sumC l := by
  induction l with
  | nil => exact ⟨Int.le_refl _, Int.le_refl _⟩
  | cons t l ih =>
    have h1 := ih fun x hx => h x (List.mem_cons_of_mem _ hx)
    obtain ⟨a1, a2, a3, a4, a5⟩ := h t List.mem_cons_self
    have h2 := Int.mul_nonneg (show 0 ≤ t.a by omega) (show 0 ≤ t.b by omega)
    exact ⟨by show 0 ≤ t.a + sumA l; omega, by show 0 ≤ t.c + sumC l; omega⟩
theorem sums_take (l : List Tr) (h : ∀ t ∈ l, LineOk t) (k : Nat) : (0 ≤ sumA (l.take k) ∧ sumA (l.take k) ≤ sumA l) ∧ 0 ≤ sumC (l.take k) ∧ sumC (l.take k) ≤ sumC l := by
  have h1 := sums_pos (l.take k) fun x hx => h x (List.mem_of_mem_take hx)
  have h2 := sums_pos (l.drop k) fun x hx => h x (List.mem_of_mem_drop hx)
  have e1 := sumA_app (l.take k) (l.drop k)
  have e2 := sumC_app (l.take k) (l.drop k)
  rw [List.take_append_drop] at e1 e2
  exact ⟨⟨h1.1, by omega⟩, h1.2, by omega⟩
theorem sums_next (l : List Tr) (k : Nat) (hk : k < l.length) : sumA (l.take (k + 1)) = sumA (l.take k) + (l.getD k tr0).a ∧ sumC (l.take (k + 1)) = sumC (l.take k) + (l.getD k tr0).c := by
  rw [List.take_succ_eq_append_getElem hk, sumA_app, sumC_app]
  simp [List.getD, List.getElem?_eq_getElem hk, sumA, sumC]
theorem line_at {l : List Tr} (h : ∀ t ∈ l, LineOk t) (k : Nat) (hk : k < l.length) : LineOk (l.getD k tr0) := by
  have e : l.getD k tr0 = l[k] := by simp [List.getD, List.getElem?_eq_getElem hk]
  rw [e]; exact h _ (List.getElem_mem hk)

end Go.Proofs.YtlianhienbhbgaaDoor.tar
