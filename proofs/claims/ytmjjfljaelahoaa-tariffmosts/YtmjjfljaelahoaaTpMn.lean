/- The most units for an amount: plain facts. -/
import Derived.Test.YtmjjfljaelahoaaTpIn
namespace Go.Proofs.Ytmjjfljaelahoaa.tar
set_option linter.unusedVariables false

theorem ov_before {l : List Du} (h : Right l) (x y z : Int) (k j : Nat) (hk : k < l.length) (hj : j < k) (hy : low l k ≤ y) (hz : low l k ≤ z) : ov (low l j) (l.getD j du0).a x z = ov (low l j) (l.getD j du0).a x y := by
  have h1 := low_mono h (j + 1) k (by omega) (by omega)
  rw [low_next] at h1
  unfold ov
  omega
theorem costK_before {l : List Du} (h : Right l) (x y z : Int) (k j : Nat) (hk : k < l.length) (hj : j ≤ k) (hy : low l k ≤ y) (hz : low l k ≤ z) : costK l x z j = costK l x y j := by
  induction j with
  | zero => rfl
  | succ j ih => rw [costK_next, costK_next, ih (by omega), ov_before h x y z k j hk (by omega) hy hz]
theorem costK_behind {l : List Du} (h : Right l) (x z : Int) (k j : Nat) (hkj : k ≤ j) (hj : j ≤ l.length) (hz : z ≤ low l k) : costK l x z j = costK l x z k := by
  induction j with
  | zero => have : k = 0 := by omega
            subst this; rfl
  | succ j ih =>
    by_cases e : k = j + 1
    · subst e; rfl
    · have h1 := ih (by omega) (by omega)
      have h2 := low_mono h k j (by omega) (by omega)
      rw [costK_next, h1, show ov (low l j) (l.getD j du0).a x z = 0 by unfold ov; omega]
      omega
/-- What all units of the steps ahead of k cost, and q of the step k. -/
theorem cost_part {l : List Du} (h : Right l) (x y : Int) (hx : 0 ≤ x) (hxy : x ≤ y) (k : Nat) (hk : k < l.length) (q : Int) (hq : 0 ≤ q) (hq2 : q ≤ ov (low l k) (l.getD k du0).a x y) (hp : 0 < ov (low l k) (l.getD k du0).a x y) :
    cost l x (x + (manyK l x y k + q)) = costK l x y k + q * (l.getD k du0).b := by
  have h1 := many_eq h x y hx hxy k (by omega)
  have h2 := h.rise k hk
  have h3 := h.low_pos k (by omega)
  have hlo : low l k ≤ y := by unfold ov at hp; omega
  have hz : low l k ≤ x + (manyK l x y k + q) := by rw [h1]; omega
  have hz2 : x + (manyK l x y k + q) ≤ low l (k + 1) := by rw [h1, low_next]; unfold ov at hq2 hp; omega
  unfold cost
  rw [costK_behind h x _ (k + 1) l.length (by omega) (Nat.le_refl _) hz2, costK_next, costK_before h x y _ k k hk (Nat.le_refl _) hlo hz]
  rw [show ov (low l k) (l.getD k du0).a x (x + (manyK l x y k + q)) = q by rw [h1]; unfold ov at hq2 hp ⊢; omega]
/-- Where a line stands. -/
theorem bill_at (l : List Du) (x y : Int) (n : Nat) (p : List Tr) (t : Tr) (h : p ++ [t] <+: billK l x y n) : ∃ k, k < n ∧ p = billK l x y k ∧ 0 < ov (low l k) (l.getD k du0).a x y ∧ t = ⟨ov (low l k) (l.getD k du0).a x y, (l.getD k du0).b, ov (low l k) (l.getD k du0).a x y * (l.getD k du0).b⟩ := by
  induction n with
  | zero =>
    have := h.length_le
    simp [billK] at this
  | succ n ih =>
    by_cases hp : 0 < ov (low l n) (l.getD n du0).a x y
    · rw [billK_yes l x y n hp] at h
      rcases List.prefix_concat_iff.1 h with h | h
      · obtain ⟨h1, h2⟩ := List.append_inj' h rfl
        exact ⟨n, by omega, h1, hp, by simpa using h2⟩
      · obtain ⟨k, a, b⟩ := ih h
        exact ⟨k, by omega, b⟩
    · rw [billK_no l x y n hp] at h
      obtain ⟨k, a, b⟩ := ih h
      exact ⟨k, by omega, b⟩
theorem top_bd {x : Int} (hx : 0 ≤ x ∧ x ≤ 10000000) : 0 ≤ Top x ∧ x + Top x ≤ 10000000 := by unfold Top; omega
theorem most_all {l : List Du} (h : Right l) (x m : Int) (hx : 0 ≤ x ∧ x ≤ 10000000) (hm : sumC (billK l x (x + Top x) l.length) ≤ m) : MostOf l x m (sumA (billK l x (x + Top x) l.length)) ∧ sumC (billK l x (x + Top x) l.length) = cost l x (x + sumA (billK l x (x + Top x) l.length)) := by
  have ht := top_bd hx
  have h1 := bill_sums l x (x + Top x) l.length
  have h2 := many_all h x (x + Top x) hx.1 (by omega) ht.2
  have e : sumA (billK l x (x + Top x) l.length) = Top x := by rw [h1.1, h2]; omega
  have e2 : sumC (billK l x (x + Top x) l.length) = cost l x (x + Top x) := h1.2
  rw [e, e2]
  rw [e2] at hm
  exact ⟨⟨⟨ht.1, Int.le_refl _⟩, hm, .inl rfl⟩, rfl⟩
theorem most_cut {l : List Du} (h : Right l) (x m q : Int) (hx : 0 ≤ x ∧ x ≤ 10000000) (p : List Tr) (t : Tr) (hpre : p ++ [t] <+: billK l x (x + Top x) l.length) (hq0 : 0 ≤ q) (hq : q < t.a) (h1 : sumC p + q * t.b ≤ m) (h2 : m < sumC p + (q + 1) * t.b) :
    MostOf l x m (sumA p + q) ∧ sumC p + q * t.b = cost l x (x + (sumA p + q)) := by
  have ht := top_bd hx
  obtain ⟨k, hk, rfl, hp, rfl⟩ := bill_at l x (x + Top x) l.length p t hpre
  have hs := bill_sums l x (x + Top x) k
  rw [hs.1, hs.2]
  rw [hs.2] at h1 h2
  dsimp only at hq h1 h2 ⊢
  have e1 := cost_part h x (x + Top x) hx.1 (by omega) k hk q hq0 (by omega) hp
  have e2 := cost_part h x (x + Top x) hx.1 (by omega) k hk (q + 1) (by omega) (by omega) hp
  have hb := many_bd h x (x + Top x) hx.1 (by omega) k (by omega)
  have hb2 := many_bd h x (x + Top x) hx.1 (by omega) (k + 1) (by omega)
  rw [many_next] at hb2
  rw [e1]
  refine ⟨⟨⟨by omega, by omega⟩, by rw [e1]; exact h1, .inr ?_⟩, rfl⟩
  rw [show manyK l x (x + Top x) k + q + 1 = manyK l x (x + Top x) k + (q + 1) by omega, e2]
  exact h2
theorem sums_bd (l : List Tr) (h : ∀ t ∈ l, LineOk t) : (0 ≤ sumA l ∧ sumA l ≤ (l.length : Int) * 10000000) ∧ 0 ≤ sumC l := by
  induction l with
  | nil => exact ⟨⟨Int.le_refl _, Int.le_refl _⟩, Int.le_refl _⟩
  | cons t l ih =>
    have h1 := ih fun x hx => h x (List.mem_cons_of_mem _ hx)
    obtain ⟨a1, a2, a3, a4, a5⟩ := h t List.mem_cons_self
    have h2 := prod_bd (show 0 ≤ t.a by omega) a2 a3 a4
    rw [← a5] at h2
    have e : ((t :: l).length : Int) = (l.length : Int) + 1 := by simp
    rw [e, Int.add_mul]
    exact ⟨⟨by show 0 ≤ t.a + sumA l; omega, by show t.a + sumA l ≤ _; omega⟩, by show 0 ≤ t.c + sumC l; omega⟩
theorem quo_bd {d p q : Int} (hd : 0 ≤ d) (hp : 1 ≤ p) (hq : d / p = q) : 0 ≤ q ∧ q * p ≤ d ∧ d < (q + 1) * p ∧ q ≤ d := by
  subst hq
  have h1 := Int.ediv_nonneg hd (show 0 ≤ p by omega)
  have h2 := Int.mul_ediv_self_le (x := d) (k := p) (by omega)
  have h3 := Int.lt_mul_ediv_self_add (x := d) (k := p) (by omega)
  have h4 : d / p ≤ d := Int.ediv_le_self _ hd
  rw [Int.mul_comm] at h2 h3
  exact ⟨h1, h2, by rw [Int.add_mul]; omega, h4⟩
theorem snoc_one {p : List Ln} {t : Ln} : lns (p ++ [t]) = lns p ++ [t.1] := by rw [lns_app]; rfl
theorem sums_one (p : List Ln) (t : Ln) : sumA (lns (p ++ [t])) = sumA (lns p) + t.1.a ∧ sumC (lns (p ++ [t])) = sumC (lns p) + t.1.c := by
  rw [snoc_one, sumA_app, sumC_app]
  exact ⟨by show _ + (t.1.a + 0) = _; omega, by show _ + (t.1.c + 0) = _; omega⟩

end Go.Proofs.Ytmjjfljaelahoaa.tar
