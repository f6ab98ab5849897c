/- No debt is touched before the ones ahead of it are gone: plain facts. -/
import Derived.Test.YtodnlecccgiogaaDbN
namespace Go.Proofs.Ytodnlecccgiogaa.deb
open Go.Proofs.Ytodnlecccgiogaa.tar
set_option linter.unusedVariables false

/-- The debts of which something is owed. -/
def some1 : List Du → List Du
  | [] => []
  | d :: l => if 0 < d.a then d :: some1 l else some1 l
/-- What is left, one debt after the other. -/
def recL : List Du → Int → List Du
  | [], _ => []
  | d :: l, s => if d.a ≤ s then recL l (s - d.a) else ⟨d.a - s, d.b⟩ :: some1 l
theorem some1_snoc (l : List Du) (d : Du) : some1 (l ++ [d]) = some1 l ++ (if 0 < d.a then [d] else []) := by
  induction l with
  | nil => simp only [List.nil_append, some1]
  | cons e l ih =>
    simp only [List.cons_append, some1]
    by_cases h : 0 < e.a
    · rw [if_pos h, if_pos h, ih, List.cons_append]
    · rw [if_neg h, if_neg h, ih]
theorem some1_yes (l : List Du) (d : Du) (h : 0 < d.a) : some1 (l ++ [d]) = some1 l ++ [d] := by rw [some1_snoc, if_pos h]
theorem some1_no (l : List Du) (d : Du) (h : ¬ 0 < d.a) : some1 (l ++ [d]) = some1 l := by rw [some1_snoc, if_neg h, List.append_nil]
theorem some1_len (l : List Du) : (some1 l).length ≤ l.length := by
  induction l with
  | nil => exact Nat.le_refl _
  | cons d l ih => unfold some1; split <;> simp <;> omega
theorem some1_mem {l : List Du} {d : Du} (h : d ∈ some1 l) : d ∈ l ∧ 0 < d.a := by
  induction l with
  | nil => cases h
  | cons e l ih =>
    unfold some1 at h
    by_cases hp : 0 < e.a
    · rw [if_pos hp] at h
      rcases List.mem_cons.1 h with rfl | h
      · exact ⟨List.mem_cons_self, hp⟩
      · exact ⟨List.mem_cons_of_mem _ (ih h).1, (ih h).2⟩
    · rw [if_neg hp] at h
      exact ⟨List.mem_cons_of_mem _ (ih h).1, (ih h).2⟩
theorem sumD_nonneg {l : List Du} (h : ∀ d ∈ l, 0 ≤ d.a) : 0 ≤ sumD l := by
  induction l with
  | nil => exact Int.le_refl _
  | cons d l ih =>
    have h1 := ih fun x hx => h x (List.mem_cons_of_mem _ hx)
    have h2 := h d List.mem_cons_self
    show 0 ≤ d.a + sumD l; omega
def one1 (x b : Int) : List Du := if 0 < x then [⟨x, b⟩] else []
theorem recL_snoc (l : List Du) (d : Du) (s : Int) (hs : 0 ≤ s) (hl : ∀ x ∈ l, 0 ≤ x.a) (hd : 0 ≤ d.a) : recL (l ++ [d]) s = recL l s ++ one1 (left d.a (sumD l + d.a) s) d.b := by
  induction l generalizing s with
  | nil =>
    have e : left d.a (sumD [] + d.a) s = d.a - s := by unfold left; show min d.a (0 + d.a - s) = _; omega
    rw [e]
    unfold one1
    simp only [List.nil_append, recL]
    by_cases h : d.a ≤ s
    · rw [if_pos h, if_neg (by omega)]
    · rw [if_neg h, if_pos (by omega)]; rfl
  | cons e l ih =>
    have he := hl e List.mem_cons_self
    have hl' : ∀ x ∈ l, 0 ≤ x.a := fun x hx => hl x (List.mem_cons_of_mem _ hx)
    have hn := sumD_nonneg hl'
    have es : sumD (e :: l) = e.a + sumD l := rfl
    by_cases h : e.a ≤ s
    · have e2 : left d.a (sumD (e :: l) + d.a) s = left d.a (sumD l + d.a) (s - e.a) := by rw [es]; unfold left; omega
      rw [e2]
      simp only [List.cons_append, recL]
      rw [if_pos h, if_pos h, ih (s - e.a) (by omega) hl']
    · have e2 : left d.a (sumD (e :: l) + d.a) s = d.a := by rw [es]; unfold left; omega
      rw [e2]
      simp only [List.cons_append, recL]
      rw [if_neg h, if_neg h, some1_snoc, List.cons_append]
      rfl
theorem recK_recL {l : List Du} (h : Mays l) (s : Int) (hs : 0 ≤ s) (k : Nat) (hk : k ≤ l.length) : recK l s k = recL (l.take k) s := by
  induction k with
  | zero => simp [recK, recL]
  | succ k ih =>
    have h1 := (h.2 k (by omega)).1.1
    have h2 := sumK_take l k (by omega)
    rw [take_one l k (by omega), recL_snoc _ _ s hs (fun x hx => (mem_fits h.2 x (List.mem_of_mem_take hx)).1.1) h1, ← ih (by omega), ← h2]
    rfl
theorem rec_all {l : List Du} (h : Mays l) (s : Int) (hs : 0 ≤ s) : recK l s l.length = recL l s := by
  rw [recK_recL h s hs _ (Nat.le_refl _), List.take_length]
/-- What went there, and which are gone. -/
structure Gone (l : List Du) (s : Int) (g : Nat) : Prop where
  len : (some1 l).length = g + (recL l s).length
  none : recL l s = [] → min s (sumD l) = sumD ((some1 l).take g)
  rest : ∀ d r, recL l s = d :: r → ∃ d0, (some1 l).drop g = d0 :: r ∧ d = ⟨d0.a - (min s (sumD l) - sumD ((some1 l).take g)), d0.b⟩ ∧ 1 ≤ d.a
theorem gone_is (l : List Du) (s : Int) (hs : 0 ≤ s) (hl : ∀ x ∈ l, 0 ≤ x.a) : ∃ g, Gone l s g := by
  induction l generalizing s with
  | nil => exact ⟨0, rfl, fun _ => by simp [sumD]; omega, fun d r h => by simp [recL] at h⟩
  | cons e l ih =>
    have he := hl e List.mem_cons_self
    have hl' : ∀ x ∈ l, 0 ≤ x.a := fun x hx => hl x (List.mem_cons_of_mem _ hx)
    have hn := sumD_nonneg hl'
    by_cases h : e.a ≤ s
    · obtain ⟨g, hg⟩ := ih (s - e.a) (by omega) hl'
      have er : recL (e :: l) s = recL l (s - e.a) := by simp only [recL]; rw [if_pos h]
      by_cases hp : 0 < e.a
      · have es : some1 (e :: l) = e :: some1 l := by simp only [some1]; rw [if_pos hp]
        refine ⟨g + 1, ?_, ?_, ?_⟩
        · rw [er, es, List.length_cons, hg.len]; omega
        · rw [er, es]
          intro h0
          have := hg.none h0
          simp only [List.take_succ_cons, sumD]
          omega
        · rw [er, es]
          intro d r h0
          obtain ⟨d0, h1, h2, h3⟩ := hg.rest d r h0
          refine ⟨d0, by simpa using h1, ?_, h3⟩
          rw [h2]
          simp only [List.take_succ_cons, sumD]
          congr 1
          omega
      · have es : some1 (e :: l) = some1 l := by simp only [some1]; rw [if_neg hp]
        refine ⟨g, ?_, ?_, ?_⟩
        · rw [er, es]; exact hg.len
        · rw [er, es]
          intro h0
          have := hg.none h0
          simp only [sumD]
          omega
        · rw [er, es]
          intro d r h0
          obtain ⟨d0, h1, h2, h3⟩ := hg.rest d r h0
          refine ⟨d0, h1, ?_, h3⟩
          rw [h2]
          simp only [sumD]
          congr 1
          omega
    · have hp : 0 < e.a := by omega
      have er : recL (e :: l) s = ⟨e.a - s, e.b⟩ :: some1 l := by simp only [recL]; rw [if_neg h]
      have es : some1 (e :: l) = e :: some1 l := by simp only [some1]; rw [if_pos hp]
      refine ⟨0, ?_, ?_, ?_⟩
      · rw [er, es]; simp
      · rw [er]; intro h0; cases h0
      · rw [er, es]
        intro d r h0
        obtain ⟨rfl, rfl⟩ := List.cons.inj h0
        refine ⟨e, rfl, ?_, by show 1 ≤ e.a - s; omega⟩
        simp only [List.take_zero, sumD]
        congr 1
        omega
/-- The same, place by place. -/
theorem Gone.at {l : List Du} {s : Int} {g : Nat} (h : Gone l s g) (i : Nat) (hi : i < (recL l s).length) :
    (recL l s).getD i du0 = ⟨((some1 l).getD (g + i) du0).a - (if i = 0 then min s (sumD l) - sumD ((some1 l).take g) else 0), ((some1 l).getD (g + i) du0).b⟩ := by
  cases hr : recL l s with
  | nil => rw [hr] at hi; cases hi
  | cons d r =>
    obtain ⟨d0, h1, h2, h3⟩ := h.rest d r hr
    have e : ∀ j, (some1 l).getD (g + j) du0 = (d0 :: r).getD j du0 := fun j => by
      rw [← h1]; simp [List.getD, List.getElem?_drop]
    rw [e i]
    cases i with
    | zero => rw [if_pos rfl]; exact h2
    | succ i =>
      rw [if_neg (by omega)]
      show r.getD i du0 = ⟨(r.getD i du0).a - 0, (r.getD i du0).b⟩
      rw [Int.sub_zero]
theorem recL_one {l : List Du} {s : Int} {g : Nat} (h : Gone l s g) (i : Nat) (hi : i < (recL l s).length) : 1 ≤ ((recL l s).getD i du0).a := by
  cases hr : recL l s with
  | nil => rw [hr] at hi; cases hi
  | cons d r =>
    obtain ⟨d0, h1, h2, h3⟩ := h.rest d r hr
    cases i with
    | zero => exact h3
    | succ i =>
      rw [hr] at hi
      have hi' : i < r.length := by simpa using hi
      show 1 ≤ (r.getD i du0).a
      have e : r.getD i du0 = r[i] := by simp [List.getD, List.getElem?_eq_getElem hi']
      rw [e]
      have hm : r[i] ∈ some1 l := by
        have : r[i] ∈ (some1 l).drop g := by rw [h1]; exact List.mem_cons_of_mem _ (List.getElem_mem hi')
        exact List.mem_of_mem_drop this
      have := (some1_mem hm).2
      omega

end Go.Proofs.Ytodnlecccgiogaa.deb
