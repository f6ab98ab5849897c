/- The line of an act, as the document says it. -/
import Derived.Test.YtlianhienbhbgaaDoorOeX
import Derived.Test.YtlianhienbhbgaaDoorOdR
import Derived.Deep.DeepCutAuto
namespace Go.Proofs.YtlianhienbhbgaaDoor.odr
open Go.RowKit
set_option maxRecDepth 100000
set_option linter.unusedVariables false
set_option linter.unusedSimpArgs false

theorem line_parts (cut : Int) (fs : ByteArray) (ha hb hc ht : Bool) (me a b c : Int) (t : ByteArray) : lineB cut fs (tl ha hb hc me a b c) ht t = (if cut = -1 then [] else [99, 117, 116, 32] ++ Lib.itoa cut ++ [32]) ++ (fs.data.toList ++ ([32] ++ Lib.itoa me) ++ part ha a ++ part hb b ++ part hc c) ++ (if ht = true then 32 :: t.data.toList else []) := by
  unfold lineB pcs tl
  by_cases hq : cut = -1
  · rw [if_pos hq, if_pos hq]
    cases ha <;> cases hb <;> cases hc <;> cases ht <;> simp [opt, part, ba, Lib.join_cons, Lib.joinTail]
  · rw [if_neg hq, if_neg hq]
    cases ha <;> cases hb <;> cases hc <;> cases ht <;> simp [opt, part, ba, cutW, Lib.join_cons, Lib.joinTail]
/-- What is wrong with an act, as the document asks it. -/
theorem err_doc {x : Ac} (hk : inB 1 7 x.k = true) (hc : inB (-1) 4096 x.cut = true) (hm : inB 0 1000000000000 x.me = true) : err x = if ((hA x.k && !inB 0 1000000000000 x.a) || (hB x.k && !inB 0 1000000000000 x.b) || (hC x.k && !inB 0 1000000000000 x.c)) = true then 2 else if ((!hA x.k && (x.a != 0)) || (!hB x.k && (x.b != 0)) || (!hC x.k && (x.c != 0)) || (!hT x.k && !(x.t.toList == []))) = true ∨ x.t.data.toList.contains 10 = true then 3 else if 120 < (lineL x).length then 1 else 0 := by
  rw [err_eq hk hc _ rfl]
  have e1 : (tl (hA x.k) (hB x.k) (hC x.k) x.me x.a x.b x.c).all (inB 0 1000000000000) = !((hA x.k && !inB 0 1000000000000 x.a) || (hB x.k && !inB 0 1000000000000 x.b) || (hC x.k && !inB 0 1000000000000 x.c)) := by
    unfold tl
    cases hA x.k <;> cases hB x.k <;> cases hC x.k <;> simp [opt, hm, Bool.and_assoc]
  have e2 : acEq (less true (hA x.k) (hB x.k) (hC x.k) (hT x.k) x) ac0 = !((!hA x.k && (x.a != 0)) || (!hB x.k && (x.b != 0)) || (!hC x.k && (x.c != 0)) || (!hT x.k && !(x.t.toList == []))) := by
    rw [less_iff, ls_eq]
    simp only [Bool.true_or, Bool.true_and]
    cases hA x.k <;> cases hB x.k <;> cases hC x.k <;> cases hT x.k <;> cases h1 : (x.a == 0) <;> cases h2 : (x.b == 0) <;> cases h3 : (x.c == 0) <;> simp [bne, h1, h2, h3]
  rw [e1, e2]
  generalize ((hA x.k && !inB 0 1000000000000 x.a) || (hB x.k && !inB 0 1000000000000 x.b) || (hC x.k && !inB 0 1000000000000 x.c)) = B4
  generalize ((!hA x.k && (x.a != 0)) || (!hB x.k && (x.b != 0)) || (!hC x.k && (x.c != 0)) || (!hT x.k && !(x.t.toList == []))) = B6
  cases B4 <;> cases B6 <;> simp
theorem err_k {x : Ac} (h : inB 1 7 x.k = false) : err x = 2 := by unfold err okR; rw [h]; rfl
theorem err_c {x : Ac} (h : inB (-1) 4096 x.cut = false) : err x = 2 := by unfold err okR; rw [h]; simp
theorem err_m {x : Ac} (hk : inB 1 7 x.k = true) (h : inB 0 1000000000000 x.me = false) : err x = 2 := by
  have : (told x).all (inB 0 1000000000000) = false := by
    rw [told_eq hk]
    unfold tl
    simp [opt, h]
  unfold err okR
  rw [this]
  simp
theorem wd_none {k : Int} (h : inB 1 7 k = false) : wd k = [] := by
  have h1 : ¬ (1 ≤ k ∧ k ≤ 7) := by simpa [inB] using h
  unfold wd; rw [if_neg (by omega), if_neg (by omega), if_neg (by omega), if_neg (by omega), if_neg (by omega), if_neg (by omega), if_neg (by omega)]
theorem wd_some {k : Int} (h : inB 1 7 k = true) : ((ba (wd k)).toList == []) = false := by
  rw [ls_eq, ba_list]
  rcases kinds h with rfl | rfl | rfl | rfl | rfl | rfl | rfl <;> decide
theorem lf_at (t : ByteArray) (i : Nat) (h : i < t.size) (he : t[i] = 10) : t.data.toList.contains 10 = true := by
  rw [List.contains_iff_mem, ← he]
  exact List.getElem_mem (l := t.data.toList) (n := i) (by rw [show t.data.toList.length = t.size from Array.length_toList]; exact h)
theorem lf_no (t : ByteArray) (h : ∀ j, j < t.size → t.data.toList.getD j 0 ≠ 10) : t.data.toList.contains 10 = false := by
  cases hc : t.data.toList.contains 10 with
  | false => rfl
  | true =>
    rw [List.contains_iff_mem] at hc
    obtain ⟨j, hj, e⟩ := List.getElem_of_mem hc
    have hj' : j < t.size := by rw [show t.data.toList.length = t.size from Array.length_toList] at hj; exact hj
    have := h j hj'
    rw [at_list t j hj'] at this
    exact absurd e this

end Go.Proofs.YtlianhienbhbgaaDoor.odr
