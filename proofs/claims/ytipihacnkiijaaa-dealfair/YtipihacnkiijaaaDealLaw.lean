/- What cents.Deal gives back, where it deals: what adds up, the quota rule, and who gets no less. -/
import Derived.Test.YtipihacnkiijaaaDealRule
import Derived.Test.YtipihacnkiijaaaWts
namespace Go.Proofs.Ytipihacnkiijaaa.cents
open Go.RowKit

/-- A slice was given back, in a new block g: the numbers o. -/
structure Dealt (w w' : World) (total : Int) (ys : List Int) (n g : Nat) (o : Nat → Int) : Prop where
  below : Below w.heap.size w w'
  new : w.heap.size ≤ g
  cell : ∀ i, i < n → w'.cell? ⟨g, i, none⟩ = some (.int .i64 (o i))
  bd : ∀ i, i < n → 0 ≤ o i ∧ o i ≤ 1000000000050
  sum : sumTo o n = total
  fair : ∀ i, i < n → total * ys.getD i 0 / ys.sum ≤ o i ∧ o i ≤ (total * ys.getD i 0 + ys.sum - 1) / ys.sum
  rises : ∀ i j, i < n → j < n → (ys.getD j 0 < ys.getD i 0 ∨ (ys.getD i 0 = ys.getD j 0 ∧ i < j)) → o j ≤ o i

def DealtPost (w : World) (total : Int) (ys : List Int) (n : Nat) (e : Ending) (w' : World) : Prop :=
  ∃ g o, e = .returned (.tuple #[.slice (some ⟨g, 0, none⟩) n n, .int .i64 0]) ∧ Dealt w w' total ys n g o

theorem all_bd {ys : List Int} {n : Nat} (hlen : ys.length = n) (h1 : n ≤ 50) (hok : okAll 0 1000000 ys = true) : ys.sum ≤ 50000000 := by
  have := sum_bd 1000000 ys fun z hz => by have := okAll_bd hok z hz; omega
  rw [hlen] at this
  omega

theorem deal_law (total : Int) (a : Option Addr) (n cap : Nat) (ys : List Int) (w : World) (hr : Row w a n ys) (h0 : 0 < n) (h1 : n ≤ 50) (t0 : 0 ≤ total) (t1 : total ≤ 1000000000000) (hok : okAll 0 1000000 ys = true) (hs : 0 < ys.sum) :
    Calls Try.prog 10 #[.int .i64 total, .slice a n cap] w fun e w' => DealtPost w total ys n e w' := by
  have hlen := hr.1
  have hl := left_bd (total := total) h0 hlen rfl hs
  refine (deal_ok total a n cap ys w hr h0 h1 t0 t1 hok hs hl.1 (by omega)).mono ?_
  rintro e w' ⟨g, f, he, hb, hg, hm, hsrt, hc⟩
  refine ⟨g, fun i => share total ys.sum ys i + bump f (leftOf total ys.sum ys n).toNat i, he, hb, hg, hc, fun i hi => ?_, deal_adds hlen h0 rfl hs hm, fun i hi => deal_fair h0 hlen rfl hs hm hsrt i, fun i j hi hj h => deal_rises t0 h0 hlen rfl hs hm hsrt i j hi hj h⟩
  have hb1 := bump_bd f (leftOf total ys.sum ys n).toNat i
  have hmem := (mem_le_sum ys fun z hz => (okAll_bd hok z hz).1).2
  have hsh := share_bd (total := total) (all := ys.sum) (len := n) (k := i) (zs := ys) ⟨t0, t1, okAll_bd hok, hs, all_bd hlen h1 hok, h1⟩ hmem (by omega)
  have : ((leftOf total ys.sum ys n).toNat : Int) ≤ 50 := by omega
  show 0 ≤ share total ys.sum ys i + bump f (leftOf total ys.sum ys n).toNat i ∧ share total ys.sum ys i + bump f (leftOf total ys.sum ys n).toNat i ≤ 1000000000050
  omega

theorem sumTo_out {o : Nat → Int} {n : Nat} (h : ∀ i, i < n → 0 ≤ o i ∧ o i ≤ 1000000000050) {k : Nat} (hk : k ≤ n) : 0 ≤ sumTo o k ∧ sumTo o k ≤ 1000000000050 * k := by
  induction k with
  | zero => simp [sumTo]
  | succ k ih =>
    have h1 := ih (by omega)
    have h2 := h k (by omega)
    simp only [sumTo]
    omega

theorem wgt_bd {ys : List Int} {n i : Nat} (hlen : ys.length = n) (hok : okAll 0 1000000 ys = true) (hi : i < n) : 0 ≤ ys.getD i 0 ∧ ys.getD i 0 ≤ 1000000 :=
  okAll_bd hok _ (by simp [List.getD, List.getElem?_eq_getElem (show i < ys.length by omega)])

theorem prod_bd2 (T y : Int) (h1 : 0 ≤ T) (h2 : T ≤ 1000000000000) (h3 : 0 ≤ y) (h4 : y ≤ 1000000) : 0 ≤ T * y ∧ T * y ≤ 1000000000000000000 :=
  ⟨Int.mul_nonneg h1 h3, by have := Int.mul_le_mul h2 h4 h3 (by omega); omega⟩

end Go.Proofs.Ytipihacnkiijaaa.cents
