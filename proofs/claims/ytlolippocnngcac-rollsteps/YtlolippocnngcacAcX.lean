/- Accounts that are sold to: plain facts. -/
import Derived.Test.YtlolippocnngcacAcD
import Derived.Test.YtlolippocnngcacTxW
namespace Go.Proofs.Ytlolippocnngcac.acc
open Go.Proofs.Ytlolippocnngcac.tar (Du du0 Right MostOf cost Top)
open Go.Proofs.Ytlolippocnngcac.deb (sumD recK ageAll)
open Go.RowKit
set_option linter.unusedVariables false

theorem wf_neg {z : Int} (h0 : -1 ≤ z) (h1 : z ≤ 4000000000000) : (Lit.int .i64 z).wf = true := by
  by_cases h : z = -1
  · subst h; decide
  · exact tar.wf_mid (by omega) h1
theorem amay_wf {a : Ac} (h : AMay a) : wf6 a := by
  obtain ⟨_, ⟨a1, a2⟩, ⟨b1, b2⟩, ⟨c1, c2⟩, ⟨d1, d2⟩, ⟨e1, e2⟩, f1, f2⟩ := h
  exact ⟨tar.wf_mid a1 (by omega), tar.wf_mid b1 (by omega), tar.wf_mid (by omega) (by omega), tar.wf_mid d1 (by omega), tar.wf_mid e1 (by omega), wf_neg f1 (by omega)⟩
theorem tright_wf {t : Tm} (h : TRight t) : wf4 t := by
  obtain ⟨_, ⟨a1, a2⟩, ⟨b1, b2⟩, ⟨c1, c2⟩, d1, d2⟩ := h
  exact ⟨tar.wf_mid a1 (by omega), tar.wf_mid b1 (by omega), tar.wf_mid c1 (by omega), tar.wf_mid d1 (by omega)⟩
theorem roll_yes {a : Ac} {m e : Int} {b : Ac} (h : RollIs a m b e) (ha : AMay a) (hr : RMay a m) : b = rolled a m ∧ e = 0 := by
  rcases h with ⟨p, _⟩ | ⟨_, p, _⟩ | ⟨_, _, h⟩
  · exact absurd ha p
  · exact absurd hr p
  · exact h
theorem rec_bd {te db : Int} (h0 : 0 ≤ te) (h1 : te ≤ 100000000) (h2 : 0 ≤ db) (h3 : db ≤ 10000) : 0 ≤ te * db / 10000 ∧ te * db / 10000 ≤ te := by
  have a := Int.mul_nonneg h0 h2
  have b : te * db ≤ te * 10000 := Int.mul_le_mul_of_nonneg_left h3 h0
  omega
/-- What a sale comes to. -/
theorem sell_cases {a : Ac} {t : Tm} {te m e : Int} {b : Ac} {l : Bi} (h : SellIs a t te m b l e) (hr : Ready a t m) (hn : a.nx ≤ 1048574) (ht : 1 ≤ te ∧ te ≤ 100000000) :
    (e = 19 ∧ b = ac0 ∧ l = bi0 ∧ (rest a t te m < 0 ∨ (0 ≤ rest a t te m ∧ (rolled a m).bo = 10000000) ∨ (0 ≤ rest a t te m ∧ (rolled a m).bo < 10000000 ∧ rest a t te m < cost t.ts (rolled a m).bo ((rolled a m).bo + 1)))) ∨
    (e = 0 ∧ ∃ u, MostOf t.ts (rolled a m).bo (rest a t te m) u ∧ 1 ≤ u ∧ b = sold a t te m u ∧ l = bill a t te m u) := by
  have hm := rolled_may hr.1 hr.2.2
  obtain ⟨bo0, bo1⟩ := hm.2.2.2.2.2.1
  rcases h with ⟨p, _⟩ | ⟨p, q, rfl, rfl, rfl⟩ | ⟨_, _, q, _⟩ | ⟨p, q, _, rfl, u, hu, rfl, rfl⟩
  · exact absurd hr p.not
  · refine .inl ⟨rfl, rfl, rfl, ?_⟩
    by_cases h0 : rest a t te m < 0
    · exact .inl h0
    · by_cases h1 : (rolled a m).bo = 10000000
      · exact .inr (.inl ⟨by omega, h1⟩)
      · refine .inr (.inr ⟨by omega, by omega, ?_⟩)
        apply Classical.byContradiction
        intro h2
        refine q ⟨ht, by omega, fun hmo => ?_⟩
        rcases hmo.2.2 with h3 | h3
        · unfold Top at h3; omega
        · rw [show (0 : Int) + 1 = 1 by decide] at h3; omega
  · exact absurd (show a.nx ≤ 1048575 by omega) q
  · refine .inr ⟨rfl, u, hu, ?_, rfl, rfl⟩
    apply Classical.byContradiction
    intro h2
    have h3 : u = 0 := by have := hu.1.1; omega
    subst h3
    exact q.2.2 hu
theorem most_cost {l : List Du} {x m u : Int} (h : Right l) (hx : 0 ≤ x) (hu : MostOf l x m u) (h1 : 1 ≤ u) : 0 < cost l x (x + u) ∧ cost l x (x + u) ≤ m ∧ x + u ≤ 10000000 ∧ u ≤ 2097151 := by
  have h2 := hu.1.2
  have h3 := tar.cost_bd h x (x + u) hx (by omega) (by unfold Top at h2; omega)
  exact ⟨by omega, hu.2.1, by unfold Top at h2; omega, by unfold Top at h2; omega⟩
theorem mays_sum {l : List Du} (h : deb.Mays l) : 0 ≤ sumD l ∧ sumD l ≤ 8000000000 := by
  have h1 := deb.sumD_pos (l := l) (deb.mem_fits h.2)
  have h2 := h.1
  exact ⟨h1.1, by have := h1.2; omega⟩

end Go.Proofs.Ytlolippocnngcac.acc
