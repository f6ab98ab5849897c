/- Division by 2^32; the number as a uint64. -/
import Derived.Test.YtmpjmcfgikmgnaaDoorBigLongW
namespace Go.Proofs.YtmpjmcfgikmgnaaDoor.words
open Go.RowKit
set_option maxRecDepth 100000

theorem dig_base : (dig 4294967296).length = 2 := by
  rw [dig_pos (by decide), List.length_cons]
  have e : 4294967296 / 4294967296 = 1 := by decide
  rw [e, dig_pos (by decide), List.length_cons]
  have e2 : 1 / 4294967296 = 0 := by decide
  rw [e2, dig_zero]
  rfl

theorem div_base (a b : Option Addr) (n ca cb M : Nat) (w : World) (ha : Ru w a n ca (dig M)) (hb : Ru w b 2 cb (dig 4294967296)) (hn : n ≤ 60) :
    Calls Tryd.prog 70 #[.slice a n ca, .slice b 2 cb] w fun e w' => DivGives w (M / 4294967296) (M % 4294967296) e w' := by
  by_cases h : M < 4294967296
  · have := div_less a b n 2 ca cb M 4294967296 w ha hb (by omega) (by omega) h
    rw [Nat.div_eq_of_lt h, Nat.mod_eq_of_lt h]
    exact this
  · by_cases h2 : n ≤ 2
    · exact div_two a b n 2 ca cb M 4294967296 w ha hb h2 (by decide) (by omega)
    · exact div_long a b n 2 ca cb M 4294967296 31 33 w ha hb hn (by omega) (Nat.le_refl _) (by omega) (by decide) (by decide) (by omega) ⟨by decide, by decide, by decide⟩ (by decide)

set_option maxHeartbeats 1000000 in
theorem uint64_any (z m : Nat) (w : World) (hg : Bg w z m) (hm : m < 18446744073709551616) :
    Calls Tryd.prog 52 #[.pointer (some ⟨z, 0, none⟩)] w fun e w' => e = .returned (.int .u64 (m : Int)) ∧ w' = w := by
  obtain ⟨a, n, c, hcz, ha⟩ := hg
  have c1 := (ob_cells hcz).2.1
  have hn : n ≤ 2 := by
    rw [← ha.len]
    exact dig_len 2 (by omega)
  have el := ha.len
  have hp := plain_val (m := m) (by omega)
  have hx := ha.word 0
  have hy := ha.word 1
  have h1 : n < 2 → (dig m).getD 1 0 = 0 := fun h => by simp [List.getD, List.getElem?_eq_none (show (dig m).length ≤ 1 by omega)]
  have h0 : n < 1 → (dig m).getD 0 0 = 0 := fun h => by simp [List.getD, List.getElem?_eq_none (show (dig m).length ≤ 0 by omega)]
  rcases (by omega : n = 0 ∨ n = 1 ∨ n = 2) with rfl | rfl | rfl
  · have hm0 : m = 0 := by rw [h0 (by omega), h1 (by omega)] at hp; omega
    subst hm0
    clear ha el hp hx hy h0 h1 hcz
    go_enter Tryd.func52, Tryd.ntmps52
    go_wp2_with fail
    go_ret
    exact ⟨rfl, rfl⟩
  · obtain ⟨ba, oa, rfl, hca⟩ := ha.at (i := 0) (by omega)
    rw [h1 (by omega)] at hp
    have hp' : (dig m).getD 0 0 = m := by omega
    rw [hp', Nat.add_zero] at hca
    rw [hp'] at hx
    clear ha el hp hy h0 h1 hp' hcz
    go_enter Tryd.func52, Tryd.ntmps52
    go_wp2_with fail
    go_ret
    exact ⟨rfl, rfl⟩
  · obtain ⟨ba, oa, rfl, hca⟩ := ha.at (i := 0) (by omega)
    obtain ⟨bb, ob, hab, hcb⟩ := ha.at (i := 1) (by omega)
    simp only [Option.some.injEq, Addr.mk.injEq, and_true] at hab
    obtain ⟨rfl, rfl⟩ := hab
    obtain ⟨x, hxx⟩ : ∃ x, (dig m).getD 0 0 = x := ⟨_, rfl⟩
    obtain ⟨y, hyy⟩ : ∃ y, (dig m).getD 1 0 = y := ⟨_, rfl⟩
    rw [hxx, Nat.add_zero] at hca
    rw [hxx] at hx hp
    rw [hyy] at hcb hy hp
    have hor := or_words' y x (by omega) (by omega) (by omega) (by omega)
    have ev : (y : Int) * 4294967296 + (x : Int) = (m : Int) := by omega
    rw [ev] at hor
    clear ha el hp h0 h1 hxx hyy ev hcz
    go_enter Tryd.func52, Tryd.ntmps52
    go_wp2_with fail
    go_ret
    exact ⟨rfl, rfl⟩

end Go.Proofs.YtmpjmcfgikmgnaaDoor.words
