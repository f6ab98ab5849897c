/- Two wide numbers are compared. -/
import Derived.Test.YtlicdeppfhmfjaaGreatDoorTrio
import Derived.ChangeKeysEq
namespace Go.Proofs.YtlicdeppfhmfjaaGreatDoor.words
open Go.RowKit

theorem eq1 (d : Nat) (a a' : Int) (w : World) : (Op.equalIn (d + 1) 83 (.int .u32 a) (.int .u32 a')).run Tryz.prog w = .ok (a == a') w := by
  simp [Op.equalIn, run_underlying Tryz.underlying83, go_sem]

theorem part0 (a b c : Int) (w : World) : (part 83 #[.int .u32 a, .int .u32 b, .int .u32 c] 0).run Tryz.prog w = .ok (.int .u32 a) w := by kernel_rfl
theorem part1 (a b c : Int) (w : World) : (part 83 #[.int .u32 a, .int .u32 b, .int .u32 c] 1).run Tryz.prog w = .ok (.int .u32 b) w := by kernel_rfl
theorem part2 (a b c : Int) (w : World) : (part 83 #[.int .u32 a, .int .u32 b, .int .u32 c] 2).run Tryz.prog w = .ok (.int .u32 c) w := by kernel_rfl

set_option maxRecDepth 100000 in
theorem eq3 (a b c a' b' c' : Int) (w : World) :
    (Op.equalIn 10000 85 (.agg #[.int .u32 a, .int .u32 b, .int .u32 c]) (.agg #[.int .u32 a', .int .u32 b', .int .u32 c'])).run Tryz.prog w = .ok (a == a' && (b == b' && c == c')) w := by
  obtain ⟨i0, hi⟩ : ∃ i, Tryz.prog.info? 83 = some i := ⟨_, rfl⟩
  rw [show (10000 : Nat) = 9999 + 1 from rfl, run_equalIn_array (w := w) 9999 _ _ Tryz.underlying85 hi, cells_word, show List.range 3 = [0, 1, 2] from rfl]
  simp only [Op.eqItems, Sem.run_bind, Nat.mul_one, part0, Result.andThen_ok, show (9999 : Nat) = 9998 + 1 from rfl, eq1]
  by_cases ha : a = a'
  · by_cases hb : b = b'
    · by_cases hc : c = c'
      · simp [part1, part2, Sem.run_bind, eq1, ha, hb, hc]
      · simp [part1, part2, Sem.run_bind, eq1, ha, hb, hc]
    · simp [part1, Sem.run_bind, eq1, ha, hb]
  · simp [ha]

theorem eq3_same (x : W3) (w : World) : (Op.equalIn 10000 85 (wv x) (wv x)).run Tryz.prog w = .ok true w := by
  rw [eq3]; simp
theorem eq3_other {x y : W3} (h : x ≠ y) (w : World) : (Op.equalIn 10000 85 (wv x) (wv y)).run Tryz.prog w = .ok false w := by
  rw [eq3]
  have := agg_ne h
  congr 1
  simp
  intro h1 h2 h3
  exact this ⟨h1, h2, h3⟩

end Go.Proofs.YtlicdeppfhmfjaaGreatDoor.words
