/- Acts compared. -/
import Derived.Test.YtlianhienbhbgaaDoorOdM
import Derived.Laws.StructEq
namespace Go.Proofs.YtlianhienbhbgaaDoor.odr
open Go.RowKit
set_option maxRecDepth 100000
set_option linter.unusedVariables false
set_option linter.unusedSimpArgs false

def acEq (x y : Ac) : Bool := x.k == y.k && (x.me == y.me && (x.a == y.a && (x.b == y.b && (x.c == y.c && ((x.t.toList == y.t.toList) && x.cut == y.cut)))))
theorem t_inj {s t : ByteArray} (h : s.toList = t.toList) : s = t := by
  rw [ByteArray.toList_eq, ByteArray.toList_eq] at h
  cases s; cases t
  simp only at h
  rw [Array.toList_inj] at h
  rw [h]
theorem acEq_iff (x y : Ac) : acEq x y = true ↔ x = y := by
  obtain ⟨k, me, a, b, c, t, cut⟩ := x
  obtain ⟨k', me', a', b', c', t', cut'⟩ := y
  unfold acEq
  simp only [Bool.and_eq_true, beq_iff_eq, Ac.mk.injEq]
  constructor
  · rintro ⟨h1, h2, h3, h4, h5, h6, h7⟩; exact ⟨h1, h2, h3, h4, h5, t_inj h6, h7⟩
  · rintro ⟨h1, h2, h3, h4, h5, h6, h7⟩; exact ⟨h1, h2, h3, h4, h5, by rw [h6], h7⟩
theorem acI (d : Nat) (a b : Int) (w : World) : (Op.equalIn (d + 1) 3 (.int .i64 a) (.int .i64 b)).run Tryd.prog w = .ok (a == b) w := run_equalIn_int w d _ _ _ a b Tryd.underlying3
theorem acS (d : Nat) (a b : ByteArray) (w : World) : (Op.equalIn (d + 1) 9 (.string a) (.string b)).run Tryd.prog w = .ok (a.toList == b.toList) w := run_equalIn_string w d _ a b Tryd.underlying9
theorem ac_0 (k me a b c : Int) (t : ByteArray) (cut : Int) (w : World) : (part 3 #[.int .i64 k, .int .i64 me, .int .i64 a, .int .i64 b, .int .i64 c, .string t, .int .i64 cut] 0).run Tryd.prog w = .ok (.int .i64 k) w := by kernel_rfl
theorem ac_1 (k me a b c : Int) (t : ByteArray) (cut : Int) (w : World) : (part 3 #[.int .i64 k, .int .i64 me, .int .i64 a, .int .i64 b, .int .i64 c, .string t, .int .i64 cut] 1).run Tryd.prog w = .ok (.int .i64 me) w := by kernel_rfl
theorem ac_2 (k me a b c : Int) (t : ByteArray) (cut : Int) (w : World) : (part 3 #[.int .i64 k, .int .i64 me, .int .i64 a, .int .i64 b, .int .i64 c, .string t, .int .i64 cut] 2).run Tryd.prog w = .ok (.int .i64 a) w := by kernel_rfl
theorem ac_3 (k me a b c : Int) (t : ByteArray) (cut : Int) (w : World) : (part 3 #[.int .i64 k, .int .i64 me, .int .i64 a, .int .i64 b, .int .i64 c, .string t, .int .i64 cut] 3).run Tryd.prog w = .ok (.int .i64 b) w := by kernel_rfl
theorem ac_4 (k me a b c : Int) (t : ByteArray) (cut : Int) (w : World) : (part 3 #[.int .i64 k, .int .i64 me, .int .i64 a, .int .i64 b, .int .i64 c, .string t, .int .i64 cut] 4).run Tryd.prog w = .ok (.int .i64 c) w := by kernel_rfl
theorem ac_5 (k me a b c : Int) (t : ByteArray) (cut : Int) (w : World) : (part 9 #[.int .i64 k, .int .i64 me, .int .i64 a, .int .i64 b, .int .i64 c, .string t, .int .i64 cut] 5).run Tryd.prog w = .ok (.string t) w := by kernel_rfl
theorem ac_6 (k me a b c : Int) (t : ByteArray) (cut : Int) (w : World) : (part 3 #[.int .i64 k, .int .i64 me, .int .i64 a, .int .i64 b, .int .i64 c, .string t, .int .i64 cut] 6).run Tryd.prog w = .ok (.int .i64 cut) w := by kernel_rfl
theorem eqAc (x y : Ac) (w : World) : (Op.equalIn 10000 23 x.v y.v).run Tryd.prog w = .ok (acEq x y) w := by
  obtain ⟨k, me, a, b, c, t, cut⟩ := x
  obtain ⟨k', me', a', b', c', t', cut'⟩ := y
  unfold Ac.v Ac.cells acEq
  rw [show (10000 : Nat) = 9999 + 1 from rfl, run_equalIn_agg w 9999 23 _ _ (by kernel_rfl) (by kernel_rfl)]
  simp only [Program.fieldsOf, Tryd.underlying23, Op.eqFields, Sem.run_bind, Sem.run_ite]
  cases h1 : (k == k') <;> simp [ac_0, acI, show (9999 : Nat) = 9998 + 1 from rfl, h1]
  cases h2 : (me == me') <;> simp [ac_1, acI, show (9999 : Nat) = 9998 + 1 from rfl, h2]
  cases h3 : (a == a') <;> simp [ac_2, acI, show (9999 : Nat) = 9998 + 1 from rfl, h3]
  cases h4 : (b == b') <;> simp [ac_3, acI, show (9999 : Nat) = 9998 + 1 from rfl, h4]
  cases h5 : (c == c') <;> simp [ac_4, acI, show (9999 : Nat) = 9998 + 1 from rfl, h5]
  cases h6 : (t.toList == t'.toList) <;> simp [ac_5, acS, show (9999 : Nat) = 9998 + 1 from rfl, h6]
  cases h7 : (cut == cut') <;> simp [ac_6, acI, show (9999 : Nat) = 9998 + 1 from rfl, h7]

end Go.Proofs.YtlianhienbhbgaaDoor.odr
