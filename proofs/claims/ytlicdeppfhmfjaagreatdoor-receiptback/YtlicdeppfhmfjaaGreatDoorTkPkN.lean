/- A token's fields, and where they lie: plain facts. -/
import Derived.Test.YtlicdeppfhmfjaaGreatDoorTkFlaw
import Derived.Test.YtlicdeppfhmfjaaGreatDoorBlk
import Derived.Test.YtlicdeppfhmfjaaGreatDoorField
import Derived.OwnWalk
namespace Go.Proofs.YtlicdeppfhmfjaaGreatDoor.token
open Go.Proofs.YtlicdeppfhmfjaaGreatDoor.words
open Go.RowKit
set_option linter.unusedSimpArgs false

/-- Three words, and the number that they are. -/
structure WN (a b c V : Nat) : Prop where
  a1 : a < 2 ^ 32
  b1 : b < 2 ^ 32
  c1 : c < 2 ^ 32
  val : bigV a b c = V
theorem wn_zero : WN 0 0 0 0 := ⟨by decide, by decide, by decide, rfl⟩

/-- Where each field lies; its value; what is packed till then. -/
def loP : Nat → Nat
  | 0 => 57
  | 1 => 37
  | 2 => 16
  | _ => 0
def nP : Nat → Nat
  | 0 => 3
  | 1 => 20
  | 2 => 21
  | _ => 16
def vP (k : Tok) : Nat → Nat
  | 0 => k.c
  | 1 => k.i
  | 2 => k.a
  | _ => k.t
def pP (k : Tok) : Nat → Nat
  | 0 => 0
  | 1 => k.c * 144115188075855872
  | 2 => k.c * 144115188075855872 + k.i * 137438953472
  | 3 => k.c * 144115188075855872 + k.i * 137438953472 + k.a * 65536
  | _ => k.num
theorem step_P {k : Tok} (h : k.ok) (j : Nat) (hj : j < 4) : vP k j < 2 ^ nP j ∧ 1 ≤ nP j ∧ nP j ≤ 64 ∧ loP j + nP j ≤ 96 ∧ pP k j / 2 ^ loP j % 2 ^ nP j = 0 ∧ pP k (j + 1) = pP k j + vP k j * 2 ^ loP j ∧ vP k j < 9223372036854775808 := by
  have := h.c3; have := h.i2; have := h.t2; have := h.a2
  match j, hj with
  | 0, _ => exact ⟨by show k.c < 8; omega, by decide, by decide, by decide, by show 0 / _ % _ = 0; simp, by show k.c * 144115188075855872 = 0 + k.c * 144115188075855872; omega, by show k.c < _; omega⟩
  | 1, _ => exact ⟨by show k.i < 1048576; omega, by decide, by decide, by decide, by show k.c * 144115188075855872 / 137438953472 % 1048576 = 0; omega, by show k.c * 144115188075855872 + k.i * 137438953472 = k.c * 144115188075855872 + k.i * 137438953472; rfl, by show k.i < _; omega⟩
  | 2, _ => exact ⟨by show k.a < 2097152; omega, by decide, by decide, by decide, by show (k.c * 144115188075855872 + k.i * 137438953472) / 65536 % 2097152 = 0; omega, by show k.c * 144115188075855872 + k.i * 137438953472 + k.a * 65536 = k.c * 144115188075855872 + k.i * 137438953472 + k.a * 65536; rfl, by show k.a < _; omega⟩
  | 3, _ => exact ⟨by show k.t < 65536; omega, by decide, by decide, by decide, by show (k.c * 144115188075855872 + k.i * 137438953472 + k.a * 65536) / 1 % 65536 = 0; omega, by show k.num = k.c * 144115188075855872 + k.i * 137438953472 + k.a * 65536 + k.t * 1; unfold Tok.num; omega, by show k.t < _; omega⟩

theorem wrap_u (v : Nat) (h : v < 9223372036854775808) : IntKind.u64.wrap (v : Int) = (v : Int) := by rw [IntKind.wrap_u64]; omega

theorem idxP (j : Nat) (hj : j < 4) (w : World) :
    (Instr.index 135 (.agg #[.int .i64 57, .int .i64 3, .int .i64 37, .int .i64 20, .int .i64 16, .int .i64 21, .int .i64 0, .int .i64 16]) (.int .i64 (j : Int))).run Tryz.prog w = .ok (.agg #[.int .i64 (loP j : Int), .int .i64 (nP j : Int)]) w := by
  rcases (by omega : j = 0 ∨ j = 1 ∨ j = 2 ∨ j = 3) with rfl | rfl | rfl | rfl
  · kernel_rfl
  · kernel_rfl
  · kernel_rfl
  · kernel_rfl

end Go.Proofs.YtlicdeppfhmfjaaGreatDoor.token
