/- A field of a wide number. -/
import Derived.Test.YtlicdeppfhmfjaaGreatDoorTkPkN
import Derived.Test.YtlicdeppfhmfjaaGreatDoorField
namespace Go.Proofs.YtlicdeppfhmfjaaGreatDoor.token
open Go.Proofs.YtlicdeppfhmfjaaGreatDoor.words
open Go.RowKit
set_option linter.unusedSimpArgs false

theorem bits_wn (a b c lo n V : Nat) (w : World) (h : WN a b c V) (n0 : 1 ≤ n) (n1 : n ≤ 64) (hl : lo + n ≤ 96) :
    Calls Tryz.prog 94 #[.agg #[.int .u32 (a : Int), .int .u32 (b : Int), .int .u32 (c : Int)], .int .i64 (lo : Int), .int .i64 (n : Int)] w fun e w' => e = .returned (.tuple #[.int .u64 (V / 2 ^ lo % 2 ^ n : Nat), .int .i64 0]) ∧ Below w.heap.size w w' := by
  have := bits_any a b c lo n w h.a1 h.b1 h.c1 n0 n1 hl
  rwa [bits_num h.a1 h.b1 h.c1 n1, h.val] at this

theorem wrap_i (v : Nat) (h : v < 9223372036854775808) : IntKind.i64.wrap (v : Int) = (v : Int) := by rw [IntKind.wrap_i64]; omega

end Go.Proofs.YtlicdeppfhmfjaaGreatDoor.token
