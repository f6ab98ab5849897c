/- What is told of a disk whose records are known. -/
import Derived.Test.YtfllkhlnnihndaaKkR
import Derived.Test.YtfllkhlnnihndaaDkW
import Derived.Test.YtfllkhlnnihndaaDkEr
namespace Go.Proofs.Ytfllkhlnnihndaa.disk
open Go.RowKit Go.Proofs.Ytfllkhlnnihndaa.cell
set_option maxRecDepth 100000
set_option linter.unusedVariables false

/-- Replay tells these records, in new memory, and where they end. -/
def RepT (w : World) (zs : List (List Int)) (e0 : Nat) (e : Ending) (w' : World) : Prop :=
  ∃ a cap, e = .returned (.tuple #[.slice a zs.length cap, .int .i64 (e0 : Int), .int .i64 0]) ∧ ReadsF w' w.heap.size a zs.length zs ∧ Below w.heap.size w w'
theorem rep_t (K : KReplay) (a : Option Addr) (n cap : Nat) (z : List Int) (zs : List (List Int)) (e0 : Nat) (w : World) (hd : Dsk w a n cap z) (ht : Tape z zs e0) :
    Calls Try.prog 10 #[.slice a n cap] w fun e w' => RepT w zs e0 e w' :=
  (K w a n cap z hd.row hd.nil hd.room (by have := ht.1.2; have := hd.row.1; omega) hd.wds).mono fun e w' hh => by
    obtain ⟨ra, rn, rc, o, x, f, rfl, hr, hn, hi, hb⟩ := hh
    obtain ⟨rfl, rfl, rfl⟩ := ht.rep hi
    have e1 : rn = o.length := hr.1.symm
    subst e1
    exact ⟨ra, rc, rfl, hr, hb⟩

end Go.Proofs.Ytfllkhlnnihndaa.disk
