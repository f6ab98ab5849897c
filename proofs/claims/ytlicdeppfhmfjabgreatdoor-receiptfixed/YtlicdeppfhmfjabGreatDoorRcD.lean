/- What the five of the receipts give back. -/
import Derived.Test.YtlicdeppfhmfjabGreatDoorRcN
import Derived.Test.YtlicdeppfhmfjabGreatDoorBlk
namespace Go.Proofs.YtlicdeppfhmfjabGreatDoor.rcp
open Go.RowKit

/-- A text. -/
def tx (l : List UInt8) : Value := .string ⟨l.toArray⟩
def Rc.cs (r : Rc) : Array Value := #[.int .i64 r.me, .int .i64 r.id, .int .i64 r.te, .int .i64 r.de, .int .i64 r.fe, .int .i64 r.pr, .int .i64 r.ch, .int .i64 r.un, .string ⟨r.tk.toArray⟩]
def wf8 (r : Rc) : Prop := ((Lit.int .i64 r.me).wf = true ∧ (Lit.int .i64 r.id).wf = true ∧ (Lit.int .i64 r.te).wf = true ∧ (Lit.int .i64 r.de).wf = true) ∧ (Lit.int .i64 r.fe).wf = true ∧ (Lit.int .i64 r.pr).wf = true ∧ (Lit.int .i64 r.ch).wf = true ∧ (Lit.int .i64 r.un).wf = true
def Rc.v (r : Rc) : Value := .agg r.cs
def NumPost (w : World) (m : Int) (e : Ending) (w' : World) : Prop := ∃ l f, e = .returned (.tuple #[.string ⟨l.toArray⟩, .int .i64 f]) ∧ NumIs m l f ∧ Below w.heap.size w w'
def MeterPost (w : World) (l : List UInt8) (e : Ending) (w' : World) : Prop := ∃ m f, e = .returned (.tuple #[.int .i64 m, .int .i64 f]) ∧ MeterIs l m f ∧ Below w.heap.size w w'
def FaultPost (w : World) (r : Rc) (e : Ending) (w' : World) : Prop := ∃ f, e = .returned (.int .i64 f) ∧ FaultIs r f ∧ Below w.heap.size w w'
def ShowPost (w : World) (r : Rc) (e : Ending) (w' : World) : Prop := ∃ l f, e = .returned (.tuple #[.string ⟨l.toArray⟩, .int .i64 f]) ∧ ShowIs r l f ∧ Below w.heap.size w w'
def ReadPost (w : World) (l : List UInt8) (e : Ending) (w' : World) : Prop := ∃ r f, e = .returned (.tuple #[Rc.v r, .int .i64 f]) ∧ ReadIs l r f ∧ Below w.heap.size w w'

end Go.Proofs.YtlicdeppfhmfjabGreatDoor.rcp
