import Derived.WalkKit
import Derived.Below
import Derived.Deep.QuietTactic
import Derived.Laws.IdiomCopy
import Derived.Laws.Rows
import Derived.Laws.Tables
import Derived.Deep.MidRow
import Derived.Deep.RegionHeld
import Derived.Laws.OwnMore
import Derived.Laws.AppendOwnNone
import Derived.OwnWalk
import Derived.BigRegion
import Derived.BigQuiet
import Derived.WalkSpells
import Derived.WalkLawsBesides
import Derived.Laws.RangeAny
import Derived.Lib.Bytealg
import Derived.Lib.IndexBytes
import Derived.Lib.ItoaNum
import Derived.Lib.OthersKept
import Derived.Maps.AppendAt
import Derived.Deep.OwnRows
import Derived.Deep.DeepCutAuto
import Derived.Laws.StructEq
import Derived.Deep.RegionWith
import Derived.ProofKit
import Derived.OpenShut
import Derived.Lib.SmallJoins
import Derived.Lib.LaidTab
import Derived.Lib.QuietBelow
import Derived.Laws.IdiomArrays
import Derived.WalkSmall
import Derived.Laws.Bits64
import Derived.Laws.ResultCell
import Derived.Maps.OwnOps
import Derived.Deep.RegionHeldLaw
import Derived.Defers
import Derived.Recover
import Derived.Laws.MakeOwn
import Derived.Deep.LoopGhost
import Derived.WalkMore
import Derived.RangeFuncNested
import Derived.RangeFuncBound
import Derived.RangeFuncCalls
import Derived.RangeFuncLeaves
import Derived.Shelf.Abstract
import Derived.Shelf.RegionOpen
import Derived.OwnWalkIn
import Derived.TacticsInMore
import Derived.LoopNIn
import Derived.LoopIn
import Derived.Sort.BigQuietIn
import Derived.Shelf.Strings.Repeat
import Derived.ChangeKeysEq
import Derived.Laws.BytesString
import Derived.Laws.Cells
import Derived.Lib.Strings
import Derived.Deep.AppendLies
import Derived.SizedLaws
import Derived.ChangeSame
import Derived.Deep.SlicePairs
import Derived.Deep.Slices
import Derived.LaidLaws
import Derived.FnData
import Derived.Shelf.Vars
import Derived.ShutString
import Derived.ChangeOld
import Derived.Deep.DeepHandedRow
import Derived.Test.YtoepgdhiepedeaaGreatDoorProg
namespace Go.Proofs.YtoepgdhiepedeaaGreatDoor
open Go.RowKit
theorem zqa {α : Type} (l : List α) (i : Nat) (a : α) : l.toArray.setIfInBounds i a = (l.set i a).toArray := List.setIfInBounds_toArray l i a
theorem zqb {α : Type} {x : α} {xs : List α} {a : α} : (x :: xs).set 0 a = a :: xs := List.set_cons_zero
theorem zqc {α : Type} {x : α} {xs : List α} {n : Nat} {a : α} : (x :: xs).set (n + 1) a = x :: xs.set n a := List.set_cons_succ
theorem zq : (∀ (α : Type) (l : List α) (i : Nat) (a : α), l.toArray.setIfInBounds i a = (l.set i a).toArray) ∧ (∀ (α : Type) (x : α) (xs : List α) (a : α), (x :: xs).set 0 a = a :: xs) ∧
 (∀ (α : Type) (x : α) (xs : List α) (n : Nat) (a : α), (x :: xs).set (n + 1) a = x :: xs.set n a) :=
 ⟨fun _ l i a => List.setIfInBounds_toArray l i a, fun _ _ _ _ => rfl, fun _ _ _ _ _ => rfl⟩
abbrev zI (x : Int) : Value := .int .i64 x
abbrev zS : Value := .slice none 0 0
theorem zid {α β γ : Type} {p : α → β → γ → Prop} : ∀ a b c, p a b c → p a b c := fun _ _ _ h => h
abbrev zB (w W : World) : Prop := Below w.heap.size w W
theorem zb {B : Nat} {w : World} : Below B w w := Below.refl B w
theorem zc {n : Nat} : n ≤ n := Nat.le_refl n
abbrev zC := Calls Tryz.prog
end Go.Proofs.YtoepgdhiepedeaaGreatDoor
namespace Go.RowKit
theorem Hid.o {p : Prop} (h : Hid p) : p := h
end Go.RowKit
namespace Go
theorem Shut.o {p : Prop} (h : Shut p) : p := h.out
theorem Aside.o {p : Prop} (h : Aside p) : p := h.out
end Go
