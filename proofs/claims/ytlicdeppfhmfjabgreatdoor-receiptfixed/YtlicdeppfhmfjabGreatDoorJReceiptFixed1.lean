import Derived.Test.YtlicdeppfhmfjabGreatDoorProg
import Derived.Laws.StructEq
import Derived.WalkKit
import Derived.Test.YtlicdeppfhmfjabGreatDoorBlk
import Derived.Laws.OwnMore
import Derived.Laws.AppendOwnNone
import Derived.OwnWalk
import Derived.BigRegion
import Derived.BigQuiet
import Derived.WalkSpells
import Derived.WalkLawsBesides
import Derived.Test.YtlicdeppfhmfjabGreatDoorKrR
import Derived.Test.YtlicdeppfhmfjabGreatDoorKrS
import Derived.Test.YtlicdeppfhmfjabGreatDoorLetG
import Derived.Deep.DeepCutAuto
import Derived.Test.YtlicdeppfhmfjabGreatDoorLet
import Derived.Below
import Derived.Test.YtlicdeppfhmfjabGreatDoorDigitsN
import Derived.Laws.RangeAny
import Derived.Test.YtlicdeppfhmfjabGreatDoorCutN
import Derived.Lib.Bytealg
import Derived.Lib.IndexBytes
import Derived.Test.YtlicdeppfhmfjabGreatDoorReadN
import Derived.Test.YtlicdeppfhmfjabGreatDoorRcN
import Derived.Lib.AtoiAll
import Derived.Shelf.LaysM
import Derived.Shelf.LaysC
import Derived.Shelf.Strconv.AtoiAll
import Derived.Shelf.Strconv.ErrVarAll
import Derived.Lib.SplitLaws
import Derived.Lib.Replace
import Derived.Shelf.Strings.Cut
import Derived.Shelf.Strings.Split
import Derived.Shelf.Strings.Replace
import Derived.Maps.Own
import Derived.Maps.Keyed
import Derived.Maps.Views
import Derived.StringKeys
import Derived.Test.YtlicdeppfhmfjabGreatDoorCkDgN
import Derived.Test.YtlicdeppfhmfjabGreatDoorCkTxt
import Derived.Test.YtlicdeppfhmfjabGreatDoorChk
import Derived.DataReads
import Derived.Lib.LaidTab
import Derived.Test.YtlicdeppfhmfjabGreatDoorCkRv
import Derived.Lib.OthersKept
import Derived.Test.YtlicdeppfhmfjabGreatDoorCkGdN
import Derived.Test.YtlicdeppfhmfjabGreatDoorRcD
import Derived.Test.YtlicdeppfhmfjabGreatDoorTkParse
import Derived.Lib.Builder
import Derived.Lib.AppendStr
import Derived.Lib.UnsafeStr
import Derived.Laws.Externs
import Derived.Laws.IdiomCopy
import Derived.Shelf.Strings.OnBuilder

/- Receipts compared. -/
namespace Go.Proofs.YtlicdeppfhmfjabGreatDoor.rcp
open Go.RowKit
set_option maxRecDepth 100000
set_option linter.unusedVariables false
set_option linter.unusedSimpArgs false

theorem reI (d : Nat) (a a' : Int) (w : World) : (Op.equalIn (d + 1) 3 (.int .i64 a) (.int .i64 a')).run Tryz.prog w = .ok (a == a') w := run_equalIn_int w d _ _ _ a a' Tryz.underlying3
theorem rp0 (a b c d e f g h : Int) (t : ByteArray) (w : World) : (part 3 #[.int .i64 a, .int .i64 b, .int .i64 c, .int .i64 d, .int .i64 e, .int .i64 f, .int .i64 g, .int .i64 h, .string t] 0).run Tryz.prog w = .ok (.int .i64 a) w := by kernel_rfl
theorem rp1 (a b c d e f g h : Int) (t : ByteArray) (w : World) : (part 23 #[.int .i64 a, .int .i64 b, .int .i64 c, .int .i64 d, .int .i64 e, .int .i64 f, .int .i64 g, .int .i64 h, .string t] 1).run Tryz.prog w = .ok (.agg #[.int .i64 b, .int .i64 c, .int .i64 d, .int .i64 e, .int .i64 f, .int .i64 g, .int .i64 h]) w := by kernel_rfl
theorem rp8 (a b c d e f g h : Int) (t : ByteArray) (w : World) : (part 9 #[.int .i64 a, .int .i64 b, .int .i64 c, .int .i64 d, .int .i64 e, .int .i64 f, .int .i64 g, .int .i64 h, .string t] 8).run Tryz.prog w = .ok (.string t) w := by kernel_rfl
theorem rb0 (b c d e f g h : Int) (w : World) : (part 3 #[.int .i64 b, .int .i64 c, .int .i64 d, .int .i64 e, .int .i64 f, .int .i64 g, .int .i64 h] 0).run Tryz.prog w = .ok (.int .i64 b) w := by kernel_rfl
theorem rb1 (b c d e f g h : Int) (w : World) : (part 3 #[.int .i64 b, .int .i64 c, .int .i64 d, .int .i64 e, .int .i64 f, .int .i64 g, .int .i64 h] 1).run Tryz.prog w = .ok (.int .i64 c) w := by kernel_rfl
theorem rb2 (b c d e f g h : Int) (w : World) : (part 3 #[.int .i64 b, .int .i64 c, .int .i64 d, .int .i64 e, .int .i64 f, .int .i64 g, .int .i64 h] 2).run Tryz.prog w = .ok (.int .i64 d) w := by kernel_rfl
theorem rb3 (b c d e f g h : Int) (w : World) : (part 3 #[.int .i64 b, .int .i64 c, .int .i64 d, .int .i64 e, .int .i64 f, .int .i64 g, .int .i64 h] 3).run Tryz.prog w = .ok (.int .i64 e) w := by kernel_rfl
theorem rb4 (b c d e f g h : Int) (w : World) : (part 3 #[.int .i64 b, .int .i64 c, .int .i64 d, .int .i64 e, .int .i64 f, .int .i64 g, .int .i64 h] 4).run Tryz.prog w = .ok (.int .i64 f) w := by kernel_rfl
theorem rb5 (b c d e f g h : Int) (w : World) : (part 3 #[.int .i64 b, .int .i64 c, .int .i64 d, .int .i64 e, .int .i64 f, .int .i64 g, .int .i64 h] 5).run Tryz.prog w = .ok (.int .i64 g) w := by kernel_rfl
theorem rb6 (b c d e f g h : Int) (w : World) : (part 3 #[.int .i64 b, .int .i64 c, .int .i64 d, .int .i64 e, .int .i64 f, .int .i64 g, .int .i64 h] 6).run Tryz.prog w = .ok (.int .i64 h) w := by kernel_rfl
theorem eqB (k : Nat) (b c d e f g h : Int) (w : World) : (Op.equalIn (k + 2) 23 (.agg #[.int .i64 b, .int .i64 c, .int .i64 d, .int .i64 e, .int .i64 f, .int .i64 g, .int .i64 h]) (.agg #[.int .i64 b, .int .i64 c, .int .i64 d, .int .i64 e, .int .i64 f, .int .i64 g, .int .i64 h])).run Tryz.prog w = .ok true w := by
  rw [show k + 2 = (k + 1) + 1 from rfl, run_equalIn_agg w (k + 1) 23 _ _ (by kernel_rfl) (by kernel_rfl)]
  simp only [Program.fieldsOf, Tryz.underlying23, Op.eqFields, Sem.run_bind, Sem.run_ite]
  simp [rb0, rb1, rb2, rb3, rb4, rb5, rb6, reI]
theorem reS (d : Nat) (t : ByteArray) (w : World) : (Op.equalIn (d + 1) 9 (.string t) (.string t)).run Tryz.prog w = .ok true w := by
  have h : (t == t) = true := by
    first
      | exact beq_self_eq_true t
      | exact BEq.rfl
      | (cases t with | mk d => exact beq_self_eq_true d)
      | (cases t with | mk d => simp [BEq.beq])
  simp [Op.equalIn, Tryz.underlying9, go_sem, h]
theorem eqRc (a b c d e f g h : Int) (t : ByteArray) (w : World) : (Op.equalIn 10000 25 (.agg #[.int .i64 a, .int .i64 b, .int .i64 c, .int .i64 d, .int .i64 e, .int .i64 f, .int .i64 g, .int .i64 h, .string t]) (.agg #[.int .i64 a, .int .i64 b, .int .i64 c, .int .i64 d, .int .i64 e, .int .i64 f, .int .i64 g, .int .i64 h, .string t])).run Tryz.prog w = .ok true w := by
  rw [show (10000 : Nat) = 9999 + 1 from rfl, run_equalIn_agg w 9999 25 _ _ (by kernel_rfl) (by kernel_rfl)]
  simp only [Program.fieldsOf, Tryz.underlying25, Op.eqFields, Sem.run_bind, Sem.run_ite]
  simp [rp0, rp1, rp8, show (9999 : Nat) = 9998 + 1 from rfl, show (9999 : Nat) = 9997 + 2 from rfl, reI, reS, eqB]

end Go.Proofs.YtlicdeppfhmfjabGreatDoor.rcp

/- Tariffs: plain facts. -/
namespace Go.Proofs.YtlicdeppfhmfjabGreatDoor.tar
set_option linter.unusedVariables false

/-- A pair of numbers: of a step how far it goes, and its price; of a debt what is owed, and what it grows by. -/
structure Du where
  a : Int
  b : Int
def du0 : Du := ⟨0, 0⟩
/-- Three numbers: of a line its units, its price, its cost. -/
structure Tr where
  a : Int
  b : Int
  c : Int
def tr0 : Tr := ⟨0, 0, 0⟩

theorem take_one (l : List Du) (k : Nat) (h : k < l.length) : l.take (k + 1) = l.take k ++ [l.getD k du0] := by
  rw [List.take_succ_eq_append_getElem h]
  simp [List.getD, List.getElem?_eq_getElem h]
theorem drop_one (l : List Du) (k : Nat) (h : k < l.length) : l.drop k = l.getD k du0 :: l.drop (k + 1) := by
  rw [List.drop_eq_getElem_cons h]
  simp [List.getD, List.getElem?_eq_getElem h]
/-- How far the steps ahead of the place k go. -/
def low (l : List Du) (k : Nat) : Int := if k = 0 then 0 else (l.getD (k - 1) du0).a
theorem low_next (l : List Du) (k : Nat) : low l (k + 1) = (l.getD k du0).a := rfl
theorem low_zero (l : List Du) : low l 0 = 0 := rfl
/-- What is wrong with a tariff. -/
def Fits (l : List Du) : Prop := ∀ i, i < l.length → (1 ≤ (l.getD i du0).a ∧ (l.getD i du0).a ≤ 10000000) ∧ 1 ≤ (l.getD i du0).b ∧ (l.getD i du0).b ≤ 100000
def Rises (l : List Du) : Prop := ∀ i, 1 ≤ i → i < l.length → (l.getD (i - 1) du0).a < (l.getD i du0).a
def Sized (l : List Du) : Prop := 1 ≤ l.length ∧ l.length ≤ 8
def Ends (l : List Du) : Prop := (l.getD (l.length - 1) du0).a = 10000000
def Right (l : List Du) : Prop := Sized l ∧ Fits l ∧ Rises l ∧ Ends l
def FaultIs (l : List Du) (e : Int) : Prop := (¬ Sized l ∧ e = 1) ∨ (Sized l ∧ ¬ Fits l ∧ e = 2) ∨ (Sized l ∧ Fits l ∧ ¬ (Rises l ∧ Ends l) ∧ e = 3) ∨ (Right l ∧ e = 0)
theorem FaultIs.one {l : List Du} {e f : Int} (h : FaultIs l e) (h' : FaultIs l f) : e = f := by
  rcases h with ⟨a, rfl⟩ | ⟨a, b, rfl⟩ | ⟨a, b, c, rfl⟩ | ⟨⟨a, b, c⟩, rfl⟩ <;> rcases h' with ⟨a', rfl⟩ | ⟨a', b', rfl⟩ | ⟨a', b', c', rfl⟩ | ⟨⟨a', b', c'⟩, rfl⟩ <;> first | rfl | contradiction
theorem FaultIs.ok {l : List Du} {e : Int} (h : FaultIs l e) : e = 0 ↔ Right l := by
  rcases h with ⟨a, rfl⟩ | ⟨a, b, rfl⟩ | ⟨a, b, c, rfl⟩ | ⟨h, rfl⟩
  · exact ⟨fun h => absurd h (by decide), fun h => absurd h.1 a⟩
  · exact ⟨fun h => absurd h (by decide), fun h => absurd h.2.1 b⟩
  · exact ⟨fun h => absurd h (by decide), fun h => absurd h.2.2 c⟩
  · exact ⟨fun _ => h, fun _ => rfl⟩
theorem fault_is (l : List Du) : ∃ e, FaultIs l e := by
  by_cases a : Sized l
  · by_cases b : Fits l
    · by_cases c : Rises l ∧ Ends l
      · exact ⟨0, .inr (.inr (.inr ⟨⟨a, b, c⟩, rfl⟩))⟩
      · exact ⟨3, .inr (.inr (.inl ⟨a, b, c, rfl⟩))⟩
    · exact ⟨2, .inr (.inl ⟨a, b, rfl⟩)⟩
  · exact ⟨1, .inl ⟨a, rfl⟩⟩
/-- How many units from x to y lie from lo to hi. -/
def ov (lo hi x y : Int) : Int := max 0 (min hi y - max lo x)
theorem ov_pos (lo hi x y : Int) : 0 ≤ ov lo hi x y := by unfold ov; omega
/-- What the units from x to y cost, as far as the place k. -/
def costK (l : List Du) (x y : Int) : Nat → Int
  | 0 => 0
  | k + 1 => costK l x y k + ov (low l k) (l.getD k du0).a x y * (l.getD k du0).b
def cost (l : List Du) (x y : Int) : Int := costK l x y l.length
theorem costK_next (l : List Du) (x y : Int) (k : Nat) : costK l x y (k + 1) = costK l x y k + ov (low l k) (l.getD k du0).a x y * (l.getD k du0).b := rfl
/-- How many of them lie there. -/
def manyK (l : List Du) (x y : Int) : Nat → Int
  | 0 => 0
  | k + 1 => manyK l x y k + ov (low l k) (l.getD k du0).a x y
theorem Right.price {l : List Du} (h : Right l) (k : Nat) (hk : k < l.length) : 1 ≤ (l.getD k du0).b ∧ (l.getD k du0).b ≤ 100000 := (h.2.1 k hk).2
theorem Right.upto {l : List Du} (h : Right l) (k : Nat) (hk : k < l.length) : 1 ≤ (l.getD k du0).a ∧ (l.getD k du0).a ≤ 10000000 := (h.2.1 k hk).1
theorem Right.rise {l : List Du} (h : Right l) (k : Nat) (hk : k < l.length) : low l k < (l.getD k du0).a := by
  by_cases e : k = 0
  · subst e; rw [low_zero]; have := (h.upto 0 hk).1; omega
  · unfold low; rw [if_neg e]; exact h.2.2.1 k (by omega) hk
theorem Right.low_pos {l : List Du} (h : Right l) (k : Nat) (hk : k ≤ l.length) : 0 ≤ low l k := by
  unfold low
  by_cases e : k = 0
  · rw [if_pos e]; omega
  · rw [if_neg e]; have := (h.upto (k - 1) (by omega)).1; omega
theorem Right.low_end {l : List Du} (h : Right l) : low l l.length = 10000000 := by
  unfold low
  rw [if_neg (by have := h.1.1; omega)]
  exact h.2.2.2
/-- The units up to a place are those that lie ahead of it. -/
theorem many_eq {l : List Du} (h : Right l) (x y : Int) (hx : 0 ≤ x) (hxy : x ≤ y) (k : Nat) (hk : k ≤ l.length) : manyK l x y k = max 0 (min (low l k) y - x) := by
  induction k with
  | zero => unfold manyK; rw [low_zero]; omega
  | succ k ih =>
    have h1 := ih (by omega)
    have h2 := h.rise k (by omega)
    have h3 := h.low_pos k (by omega)
    unfold manyK
    rw [h1, low_next]
    unfold ov
    omega
theorem many_all {l : List Du} (h : Right l) (x y : Int) (hx : 0 ≤ x) (hxy : x ≤ y) (hy : y ≤ 10000000) : manyK l x y l.length = y - x := by
  rw [many_eq h x y hx hxy _ (Nat.le_refl _), h.low_end]; omega
theorem costK_pos {l : List Du} (h : Right l) (x y : Int) (k : Nat) (hk : k ≤ l.length) : 0 ≤ costK l x y k := by
  induction k with
  | zero => exact Int.le_refl _
  | succ k ih =>
    have h1 := ih (by omega)
    have h2 := Int.mul_nonneg (ov_pos (low l k) (l.getD k du0).a x y) (show 0 ≤ (l.getD k du0).b by have := (h.price k (by omega)).1; omega)
    unfold costK; omega
theorem cost_many {l : List Du} (h : Right l) (x y : Int) (k : Nat) (hk : k ≤ l.length) : manyK l x y k ≤ costK l x y k ∧ costK l x y k ≤ manyK l x y k * 100000 := by
  induction k with
  | zero => exact ⟨Int.le_refl _, Int.le_refl _⟩
  | succ k ih =>
    have h1 := ih (by omega)
    have h0 := ov_pos (low l k) (l.getD k du0).a x y
    have hp := h.price k (by omega)
    have h2 : ov (low l k) (l.getD k du0).a x y * 1 ≤ ov (low l k) (l.getD k du0).a x y * (l.getD k du0).b := Int.mul_le_mul_of_nonneg_left hp.1 h0
    have h3 : ov (low l k) (l.getD k du0).a x y * (l.getD k du0).b ≤ ov (low l k) (l.getD k du0).a x y * 100000 := Int.mul_le_mul_of_nonneg_left hp.2 h0
    unfold costK manyK
    rw [Int.mul_one] at h2
    constructor
    · omega
    · rw [Int.add_mul]; omega
theorem cost_bd {l : List Du} (h : Right l) (x y : Int) (hx : 0 ≤ x) (hxy : x ≤ y) (hy : y ≤ 10000000) : y - x ≤ cost l x y ∧ cost l x y ≤ (y - x) * 100000 := by
  have := cost_many h x y l.length (Nat.le_refl _)
  rw [many_all h x y hx hxy hy] at this
  exact this
theorem ov_adds (lo hi x y z : Int) (h : lo ≤ hi) (h1 : x ≤ y) (h2 : y ≤ z) : ov lo hi x z = ov lo hi x y + ov lo hi y z := by unfold ov; omega
theorem costK_adds {l : List Du} (h : Right l) (x y z : Int) (h1 : x ≤ y) (h2 : y ≤ z) (k : Nat) (hk : k ≤ l.length) : costK l x z k = costK l x y k + costK l y z k := by
  induction k with
  | zero => rfl
  | succ k ih =>
    have h3 := ih (by omega)
    have h4 := h.rise k (by omega)
    unfold costK
    rw [h3, ov_adds _ _ x y z (by omega) h1 h2, Int.add_mul]
    omega
theorem cost_adds {l : List Du} (h : Right l) (x y z : Int) (h1 : x ≤ y) (h2 : y ≤ z) : cost l x z = cost l x y + cost l y z := costK_adds h x y z h1 h2 _ (Nat.le_refl _)
theorem cost_self {l : List Du} (h : Right l) (x : Int) : cost l x x = 0 := by
  have := cost_adds h x x x (Int.le_refl _) (Int.le_refl _); omega
theorem costK_mono {l : List Du} (h : Right l) (x y : Int) (j k : Nat) (hjk : j ≤ k) (hk : k ≤ l.length) : costK l x y j ≤ costK l x y k := by
  induction k with
  | zero => have : j = 0 := by omega
            subst this; exact Int.le_refl _
  | succ k ih =>
    by_cases e : j = k + 1
    · subst e; exact Int.le_refl _
    · have h1 := ih (by omega) (by omega)
      have h2 := Int.mul_nonneg (ov_pos (low l k) (l.getD k du0).a x y) (show 0 ≤ (l.getD k du0).b by have := (h.price k (by omega)).1; omega)
      rw [costK_next]; omega
theorem low_mono {l : List Du} (h : Right l) (j k : Nat) (hjk : j ≤ k) (hk : k ≤ l.length) : low l j ≤ low l k := by
  induction k with
  | zero => have : j = 0 := by omega
            subst this; exact Int.le_refl _
  | succ k ih =>
    by_cases e : j = k + 1
    · subst e; exact Int.le_refl _
    · have h1 := ih (by omega) (by omega)
      have h2 := h.rise k (by omega)
      rw [low_next]; omega
/-- One unit costs what its step says. -/
theorem costK_none {l : List Du} (h : Right l) (n : Int) (k : Nat) (hk : k ≤ l.length) (hn : low l k ≤ n) : costK l n (n + 1) k = 0 := by
  induction k with
  | zero => rfl
  | succ k ih =>
    have h2 := h.rise k (by omega)
    rw [low_next] at hn
    have h1 := ih (by omega) (by omega)
    unfold costK
    rw [h1, show ov (low l k) (l.getD k du0).a n (n + 1) = 0 by unfold ov; omega]
    omega
theorem costK_after {l : List Du} (h : Right l) (n : Int) (j k : Nat) (hjk : j ≤ k) (hk : k ≤ l.length) (hn : n + 1 ≤ low l j) : costK l n (n + 1) k = costK l n (n + 1) j := by
  induction k with
  | zero => have : j = 0 := by omega
            subst this; rfl
  | succ k ih =>
    by_cases e : j = k + 1
    · subst e; rfl
    · have h1 := ih (by omega) (by omega)
      have h2 := low_mono h j k (by omega) (by omega)
      rw [costK_next, h1, show ov (low l k) (l.getD k du0).a n (n + 1) = 0 by unfold ov; omega]
      omega
theorem cost_unit {l : List Du} (h : Right l) (n : Int) (k : Nat) (hk : k < l.length) (h1 : low l k ≤ n) (h2 : n + 1 ≤ (l.getD k du0).a) : cost l n (n + 1) = (l.getD k du0).b := by
  have e1 := costK_after h n (k + 1) l.length (by omega) (Nat.le_refl _) (by rw [low_next]; exact h2)
  unfold cost
  rw [e1]
  unfold costK
  rw [costK_none h n k (by omega) h1, show ov (low l k) (l.getD k du0).a n (n + 1) = 1 by unfold ov; omega]
  omega
/-- What the four ask for. -/
def Mays (x n : Int) : Prop := (0 ≤ x ∧ x ≤ 10000000) ∧ (0 ≤ n ∧ n ≤ 2097151) ∧ x + n ≤ 10000000
def MayIs (l : List Du) (x n : Int) (e : Int) : Prop := (¬ Right l ∧ FaultIs l e) ∨ (Right l ∧ ¬ Mays x n ∧ e = 2) ∨ (Right l ∧ Mays x n ∧ e = 0)
theorem MayIs.one {l : List Du} {x n e f : Int} (h : MayIs l x n e) (h' : MayIs l x n f) : e = f := by
  rcases h with ⟨a, b⟩ | ⟨a, b, rfl⟩ | ⟨a, b, rfl⟩ <;> rcases h' with ⟨a', b'⟩ | ⟨a', b', rfl⟩ | ⟨a', b', rfl⟩ <;> first | rfl | exact b.one b' | contradiction
theorem MayIs.ok {l : List Du} {x n e : Int} (h : MayIs l x n e) : e = 0 ↔ Right l ∧ Mays x n := by
  rcases h with ⟨a, b⟩ | ⟨a, b, rfl⟩ | ⟨a, b, rfl⟩
  · exact ⟨fun h => absurd (b.ok.1 h) a, fun h => absurd h.1 a⟩
  · exact ⟨fun h => absurd h (by decide), fun h => absurd h.2 b⟩
  · exact ⟨fun _ => ⟨a, b⟩, fun _ => rfl⟩
def PriceIs (l : List Du) (x n : Int) (p e : Int) : Prop := MayIs l x n e ∧ ((e = 0 ∧ p = cost l x (x + n)) ∨ (e ≠ 0 ∧ p = 0))
theorem PriceIs.one {l : List Du} {x n p e q f : Int} (h : PriceIs l x n p e) (h' : PriceIs l x n q f) : p = q ∧ e = f := by
  obtain ⟨a, b⟩ := h
  obtain ⟨a', b'⟩ := h'
  obtain rfl := a.one a'
  rcases b with ⟨_, rfl⟩ | ⟨c, rfl⟩ <;> rcases b' with ⟨_, rfl⟩ | ⟨c', rfl⟩ <;> first | exact ⟨rfl, rfl⟩ | contradiction
/-- The lines, as far as the place k. -/
def billK (l : List Du) (x y : Int) : Nat → List Tr
  | 0 => []
  | k + 1 => billK l x y k ++ (if 0 < ov (low l k) (l.getD k du0).a x y then [⟨ov (low l k) (l.getD k du0).a x y, (l.getD k du0).b, ov (low l k) (l.getD k du0).a x y * (l.getD k du0).b⟩] else [])
def BillIs (l : List Du) (x n : Int) (z : List Tr) (e : Int) : Prop := MayIs l x n e ∧ ((e = 0 ∧ z = billK l x (x + n) l.length) ∨ (e ≠ 0 ∧ z = []))
theorem BillIs.one {l : List Du} {x n e f : Int} {p q : List Tr} (h : BillIs l x n p e) (h' : BillIs l x n q f) : p = q ∧ e = f := by
  obtain ⟨a, b⟩ := h
  obtain ⟨a', b'⟩ := h'
  obtain rfl := a.one a'
  rcases b with ⟨_, rfl⟩ | ⟨c, rfl⟩ <;> rcases b' with ⟨_, rfl⟩ | ⟨c', rfl⟩ <;> first | exact ⟨rfl, rfl⟩ | contradiction
theorem bill_len (l : List Du) (x y : Int) (k : Nat) : (billK l x y k).length ≤ k := by
  induction k with
  | zero => exact Nat.le_refl _
  | succ k ih => unfold billK; rw [List.length_append]; split <;> simp <;> omega
theorem BillIs.small {l : List Du} {x n e : Int} {z : List Tr} (h : BillIs l x n z e) : z.length ≤ 1000000 := by
  rcases h.2 with ⟨h0, rfl⟩ | ⟨_, rfl⟩
  · have h1 := bill_len l x (x + n) l.length
    have h2 := (h.1.ok.1 h0).1.1.2
    omega
  · exact Nat.zero_le _
/-- The lines add up. -/
def sumA : List Tr → Int
  | [] => 0
  | t :: l => t.a + sumA l
def sumC : List Tr → Int
  | [] => 0
  | t :: l => t.c + sumC l
theorem sumA_app (l m : List Tr) : sumA (l ++ m) = sumA l + sumA m := by
  induction l with
  | nil => simp [sumA]
  | cons t l ih => simp only [List.cons_append, sumA, ih]; omega
theorem sumC_app (l m : List Tr) : sumC (l ++ m) = sumC l + sumC m := by
  induction l with
  | nil => simp [sumC]
  | cons t l ih => simp only [List.cons_append, sumC, ih]; omega
theorem bill_sums (l : List Du) (x y : Int) (k : Nat) : sumA (billK l x y k) = manyK l x y k ∧ sumC (billK l x y k) = costK l x y k := by
  induction k with
  | zero => exact ⟨rfl, rfl⟩
  | succ k ih =>
    have h0 := ov_pos (low l k) (l.getD k du0).a x y
    unfold billK manyK costK
    rw [sumA_app, sumC_app, ih.1, ih.2]
    by_cases h : 0 < ov (low l k) (l.getD k du0).a x y
    · rw [if_pos h]; simp [sumA, sumC]
    · have e : ov (low l k) (l.getD k du0).a x y = 0 := by omega
      rw [if_neg h, e]; simp [sumA, sumC]
def LineOk (t : Tr) : Prop := 1 ≤ t.a ∧ t.a ≤ 10000000 ∧ 1 ≤ t.b ∧ t.b ≤ 100000 ∧ t.c = t.a * t.b
theorem bill_ok {l : List Du} (h : Right l) (x y : Int) (k : Nat) (hk : k ≤ l.length) : ∀ t ∈ billK l x y k, LineOk t := by
  induction k with
  | zero => intro t ht; cases ht
  | succ k ih =>
    intro t ht
    unfold billK at ht
    rcases List.mem_append.1 ht with ht | ht
    · exact ih (by omega) t ht
    · by_cases hp : 0 < ov (low l k) (l.getD k du0).a x y
      · rw [if_pos hp] at ht
        have e := List.mem_singleton.1 ht
        subst e
        have h1 := h.price k (by omega)
        have h2 := h.upto k (by omega)
        have h3 := h.low_pos k (by omega)
        exact ⟨by show 1 ≤ ov _ _ _ _; omega, by show ov _ _ _ _ ≤ _; unfold ov; omega, h1.1, h1.2, rfl⟩
      · rw [if_neg hp] at ht; cases ht
/-- The most that there can be. -/
def Top (x : Int) : Int := min 2097151 (10000000 - x)
def MostOf (l : List Du) (x m u : Int) : Prop := (0 ≤ u ∧ u ≤ Top x) ∧ cost l x (x + u) ≤ m ∧ (u = Top x ∨ m < cost l x (x + (u + 1)))
theorem MostOf.one {l : List Du} {x m u v : Int} (h : Right l) (hx : 0 ≤ x) (a : MostOf l x m u) (b : MostOf l x m v) : u = v := by
  obtain ⟨⟨a1, a2⟩, a3, a4⟩ := a
  obtain ⟨⟨b1, b2⟩, b3, b4⟩ := b
  rcases Int.lt_trichotomy u v with c | c | c
  · rcases a4 with a4 | a4
    · omega
    · have h1 := cost_adds h x (x + (u + 1)) (x + v) (by omega) (by omega)
      have h2 := cost_bd h (x + (u + 1)) (x + v) (by omega) (by omega) (by unfold Top at b2; omega)
      omega
  · exact c
  · rcases b4 with b4 | b4
    · omega
    · have h1 := cost_adds h x (x + (v + 1)) (x + u) (by omega) (by omega)
      have h2 := cost_bd h (x + (v + 1)) (x + u) (by omega) (by omega) (by unfold Top at a2; omega)
      omega
def MayMost (x m : Int) : Prop := (0 ≤ x ∧ x ≤ 10000000) ∧ 0 ≤ m ∧ m ≤ 1000000000000
def MostIs (l : List Du) (x m : Int) (u p e : Int) : Prop := (¬ Right l ∧ FaultIs l e ∧ u = 0 ∧ p = 0) ∨ (Right l ∧ ¬ MayMost x m ∧ e = 2 ∧ u = 0 ∧ p = 0) ∨ (Right l ∧ MayMost x m ∧ e = 0 ∧ MostOf l x m u ∧ p = cost l x (x + u))
theorem MostIs.one {l : List Du} {x m u p e u' p' e' : Int} (h : MostIs l x m u p e) (h' : MostIs l x m u' p' e') : u = u' ∧ p = p' ∧ e = e' := by
  rcases h with ⟨a, b, rfl, rfl⟩ | ⟨a, b, rfl, rfl, rfl⟩ | ⟨a, b, rfl, c, rfl⟩ <;> rcases h' with ⟨a', b', rfl, rfl⟩ | ⟨a', b', rfl, rfl, rfl⟩ | ⟨a', b', rfl, c', rfl⟩ <;> first | exact ⟨rfl, rfl, b.one b'⟩ | exact ⟨rfl, rfl, rfl⟩ | contradiction | skip
  obtain rfl := c.one a b.1.1 c'
  exact ⟨rfl, rfl, rfl⟩
theorem rise_not {l : List Du} {k : Nat} (h1 : 1 ≤ k) (hk : k < l.length) (h : (l.getD k du0).a ≤ (l.getD (k - 1) du0).a) : ¬ (Rises l ∧ Ends l) := fun hh => by
  have := hh.1 k h1 hk; omega
/-- What bounds a product. -/
theorem prod_bd {o p : Int} (h0 : 0 ≤ o) (h1 : o ≤ 10000000) (h2 : 1 ≤ p) (h3 : p ≤ 100000) : 0 ≤ o * p ∧ o * p ≤ 1000000000000 := by
  have a := Int.mul_nonneg h0 (show 0 ≤ p by omega)
  have b : o * p ≤ 10000000 * 100000 := Int.le_trans (Int.mul_le_mul_of_nonneg_left h3 h0) (Int.mul_le_mul_of_nonneg_right h1 (by decide))
  exact ⟨a, by omega⟩
theorem costK_le {l : List Du} (h : Right l) (x y : Int) (hx : 0 ≤ x) (hxy : x ≤ y) (hy : y ≤ 10000000) (k : Nat) (hk : k ≤ l.length) : costK l x y k ≤ 1000000000000 := by
  have h1 := costK_mono h x y k l.length hk (Nat.le_refl _)
  have h2 := (cost_bd h x y hx hxy hy).2
  unfold cost at h2
  omega
theorem ov_le (lo hi x y : Int) (h0 : 0 ≤ lo) (h1 : hi ≤ 10000000) : ov lo hi x y ≤ 10000000 := by unfold ov; omega
theorem billK_yes (l : List Du) (x y : Int) (k : Nat) (h : 0 < ov (low l k) (l.getD k du0).a x y) : billK l x y (k + 1) = billK l x y k ++ [⟨ov (low l k) (l.getD k du0).a x y, (l.getD k du0).b, ov (low l k) (l.getD k du0).a x y * (l.getD k du0).b⟩] := by
  unfold billK; rw [if_pos h]
  cases k <;> rfl
theorem billK_no (l : List Du) (x y : Int) (k : Nat) (h : ¬ 0 < ov (low l k) (l.getD k du0).a x y) : billK l x y (k + 1) = billK l x y k := by
  conv => lhs; unfold billK
  rw [if_neg h, List.append_nil]
theorem sums_pos (l : List Tr) (h : ∀ t ∈ l, LineOk t) : 0 ≤ sumA l ∧ 0 ≤ sumC l := by
  induction l with
  | nil => exact ⟨Int.le_refl _, Int.le_refl _⟩
  | cons t l ih =>
    have h1 := ih fun x hx => h x (List.mem_cons_of_mem _ hx)
    obtain ⟨a1, a2, a3, a4, a5⟩ := h t List.mem_cons_self
    have h2 := Int.mul_nonneg (show 0 ≤ t.a by omega) (show 0 ≤ t.b by omega)
    exact ⟨by show 0 ≤ t.a + sumA l; omega, by show 0 ≤ t.c + sumC l; omega⟩
theorem sums_take (l : List Tr) (h : ∀ t ∈ l, LineOk t) (k : Nat) : (0 ≤ sumA (l.take k) ∧ sumA (l.take k) ≤ sumA l) ∧ 0 ≤ sumC (l.take k) ∧ sumC (l.take k) ≤ sumC l := by
  have h1 := sums_pos (l.take k) fun x hx => h x (List.mem_of_mem_take hx)
  have h2 := sums_pos (l.drop k) fun x hx => h x (List.mem_of_mem_drop hx)
  have e1 := sumA_app (l.take k) (l.drop k)
  have e2 := sumC_app (l.take k) (l.drop k)
  rw [List.take_append_drop] at e1 e2
  exact ⟨⟨h1.1, by omega⟩, h1.2, by omega⟩
theorem sums_next (l : List Tr) (k : Nat) (hk : k < l.length) : sumA (l.take (k + 1)) = sumA (l.take k) + (l.getD k tr0).a ∧ sumC (l.take (k + 1)) = sumC (l.take k) + (l.getD k tr0).c := by
  rw [List.take_succ_eq_append_getElem hk, sumA_app, sumC_app]
  simp [List.getD, List.getElem?_eq_getElem hk, sumA, sumC]
theorem line_at {l : List Tr} (h : ∀ t ∈ l, LineOk t) (k : Nat) (hk : k < l.length) : LineOk (l.getD k tr0) := by
  have e : l.getD k tr0 = l[k] := by simp [List.getD, List.getElem?_eq_getElem hk]
  rw [e]; exact h _ (List.getElem_mem hk)

end Go.Proofs.YtlicdeppfhmfjabGreatDoor.tar

/- Rows of pairs of numbers: that came in, and that a call owns. -/
namespace Go.Proofs.YtlicdeppfhmfjabGreatDoor.tar
open Go.RowKit
set_option maxRecDepth 100000

/-- The slice a, len reads as the pairs ls. -/
def RowD (w : World) (a : Option Addr) (len : Nat) (ls : List Du) : Prop :=
  ls.length = len ∧ (len = 0 ∨ ∃ b off, a = some ⟨b, off, none⟩ ∧ ∀ i, i < len → w.cell? ⟨b, off + i * 2, none⟩ = some (.int .i64 (ls.getD i du0).a) ∧ w.cell? ⟨b, off + i * 2 + 1, none⟩ = some (.int .i64 (ls.getD i du0).b))
theorem RowD.below {w w' : World} {a : Option Addr} {n : Nat} {zs : List Du} (h : RowD w a n zs) (hb : Below w.heap.size w w') : RowD w' a n zs := by
  refine ⟨h.1, ?_⟩
  rcases h.2 with h0 | ⟨b, off, rfl, hc⟩
  · exact .inl h0
  · refine .inr ⟨b, off, rfl, fun i hi => ?_⟩
    have h1 := hc i hi
    rw [hb.cell (p := ⟨b, off + i * 2, none⟩) (World.block_lt_of_cell? w _ h1.1), hb.cell (p := ⟨b, off + i * 2 + 1, none⟩) (World.block_lt_of_cell? w _ h1.2)]
    exact h1
theorem RowD.nil (w : World) (a : Option Addr) : RowD w a 0 [] := ⟨rfl, .inl rfl⟩
theorem RowD.at {w : World} {a : Option Addr} {n : Nat} {zs : List Du} (h : RowD w a n zs) (h0 : 0 < n) : ∃ b off, a = some ⟨b, off, none⟩ ∧ b < w.heap.size ∧ ∀ i, i < n → w.cell? ⟨b, off + i * 2, none⟩ = some (.int .i64 (zs.getD i du0).a) ∧ w.cell? ⟨b, off + i * 2 + 1, none⟩ = some (.int .i64 (zs.getD i du0).b) := by
  rcases h.2 with h1 | ⟨b, off, rfl, hc⟩
  · omega
  · exact ⟨b, off, rfl, World.block_lt_of_cell? w _ (hc 0 h0).1, hc⟩
/-- What the frame hands to the walk of pairs that came in. -/
theorem rowD_of {w : World} {a : Addr} {m len : Nat} (hl : len ≤ m)
    (h : ∀ j, j < m → ∃ z0 z1, w.cell? (a.add (j * 2)) = some (.int .i64 z0) ∧ w.cell? (a.add (j * 2 + 1)) = some (.int .i64 z1) ∧ (Lit.int .i64 z0).wf = true ∧ (Lit.int .i64 z1).wf = true) :
    ∃ zs : List Du, RowD w (some a) len zs ∧ ∀ x ∈ zs, (Lit.int .i64 x.a).wf = true ∧ (Lit.int .i64 x.b).wf = true := by
  have h' : ∀ j, ∃ e : Du, j < m → w.cell? (a.add (j * 2)) = some (.int .i64 e.a) ∧ w.cell? (a.add (j * 2 + 1)) = some (.int .i64 e.b) ∧ (Lit.int .i64 e.a).wf = true ∧ (Lit.int .i64 e.b).wf = true := fun j => by
    by_cases hj : j < m
    · obtain ⟨z0, z1, hz⟩ := h j hj
      exact ⟨⟨z0, z1⟩, fun _ => hz⟩
    · exact ⟨du0, fun hh => absurd hh hj⟩
  obtain ⟨f, hf⟩ : ∃ f : Nat → Du, ∀ j, j < m → w.cell? (a.add (j * 2)) = some (.int .i64 (f j).a) ∧ w.cell? (a.add (j * 2 + 1)) = some (.int .i64 (f j).b) ∧ (Lit.int .i64 (f j).a).wf = true ∧ (Lit.int .i64 (f j).b).wf = true := ⟨fun j => Classical.choose (h' j), fun j hj => Classical.choose_spec (h' j) hj⟩
  clear h' h
  refine ⟨(List.range len).map f, ⟨by simp, ?_⟩, fun x hx => ?_⟩
  · by_cases h0 : len = 0
    · exact .inl h0
    · obtain ⟨b, off, spot⟩ := a
      have hs : spot = none := by simpa [Addr.add] using World.cell?_spot (hf 0 (by omega)).1
      subst hs
      refine .inr ⟨b, off, rfl, fun i hi => ?_⟩
      have h1 := hf i (by omega)
      rw [Addr.add_lit, Addr.add_lit, ← Nat.add_assoc] at h1
      have e : ((List.range len).map f).getD i du0 = f i := by simp [List.getD, hi]
      rw [e]
      exact ⟨h1.1, h1.2.1⟩
  · obtain ⟨j, hj, rfl⟩ := List.mem_map.1 hx
    exact (hf j (by have := List.mem_range.1 hj; omega)).2.2
def cellsD : List Du → List Value
  | [] => []
  | e :: l => .int .i64 e.a :: .int .i64 e.b :: cellsD l
theorem cellsD_len (l : List Du) : (cellsD l).length = l.length * 2 := by
  induction l with
  | nil => rfl
  | cons e l ih => simp [cellsD, ih]; omega
theorem cellsD_app (l m : List Du) : cellsD (l ++ m) = cellsD l ++ cellsD m := by
  induction l with
  | nil => rfl
  | cons e l ih => simp [cellsD, ih]
theorem oneD (l : List Du) : ∀ u ∈ cellsD l, u.oneCell' = true := by
  induction l with
  | nil => intro u hu; cases hu
  | cons e l ih =>
    intro u hu
    simp only [cellsD, List.mem_cons] at hu
    rcases hu with rfl | rfl | hu
    · rfl
    · rfl
    · exact ih u hu
theorem cellsD_at (l : List Du) (k : Nat) (hk : k < l.length) : (cellsD l)[k * 2]? = some (.int .i64 (l.getD k du0).a) ∧ (cellsD l)[k * 2 + 1]? = some (.int .i64 (l.getD k du0).b) := by
  induction l generalizing k with
  | nil => simp at hk
  | cons x l ih =>
    cases k with
    | zero => exact ⟨rfl, rfl⟩
    | succ k =>
      rw [show (k + 1) * 2 = k * 2 + 1 + 1 by omega]
      have := ih k (by simpa using hk)
      simpa [cellsD] using this
theorem cellsD_get {w : World} {b off len : Nat} {zs : List Du} (hz : zs.length = len) (hc : ∀ i, i < len → w.cell? ⟨b, off + i * 2, none⟩ = some (.int .i64 (zs.getD i du0).a) ∧ w.cell? ⟨b, off + i * 2 + 1, none⟩ = some (.int .i64 (zs.getD i du0).b)) (j : Nat) (u : Value) (hu : (cellsD zs)[j]? = some u) : w.cell? ⟨b, off + j, none⟩ = some u := by
  have hj : j < (cellsD zs).length := by
    by_cases h : j < (cellsD zs).length
    · exact h
    · rw [List.getElem?_eq_none (by omega)] at hu; cases hu
  rw [cellsD_len] at hj
  have h1 := cellsD_at zs (j / 2) (by omega)
  have h2 := hc (j / 2) (by omega)
  rcases Nat.mod_two_eq_zero_or_one j with e | e
  · have e2 : j / 2 * 2 = j := by omega
    rw [e2] at h1 h2
    rw [h1.1] at hu
    rw [h2.1]; exact hu
  · have e2 : j / 2 * 2 + 1 = j := by omega
    rw [Nat.add_assoc, e2] at h2
    rw [e2] at h1
    rw [h1.2] at hu
    rw [h2.2]; exact hu
/-- Pairs (of the kind T) that nobody else holds. -/
def Ld (T : TypeId) (w : World) (base : Nat) (v : Value) (l : List Du) : Prop := w.ownsRow base T 2 v l.length (cellsD l)
theorem Ld.zero (T : TypeId) (w : World) (base : Nat) : Ld T w base (.slice none 0 0) [] := World.ownsRow_nil _ _ _ _
theorem Ld.alloc {T : TypeId} {w : World} {base : Nat} {v : Value} {l : List Du} (h : Ld T w base v l) (o : Obj) : Ld T (w.alloc o) base v l := World.ownsRow.alloc h o
theorem Ld.next {T : TypeId} {w w' : World} {base : Nat} {v : Value} {l : List Du} (h : Ld T w base v l) (hb : Below w.heap.size w w') : Ld T w' base v l := by
  refine ⟨h.1, ?_⟩
  rcases h.2 with hn | ⟨g, cap, cur, hv, hg, hc, rest⟩
  · exact .inl hn
  · exact .inr ⟨g, cap, cur, hv, hg, Blk.next hc hb, rest⟩
theorem Ld.low {T : TypeId} {w : World} {base base' : Nat} {v : Value} {l : List Du} (h : Ld T w base v l) (hb : base' ≤ base) : Ld T w base' v l := by
  refine ⟨h.1, ?_⟩
  rcases h.2 with hn | ⟨g, cap, cur, hv, hg, rest⟩
  · exact .inl hn
  · exact .inr ⟨g, cap, cur, hv, by omega, rest⟩
theorem Ld.row {T : TypeId} {w : World} {base : Nat} {v : Value} {l : List Du} (h : Ld T w base v l) : ∃ a cap, v = .slice a l.length cap ∧ RowD w a l.length l ∧ (a = none → cap = 0) ∧ l.length ≤ cap ∧ (∀ x, a = some x → x.off = 0 ∧ x.spot = none) := by
  rcases h.2 with ⟨hv, hn⟩ | ⟨g, cap, cur, hv, _, _, h1, _⟩
  · exact ⟨none, 0, by rw [hn]; exact hv, ⟨rfl, .inl hn⟩, fun _ => rfl, by omega, fun x h => by cases h⟩
  · subst hv
    refine ⟨_, cap, rfl, ⟨rfl, .inr ⟨g, 0, rfl, fun i hi => ?_⟩⟩, (fun h => by cases h), h1, fun x h => by cases h; exact ⟨rfl, rfl⟩⟩
    have e1 := World.ownsRow.cellAt h (i * 2) (by omega)
    have e2 := World.ownsRow.cellAt h (i * 2 + 1) (by omega)
    rw [Nat.zero_add, e1, e2]
    exact cellsD_at l i hi
theorem own_far {w : World} {base n k : Nat} {t : TypeId} {v : Value} {l : List Value} (h : w.ownsRow base t n v k l) {G : Nat} (hG : G < base) : some G ≠ v.ownBlock := by
  intro e
  have := (World.ownsRow.lt h G e.symm).1
  omega
theorem own_bel {w0 w w' : World} {base B n k : Nat} {t : TypeId} {v : Value} {l : List Value} (h : w.ownsRow base t n v k l) (hg : w.grownBy w' v.ownBlock) (hb : Below B w0 w) (hB : B ≤ base) (hw : B ≤ w.heap.size) : Below B w0 w' := by
  refine ⟨hg.os.trans hb.os, hg.tape.trans hb.tape, hg.output.trans hb.output, Nat.le_trans hb.size hg.size, fun k hk => ?_⟩
  rw [← hb.block k hk]
  exact hg.block k (by omega) (own_far h (by omega))
theorem bel_drewN {B : Nat} {w w' : World} (h : Below B w w') (n : Nat) : Below B w (w'.drewN n) := ⟨h.os, h.tape, h.output, h.size, h.block⟩
/-- What is to be known of a kind T of pairs, whose slices are S. -/
structure PairT (P : Program) (T S : TypeId) : Prop where
  info : (P.info? T).map (fun i => (i.zero, i.size, i.bytes)) = some (some (.agg #[.int .i64 0, .int .i64 0]), 2, 16)
  under : P.underlying S = some (.slice T)
/-- One pair is put behind the others. -/
theorem wp_pair {P : Program} {T S : TypeId} (hP : PairT P T S) {w : World} {ops : Array Oper} {rest : List Oper} {o : Oper} {a : Act} {Q : Exit → Act → World → Prop} (hgd : o.guard = none) (s x : Operand)
    (ho : o.op = .call { callee := .builtin .append, args := #[s, x], argTypes := #[S, S] })
    (base G : Nat) (v : Value) (l : List Du) (r : Du) (hs : a.eval s = v) (hx : a.eval x = .slice (some ⟨G, 0, none⟩) 1 1) (hv : Ld T w base v l) (hu : w.cell? ⟨G, 0, none⟩ = some (.int .i64 r.a) ∧ w.cell? ⟨G, 1, none⟩ = some (.int .i64 r.b)) (hn : l.length ≤ 1000000) (hbase : base ≤ w.heap.size)
    (h : ∀ v' w', Ld T w' base v' (l ++ [r]) → w.grownBy w' v.ownBlock → wpList P ops Q rest (a.put o.dst v') w') : wpList P ops Q (o :: rest) a w := by
  obtain ⟨i0, hi, hz0, hz1, hz2⟩ := info_parts hP.info
  refine wpList_append_own w hgd s x S ho base T i0 (.agg #[.int .i64 0, .int .i64 0]) 2 16 hP.under hi hz0 hz1 hz2 rfl (by decide) v l.length (cellsD l) hs hv ⟨G, 0, none⟩ 1 1 (cellsD [r]) hx rfl ?_ (oneD [r]) (by unfold maxLen; omega) (by omega) hbase ?_
  · intro j u hj
    match j, hj with
    | 0, hj => simp [cellsD] at hj; subst hj; simpa [Addr.add] using hu.1
    | 1, hj => simp [cellsD] at hj; subst hj; simpa [Addr.add] using hu.2
    | j + 2, hj => simp [cellsD] at hj
  intro v' w' h1 h2 _
  refine h v' w' ?_ h2
  unfold Ld
  rw [List.length_append, cellsD_app]
  exact h1
/-- The same, in a region that draws its order. -/
theorem step_pair {P : Program} {T S : TypeId} (hP : PairT P T S) {w : World} {ops : Array Oper} {o : Oper} {a : Act} {K : Act → World → Prop} {Q : Exit → Act → World → Prop} {E : Prop} (hgd : o.guard = none) (s x : Operand)
    (ho : o.op = .call { callee := .builtin .append, args := #[s, x], argTypes := #[S, S] })
    (base G : Nat) (v : Value) (l : List Du) (r : Du) (hs : a.eval s = v) (hx : a.eval x = .slice (some ⟨G, 0, none⟩) 1 1) (hv : Ld T w base v l) (hu : w.cell? ⟨G, 0, none⟩ = some (.int .i64 r.a) ∧ w.cell? ⟨G, 1, none⟩ = some (.int .i64 r.b)) (hn : l.length ≤ 1000000) (hbase : base ≤ w.heap.size)
    (h : ∀ v' w', Ld T w' base v' (l ++ [r]) → w.grownBy w' v.ownBlock → K (a.put o.dst v') w') : if Region.wanted o (yielded ops a.tmps) = true then Oper.wp P o a w K Q else E := by
  have hw : Region.wanted o (yielded ops a.tmps) = true := by simp [Region.wanted, hgd]
  rw [if_pos hw]
  obtain ⟨i0, hi, hz0, hz1, hz2⟩ := info_parts hP.info
  obtain ⟨v', w', hr, h2, h3, _⟩ := run_append_own (P := P) w base S o.type T i0 (.agg #[.int .i64 0, .int .i64 0]) 2 16 hP.under hi hz0 hz1 hz2 rfl (by decide) v l.length (cellsD l) hv ⟨G, 0, none⟩ 1 1 (cellsD [r]) rfl (by
    intro j u hj
    match j, hj with
    | 0, hj => simp [cellsD] at hj; subst hj; simpa [Addr.add] using hu.1
    | 1, hj => simp [cellsD] at hj; subst hj; simpa [Addr.add] using hu.2
    | j + 2, hj => simp [cellsD] at hj) (oneD [r]) (by unfold maxLen; omega) (by omega) hbase
  unfold Oper.wp execOp
  simp only [ho, resolve, invoke, builtin, Sem.run_bind, Sem.run_pure, Result.andThen_ok, List.map_toArray, List.map_cons, List.map_nil, hs, hx, hr]
  refine h v' w' ?_ h3
  unfold Ld
  rw [List.length_append, cellsD_app]
  exact h2
/-- A copy of pairs: append(nil, l...). -/
theorem wp_pairs {P : Program} {T S : TypeId} (hP : PairT P T S) {w : World} {ops : Array Oper} {rest : List Oper} {o : Oper} {a : Act} {Q : Exit → Act → World → Prop} (hgd : o.guard = none) (s x : Operand)
    (ho : o.op = .call { callee := .builtin .append, args := #[s, x], argTypes := #[S, S] })
    (base : Nat) (A : Addr) (len cap : Nat) (zs : List Du) (hs : a.eval s = .slice none 0 0) (hx : a.eval x = .slice (some A) len cap) (hr : RowD w (some A) len zs) (hl : len * 16 ≤ 140737488351232) (hbase : base ≤ w.heap.size)
    (h : ∀ v' w', Ld T w' base v' zs → w.grownBy w' none → wpList P ops Q rest (a.put o.dst v') w') : wpList P ops Q (o :: rest) a w := by
  obtain ⟨i0, hi, hz0, hz1, hz2⟩ := info_parts hP.info
  obtain ⟨hz, hr⟩ := hr
  refine wpList_append_own w hgd s x S ho base T i0 (.agg #[.int .i64 0, .int .i64 0]) 2 16 hP.under hi hz0 hz1 hz2 rfl (by decide) _ _ _ hs (World.ownsRow_nil _ _ _ _) A len cap (cellsD zs) hx ?_ ?_ (oneD zs) (by unfold maxLen; omega) (by omega) hbase ?_
  · rw [cellsD_len, hz]
  · intro j u hu
    rcases hr with h | ⟨b, off, h, hc⟩
    · rw [List.getElem?_eq_none (by rw [cellsD_len]; omega)] at hu; cases hu
    · obtain rfl := Option.some.inj h
      rw [Addr.add_lit]
      exact cellsD_get hz hc j u hu
  · intro v' w' h1 h2 _
    refine h v' w' ?_ (by simpa [Value.ownBlock] using h2)
    show w'.ownsRow _ _ _ _ _ _
    rw [hz]; simpa using h1

end Go.Proofs.YtlicdeppfhmfjabGreatDoor.tar

/- Rows of three numbers each: that came in, and that a call owns. -/
namespace Go.Proofs.YtlicdeppfhmfjabGreatDoor.tar
open Go.RowKit
set_option maxRecDepth 100000

/-- The slice a, len reads as the lines ls. -/
def RowL (w : World) (a : Option Addr) (len : Nat) (ls : List Tr) : Prop :=
  ls.length = len ∧ (len = 0 ∨ ∃ b off, a = some ⟨b, off, none⟩ ∧ ∀ i, i < len → w.cell? ⟨b, off + i * 3, none⟩ = some (.int .i64 (ls.getD i tr0).a) ∧ w.cell? ⟨b, off + i * 3 + 1, none⟩ = some (.int .i64 (ls.getD i tr0).b) ∧ w.cell? ⟨b, off + i * 3 + 2, none⟩ = some (.int .i64 (ls.getD i tr0).c))
theorem RowL.below {w w' : World} {a : Option Addr} {n : Nat} {zs : List Tr} (h : RowL w a n zs) (hb : Below w.heap.size w w') : RowL w' a n zs := by
  refine ⟨h.1, ?_⟩
  rcases h.2 with h0 | ⟨b, off, rfl, hc⟩
  · exact .inl h0
  · refine .inr ⟨b, off, rfl, fun i hi => ?_⟩
    have h1 := hc i hi
    rw [hb.cell (p := ⟨b, off + i * 3, none⟩) (World.block_lt_of_cell? w _ h1.1), hb.cell (p := ⟨b, off + i * 3 + 1, none⟩) (World.block_lt_of_cell? w _ h1.2.1), hb.cell (p := ⟨b, off + i * 3 + 2, none⟩) (World.block_lt_of_cell? w _ h1.2.2)]
    exact h1
theorem RowL.nil (w : World) (a : Option Addr) : RowL w a 0 [] := ⟨rfl, .inl rfl⟩
theorem RowL.at {w : World} {a : Option Addr} {n : Nat} {zs : List Tr} (h : RowL w a n zs) (h0 : 0 < n) : ∃ b off, a = some ⟨b, off, none⟩ ∧ b < w.heap.size ∧ ∀ i, i < n → w.cell? ⟨b, off + i * 3, none⟩ = some (.int .i64 (zs.getD i tr0).a) ∧ w.cell? ⟨b, off + i * 3 + 1, none⟩ = some (.int .i64 (zs.getD i tr0).b) ∧ w.cell? ⟨b, off + i * 3 + 2, none⟩ = some (.int .i64 (zs.getD i tr0).c) := by
  rcases h.2 with h1 | ⟨b, off, rfl, hc⟩
  · omega
  · exact ⟨b, off, rfl, World.block_lt_of_cell? w _ (hc 0 h0).1, hc⟩
def cellsL : List Tr → List Value
  | [] => []
  | e :: l => .int .i64 e.a :: .int .i64 e.b :: .int .i64 e.c :: cellsL l
theorem cellsL_len (l : List Tr) : (cellsL l).length = l.length * 3 := by
  induction l with
  | nil => rfl
  | cons e l ih => simp [cellsL, ih]; omega
theorem cellsL_app (l m : List Tr) : cellsL (l ++ m) = cellsL l ++ cellsL m := by
  induction l with
  | nil => rfl
  | cons e l ih => simp [cellsL, ih]
theorem oneL (l : List Tr) : ∀ u ∈ cellsL l, u.oneCell' = true := by
  induction l with
  | nil => intro u hu; cases hu
  | cons e l ih =>
    intro u hu
    simp only [cellsL, List.mem_cons] at hu
    rcases hu with rfl | rfl | rfl | hu
    · rfl
    · rfl
    · rfl
    · exact ih u hu
theorem cellsL_at (l : List Tr) (k : Nat) (hk : k < l.length) : (cellsL l)[k * 3]? = some (.int .i64 (l.getD k tr0).a) ∧ (cellsL l)[k * 3 + 1]? = some (.int .i64 (l.getD k tr0).b) ∧ (cellsL l)[k * 3 + 2]? = some (.int .i64 (l.getD k tr0).c) := by
  induction l generalizing k with
  | nil => simp at hk
  | cons x l ih =>
    cases k with
    | zero => exact ⟨rfl, rfl, rfl⟩
    | succ k =>
      rw [show (k + 1) * 3 = k * 3 + 1 + 1 + 1 by omega]
      have := ih k (by simpa using hk)
      simpa [cellsL] using this
/-- Lines (of the kind T) that nobody else holds. -/
def Lt (T : TypeId) (w : World) (base : Nat) (v : Value) (l : List Tr) : Prop := w.ownsRow base T 3 v l.length (cellsL l)
theorem Lt.zero (T : TypeId) (w : World) (base : Nat) : Lt T w base (.slice none 0 0) [] := World.ownsRow_nil _ _ _ _
theorem Lt.alloc {T : TypeId} {w : World} {base : Nat} {v : Value} {l : List Tr} (h : Lt T w base v l) (o : Obj) : Lt T (w.alloc o) base v l := World.ownsRow.alloc h o
theorem Lt.next {T : TypeId} {w w' : World} {base : Nat} {v : Value} {l : List Tr} (h : Lt T w base v l) (hb : Below w.heap.size w w') : Lt T w' base v l := by
  refine ⟨h.1, ?_⟩
  rcases h.2 with hn | ⟨g, cap, cur, hv, hg, hc, rest⟩
  · exact .inl hn
  · exact .inr ⟨g, cap, cur, hv, hg, Blk.next hc hb, rest⟩
theorem Lt.low {T : TypeId} {w : World} {base base' : Nat} {v : Value} {l : List Tr} (h : Lt T w base v l) (hb : base' ≤ base) : Lt T w base' v l := by
  refine ⟨h.1, ?_⟩
  rcases h.2 with hn | ⟨g, cap, cur, hv, hg, rest⟩
  · exact .inl hn
  · exact .inr ⟨g, cap, cur, hv, by omega, rest⟩
theorem Lt.row {T : TypeId} {w : World} {base : Nat} {v : Value} {l : List Tr} (h : Lt T w base v l) : ∃ a cap, v = .slice a l.length cap ∧ RowL w a l.length l ∧ (a = none → cap = 0) ∧ l.length ≤ cap ∧ (∀ x, a = some x → x.off = 0 ∧ x.spot = none) := by
  rcases h.2 with ⟨hv, hn⟩ | ⟨g, cap, cur, hv, _, _, h1, _⟩
  · exact ⟨none, 0, by rw [hn]; exact hv, ⟨rfl, .inl hn⟩, fun _ => rfl, by omega, fun x h => by cases h⟩
  · subst hv
    refine ⟨_, cap, rfl, ⟨rfl, .inr ⟨g, 0, rfl, fun i hi => ?_⟩⟩, (fun h => by cases h), h1, fun x h => by cases h; exact ⟨rfl, rfl⟩⟩
    have e1 := World.ownsRow.cellAt h (i * 3) (by omega)
    have e2 := World.ownsRow.cellAt h (i * 3 + 1) (by omega)
    have e3 := World.ownsRow.cellAt h (i * 3 + 2) (by omega)
    rw [Nat.zero_add, e1, e2, e3]
    exact cellsL_at l i hi
/-- What is to be known of a kind T of lines, whose slices are S. -/
structure LineT (P : Program) (T S : TypeId) : Prop where
  info : (P.info? T).map (fun i => (i.zero, i.size, i.bytes)) = some (some (.agg #[.int .i64 0, .int .i64 0, .int .i64 0]), 3, 24)
  under : P.underlying S = some (.slice T)
/-- One line is put behind the others. -/
theorem wp_line {P : Program} {T S : TypeId} (hP : LineT P T S) {w : World} {ops : Array Oper} {rest : List Oper} {o : Oper} {a : Act} {Q : Exit → Act → World → Prop} (hgd : o.guard = none) (s x : Operand)
    (ho : o.op = .call { callee := .builtin .append, args := #[s, x], argTypes := #[S, S] })
    (base G : Nat) (v : Value) (l : List Tr) (r : Tr) (hs : a.eval s = v) (hx : a.eval x = .slice (some ⟨G, 0, none⟩) 1 1) (hv : Lt T w base v l) (hu : w.cell? ⟨G, 0, none⟩ = some (.int .i64 r.a) ∧ w.cell? ⟨G, 1, none⟩ = some (.int .i64 r.b) ∧ w.cell? ⟨G, 2, none⟩ = some (.int .i64 r.c)) (hn : l.length ≤ 1000000) (hbase : base ≤ w.heap.size)
    (h : ∀ v' w', Lt T w' base v' (l ++ [r]) → w.grownBy w' v.ownBlock → wpList P ops Q rest (a.put o.dst v') w') : wpList P ops Q (o :: rest) a w := by
  obtain ⟨i0, hi, hz0, hz1, hz2⟩ := info_parts hP.info
  refine wpList_append_own w hgd s x S ho base T i0 (.agg #[.int .i64 0, .int .i64 0, .int .i64 0]) 3 24 hP.under hi hz0 hz1 hz2 rfl (by decide) v l.length (cellsL l) hs hv ⟨G, 0, none⟩ 1 1 (cellsL [r]) hx rfl ?_ (oneL [r]) (by unfold maxLen; omega) (by omega) hbase ?_
  · intro j u hj
    match j, hj with
    | 0, hj => simp [cellsL] at hj; subst hj; simpa [Addr.add] using hu.1
    | 1, hj => simp [cellsL] at hj; subst hj; simpa [Addr.add] using hu.2.1
    | 2, hj => simp [cellsL] at hj; subst hj; simpa [Addr.add] using hu.2.2
    | j + 3, hj => simp [cellsL] at hj
  intro v' w' h1 h2 _
  refine h v' w' ?_ h2
  unfold Lt
  rw [List.length_append, cellsL_app]
  exact h1
/-- The same, in a region that draws its order. -/
theorem step_line {P : Program} {T S : TypeId} (hP : LineT P T S) {w : World} {ops : Array Oper} {o : Oper} {a : Act} {K : Act → World → Prop} {Q : Exit → Act → World → Prop} {E : Prop} (hgd : o.guard = none) (s x : Operand)
    (ho : o.op = .call { callee := .builtin .append, args := #[s, x], argTypes := #[S, S] })
    (base G : Nat) (v : Value) (l : List Tr) (r : Tr) (hs : a.eval s = v) (hx : a.eval x = .slice (some ⟨G, 0, none⟩) 1 1) (hv : Lt T w base v l) (hu : w.cell? ⟨G, 0, none⟩ = some (.int .i64 r.a) ∧ w.cell? ⟨G, 1, none⟩ = some (.int .i64 r.b) ∧ w.cell? ⟨G, 2, none⟩ = some (.int .i64 r.c)) (hn : l.length ≤ 1000000) (hbase : base ≤ w.heap.size)
    (h : ∀ v' w', Lt T w' base v' (l ++ [r]) → w.grownBy w' v.ownBlock → K (a.put o.dst v') w') : if Region.wanted o (yielded ops a.tmps) = true then Oper.wp P o a w K Q else E := by
  have hw : Region.wanted o (yielded ops a.tmps) = true := by simp [Region.wanted, hgd]
  rw [if_pos hw]
  obtain ⟨i0, hi, hz0, hz1, hz2⟩ := info_parts hP.info
  obtain ⟨v', w', hr, h2, h3, _⟩ := run_append_own (P := P) w base S o.type T i0 (.agg #[.int .i64 0, .int .i64 0, .int .i64 0]) 3 24 hP.under hi hz0 hz1 hz2 rfl (by decide) v l.length (cellsL l) hv ⟨G, 0, none⟩ 1 1 (cellsL [r]) rfl (by
    intro j u hj
    match j, hj with
    | 0, hj => simp [cellsL] at hj; subst hj; simpa [Addr.add] using hu.1
    | 1, hj => simp [cellsL] at hj; subst hj; simpa [Addr.add] using hu.2.1
    | 2, hj => simp [cellsL] at hj; subst hj; simpa [Addr.add] using hu.2.2
    | j + 3, hj => simp [cellsL] at hj) (oneL [r]) (by unfold maxLen; omega) (by omega) hbase
  unfold Oper.wp execOp
  simp only [ho, resolve, invoke, builtin, Sem.run_bind, Sem.run_pure, Result.andThen_ok, List.map_toArray, List.map_cons, List.map_nil, hs, hx, hr]
  refine h v' w' ?_ h3
  unfold Lt
  rw [List.length_append, cellsL_app]
  exact h2

end Go.Proofs.YtlicdeppfhmfjabGreatDoor.tar

/- What the four of the tariffs give back. -/
namespace Go.Proofs.YtlicdeppfhmfjabGreatDoor.tar
open Go.RowKit

def ErrPost (w : World) (R : Int → Prop) (e : Ending) (w' : World) : Prop := ∃ f, e = .returned (.int .i64 f) ∧ R f ∧ Below w.heap.size w w'
def ValPost (w : World) (z : Int) (e : Ending) (w' : World) : Prop := e = .returned (.int .i64 z) ∧ Below w.heap.size w w'
def TwoPost (w : World) (R : Int → Int → Prop) (e : Ending) (w' : World) : Prop := ∃ p f, e = .returned (.tuple #[.int .i64 p, .int .i64 f]) ∧ R p f ∧ Below w.heap.size w w'
def BillPost (T : TypeId) (w : World) (ls : List Du) (x n : Int) (e : Ending) (w' : World) : Prop := ∃ v z f, e = .returned (.tuple #[v, .int .i64 f]) ∧ BillIs ls x n z f ∧ Lt T w' w.heap.size v z ∧ Below w.heap.size w w'
def ThreePost (w : World) (R : Int → Int → Int → Prop) (e : Ending) (w' : World) : Prop := ∃ u p f, e = .returned (.tuple #[.int .i64 u, .int .i64 p, .int .i64 f]) ∧ R u p f ∧ Below w.heap.size w w'
/-- A slice of pairs that came in. -/
structure Came (w : World) (a : Option Addr) (len cap : Nat) (ls : List Du) : Prop where
  row : RowD w a len ls
  nil : a = none → cap = 0
  room : len ≤ cap
  bytes : len * 16 ≤ 140737488351232
  wf : ∀ x ∈ ls, (Lit.int .i64 x.a).wf = true ∧ (Lit.int .i64 x.b).wf = true
theorem Came.below {w w' : World} {a : Option Addr} {len cap : Nat} {ls : List Du} (h : Came w a len cap ls) (hb : Below w.heap.size w w') : Came w' a len cap ls := ⟨h.row.below hb, h.nil, h.room, h.bytes, h.wf⟩
theorem Came.most {w : World} {a : Option Addr} {len cap : Nat} {ls : List Du} (h : Came w a len cap ls) : len ≤ maxLen := by have := h.bytes; unfold maxLen; omega
theorem Ld.came {T : TypeId} {w : World} {base : Nat} {v : Value} {l : List Du} (h : Ld T w base v l) (hl : l.length * 16 ≤ 140737488351232) (hw : ∀ x ∈ l, (Lit.int .i64 x.a).wf = true ∧ (Lit.int .i64 x.b).wf = true) : ∃ a cap, v = .slice a l.length cap ∧ Came w a l.length cap l := by
  obtain ⟨a, cap, hv, hr, hn, hc, _⟩ := h.row
  exact ⟨a, cap, hv, hr, hn, hc, hl, hw⟩
/-- Pairs were given back that nobody else holds. -/
def GaveD (T : TypeId) (w : World) (zs : List Du) (e : Ending) (w' : World) : Prop := ∃ v, e = .returned v ∧ Ld T w' w.heap.size v zs ∧ Below w.heap.size w w'
theorem GaveD.mk {T : TypeId} {w w' : World} {zs : List Du} {v : Value} (h1 : Ld T w' w.heap.size v zs) (h2 : Below w.heap.size w w') : GaveD T w zs (.returned v) w' := ⟨v, rfl, h1, h2⟩

end Go.Proofs.YtlicdeppfhmfjabGreatDoor.tar

/- Tariffs that are right, and what they answer. -/
namespace Go.Proofs.YtlicdeppfhmfjabGreatDoor.tar
open Go.RowKit
set_option maxRecDepth 100000
set_option linter.unusedVariables false
set_option linter.unusedSimpArgs false

theorem wf_mid {z : Int} (h0 : 0 ≤ z) (h1 : z ≤ 4000000000000) : (Lit.int .i64 z).wf = true := by
  have h1 : IntKind.i64.min ≤ z := by have e : IntKind.i64.min = -9223372036854775808 := by decide
                                      omega
  have h2 : z ≤ IntKind.i64.max := by have e : IntKind.i64.max = 9223372036854775807 := by decide
                                      omega
  show (decide (IntKind.i64.min ≤ z) && decide (z ≤ IntKind.i64.max)) = true
  rw [Bool.and_eq_true]
  exact ⟨decide_eq_true h1, decide_eq_true h2⟩
theorem Right.wf {l : List Du} (h : Right l) : ∀ x ∈ l, (Lit.int .i64 x.a).wf = true ∧ (Lit.int .i64 x.b).wf = true := by
  intro x hx
  obtain ⟨i, hi, rfl⟩ := List.getElem_of_mem hx
  have e : l.getD i du0 = l[i] := by simp [List.getD, List.getElem?_eq_getElem hi]
  have h1 := h.upto i hi
  have h2 := h.price i hi
  rw [e] at h1 h2
  exact ⟨wf_mid (by omega) (by omega), wf_mid (by omega) (by omega)⟩
theorem Ld.right {T : TypeId} {w : World} {base : Nat} {v : Value} {l : List Du} (h : Ld T w base v l) (hR : Right l) : ∃ a cap, v = .slice a l.length cap ∧ Came w a l.length cap l := h.came (by have := hR.1.2; omega) hR.wf
theorem PriceIs.got {l : List Du} {x n p e : Int} (h : PriceIs l x n p e) (hR : Right l) (hM : Mays x n) : p = cost l x (x + n) ∧ e = 0 := by
  have h0 : e = 0 := h.1.ok.2 ⟨hR, hM⟩
  rcases h.2 with ⟨_, hp⟩ | ⟨hn, _⟩
  · exact ⟨hp, h0⟩
  · exact absurd h0 hn
theorem BillIs.got {l : List Du} {x n e : Int} {z : List Tr} (h : BillIs l x n z e) (hR : Right l) (hM : Mays x n) : z = billK l x (x + n) l.length ∧ e = 0 := by
  have h0 : e = 0 := h.1.ok.2 ⟨hR, hM⟩
  rcases h.2 with ⟨_, hp⟩ | ⟨hn, _⟩
  · exact ⟨hp, h0⟩
  · exact absurd h0 hn
theorem MostIs.got {l : List Du} {x m u p e : Int} (h : MostIs l x m u p e) (hR : Right l) (hM : MayMost x m) : e = 0 ∧ MostOf l x m u ∧ p = cost l x (x + u) := by
  rcases h with ⟨a, _⟩ | ⟨_, b, _⟩ | ⟨_, _, c, d⟩
  · exact absurd hR a
  · exact absurd hM b
  · exact ⟨c, d⟩

end Go.Proofs.YtlicdeppfhmfjabGreatDoor.tar

/- The statement ReceiptFixed. -/
namespace Go.Proofs.YtlicdeppfhmfjabGreatDoor.rcp
open Go.RowKit
set_option maxRecDepth 100000
set_option linter.unusedVariables false
set_option linter.unusedSimpArgs false

theorem right_wf {r : Rc} (h : Right r) : wf8 r := by
  obtain ⟨⟨m0, m1⟩, ⟨⟨⟨t0, t1⟩, ⟨d0, d1⟩, ⟨f0, f1⟩, p0, p1⟩, ⟨c0, c1⟩, ⟨i0, i1⟩, u0, u1⟩, _⟩ := h
  exact ⟨⟨tar.wf_mid m0 (by omega), tar.wf_mid (by omega) (by omega), tar.wf_mid t0 (by omega), tar.wf_mid d0 (by omega)⟩, tar.wf_mid f0 (by omega), tar.wf_mid p0 (by omega), tar.wf_mid c0 (by omega), tar.wf_mid u0 (by omega)⟩
set_option maxHeartbeats 2000000 in
theorem ReceiptFixed_walk (s : ByteArray) (w : World) (K : KrRead w) (KS : KrShow w) : Calls Tryz.prog 3 #[.string s] w fun e w' => e = .returned (.bool true) ∧ Below w.heap.size w w' := by
  have H1 : Hid (∀ W, Below w.heap.size w W → Calls Tryz.prog 4 #[.string s] W fun e w' => ReadPost W s.data.toList e w') := fun W hW => K W s hW
  go_enter Tryz.func3, Tryz.ntmps3
  go_wp2_with fail
  refine (H1.out _ (Below.refl _ _)).mono ?_
  rintro e w1 ⟨r, f, rfl, h1, hb1⟩
  have HBA : Hid (∀ o, Below w.heap.size w (w1.alloc o)) := fun o => hb1.alloc hb1.size o
  by_cases h0 : f = 0
  · subst h0
    obtain ⟨hr, hp⟩ : Right r ∧ paper r = s.data.toList := by
      rcases h1 with ⟨_, _, h⟩ | ⟨_, _, _, h⟩ | ⟨_, a, b, _⟩
      · exact absurd h (by decide)
      · exact absurd h (by decide)
      · exact ⟨a, b⟩
    have H2 : Hid (∀ W, Below w.heap.size w W → Calls Tryz.prog 5 #[.agg r.cs] W fun e w' => e = .returned (.tuple #[.string s, .int .i64 0]) ∧ Below W.heap.size W w') := fun W hW => (KS W r hW (right_wf hr)).mono (by
      rintro e w9 ⟨l, f, rfl, hs, hb9⟩
      have e0 : f = 0 := hs.1.ok.2 hr
      subst e0
      rcases hs.2 with ⟨_, rfl⟩ | ⟨h, _⟩
      · exact ⟨by rw [hp], hb9⟩
      · exact absurd rfl h)
    unfold Rc.v
    unfold Rc.cs at *
    generalize (⟨r.tk.toArray⟩ : ByteArray) = S at *
    have HX : Hid (Blk (w1.alloc (.cells #[.int .i64 r.me, .int .i64 r.id, .int .i64 r.te, .int .i64 r.de, .int .i64 r.fe, .int .i64 r.pr, .int .i64 r.ch, .int .i64 r.un, .string S] 25)) w1.heap.size #[.int .i64 r.me, .int .i64 r.id, .int .i64 r.te, .int .i64 r.de, .int .i64 r.fe, .int .i64 r.pr, .int .i64 r.ch, .int .i64 r.un, .string S] 25) := Blk.new w1 _ _
    have HB : Hid (Below w.heap.size w (w1.alloc (.cells #[.int .i64 r.me, .int .i64 r.id, .int .i64 r.te, .int .i64 r.de, .int .i64 r.fe, .int .i64 r.pr, .int .i64 r.ch, .int .i64 r.un, .string S] 25))) := HBA.out _
    clear h1 hb1 hr hp H1 HBA
    go_upto_region 2 with fail
    generalize w1.alloc (.cells #[.int .i64 r.me, .int .i64 r.id, .int .i64 r.te, .int .i64 r.de, .int .i64 r.fe, .int .i64 r.pr, .int .i64 r.ch, .int .i64 r.un, .string S] 25) = W1 at *
    generalize w1.heap.size = ga at *
    go_wp2_with (first | (refine wp_whole rfl 25 _ rfl (ga) rfl 25 #[.int .i64 r.me, .int .i64 r.id, .int .i64 r.te, .int .i64 r.de, .int .i64 r.fe, .int .i64 r.pr, .int .i64 r.ch, .int .i64 r.un, .string S] _ HX.out Tryz.underlying25 rfl (by kernel_rfl) ?_) | fail)
    refine (H2.out _ HB.out).mono ?_
    rintro e w2 ⟨rfl, hb2⟩
    have HB2 : Hid (Below w.heap.size w w2) := HB.out.trans (hb2.mono HB.out.size)
    have es : (s.toList == s.toList) = true := by simp
    clear hb2 HB HX H2
    go_wp2_with fail
    go_ret
    exact ⟨rfl, HB2.out⟩
  · have hr : r = rc0 := by
      rcases h1 with ⟨_, h, _⟩ | ⟨_, _, h, _⟩ | ⟨_, _, _, h⟩
      · exact h
      · exact h
      · exact absurd h h0
    subst hr
    have hne : (f != 0) = true := by simpa using h0
    have HX : Hid (Blk (w1.alloc (.cells #[.int .i64 0, .int .i64 0, .int .i64 0, .int .i64 0, .int .i64 0, .int .i64 0, .int .i64 0, .int .i64 0, .string ⟨#[]⟩] 25)) w1.heap.size #[.int .i64 0, .int .i64 0, .int .i64 0, .int .i64 0, .int .i64 0, .int .i64 0, .int .i64 0, .int .i64 0, .string ⟨#[]⟩] 25) := Blk.new w1 _ _
    have HB : Hid (Below w.heap.size w (w1.alloc (.cells #[.int .i64 0, .int .i64 0, .int .i64 0, .int .i64 0, .int .i64 0, .int .i64 0, .int .i64 0, .int .i64 0, .string ⟨#[]⟩] 25))) := HBA.out _
    have eb : ∀ wz : World, (Op.equalIn 10000 25 (.agg #[.int .i64 0, .int .i64 0, .int .i64 0, .int .i64 0, .int .i64 0, .int .i64 0, .int .i64 0, .int .i64 0, .string ⟨#[]⟩]) (.agg #[.int .i64 0, .int .i64 0, .int .i64 0, .int .i64 0, .int .i64 0, .int .i64 0, .int .i64 0, .int .i64 0, .string ⟨#[]⟩])).run Tryz.prog wz = .ok true wz := fun wz => eqRc _ _ _ _ _ _ _ _ _ wz
    have ez : Rc.v rc0 = .agg #[.int .i64 0, .int .i64 0, .int .i64 0, .int .i64 0, .int .i64 0, .int .i64 0, .int .i64 0, .int .i64 0, .string ⟨#[]⟩] := rfl
    rw [ez]
    clear h1 hb1 h0 H1 HBA ez
    go_upto_region 2 with fail
    generalize w1.alloc (.cells #[.int .i64 0, .int .i64 0, .int .i64 0, .int .i64 0, .int .i64 0, .int .i64 0, .int .i64 0, .int .i64 0, .string ⟨#[]⟩] 25) = W1 at *
    generalize w1.heap.size = ga at *
    go_wp2_with (first | (refine wp_whole rfl 25 _ rfl (ga) rfl 25 #[.int .i64 0, .int .i64 0, .int .i64 0, .int .i64 0, .int .i64 0, .int .i64 0, .int .i64 0, .int .i64 0, .string ⟨#[]⟩] _ HX.out Tryz.underlying25 rfl (by kernel_rfl) ?_) | fail)
    go_ret
    exact ⟨rfl, HB.out⟩

end Go.Proofs.YtlicdeppfhmfjabGreatDoor.rcp

/- Where the order is open: a call that changes nothing may be thought of as coming up first. -/
namespace Go.Proofs.YtlicdeppfhmfjabGreatDoor
open Go.RowKit

section
variable {P : Program} {ops : Array Oper} {Q : Exit → Act → World → Prop} {md : Region.Mode} {S : World → Prop}
/-- In the state a, in every world of S, the operation is a call of f with these arguments. -/
structure EntersIf (P : Program) (ops : Array Oper) (S : World → Prop) (o : Oper) (f : FuncId) (args : Array Value) (a : Act) : Prop where
  want : Region.wanted o (yielded ops a.tmps) = true
  run : ∀ w, S w → (execOp a.eval o).run P w = .ok (.enter f args) w
/-- And the call gives v, and leaves the world as it is. -/
def Gives (P : Program) (S : World → Prop) (f : FuncId) (args : Array Value) (v : Value) : Prop := ∀ w, S w → Calls P f args w fun e w' => e = .returned v ∧ w' = w
theorem EntersIf.now {o : Oper} {f : FuncId} {args : Array Value} {a : Act} {v : Value} {i : Nat} (h : EntersIf P ops S o f args a) (hg : Gives P S f args v) (hi : ops[i]? = some o) {K : Act → World → Prop} {w : World} (hS : S w) (hk : K (a.put o.dst v) w) : wpOp P ops Q i K a w := by
  unfold wpOp
  simp only [hi, h.want, if_true]
  left
  unfold Oper.wp
  rw [h.run w hS, Oper.upon_enter]
  refine (hg w hS).mono fun e w' he => ?_
  obtain ⟨rfl, rfl⟩ := he
  exact hk
/-- Another operation, apart from it, neither sees it nor is seen. -/
theorem EntersIf.apart {o p : Oper} {f : FuncId} {args : Array Value} {v : Value} {j : Nat} (hj : ops[j]? = some p) (hap : o.apart ops p = true) (hso : ∀ cs b, o.op ≠ .select cs b) (hsp : ∀ cs b, p.op ≠ .select cs b)
    (hQ : ∀ c a w, Q (.panic c) (a.put o.dst v) w → Q (.panic c) a w) {K : Act → World → Prop} {a : Act} {w : World} (he : EntersIf P ops S o f args a) (h : wpOp P ops Q j K (a.put o.dst v) w) :
    wpOp P ops Q j (fun a' w' => EntersIf P ops S o f args a' ∧ K (a'.put o.dst v) w') a w := by
  obtain ⟨n1, n2, n3⟩ := Oper.apart_spec hap
  have stay : ∀ b : Act, EntersIf P ops S o f args b → ∀ u, EntersIf P ops S o f args (b.put p.dst u) := fun b hb u => ⟨by rw [wanted_put o b p.dst u n3]; exact hb.want, fun w hw => by rw [execOp_put o hso b p.dst u n3]; exact hb.run w hw⟩
  have both : ∀ (b : Act) (u : Value) (w' : World), EntersIf P ops S o f args b → K ((b.put o.dst v).put p.dst u) w' → EntersIf P ops S o f args (b.put p.dst u) ∧ K ((b.put p.dst u).put o.dst v) w' := fun b u w' hb hk => ⟨stay b hb u, by rw [← Act.put_comm b v u n2]; exact hk⟩
  unfold wpOp at h ⊢
  simp only [hj] at h ⊢
  rw [wanted_put p a o.dst v n1] at h
  by_cases hw : Region.wanted p (yielded ops a.tmps) = true
  · rw [if_pos hw] at h ⊢
    rcases h with h | ⟨h, hl⟩
    · left
      unfold Oper.wp at h ⊢
      rw [execOp_put p hsp a o.dst v n1] at h
      cases hr : (execOp a.eval p).run P w with
      | halt x w' =>
        rw [hr] at h
        cases x <;> simp only [Oper.upon] at h ⊢
        exact hQ _ _ _ h
      | ok n w' =>
        rw [hr] at h
        cases n with
        | value u => exact both a u w' he h
        | skip => exact both a undef w' he h
        | defer d =>
          simp only [Oper.upon] at h ⊢
          rw [Act.put_defers] at h
          exact both _ _ _ ⟨he.want, he.run⟩ h
        | enter g xs =>
          simp only [Oper.upon] at h ⊢
          refine Calls.mono h fun e w'' hx => ?_
          cases e with
          | returned u => exact both a u w'' he hx
          | panicked c => exact hQ _ _ _ hx
          | outgrown => exact hx
        | row r xs =>
          simp only [Oper.upon] at h ⊢
          exact Rows.mono h fun u w'' hx => both a u w'' he hx
        | _ => exact False.elim h
    · right
      unfold Oper.asks at h ⊢
      rw [execOp_put p hsp a o.dst v n1] at h
      exact ⟨h, hl⟩
  · rw [if_neg hw] at h ⊢
    exact both a undef w he h
/-- THE CALL FIRST. -/
theorem call_first {i : Nat} {o : Oper} {f : FuncId} {args : Array Value} {v : Value} (hi : ops[i]? = some o) (hsel : ∀ (j : Nat) (o : Oper) cs b, ops[j]? = some o → o.op ≠ .select cs b)
    (hQ : ∀ c a w, Q (.panic c) (a.put o.dst v) w → Q (.panic c) a w) (hg : Gives P S f args v) (fuel : Nat) : ∀ (listed : Array Bool) (a : Act) (w : World),
      (∀ j p, ops[j]? = some p → j ≠ i → listed.getD j true = false → (∀ e ∈ p.after, Region.binds md e = true → e.on ≠ i) → o.apart ops p = true) →
      i ∈ Region.ready md ops listed → EntersIf P ops S o f args a → S w →
      wpAnyH P md ops Q S fuel (listed.setIfInBounds i true) (a.put o.dst v) w → wpAnyH P md ops Q S (fuel + 1) listed a w := by
  induction fuel with
  | zero =>
    intro listed a w _ hr he hS H
    refine ⟨fun h => absurd hr (by rw [h]; exact List.not_mem_nil), fun j hj => ?_⟩
    by_cases e : j = i
    · rw [e]; exact he.now hg hi hS ⟨hS, H⟩
    · have := ready_mono hj e
      rw [H.1] at this
      exact absurd this List.not_mem_nil
  | succ fuel ih =>
    intro listed a w hfree hr he hS H
    refine ⟨fun h => absurd hr (by rw [h]; exact List.not_mem_nil), fun j hj => ?_⟩
    by_cases e : j = i
    · rw [e]; exact he.now hg hi hS ⟨hS, H⟩
    · obtain ⟨hun, p, hp, hall⟩ := mem_ready.1 hj
      have hno : ∀ x ∈ p.after, Region.binds md x = true → x.on ≠ i := fun x hx hb hxi => by
        have h1 := hall x hx hb
        have h0 := (mem_ready.1 hr).1
        rw [hxi] at h1
        by_cases hlt : i < listed.size
        · simp [hlt] at h0 h1
          rw [h0] at h1; cases h1
        · simp [hlt] at h1
      have h2 := EntersIf.apart hp (hfree j p hp e hun hno) (fun cs b => hsel i o cs b hi) (fun cs b => hsel j p cs b hp) hQ he (H.2 j (ready_mono hj e))
      refine wpOp_mono (fun a' w' h3 => ⟨h3.2.1, ih (listed.setIfInBounds j true) a' w' (fun k q hq hki hku hkn => hfree k q hq hki ?_ hkn) (ready_mono hr (Ne.symm e)) h3.1 h3.2.1 ?_⟩) h2
      · by_cases hjk : j = k
        · rw [← hjk]; exact hun
        · rw [getD_set_ne true hjk] at hku; exact hku
      · rw [Array.setIfInBounds_comm _ _ e]; exact h3.2.2
theorem call_at {fuel : Nat} {listed : Array Bool} {a : Act} {w : World} (i d : Nat) (v : Value) (o : Oper) (hi : ops[i]? = some o) (hd : o.dst = some d)
    (hs : Region.noSelect ops = true) (hf : Region.free md ops listed i = true) (hr : (Region.ready md ops listed).contains i = true)
    (hQ : ∀ c a w, Q (.panic c) (a.put o.dst v) w → Q (.panic c) a w) (f : FuncId) (args : Array Value) (he : EntersIf P ops S o f args a) (hg : Gives P S f args v) (hS : S w)
    (h : wpAnyH P md ops Q S fuel (listed.setIfInBounds i true) (a.put (some d) v) w) : wpAnyH P md ops Q S (fuel + 1) listed a w :=
  call_first hi (Region.noSelect_spec hs) hQ hg fuel listed a w (Region.free_spec hi hf) (by simpa using hr) he hS (by rw [hd]; exact h)
end

end Go.Proofs.YtlicdeppfhmfjabGreatDoor

/- Operations one by one, where the order is open. -/
namespace Go.Proofs.YtlicdeppfhmfjabGreatDoor
open Go.RowKit

/-- An operation that gives a value, where the order is open. -/
theorem wp_runOp {P : Program} {o : Oper} {a : Act} {w w' : World} {v : Value} {K : Act → World → Prop} {Q : Exit → Act → World → Prop} (d : Nat) (hd : o.dst = some d) (hrun : (execOp a.eval o).run P w = .ok (.value v) w') (h : K (a.put (some d) v) w') : o.wp P a w K Q := by
  rw [← hd] at h
  unfold Oper.wp
  rw [hrun, Oper.upon_value]
  exact h
/-- A call by its contract, where the order is open. -/
theorem wp_callOp {P : Program} {o : Oper} {a : Act} {w : World} {f : FuncId} {args : Array Value} {R : Ending → World → Prop} {K : Act → World → Prop} {Q : Exit → Act → World → Prop} (d : Nat) (hd : o.dst = some d) (hrun : (execOp a.eval o).run P w = .ok (.enter f args) w) (hc : Calls P f args w R)
    (h : ∀ e w', R e w' → ∃ v, e = .returned v ∧ K (a.put (some d) v) w') : o.wp P a w K Q := by
  rw [← hd] at h
  unfold Oper.wp
  rw [hrun, Oper.upon_enter]
  refine hc.mono fun e w' hr => ?_
  obtain ⟨v, rfl, hk⟩ := h e w' hr
  exact hk

end Go.Proofs.YtlicdeppfhmfjabGreatDoor

/- What the small functions of package cents, and of the document's answer to it, give back: one contract a function. -/
namespace Go.Proofs.YtlicdeppfhmfjabGreatDoor.cents
open Go.RowKit

/-- The slice a, len, cap reads as the numbers zs: its elements alone. -/
def Row (w : World) (a : Option Addr) (len : Nat) (zs : List Int) : Prop :=
  zs.length = len ∧ (len = 0 ∨ ∃ b off, a = some ⟨b, off, none⟩ ∧ ∀ i, i < len → w.cell? ⟨b, off + i, none⟩ = some (.int .i64 (zs.getD i 0)))

def okAll (lo hi : Int) (l : List Int) : Bool := l.all fun n => decide (lo ≤ n) && decide (n ≤ hi)

theorem okAll_step (lo hi : Int) (zs : List Int) (k : Nat) (hk : k < zs.length) (h : okAll lo hi (zs.take k) = true) (h1 : lo ≤ zs.getD k 0) (h2 : zs.getD k 0 ≤ hi) : okAll lo hi (zs.take (k + 1)) = true := by
  unfold okAll at *
  rw [List.take_add_one, List.all_append, h]
  simp only [List.getD, List.getElem?_eq_getElem hk, Option.getD] at h1 h2 ⊢
  simp [h1, h2]

theorem okAll_no (lo hi : Int) (zs : List Int) (k : Nat) (hk : k < zs.length) (h : zs.getD k 0 < lo ∨ hi < zs.getD k 0) : okAll lo hi zs = false := by
  unfold okAll
  rw [List.all_eq_false]
  refine ⟨zs[k], List.getElem_mem hk, ?_⟩
  simp only [List.getD, List.getElem?_eq_getElem hk, Option.getD] at h
  simp; omega

theorem ret_bool {a b : Bool} (h : a = b) : Ending.returned (.bool a) = .returned (.bool b) := by rw [h]

set_option maxHeartbeats 400000 in
theorem within_any (lo hi : Int) (a : Option Addr) (len cap : Nat) (zs : List Int) (w : World) (hr : Row w a len zs) (hl : len ≤ maxLen) :
    Calls Tryz.prog 43 #[.int .i64 lo, .int .i64 hi, .slice a len cap] w fun e w' => e = .returned (.bool (okAll lo hi zs)) ∧ w' = w := by
  unfold maxLen at hl
  obtain ⟨hz, hr⟩ := hr
  go_enter Tryz.func43, Tryz.ntmps43
  go_wp2
  go_loop [11] (fun i => ∃ k : Nat, k ≤ len ∧ i = .int .i64 k ∧ okAll lo hi (zs.take k) = true) (fun i => len - (intOf i).toNat)
  case atStart => exact ⟨0, Nat.zero_le _, rfl, rfl⟩
  case round =>
    obtain ⟨k, hk, rfl, hok⟩ := hrel
    have HK : Hid (okAll lo hi (zs.take k) = true) := hok
    clear hok
    by_cases hlt : k < len
    · rcases hr with h0 | ⟨b, off, rfl, hc⟩
      · omega
      have hcell := hc k hlt
      clear hc
      generalize hzk : zs.getD k 0 = z at hcell
      have HZ : Hid (zs.getD k 0 = z) := hzk
      clear hzk
      by_cases h1 : z < lo
      · go_wp2
        go_ret
        exact ⟨ret_bool (okAll_no lo hi zs k (by omega) (.inl (by rw [HZ.out]; exact h1))).symm, rfl⟩
      · by_cases h2 : hi < z
        · go_wp2
          go_ret
          exact ⟨ret_bool (okAll_no lo hi zs k (by omega) (.inr (by rw [HZ.out]; exact h2))).symm, rfl⟩
        · go_wp2
          go_round
          case rel => exact ⟨k + 1, by omega, by go_num, okAll_step lo hi zs k (by omega) HK.out (by rw [HZ.out]; omega) (by rw [HZ.out]; omega)⟩
          case measure => simp [intOf]; omega
    · go_wp2
      go_ret
      refine ⟨ret_bool ?_, rfl⟩
      have := HK.out
      rw [List.take_of_length_le (by omega)] at this
      exact this.symm

end Go.Proofs.YtlicdeppfhmfjabGreatDoor.cents

/- What comes back, by its number. -/
namespace Go.Proofs.YtlicdeppfhmfjabGreatDoor.cents
open Go.RowKit
theorem ret_int {k : IntKind} {a b : Int} (h : a = b) : Ending.returned (.int k a) = .returned (.int k b) := by rw [h]
end Go.Proofs.YtlicdeppfhmfjabGreatDoor.cents

/- Digits: whether a text is made of them alone, and the number that they make. -/
namespace Go.Proofs.YtlicdeppfhmfjabGreatDoor.cents
open Go.RowKit

theorem iter_below (w : World) (s : ByteArray) (k : Nat) : Below w.heap.size w (w.iter s k) := (Below.refl _ _).alloc (Nat.le_refl _) _

set_option maxHeartbeats 400000 in
theorem allDigits_any (s : ByteArray) (w : World) :
    Calls Tryz.prog 31 #[.string s] w fun e w' => e = .returned (.bool (allD s.data.toList)) ∧ Below w.heap.size w w' := by
  go_enter Tryz.func31, Tryz.ntmps31
  go_wp2
  go_loopw [] (fun wr => ∃ k : Nat, k ≤ s.size ∧ wr = w.iter s k ∧ allD (s.data.toList.take k) = true) (fun wr => s.size - wr.iterPos w.heap.size)
  case atStart => exact ⟨0, Nat.zero_le _, rfl, rfl⟩
  case round =>
    obtain ⟨k, hk, rfl, hok⟩ := hrel
    have HK : Hid (allD (s.data.toList.take k) = true) := hok
    clear hok
    by_cases hp : k < s.size
    · by_cases ha : (s[k]'hp).toNat < 128
      · have hnx : ∀ ty, (Instr.next (.pointer (some ⟨w.heap.size, 0, none⟩)) true ty).run Tryz.prog (w.iter s k) = _ := fun ty => run_next_ascii w s k ty hp ha
        have HT : Hid (s.data.toList.take (k + 1) = s.data.toList.take k ++ [s[k]]) := take_snoc s k hp
        have HN : Hid (isD s[k] = false → allD s.data.toList = false) := allD_take_no s k hp
        have HY : Hid (48 ≤ ((s[k].toNat : Nat) : Int) → ((s[k].toNat : Nat) : Int) ≤ 57 → isD s[k] = true) := fun a b => isD_yes a b
        have HL : Hid (((s[k].toNat : Nat) : Int) < 48 → isD s[k] = false) := fun a => isD_lo a
        have HH : Hid (57 < ((s[k].toNat : Nat) : Int) → isD s[k] = false) := fun a => isD_hi a
        clear ha
        generalize s[k] = c at *
        generalize hcc : ((c.toNat : Nat) : Int) = z at *
        clear hcc
        by_cases h1 : z < 48
        · go_wp2
          go_ret
          exact ⟨ret_bool (HN.out (HL.out h1)).symm, iter_below _ _ _⟩
        · by_cases h2 : 57 < z
          · go_wp2
            go_ret
            exact ⟨ret_bool (HN.out (HH.out h2)).symm, iter_below _ _ _⟩
          · go_wp2
            go_roundw
            case rel => exact ⟨k + 1, by omega, rfl, by rw [HT.out, allD_append, HK.out]; simp [allD, HY.out (by omega) (by omega)]⟩
            case measure => simp; omega
      · have hd := (decode_high s k hp (by omega)).1
        have hnx : ∀ ty, (Instr.next (.pointer (some ⟨w.heap.size, 0, none⟩)) true ty).run Tryz.prog (w.iter s k) = _ := fun ty => run_next_any w s k ty hp
        have HN : Hid (allD s.data.toList = false) := allD_take_no s k hp (isD_hi (by omega))
        clear ha
        have hd2 := decode_le s k
        generalize (Utf8.decode s k).1 = r at *
        generalize (Utf8.decode s k).2 = n at *
        go_wp2
        go_ret
        exact ⟨ret_bool HN.out.symm, iter_below _ _ _⟩
    · have hnx : ∀ ty, (Instr.next (.pointer (some ⟨w.heap.size, 0, none⟩)) true ty).run Tryz.prog (w.iter s k) = _ := fun ty => run_next_end w s k ty hp
      go_wp2
      go_ret
      refine ⟨ret_bool ?_, iter_below _ _ _⟩
      have := HK.out
      rw [List.take_of_length_le (by simp; omega)] at this
      exact this.symm

set_option maxHeartbeats 400000 in
theorem value_any (s : ByteArray) (w : World) (hd : allD s.data.toList = true) :
    Calls Tryz.prog 32 #[.string s] w fun e w' => e = .returned (.int .i64 (cval s.data.toList)) ∧ Below w.heap.size w w' := by
  have HD : Hid (allD s.data.toList = true) := hd
  clear hd
  go_enter Tryz.func32, Tryz.ntmps32
  go_wp2
  go_loopw [3] (fun v wr => ∃ k : Nat, k ≤ s.size ∧ wr = w.iter s k ∧ v = .int .i64 (cval (s.data.toList.take k))) (fun _ wr => s.size - wr.iterPos w.heap.size)
  case atStart => exact ⟨0, Nat.zero_le _, rfl, rfl⟩
  case round =>
    obtain ⟨k, hk, rfl, rfl⟩ := hrel
    by_cases hp : k < s.size
    · have hdk : allD (s.data.toList.take k) = true ∧ isD s[k] = true := by
        have h := HD.out
        have e : s.data.toList = s.data.toList.take k ++ [s[k]] ++ s.data.toList.drop (k + 1) := by rw [← take_snoc s k hp, List.take_append_drop]
        rw [e, allD_append, allD_append] at h
        simp [allD] at h ⊢
        exact h.1
      have hb := cval_eq _ hdk.1
      have hcb := isD_bd hdk.2
      have ha : (s[k]'hp).toNat < 128 := by omega
      have hnx : ∀ ty, (Instr.next (.pointer (some ⟨w.heap.size, 0, none⟩)) true ty).run Tryz.prog (w.iter s k) = _ := fun ty => run_next_ascii w s k ty hp ha
      have HT : Hid (cval (s.data.toList.take (k + 1)) = if cval (s.data.toList.take k) ≤ 1000000000000 then cval (s.data.toList.take k) * 10 + (((s[k].toNat : Nat) : Int) - 48) else cval (s.data.toList.take k)) := by
        show _ = _
        rw [take_snoc s k hp, cval_snoc]
      obtain ⟨_, b1, b2, _, _⟩ := hb
      clear hdk ha
      generalize cval (s.data.toList.take k) = v at *
      generalize s[k] = c at *
      generalize hcc : ((c.toNat : Nat) : Int) = z at *
      clear hcc
      obtain ⟨z1, z2⟩ := hcb
      by_cases h1 : v ≤ 1000000000000
      · go_wp2
        go_roundw
        case rel => exact ⟨k + 1, by omega, rfl, by rw [HT.out, if_pos h1]⟩
        case measure => simp; omega
      · go_wp2
        go_roundw
        case rel => exact ⟨k + 1, by omega, rfl, by rw [HT.out, if_neg h1]⟩
        case measure => simp; omega
    · have hnx : ∀ ty, (Instr.next (.pointer (some ⟨w.heap.size, 0, none⟩)) true ty).run Tryz.prog (w.iter s k) = _ := fun ty => run_next_end w s k ty hp
      go_wp2
      go_ret
      exact ⟨ret_int (by rw [List.take_of_length_le (by simp; omega)]), iter_below _ _ _⟩

end Go.Proofs.YtlicdeppfhmfjabGreatDoor.cents

/- A text cut: its sign ahead, and at the first dot; whether the units are a whole number. -/
namespace Go.Proofs.YtlicdeppfhmfjabGreatDoor.cents
open Go.RowKit
set_option maxRecDepth 100000

theorem indexByte_any (s : ByteArray) (c : Int) (w : World) :
    Calls Tryz.prog 106 #[.string s, .int .u8 c] w fun e w' => e = .returned (.int .i64 (Lib.indexByte s.data.toList c.toNat.toUInt8)) ∧ w' = w := by
  go_enter Tryz.func106, Tryz.ntmps106
  go_wp2
  rw [run_callFunc_extern Tryz.func120 (by kernel_rfl) (by kernel_rfl) (by kernel_rfl) (e := Extern.BytealgIndexByte.indexByte) (by kernel_rfl), Lib.run_indexByteString]
  simp only [Result.andThen]
  rw [Oper.upon_value]
  go_wp2
  go_ret
  exact ⟨rfl, rfl⟩

set_option maxHeartbeats 400000 in
theorem index_dot (s : ByteArray) (w : World) :
    Calls Tryz.prog 78 #[.string s, .string ⟨#[46]⟩] w fun e w' => e = .returned (.int .i64 (Lib.indexByte s.data.toList 46)) ∧ w' = w := by
  cases h : ([46] == s.toList)
  · go_enter Tryz.func78, Tryz.ntmps78
    go_wp2_with fail
    refine (indexByte_any _ _ _).mono ?_
    rintro e w' ⟨rfl, rfl⟩
    go_wp2
    go_ret
    exact ⟨rfl, rfl⟩
  · have e : s.data.toList = [46] := by rw [← ByteArray.toList_eq]; exact (by simpa using h : [46] = s.toList).symm
    rw [e, ix_self]
    go_enter Tryz.func78, Tryz.ntmps78
    go_wp2
    go_ret
    exact ⟨rfl, rfl⟩

set_option maxHeartbeats 400000 in
theorem cutLite_yes (s : ByteArray) (i : Nat) (w : World) (hs : s.size ≤ 140737488351232) (h : Lib.indexByte s.data.toList 46 = i) :
    Calls Tryz.prog 51 #[.string s, .string ⟨#[46]⟩] w fun e w' => e = .returned (.tuple #[.string (s.extract 0 i), .string (s.extract (i + 1) s.size), .bool true]) ∧ Below w.heap.size w w' := by
  have hi := ix_bd h
  have HI : Hid (Lib.indexByte s.data.toList 46 = i) := h
  clear h
  go_enter Tryz.func51, Tryz.ntmps51
  go_wp2_with fail
  refine (index_dot _ _).mono ?_
  rintro e w' ⟨rfl, rfl⟩
  rw [HI.out]
  have h0 : (0 : Int) ≤ (i : Int) := by omega
  go_wp2
  go_region
  all_goals go_wp2
  go_ret3
  exact ⟨rfl, (Below.refl _ _).drew⟩

set_option maxHeartbeats 400000 in
theorem cutLite_no (s : ByteArray) (w : World) (h : Lib.indexByte s.data.toList 46 = -1) :
    Calls Tryz.prog 51 #[.string s, .string ⟨#[46]⟩] w fun e w' => e = .returned (.tuple #[.string s, .string ⟨#[]⟩, .bool false]) ∧ Below w.heap.size w w' := by
  have HI : Hid (Lib.indexByte s.data.toList 46 = -1) := h
  clear h
  go_enter Tryz.func51, Tryz.ntmps51
  go_wp2_with fail
  refine (index_dot _ _).mono ?_
  rintro e w' ⟨rfl, rfl⟩
  rw [HI.out]
  go_wp2
  go_ret3
  exact ⟨rfl, Below.refl _ _⟩

theorem cut_yes (s : ByteArray) (i : Nat) (w : World) (hs : s.size ≤ 140737488351232) (h : Lib.indexByte s.data.toList 46 = i) :
    Calls Tryz.prog 28 #[.string s, .string ⟨#[46]⟩] w fun e w' => e = .returned (.tuple #[.string (s.extract 0 i), .string (s.extract (i + 1) s.size), .bool true]) ∧ Below w.heap.size w w' := by
  have H := cutLite_yes s i w hs h
  clear h
  go_enter Tryz.func28, Tryz.ntmps28
  go_wp2_with fail
  refine H.mono ?_
  rintro e w' ⟨rfl, hb⟩
  clear H
  go_wp2
  go_ret3
  exact ⟨rfl, hb⟩

theorem cut_no (s : ByteArray) (w : World) (h : Lib.indexByte s.data.toList 46 = -1) :
    Calls Tryz.prog 28 #[.string s, .string ⟨#[46]⟩] w fun e w' => e = .returned (.tuple #[.string s, .string ⟨#[]⟩, .bool false]) ∧ Below w.heap.size w w' := by
  have H := cutLite_no s w h
  clear h
  go_enter Tryz.func28, Tryz.ntmps28
  go_wp2_with fail
  refine H.mono ?_
  rintro e w' ⟨rfl, hb⟩
  clear H
  go_wp2
  go_ret3
  exact ⟨rfl, hb⟩

set_option maxHeartbeats 400000 in
theorem cutPrefix_yes (s : ByteArray) (w : World) (h : neg s.data.toList = true) :
    Calls Tryz.prog 29 #[.string s, .string ⟨#[45]⟩] w fun e w' => e = .returned (.tuple #[.string (s.extract 1 s.size), .bool true]) ∧ w' = w := by
  have h0 := neg_size h
  have ht := neg_take h0
  rw [h] at ht
  clear h
  have h1 : (1 : Int) ≤ (s.size : Int) := by omega
  go_enter Tryz.func29, Tryz.ntmps29
  go_wp2
  go_ret2
  exact ⟨rfl, rfl⟩

set_option maxHeartbeats 400000 in
theorem cutPrefix_no (s : ByteArray) (w : World) (h : neg s.data.toList = false) :
    Calls Tryz.prog 29 #[.string s, .string ⟨#[45]⟩] w fun e w' => e = .returned (.tuple #[.string s, .bool false]) ∧ w' = w := by
  by_cases h0 : 0 < s.size
  · have ht := neg_take h0
    rw [h] at ht
    clear h
    have h1 : (1 : Int) ≤ (s.size : Int) := by omega
    go_enter Tryz.func29, Tryz.ntmps29
    go_wp2
    go_ret2
    exact ⟨rfl, rfl⟩
  · have h1 : ¬ (1 : Int) ≤ (s.size : Int) := by omega
    clear h
    go_enter Tryz.func29, Tryz.ntmps29
    go_wp2
    go_ret2
    exact ⟨rfl, rfl⟩

set_option maxHeartbeats 400000 in
theorem isWhole_any (s : ByteArray) (w : World) :
    Calls Tryz.prog 30 #[.string s] w fun e w' => e = .returned (.bool (whole s.data.toList)) ∧ Below w.heap.size w w' := by
  have el := ByteArray.toList_eq s
  by_cases h1 : s.data.toList = [48]
  · have e : whole s.data.toList = true := by rw [h1]; rfl
    rw [e]
    have h2 : (s.toList == [48]) = true := by rw [el, h1]; rfl
    clear el h1 e
    go_enter Tryz.func30, Tryz.ntmps30
    go_wp2
    go_ret
    exact ⟨rfl, Below.refl _ _⟩
  · have h1' : (s.toList == [48]) = false := by rw [el]; simpa using h1
    by_cases h2 : s.data.toList = []
    · have e : whole s.data.toList = false := by rw [h2]; rfl
      rw [e]
      have h3 : (s.toList == []) = true := by rw [el, h2]; rfl
      have h4 : (s.toList != []) = false := by rw [el, h2]; rfl
      clear el h1 h2 e
      go_enter Tryz.func30, Tryz.ntmps30
      go_wp2
      go_ret
      exact ⟨rfl, Below.refl _ _⟩
    · have hsz : 0 < s.size := by
        by_cases h0 : 0 < s.size
        · exact h0
        · exact absurd (List.eq_nil_of_length_eq_zero (by rw [len_eq]; omega)) h2
      have h3 : (s.toList == []) = false := by rw [el]; simpa using h2
      have h4 : (s.toList != []) = true := by rw [el]; simpa using h2
      have hd : s.data.toList.head? = some s[0] := by
        rw [List.head?_eq_getElem?, List.getElem?_eq_getElem (by simpa using hsz)]; rfl
      by_cases h5 : s[0].toNat = 48
      · have e : whole s.data.toList = false := by
          unfold whole
          have : s[0] = 48 := UInt8.toNat_inj.1 h5
          rw [hd, this]
          simp [h1]
        rw [e]
        have h6 : (((s[0].toNat : Nat) : Int) != 48) = false := by simp; omega
        clear el h1 h2 e hd h5
        go_enter Tryz.func30, Tryz.ntmps30
        go_wp2
        go_ret
        exact ⟨rfl, Below.refl _ _⟩
      · have e : whole s.data.toList = allD s.data.toList := by
          unfold whole
          have : ¬ s[0] = 48 := fun h => h5 (by rw [h]; rfl)
          rw [hd]
          have e1 : (s.data.toList == [48]) = false := by simpa using h1
          have e2 : (s.data.toList != []) = true := by simpa using h2
          have e3 : (some s[0] != some 48) = true := by simpa using this
          rw [e1, e2, e3, Bool.false_or, Bool.true_and, Bool.true_and]
        rw [e]
        have h6 : (((s[0].toNat : Nat) : Int) != 48) = true := by simp; omega
        clear el h1 h2 e hd h5
        go_enter Tryz.func30, Tryz.ntmps30
        go_wp2_with fail
        refine (allDigits_any _ _).mono ?_
        rintro e w' ⟨rfl, hb⟩
        go_wp2
        go_ret
        exact ⟨rfl, hb⟩

end Go.Proofs.YtlicdeppfhmfjabGreatDoor.cents

/- What cents.Read gives back. -/
namespace Go.Proofs.YtlicdeppfhmfjabGreatDoor.cents
open Go.RowKit

theorem cutPrefix_any (s : ByteArray) (w : World) :
    Calls Tryz.prog 29 #[.string s, .string ⟨#[45]⟩] w fun e w' => e = .returned (.tuple #[.string (cutT s), .bool (neg s.data.toList)]) ∧ w' = w := by
  cases h : neg s.data.toList
  · have e : cutT s = s := by unfold cutT; rw [h]; rfl
    rw [e]; exact cutPrefix_no s w h
  · have e : cutT s = s.extract 1 s.size := by unfold cutT; rw [h]; rfl
    rw [e]; exact cutPrefix_yes s w h

set_option maxHeartbeats 1000000 in
theorem read_any (s : ByteArray) (w : World) :
    Calls Tryz.prog 11 #[.string s] w fun e w' => e = .returned (.tuple #[.int .i64 (readR s.data.toList).1, .int .i64 (readR s.data.toList).2]) ∧ Below w.heap.size w w' := by
  have hlen := len_eq s
  by_cases h20 : 20 < s.size
  · have e : readR s.data.toList = (0, 1) := by unfold readR; rw [if_pos (by omega)]
    rw [e]
    have h21 : (20 : Int) < (s.size : Int) := by omega
    clear e hlen
    go_enter Tryz.func11, Tryz.ntmps11
    go_wp2
    go_ret2
    exact ⟨rfl, Below.refl _ _⟩
  · have hl20 : ¬ 20 < s.data.toList.length := by omega
    have ht := cutT_size s
    have HT : Hid ((cutT s).data.toList = body s.data.toList) := cutT_list s
    have HL : Hid (¬ 20 < s.data.toList.length) := hl20
    clear hlen hl20
    have hcp := cutPrefix_any s w
    rcases ix_lt (cutT s).data.toList 46 with hix | hix
    · have E : Hid (readR s.data.toList = (0, 3)) := readR_form HL.out (by rw [← HT.out]; exact form_no hix)
      have hc := cut_no (cutT s) w hix
      clear hix HT
      generalize cutT s = t at *
      go_enter Tryz.func11, Tryz.ntmps11
      go_wp2_with fail
      refine hcp.mono ?_
      rintro e w' ⟨rfl, rfl⟩
      clear hcp
      go_wp2_with fail
      refine hc.mono ?_
      rintro e w1 ⟨rfl, hb⟩
      clear hc
      go_wp2
      go_ret2
      exact ⟨ret_err E.out, hb⟩
    · obtain ⟨i, hi⟩ := Int.eq_ofNat_of_zero_le hix.1
      have hc := cut_yes (cutT s) i w (by omega) hi
      have hb := ix_bd hi
      have HF : Hid (form (body s.data.toList) = (whole ((cutT s).extract 0 i).data.toList && (((cutT s).extract (i + 1) (cutT s).size).data.toList.length == 2 && allD ((cutT s).extract (i + 1) (cutT s).size).data.toList))) := by
        show _ = _
        rw [← HT.out, form_eq hi, Lib.extract_data, Lib.extract_to_end]; rfl
      have HU : Hid (units (body s.data.toList) = ((cutT s).extract 0 i).data.toList) := by
        show _ = _
        rw [← HT.out, Lib.extract_data]; unfold units; rw [hi]; rfl
      have HR : Hid (rests (body s.data.toList) = ((cutT s).extract (i + 1) (cutT s).size).data.toList) := by
        show _ = _
        rw [← HT.out, Lib.extract_to_end]; unfold rests; rw [hi]; rfl
      have hu : ((cutT s).extract 0 i).size ≤ 20 := by rw [← len_eq, Lib.extract_data]; simp; omega
      have hr : ((cutT s).extract (i + 1) (cutT s).size).size ≤ 20 := by rw [← len_eq, Lib.extract_to_end, List.length_drop, len_eq]; omega
      clear hi hix HT ht hb
      generalize (cutT s).extract 0 i = u at *
      generalize (cutT s).extract (i + 1) (cutT s).size = r at *
      generalize cutT s = t at *
      have hrl := len_eq r
      generalize hbn : neg s.data.toList = b at hcp
      have HB : Hid (neg s.data.toList = b) := hbn
      have HS : Hid (s.toList = s.data.toList) := ByteArray.toList_eq s
      clear hbn
      go_enter Tryz.func11, Tryz.ntmps11
      go_wp2_with fail
      refine hcp.mono ?_
      rintro e w' ⟨rfl, rfl⟩
      clear hcp
      go_wp2_with fail
      refine hc.mono ?_
      rintro e w1 ⟨rfl, hb1⟩
      clear hc
      go_wp2_with fail
      refine (isWhole_any _ _).mono ?_
      rintro e w2 ⟨rfl, hb2⟩
      have hb := hb1.trans (hb2.mono hb1.size)
      clear hb1 hb2
      cases hw : whole u.data.toList
      · have E : Hid (readR s.data.toList = (0, 3)) := readR_form HL.out (by rw [HF.out, hw]; rfl)
        clear hw
        go_wp2
        go_ret2
        exact ⟨ret_err E.out, hb⟩
      have HW : Hid (whole u.data.toList = true) := hw
      clear hw
      by_cases h2 : r.size = 2
      · have hne : ((r.size : Int) != 2) = false := by simp; omega
        go_wp2_with fail
        refine (allDigits_any _ _).mono ?_
        rintro e w3 ⟨rfl, hb3⟩
        have hb' := hb.trans (hb3.mono hb.size)
        clear hb hb3
        cases hd : allD r.data.toList
        · have E : Hid (readR s.data.toList = (0, 3)) := readR_form HL.out (by rw [HF.out, HW.out, hd]; simp)
          clear hd
          go_wp2
          go_ret2
          exact ⟨ret_err E.out, hb'⟩
        have HD : Hid (allD r.data.toList = true) := hd
        clear hd
        by_cases hz : s.data.toList = [45, 48, 46, 48, 48]
        · have E : Hid (readR s.data.toList = (0, 3)) := readR_zero HL.out hz
          have hq : (s.toList == [45, 48, 46, 48, 48]) = true := by rw [HS.out, hz]; rfl
          clear hz
          go_wp2
          go_ret2
          exact ⟨ret_err E.out, hb'⟩
        · have hq : (s.toList == [45, 48, 46, 48, 48]) = false := by rw [HS.out]; simpa using hz
          have E : Hid (readR s.data.toList = _) := readR_good HL.out (by rw [HF.out, HW.out, HD.out, hrl, h2]; rfl) hz
          clear hz
          go_wp2_with fail
          have ea : (u ++ r).data.toList = u.data.toList ++ r.data.toList := by simp
          have hall : allD (u ++ r).data.toList = true := by rw [ea, allD_append, whole_D HW.out, HD.out]; rfl
          have hv := cval_eq _ hall
          have E2 : Hid (readR s.data.toList = if 1000000000000 < dval (u ++ r).data.toList then (0, 2) else (if b then -dval (u ++ r).data.toList else dval (u ++ r).data.toList, 0)) := by
            show _ = _
            rw [E.out, HU.out, HR.out, ← ea, HB.out]
          have hvd := value_any (u ++ r)
          clear ea E HU HR HF
          refine (hvd _ hall).mono ?_
          rintro e w4 ⟨rfl, hb4⟩
          have hb5 := hb'.trans (hb4.mono hb'.size)
          clear hvd hall hb4 hb'
          obtain ⟨v1, v2, v3, v4, v5⟩ := hv
          generalize dval (u ++ r).data.toList = dv at *
          generalize cval (u ++ r).data.toList = cv at *
          by_cases hM : 1000000000000 < dv
          · have hcv := v5 hM
            have E3 : Hid (readR s.data.toList = (0, 2)) := by show _ = _; rw [E2.out, if_pos hM]
            clear v4 v5
            go_wp2
            go_ret2
            exact ⟨ret_err E3.out, hb5⟩
          · have hcv := v4 (by omega)
            subst hcv
            clear v4 v5
            cases b
            · have E3 : Hid (readR s.data.toList = (cv, 0)) := by show _ = _; rw [E2.out, if_neg hM]; rfl
              go_wp2
              go_ret2
              exact ⟨ret_pair' E3.out, hb5⟩
            · have E3 : Hid (readR s.data.toList = (-cv, 0)) := by show _ = _; rw [E2.out, if_neg hM]; rfl
              go_wp2
              go_ret2
              exact ⟨ret_pair' E3.out, hb5⟩
      · have hne : ((r.size : Int) != 2) = true := by simp; omega
        have E : Hid (readR s.data.toList = (0, 3)) := readR_form HL.out (by rw [HF.out, hrl]; simp [h2])
        go_wp2
        go_ret2
        exact ⟨ret_err E.out, hb⟩

end Go.Proofs.YtlicdeppfhmfjabGreatDoor.cents

/- Numbers of meters, and numbers in decimal: plain facts. -/
namespace Go.Proofs.YtlicdeppfhmfjabGreatDoor.rcp
open Go.Proofs.YtlicdeppfhmfjabGreatDoor.check (digitR goodR flawR allD)
open Go.Proofs.YtlicdeppfhmfjabGreatDoor.token (dv dv_inj dv_lt dv_snoc)
set_option linter.unusedVariables false
set_option linter.unusedSimpArgs false

theorem allD_same (l : List UInt8) : cents.allD l = allD l := rfl
/-- What Atoi gives back, whatever the text. -/
def atoiV (l : List UInt8) : Int := match Lib.atoiAll l with
  | .ok v => v
  | .range => Lib.atoiSat l
  | _ => 0
theorem parse_digits : ∀ (l : List UInt8) (acc : Nat), allD l = true → (acc + 1) * 10 ^ l.length ≤ 1000000000000000000 → Lib.parseUint10 acc l = .ok (l.foldl (fun n c => n * 10 + (c.toNat - 48)) acc) := by
  intro l
  induction l with
  | nil => intro acc _ _; rfl
  | cons c r ih =>
    intro acc hd hb
    have hd' : check.isD c = true ∧ allD r = true := by simpa [allD] using hd
    have hc : 48 ≤ c.toNat ∧ c.toNat ≤ 57 := by simpa [check.isD] using hd'.1
    have hp : 0 < 10 ^ r.length := Nat.pow_pos (by decide)
    have hb' : (acc * 10 + 10) * 10 ^ r.length ≤ 1000000000000000000 := by
      rw [List.length_cons, Nat.pow_succ, Nat.mul_comm (10 ^ r.length) 10, ← Nat.mul_assoc] at hb
      rw [show acc * 10 + 10 = (acc + 1) * 10 by omega]
      exact hb
    have h1 : acc * 10 + 10 ≤ 1000000000000000000 := Nat.le_trans (Nat.le_mul_of_pos_right _ hp) hb'
    unfold Lib.parseUint10
    rw [if_pos hc, if_neg (by omega), if_neg (by omega), List.foldl_cons]
    refine ih _ hd'.2 (Nat.le_trans (Nat.mul_le_mul_right _ ?_) hb')
    omega
theorem atoi_of {c : UInt8} {r : List UInt8} {u : Nat} (h1 : ¬ (c.toNat = 43 ∨ c.toNat = 45)) (hm : Lib.parseMag (c :: r) = .ok u) (hu : u < 9223372036854775808) : Lib.atoiAll (c :: r) = .ok (u : Int) := by
  unfold Lib.atoiAll
  dsimp only
  rw [if_neg h1]
  generalize Lib.parseMag (c :: r) = x at hm ⊢
  subst hm
  dsimp only
  rw [if_neg (by omega), if_neg (by omega), if_neg (by omega)]
theorem atoi_digits {l : List UInt8} (h : allD l = true) (h0 : l ≠ []) (h1 : l.length ≤ 18) : Lib.atoiAll l = .ok ((dv l : Nat) : Int) := by
  have hp := parse_digits l 0 h (by
    have := Nat.pow_le_pow_right (n := 10) (by decide) h1
    simpa using this)
  have hlt := dv_lt l h
  have h18 : dv l < 1000000000000000000 := Nat.lt_of_lt_of_le hlt (by simpa using Nat.pow_le_pow_right (n := 10) (by decide) h1)
  cases l with
  | nil => exact absurd rfl h0
  | cons c r =>
    have hd' : check.isD c = true ∧ allD r = true := by simpa [allD] using h
    have hc : 48 ≤ c.toNat ∧ c.toNat ≤ 57 := by simpa [check.isD] using hd'.1
    have hm : Lib.parseMag (c :: r) = .ok (dv (c :: r)) := by
      unfold Lib.parseMag
      rw [if_neg (by simp)]
      exact hp
    exact atoi_of (by omega) hm (by omega)
theorem atoiV_bounds (l : List UInt8) : -9223372036854775808 ≤ atoiV l ∧ atoiV l ≤ 9223372036854775807 := by
  unfold atoiV
  cases h : Lib.atoiAll l with
  | ok v =>
    cases l with
    | nil => cases h
    | cons c r =>
      unfold Lib.atoiAll at h
      simp only at h
      split at h
      · cases h
      · cases h
      · split at h
        · cases h
        · split at h
          · cases h
          · injection h with h
            subst h
            dsimp only
            split <;> omega
  | range => dsimp only; unfold Lib.atoiSat; split <;> omega
  | _ => dsimp only; omega
theorem pad_facts : ∀ k, k < 50 → (pad k 10).length = 10 ∧ allD (pad k 10) = true ∧ dv (pad k 10) = k := by decide +kernel
theorem last_one : ∀ k, k < 50 → ∀ d, d < 10 → goodR (pad k 10 ++ [(48 + d).toUInt8]) = true → pad k 10 ++ [(48 + d).toUInt8] = numL k := by decide +kernel
theorem named_of {l : List UInt8} (h : l.length = 11) (hd : allD l = true) (hg : goodR l = true) (hk : dv (l.take 10) < 50) : Named l (dv (l.take 10)) := by
  refine ⟨hk, ?_⟩
  have hdt : allD (l.take 10) = true := List.all_eq_true.2 fun c hc => List.all_eq_true.1 hd c (List.mem_of_mem_take hc)
  have hlt : (l.take 10).length = 10 := by rw [List.length_take]; omega
  generalize hkk : dv (l.take 10) = k at hk ⊢
  obtain ⟨p1, p2, p3⟩ := pad_facts k hk
  have e : l.take 10 = pad k 10 := dv_inj 10 _ _ hlt p1 hdt p2 (by rw [hkk, p3])
  have hl10 : 10 < l.length := by omega
  have e2 : l = l.take 10 ++ [l[10]] := by
    have := List.take_succ_eq_append_getElem hl10
    rw [List.take_of_length_le (by omega)] at this
    exact this
  have hc : check.isD l[10] = true := List.all_eq_true.1 hd _ (List.getElem_mem hl10)
  have hc' : 48 ≤ l[10].toNat ∧ l[10].toNat ≤ 57 := by simpa [check.isD] using hc
  obtain ⟨d, hd10, hdd⟩ : ∃ d, d < 10 ∧ l[10] = (48 + d).toUInt8 := ⟨l[10].toNat - 48, by omega, by rw [show 48 + (l[10].toNat - 48) = l[10].toNat by omega]; simp⟩
  rw [e2, e, hdd] at hg
  rw [← last_one k hk d hd10 hg, ← hdd, ← e, ← e2]
theorem named_val {l : List UInt8} {k : Nat} (h : Named l k) : dv (l.take 10) = k := by
  rw [← h.2]; exact (num_all k h.1).2.2.2.1

end Go.Proofs.YtlicdeppfhmfjabGreatDoor.rcp

/- Contracts of the library, laid at this dump in plain words: strconv_Atoi_ok, strconv_Atoi_syntax_var, strconv_Atoi_range_var. -/
namespace Go.Proofs
open Go.Shelf
def Tryz.laysC172_ren : Go.Shelf.Ren := ⟨fun | 172 => 13 | 244 => 33 | 245 => 34 | 247 => 53 | 279 => 54 | 280 => 55 | 281 => 56 | 282 => 57 | 287 => 80 | 316 => 81 | 171 => 24 | 205 => 82 | 321 => 110 | 322 => 111 | 243 => 48 | 246 => 76 | 283 => 102 | 284 => 103 | 285 => 104 | 286 => 105 | 129 => 116 | 317 => 115 | 318 => 117 | 319 => 118 | 320 => 119 | 337 => 122 | 338 => 123 | n => n, fun | 9 => 9 | 3 => 3 | 75 => 43 | 76 => 44 | 4 => 4 | 5 => 5 | 167 => 91 | 37 => 55 | 0 => 0 | 85 => 92 | 2 => 2 | 168 => 94 | 53 => 107 | 175 => 127 | 46 => 109 | 210 => 130 | 127 => 89 | 145 => 160 | 143 => 158 | 21 => 21 | 171 => 151 | 173 => 154 | 212 => 169 | 51 => 75 | 20 => 20 | 213 => 170 | 232 => 175 | 233 => 176 | 80 => 65 | n => n, fun | 15 => 2 | 16 => 3 | 17 => 7 | 18 => 9 | 19 => 10 | n => n⟩
theorem Tryz.laysC172 : Go.Proofs.LaysC.n172 Tryz.prog Tryz.laysC172_ren := {
  mixed := by kernel_rfl
  f129 := Tryz.func116.trans (congrArg some (by kernel_rfl))
  f171 := Tryz.func24.trans (congrArg some (by kernel_rfl))
  f172 := Tryz.func13.trans (congrArg some (by kernel_rfl))
  f205 := Tryz.func82.trans (congrArg some (by kernel_rfl))
  f243 := Tryz.func48.trans (congrArg some (by kernel_rfl))
  f244 := Tryz.func33.trans (congrArg some (by kernel_rfl))
  f245 := Tryz.func34.trans (congrArg some (by kernel_rfl))
  f246 := Tryz.func76.trans (congrArg some (by kernel_rfl))
  f247 := Tryz.func53.trans (congrArg some (by kernel_rfl))
  f279 := Tryz.func54.trans (congrArg some (by kernel_rfl))
  f280 := Tryz.func55.trans (congrArg some (by kernel_rfl))
  f281 := Tryz.func56.trans (congrArg some (by kernel_rfl))
  f282 := Tryz.func57.trans (congrArg some (by kernel_rfl))
  f283 := Tryz.func102.trans (congrArg some (by kernel_rfl))
  f284 := Tryz.func103.trans (congrArg some (by kernel_rfl))
  f285 := Tryz.func104.trans (congrArg some (by kernel_rfl))
  f286 := Tryz.func105.trans (congrArg some (by kernel_rfl))
  f287 := Tryz.func80.trans (congrArg some (by kernel_rfl))
  f316 := Tryz.func81.trans (congrArg some (by kernel_rfl))
  f317 := Tryz.func115.trans (congrArg some (by kernel_rfl))
  f318 := Tryz.func117.trans (congrArg some (by kernel_rfl))
  f319 := Tryz.func118.trans (congrArg some (by kernel_rfl))
  f320 := Tryz.func119.trans (congrArg some (by kernel_rfl))
  f321 := Tryz.func110.trans (congrArg some (by kernel_rfl))
  f322 := Tryz.func111.trans (congrArg some (by kernel_rfl))
  f337 := Tryz.func122.trans (congrArg some (by kernel_rfl))
  f338 := Tryz.func123.trans (congrArg some (by kernel_rfl))
  t0 := Tryz.underlying0
  a0 := Tryz.isAgg0
  z0 := Tryz.sizeOf0
  v0 := Tryz.zeroValue0
  t2 := Tryz.underlying2
  a2 := Tryz.isAgg2
  z2 := Tryz.sizeOf2
  v2 := Tryz.zeroValue2
  t3 := Tryz.underlying3
  a3 := Tryz.isAgg3
  z3 := Tryz.sizeOf3
  v3 := Tryz.zeroValue3
  t4 := Tryz.underlying4
  a4 := Tryz.isAgg4
  z4 := Tryz.sizeOf4
  v4 := Tryz.zeroValue4
  t5 := Tryz.underlying5
  a5 := Tryz.isAgg5
  z5 := Tryz.sizeOf5
  v5 := Tryz.zeroValue5
  t9 := Tryz.underlying9
  a9 := Tryz.isAgg9
  z9 := Tryz.sizeOf9
  v9 := Tryz.zeroValue9
  t20 := Tryz.underlying20
  a20 := Tryz.isAgg20
  z20 := Tryz.sizeOf20
  v20 := Tryz.zeroValue20
  t21 := Tryz.underlying21
  a21 := Tryz.isAgg21
  z21 := Tryz.sizeOf21
  v21 := Tryz.zeroValue21
  t37 := Tryz.underlying55
  a37 := Tryz.isAgg55
  z37 := Tryz.sizeOf55
  v37 := Tryz.zeroValue55
  t46 := Tryz.underlying109
  a46 := Tryz.isAgg109
  z46 := Tryz.sizeOf109
  v46 := Tryz.zeroValue109
  t51 := Tryz.underlying75
  a51 := Tryz.isAgg75
  z51 := Tryz.sizeOf75
  v51 := Tryz.zeroValue75
  t53 := Tryz.underlying107
  a53 := Tryz.isAgg107
  z53 := Tryz.sizeOf107
  v53 := Tryz.zeroValue107
  t75 := Tryz.underlying43
  a75 := Tryz.isAgg43
  z75 := Tryz.sizeOf43
  v75 := Tryz.zeroValue43
  t76 := Tryz.underlying44
  a76 := Tryz.isAgg44
  z76 := Tryz.sizeOf44
  v76 := Tryz.zeroValue44
  t85 := Tryz.underlying92
  a85 := Tryz.isAgg92
  z85 := Tryz.sizeOf92
  v85 := Tryz.zeroValue92
  t127 := Tryz.underlying89
  a127 := Tryz.isAgg89
  z127 := Tryz.sizeOf89
  v127 := Tryz.zeroValue89
  t143 := Tryz.underlying158
  a143 := Tryz.isAgg158
  z143 := Tryz.sizeOf158
  v143 := Tryz.zeroValue158
  t145 := Tryz.underlying160
  a145 := Tryz.isAgg160
  z145 := Tryz.sizeOf160
  v145 := Tryz.zeroValue160
  t167 := Tryz.underlying91
  a167 := Tryz.isAgg91
  z167 := Tryz.sizeOf91
  v167 := Tryz.zeroValue91
  t168 := Tryz.underlying94
  a168 := Tryz.isAgg94
  z168 := Tryz.sizeOf94
  v168 := Tryz.zeroValue94
  t171 := Tryz.underlying151
  a171 := Tryz.isAgg151
  z171 := Tryz.sizeOf151
  v171 := Tryz.zeroValue151
  t173 := Tryz.underlying154
  a173 := Tryz.isAgg154
  z173 := Tryz.sizeOf154
  v173 := Tryz.zeroValue154
  t175 := Tryz.underlying127
  a175 := Tryz.isAgg127
  z175 := Tryz.sizeOf127
  v175 := Tryz.zeroValue127
  t210 := Tryz.underlying130
  a210 := Tryz.isAgg130
  z210 := Tryz.sizeOf130
  v210 := Tryz.zeroValue130
  t212 := Tryz.underlying169
  a212 := Tryz.isAgg169
  z212 := Tryz.sizeOf169
  v212 := Tryz.zeroValue169
  t213 := Tryz.underlying170
  a213 := Tryz.isAgg170
  z213 := Tryz.sizeOf170
  t232 := Tryz.underlying175
  a232 := Tryz.isAgg175
  z232 := Tryz.sizeOf175
  v232 := Tryz.zeroValue175
  t233 := Tryz.underlying176
  a233 := Tryz.isAgg176
  z233 := Tryz.sizeOf176
  v233 := Tryz.zeroValue176
  g15 := by kernel_rfl
  g16 := by kernel_rfl
  g17 := by kernel_rfl
  g18 := by kernel_rfl
  g19 := by kernel_rfl
  t80 := Tryz.underlying65
  a80 := Tryz.isAgg65
  z80 := Tryz.sizeOf65
  v80 := Tryz.zeroValue65
  i0 := by kernel_rfl
  i2 := by kernel_rfl
  i3 := by kernel_rfl
  i4 := by kernel_rfl
  i5 := by kernel_rfl
  i9 := by kernel_rfl
  i20 := by kernel_rfl
  i21 := by kernel_rfl
  i37 := by kernel_rfl
  i46 := by kernel_rfl
  i51 := by kernel_rfl
  i53 := by kernel_rfl
  i75 := by kernel_rfl
  i76 := by kernel_rfl
  i80 := by kernel_rfl
  i85 := by kernel_rfl
  i127 := by kernel_rfl
  i143 := by kernel_rfl
  i145 := by kernel_rfl
  i167 := by kernel_rfl
  i168 := by kernel_rfl
  i171 := by kernel_rfl
  i173 := by kernel_rfl
  i175 := by kernel_rfl
  i210 := by kernel_rfl
  i212 := by kernel_rfl
  i232 := by kernel_rfl
  i233 := by kernel_rfl
  m15 := by kernel_rfl
  m16 := by kernel_rfl
  m17 := by kernel_rfl
  m18 := by kernel_rfl
  m19 := by kernel_rfl
  c0 := by kernel_rfl
  c2 := by kernel_rfl
  c3 := by kernel_rfl
  c4 := by kernel_rfl
  c5 := by kernel_rfl
  c9 := by kernel_rfl
  c20 := by kernel_rfl
  c21 := by kernel_rfl
  c37 := by kernel_rfl
  c46 := by kernel_rfl
  c51 := by kernel_rfl
  c53 := by kernel_rfl
  c75 := by kernel_rfl
  c76 := by kernel_rfl
  c80 := by kernel_rfl
  c85 := by kernel_rfl
  c127 := by kernel_rfl
  c143 := by kernel_rfl
  c145 := by kernel_rfl
  c167 := by kernel_rfl
  c168 := by kernel_rfl
  c171 := by kernel_rfl
  c173 := by kernel_rfl
  c175 := by kernel_rfl
  c210 := by kernel_rfl
  c212 := by kernel_rfl
  c213 := by kernel_rfl
  c232 := by kernel_rfl
  c233 := by kernel_rfl }
open Go.RowKit in
theorem Tryz.strconv_Atoi_ok (s : ByteArray) (hmax : s.size ≤ 9223372036854775806) (v : Int) (h : Lib.atoiAll s.data.toList = .ok v) (w : World) :
    Calls Tryz.prog 13 #[.string s] w fun e w' => e = .returned (.tuple #[.int .i64 v, .nilIface]) ∧ (w' = w ∨ ∃ t, w' = Lib.bytesWorld w 5 t) := Any.strconv_Atoi_ok Tryz.laysC172 s hmax v h w
open Go.RowKit in
theorem Tryz.strconv_Atoi_syntax_var (s : ByteArray) (hlim : s.size ≤ 281474976710656) (h : Lib.atoiAll s.data.toList = Lib.atoiAll []) (tp : TypeId) (p : Value) (w : World) (hvar : w.var? Tryz.prog "strconv.ErrSyntax" = some #[.iface tp p]) :
    Calls Tryz.prog 13 #[.string s] w fun e w' => ∃ N, e = .returned (.tuple #[.int .i64 0, .iface 94 (.pointer (some ⟨N, 0, none⟩))]) ∧ w.heap.size ≤ N ∧ w'.heap[N]? = some (.cells #[.string ⟨#[65, 116, 111, 105]⟩, .string s, .iface tp p] 130 (0, 0)) ∧ Below w.heap.size w w' := Any.strconv_Atoi_syntax_var Tryz.laysC172 s hlim h tp p w hvar
open Go.RowKit in
theorem Tryz.strconv_Atoi_range_var (s : ByteArray) (hlim : s.size ≤ 281474976710656) (h : Lib.atoiAll s.data.toList = .range) (tp : TypeId) (p : Value) (w : World) (hvar : w.var? Tryz.prog "strconv.ErrRange" = some #[.iface tp p]) :
    Calls Tryz.prog 13 #[.string s] w fun e w' => ∃ N, e = .returned (.tuple #[.int .i64 (Lib.atoiSat s.data.toList), .iface 94 (.pointer (some ⟨N, 0, none⟩))]) ∧ w.heap.size ≤ N ∧ w'.heap[N]? = some (.cells #[.string ⟨#[65, 116, 111, 105]⟩, .string s, .iface tp p] 130 (0, 0)) ∧ Below w.heap.size w w' := Any.strconv_Atoi_range_var Tryz.laysC172 s hlim h tp p w hvar
end Go.Proofs

/- strconv.Atoi, whatever the text. -/
namespace Go.Proofs.YtlicdeppfhmfjabGreatDoor.rcg
open Go.Proofs.YtlicdeppfhmfjabGreatDoor.rcp (atoiV)
open Go.RowKit

theorem var_below {P : Program} {n : String} {cs : Array Value} {w w' : World} (h : w.var? P n = some cs) (hb : Below w.heap.size w w') : w'.var? P n = some cs := by
  unfold World.var? at h ⊢
  cases hg : P.globalNamed n with
  | none => simp [hg] at h
  | some g =>
    simp only [hg, Option.bind_some] at h ⊢
    have hlt : g < w.heap.size := by
      rcases Nat.lt_or_ge g w.heap.size with h' | h'
      · exact h'
      · simp [Array.getElem?_eq_none h'] at h
    rw [hb.block g hlt]
    exact h
/-- The library's two errors are there. -/
structure Errs (w : World) : Prop where
  s : ∃ tp p, w.var? Tryz.prog "strconv.ErrSyntax" = some #[.iface tp p]
  r : ∃ tp p, w.var? Tryz.prog "strconv.ErrRange" = some #[.iface tp p]
theorem Errs.below {w w' : World} (h : Errs w) (hb : Below w.heap.size w w') : Errs w' := by
  obtain ⟨⟨a, x, hx⟩, ⟨b, y, hy⟩⟩ := h
  exact ⟨⟨a, x, var_below hx hb⟩, ⟨b, y, var_below hy hb⟩⟩
theorem atoi_any (s : ByteArray) (w : World) (hs : s.size ≤ 1000) (he : Errs w) :
    Calls Tryz.prog 13 #[.string s] w fun e w' => ∃ x, e = .returned (.tuple #[.int .i64 (atoiV s.data.toList), x]) ∧ Below w.heap.size w w' := by
  unfold atoiV
  cases h : Lib.atoiAll s.data.toList with
  | ok v =>
    refine (Tryz.strconv_Atoi_ok s (by omega) v h w).mono ?_
    rintro e w' ⟨rfl, hw⟩
    refine ⟨_, rfl, ?_⟩
    rcases hw with rfl | ⟨t, rfl⟩
    · exact Below.refl _ _
    · exact Lib.bytesWorld_below _ _ _
  | range =>
    obtain ⟨tp, p, hv⟩ := he.r
    refine (Tryz.strconv_Atoi_range_var s (by omega) h tp p w hv).mono ?_
    rintro e w' ⟨N, rfl, _, _, hb⟩
    exact ⟨_, rfl, hb⟩
  | _ =>
    obtain ⟨tp, p, hv⟩ := he.s
    refine (Tryz.strconv_Atoi_syntax_var s (by omega) h tp p w hv).mono ?_
    rintro e w' ⟨N, rfl, _, _, hb⟩
    exact ⟨_, rfl, hb⟩

end Go.Proofs.YtlicdeppfhmfjabGreatDoor.rcg

/- The lines of a paper, told by their names: plain facts. -/
namespace Go.Proofs.YtlicdeppfhmfjabGreatDoor.rcp
open Go.Proofs.YtlicdeppfhmfjabGreatDoor.cents (showT readR read_shown)
open Go.Proofs.YtlicdeppfhmfjabGreatDoor.token (dv)
set_option linter.unusedVariables false
set_option linter.unusedSimpArgs false

/-- A byte is not there. -/
def Not (c : UInt8) (l : List UInt8) : Prop := ∀ x ∈ l, x ≠ c
theorem Not.of_all {c : UInt8} {l : List UInt8} (h : l.all (fun x => x != c) = true) : Not c l := fun x hx => by
  have := List.all_eq_true.1 h x hx
  simpa using this
theorem Not.app {c : UInt8} {l m : List UInt8} (h : Not c l) (h' : Not c m) : Not c (l ++ m) := fun x hx => (List.mem_append.1 hx).elim (h x) (h' x)
theorem idx_app (c : UInt8) (n t : List UInt8) (h : Not c n) : Lib.index (n ++ c :: t) [c] = (n.length : Int) := by
  induction n with
  | nil => show Lib.index (c :: t) [c] = 0; unfold Lib.index; simp
  | cons x n ih =>
    have hx : x ≠ c := h x (by simp)
    have hn := ih (fun y hy => h y (by simp [hy]))
    show Lib.index (x :: (n ++ c :: t)) [c] = _
    unfold Lib.index
    have hp : ([c] : List UInt8).isPrefixOf (x :: (n ++ c :: t)) = false := by simp [List.isPrefixOf]; intro e; exact absurd e.symm hx
    rw [hp, hn]
    simp
theorem idx_none (c : UInt8) (l : List UInt8) (h : Not c l) : Lib.index l [c] = -1 := by
  induction l with
  | nil => rfl
  | cons x l ih =>
    have hx : x ≠ c := h x (by simp)
    have hn := ih (fun y hy => h y (by simp [hy]))
    unfold Lib.index
    have hp : ([c] : List UInt8).isPrefixOf (x :: l) = false := by simp [List.isPrefixOf]; intro e; exact absurd e.symm hx
    rw [hp, hn]
    rfl
theorem split_line (c : UInt8) (k : Nat) (n t : List UInt8) (h : Not c n) : Lib.splitK [c] 0 (k + 1) (n ++ c :: t) = n :: Lib.splitK [c] 0 k t := by
  rw [Lib.splitK, idx_app c n t h]
  have e : ((n.length : Int) == -1) = false := by simp
  rw [e]
  simp
theorem cut_line (c : UInt8) (n t : List UInt8) (h : Not c n) : (Lib.cut (n ++ c :: t) [c]).1 = n ∧ (Lib.cut (n ++ c :: t) [c]).2.1 = t := by
  unfold Lib.cut
  rw [idx_app c n t h, if_pos (by omega)]
  simp
theorem rep_line (k : Nat) (n t : List UInt8) (h : Not 32 n) : Lib.replaceK [32] [] (k + 1) (n ++ 32 :: t) = n ++ Lib.replaceK [32] [] k t := by
  rw [Lib.replaceK_hit [32] [] k _ n.length (idx_app 32 n t h)]
  simp
/-- One line more: what stands behind its first blank, by what stands ahead of it. -/
def putL (F : List UInt8 → List UInt8) (l : List UInt8) : List UInt8 → List UInt8 := fun k => if k = (Lib.cut l [32]).1 then (Lib.cut l [32]).2.1 else F k
def foldL (ls : List (List UInt8)) : List UInt8 → List UInt8 := ls.foldl putL (fun _ => [])
theorem fold_snoc (ls : List (List UInt8)) (l : List UInt8) : foldL (ls ++ [l]) = putL (foldL ls) l := by unfold foldL; rw [List.foldl_append]; rfl
/-- The texts of a paper by their names. -/
def found (l : List UInt8) : List UInt8 → List UInt8 := foldL (Lib.splitK [10] 0 (Lib.count l [10]) l)
theorem cut_len (l : List UInt8) : (Lib.cut l [32]).2.1.length ≤ l.length := by
  unfold Lib.cut
  split
  · simp
  · simp
/-- The lines of a receipt, without their line feeds, and what is behind the last. -/
def nl (n v : List UInt8) : List UInt8 := n ++ 32 :: v
theorem line_nl (n v t : List UInt8) : line n v ++ t = nl n v ++ 10 :: t := by unfold line nl; simp
theorem not_nl {n v : List UInt8} (hn : n.all (fun c => c != 10) = true) (hv : v.all (fun c => c != 10) = true) : Not 10 (nl n v) := by
  refine (Not.of_all hn).app fun x hx => ?_
  rcases List.mem_cons.1 hx with rfl | hx
  · decide
  · exact Not.of_all hv x hx
theorem put_nl (F : List UInt8 → List UInt8) (n v : List UInt8) (h : Not 32 n) (k : List UInt8) : putL F (nl n v) k = if k = n then v else F k := by
  unfold putL nl
  obtain ⟨a, b⟩ := cut_line 32 n v h
  rw [a, b]
theorem count_line (n v t : List UInt8) (hn : n.all (fun c => c != 10) = true) (hv : v.all (fun c => c != 10) = true) : (line n v ++ t).count 10 = 1 + t.count 10 := by
  have z : ∀ l : List UInt8, l.all (fun c => c != 10) = true → l.count 10 = 0 := fun l hl => List.count_eq_zero.2 fun hm => Not.of_all hl 10 hm rfl
  unfold line
  rw [List.count_append, List.count_append, z n hn, List.count_cons, List.count_append, z v hv]
  simp
theorem lines9 {r : Rc} (h : Right r) : Lib.splitK [10] 0 (Lib.count (paper r) [10]) (paper r) = [nl nMETER (numL r.me.toNat), nl nNUMBER (Lib.decDigits r.id.toNat), nl nTENDER (showT r.te), nl nDEBT (showT r.de), nl nFEE (showT r.fe), nl nPRICE (showT r.pr), nl nCHANGE (showT r.ch), nl nUNITS (Lib.decDigits r.un.toNat), nl nTOKEN (four r.tk), []] := by
  obtain ⟨⟨m0, m1⟩, ⟨⟨⟨t0, _⟩, ⟨d0, _⟩, ⟨f0, _⟩, p0, _⟩, ⟨c0, _⟩, _⟩, _, hp, _⟩ := h
  have hn := (num_all r.me.toNat (by omega)).2.2.2.2
  have hk := four_no10 (parse_len hp).2
  have hcount : Lib.count (paper r) [10] = 9 := by
    rw [Lib.count_one]
    unfold paper
    rw [count_line _ _ _ (by decide) hn, count_line _ _ _ (by decide) (dec_no10 _), count_line _ _ _ (by decide) (show_no10 _ t0), count_line _ _ _ (by decide) (show_no10 _ d0), count_line _ _ _ (by decide) (show_no10 _ f0), count_line _ _ _ (by decide) (show_no10 _ p0), count_line _ _ _ (by decide) (show_no10 _ c0), count_line _ _ _ (by decide) (dec_no10 _)]
    have e := count_line nTOKEN (four r.tk) [] (by decide) hk
    rw [List.append_nil] at e
    rw [e]
    rfl
  rw [hcount]
  unfold paper
  rw [line_nl, split_line 10 8 _ _ (not_nl (by decide) hn), line_nl, split_line 10 7 _ _ (not_nl (by decide) (dec_no10 _)), line_nl, split_line 10 6 _ _ (not_nl (by decide) (show_no10 _ t0)), line_nl, split_line 10 5 _ _ (not_nl (by decide) (show_no10 _ d0)), line_nl, split_line 10 4 _ _ (not_nl (by decide) (show_no10 _ f0)), line_nl, split_line 10 3 _ _ (not_nl (by decide) (show_no10 _ p0)), line_nl, split_line 10 2 _ _ (not_nl (by decide) (show_no10 _ c0)), line_nl, split_line 10 1 _ _ (not_nl (by decide) (dec_no10 _))]
  have e := line_nl nTOKEN (four r.tk) []
  rw [List.append_nil] at e
  rw [e, split_line 10 0 _ _ (not_nl (by decide) hk)]
  rfl
theorem found_paper {r : Rc} (h : Right r) : found (paper r) nMETER = numL r.me.toNat ∧ found (paper r) nNUMBER = Lib.decDigits r.id.toNat ∧ found (paper r) nTENDER = showT r.te ∧ found (paper r) nDEBT = showT r.de ∧ found (paper r) nFEE = showT r.fe ∧ found (paper r) nPRICE = showT r.pr ∧ found (paper r) nCHANGE = showT r.ch ∧ found (paper r) nUNITS = Lib.decDigits r.un.toNat ∧ found (paper r) nTOKEN = four r.tk := by
  have q : ∀ n : List UInt8, n.all (fun x => x != 32) = true → Not 32 n := fun n hn => Not.of_all hn
  unfold found
  rw [lines9 h]
  unfold foldL
  simp only [List.foldl_cons, List.foldl_nil]
  have e0 : ∀ (F : List UInt8 → List UInt8) (k : List UInt8), k ≠ [] → putL F [] k = F k := fun F k hk => by
    unfold putL
    rw [if_neg (by simpa [Lib.cut, idx_none 32 [] (fun x hx => by simp at hx)] using hk)]
  refine ⟨?_, ?_, ?_, ?_, ?_, ?_, ?_, ?_, ?_⟩ <;> rw [e0 _ _ (by decide)] <;> simp only [put_nl _ nMETER _ (q _ (by decide)), put_nl _ nNUMBER _ (q _ (by decide)), put_nl _ nTENDER _ (q _ (by decide)), put_nl _ nDEBT _ (q _ (by decide)), put_nl _ nFEE _ (q _ (by decide)), put_nl _ nPRICE _ (q _ (by decide)), put_nl _ nCHANGE _ (q _ (by decide)), put_nl _ nUNITS _ (q _ (by decide)), put_nl _ nTOKEN _ (q _ (by decide))] <;> rfl
theorem dval_dv (l : List UInt8) (h : check.allD l = true) : cents.dval l = ((dv l : Nat) : Int) := by
  induction l using cents.snoc_ind with
  | h0 => rfl
  | h1 l c ih =>
    have h' : check.allD l = true ∧ check.isD c = true := by simpa [check.allD] using h
    have hc : 48 ≤ c.toNat := by have := h'.2; simp [check.isD] at this; exact this.1
    rw [cents.dval_snoc, token.dv_snoc, ih h'.1]
    omega
theorem atoi_dec {u : Nat} (h : u ≤ 2097151) : atoiV (Lib.decDigits u) = (u : Int) := by
  have h1 := dec_len7 u h
  have h2 := cents.dec_facts u u (Nat.le_refl _)
  have hd : check.allD (Lib.decDigits u) = true := h2.1
  have e := dval_dv _ hd
  rw [h2.2.1] at e
  unfold atoiV
  rw [atoi_digits hd h2.2.2.1 (by omega)]
  exact e.symm
theorem rep_four {k : List UInt8} (h : k.length = 20) (hd : check.allD k = true) : Lib.replaceAll (four k) [32] [] = k := by
  have hk : ∀ l : List UInt8, (∀ c ∈ l, c ∈ k) → Not 32 l := fun l hl c hc => by
    have := List.all_eq_true.1 hd c (hl c hc)
    simp [check.isD] at this
    rintro rfl
    exact absurd this.1 (by decide)
  have n1 := hk (k.take 4) (fun c hc => List.mem_of_mem_take hc)
  have n2 := hk ((k.drop 4).take 4) (fun c hc => List.mem_of_mem_drop (List.mem_of_mem_take hc))
  have n3 := hk ((k.drop 8).take 4) (fun c hc => List.mem_of_mem_drop (List.mem_of_mem_take hc))
  have n4 := hk ((k.drop 12).take 4) (fun c hc => List.mem_of_mem_drop (List.mem_of_mem_take hc))
  have n5 := hk ((k.drop 16).take 4) (fun c hc => List.mem_of_mem_drop (List.mem_of_mem_take hc))
  have z : ∀ l : List UInt8, Not 32 l → l.count 32 = 0 := fun l hl => List.count_eq_zero.2 fun hm => hl 32 hm rfl
  have hc : Lib.count (four k) [32] = 4 := by
    rw [Lib.count_one]
    unfold four
    simp only [List.count_append, List.count_cons, z _ n1, z _ n2, z _ n3, z _ n4, z _ n5]
    rfl
  unfold Lib.replaceAll Lib.replace Lib.replaceNum
  rw [if_neg (by decide), if_pos (Or.inl (by decide)), hc]
  unfold four
  rw [rep_line 3 _ _ n1, rep_line 2 _ _ n2, rep_line 1 _ _ n3, rep_line 0 _ _ n4]
  match k, h with
  | [a, b, c, d, e, f, g, i, j, l, m, n, o, p, q, r, s, t, u, v], _ => rfl
/-- The receipt that is guessed. -/
def gs (l : List UInt8) (me : Int) : Rc := ⟨me, atoiV (found l nNUMBER), (readR (found l nTENDER)).1, (readR (found l nDEBT)).1, (readR (found l nFEE)).1, (readR (found l nPRICE)).1, (readR (found l nCHANGE)).1, atoiV (found l nUNITS), Lib.replaceAll (found l nTOKEN) [32] []⟩
theorem gs_right {r : Rc} (h : Right r) {me e : Int} (hm : MeterIs (found (paper r) nMETER) me e) : gs (paper r) me = r := by
  obtain ⟨f0, f1, f2, f3, f4, f5, f6, f7, f8⟩ := found_paper h
  obtain ⟨⟨m0, m1⟩, ⟨⟨⟨t0, t1⟩, ⟨d0, d1⟩, ⟨g0, g1⟩, p0, p1⟩, ⟨c0, c1⟩, ⟨i0, i1⟩, u0, u1⟩, _, hp, _⟩ := h
  rw [f0] at hm
  have hme := (meter_back (by omega) hm).1
  unfold gs
  rw [f1, f2, f3, f4, f5, f6, f7, f8, atoi_dec (by omega), atoi_dec (by omega), read_shown _ (by omega) (by omega), read_shown _ (by omega) (by omega), read_shown _ (by omega) (by omega), read_shown _ (by omega) (by omega), read_shown _ (by omega) (by omega), rep_four (parse_len hp).1 (parse_len hp).2, hme]
  obtain ⟨me', id, te, de, fe, pr, ch, un, tk⟩ := r
  simp only at *
  rw [Int.toNat_of_nonneg (by omega), Int.toNat_of_nonneg (by omega), Int.toNat_of_nonneg (by omega)]
theorem whole_allD {l : List UInt8} (h : cents.whole l = true) : cents.allD l = true := by
  unfold cents.whole at h
  rw [Bool.or_eq_true] at h
  rcases h with h | h
  · rw [eq_of_beq h]; rfl
  · simp only [Bool.and_eq_true] at h
    exact h.2
theorem readR_bd (l : List UInt8) : -1000000000000 ≤ (readR l).1 ∧ (readR l).1 ≤ 1000000000000 := by
  unfold readR
  split
  · exact ⟨by decide, by decide⟩
  · split
    · exact ⟨by decide, by decide⟩
    · rename_i h2
      split
      · exact ⟨by decide, by decide⟩
      · have h0 : 0 ≤ cents.dval (cents.units (cents.body l) ++ cents.rests (cents.body l)) := by
          by_cases hd : cents.allD (cents.units (cents.body l) ++ cents.rests (cents.body l)) = true
          · exact (cents.cval_eq _ hd).1
          · exfalso
            apply hd
            have hf : cents.form (cents.body l) = true := by
              cases hx : cents.form (cents.body l) with
              | true => rfl
              | false => exact absurd (Or.inl hx) h2
            unfold cents.form at hf
            simp only [Bool.and_eq_true] at hf
            rw [cents.allD_append, hf.2.2.2, Bool.and_true]
            exact whole_allD hf.2.1
        dsimp only
        split <;> omega

end Go.Proofs.YtlicdeppfhmfjabGreatDoor.rcp

/- Contracts of the library, laid at this dump in plain words: strings_Cut, strings_Split, strings_ReplaceAll. -/
namespace Go.Proofs
open Go.Shelf
def Tryz.lays145_ren : Go.Shelf.Ren := ⟨fun | 145 => 28 | 220 => 51 | 219 => 78 | 217 => 106 | 225 => 107 | 224 => 108 | 267 => 109 | 266 => 120 | 314 => 121 | n => n, fun | 9 => 9 | 4 => 4 | 59 => 68 | 3 => 3 | 5 => 5 | 46 => 109 | 146 => 146 | 51 => 75 | n => n, fun | 1 => 4 | n => n⟩
theorem Tryz.lays145 : Go.Proofs.Lays.n145 Tryz.prog Tryz.lays145_ren := {
  mixed := by kernel_rfl
  f145 := Tryz.func28.trans (congrArg some (by kernel_rfl))
  f217 := Tryz.func106.trans (congrArg some (by kernel_rfl))
  f219 := Tryz.func78.trans (congrArg some (by kernel_rfl))
  f220 := Tryz.func51.trans (congrArg some (by kernel_rfl))
  f224 := Tryz.func108.trans (congrArg some (by kernel_rfl))
  f225 := Tryz.func107.trans (congrArg some (by kernel_rfl))
  f266 := Tryz.func120.trans (congrArg some (by kernel_rfl))
  f267 := Tryz.func109.trans (congrArg some (by kernel_rfl))
  f314 := Tryz.func121.trans (congrArg some (by kernel_rfl))
  t3 := Tryz.underlying3
  a3 := Tryz.isAgg3
  z3 := Tryz.sizeOf3
  v3 := Tryz.zeroValue3
  t4 := Tryz.underlying4
  a4 := Tryz.isAgg4
  z4 := Tryz.sizeOf4
  v4 := Tryz.zeroValue4
  t5 := Tryz.underlying5
  a5 := Tryz.isAgg5
  z5 := Tryz.sizeOf5
  v5 := Tryz.zeroValue5
  t9 := Tryz.underlying9
  a9 := Tryz.isAgg9
  z9 := Tryz.sizeOf9
  v9 := Tryz.zeroValue9
  t46 := Tryz.underlying109
  a46 := Tryz.isAgg109
  z46 := Tryz.sizeOf109
  v46 := Tryz.zeroValue109
  t51 := Tryz.underlying75
  a51 := Tryz.isAgg75
  z51 := Tryz.sizeOf75
  v51 := Tryz.zeroValue75
  t59 := Tryz.underlying68
  a59 := Tryz.isAgg68
  z59 := Tryz.sizeOf68
  v59 := Tryz.zeroValue68
  t146 := Tryz.underlying146
  a146 := Tryz.isAgg146
  z146 := Tryz.sizeOf146
  v146 := Tryz.zeroValue146
  g1 := by kernel_rfl }
open Go.RowKit Go.Lib in
theorem Tryz.strings_Cut (s sep : ByteArray) (m : Int) (w : World) (hs : s.size < 4294967281) (hm : w.cell? ⟨4, 0, none⟩ = some (.int .i64 m)) :
    Calls Tryz.prog 28 #[.string s, .string sep] w fun e w' => e = .returned (.tuple #[.string ⟨(Lib.cut s.data.toList sep.data.toList).1.toArray⟩, .string ⟨(Lib.cut s.data.toList sep.data.toList).2.1.toArray⟩, .bool (Lib.cut s.data.toList sep.data.toList).2.2]) ∧ ∃ n, w' = w.drewN n := Any.strings_Cut Tryz.lays145 s sep m w hs hm
def Tryz.lays146_ren : Go.Shelf.Ren := ⟨fun | 146 => 27 | 221 => 50 | 268 => 77 | 138 => 60 | 143 => 62 | 195 => 86 | 197 => 63 | 218 => 87 | 219 => 78 | 260 => 89 | 217 => 106 | 225 => 107 | 224 => 108 | 267 => 109 | 266 => 120 | 314 => 121 | n => n, fun | 9 => 9 | 31 => 66 | 3 => 3 | 4 => 4 | 0 => 0 | 105 => 102 | 21 => 21 | 5 => 5 | 46 => 109 | 119 => 164 | 139 => 167 | 138 => 166 | 146 => 146 | 51 => 75 | n => n, fun | 1 => 4 | 3 => 5 | 4 => 6 | n => n⟩
theorem Tryz.lays146 : Go.Proofs.Lays.n146 Tryz.prog Tryz.lays146_ren := {
  mixed := by kernel_rfl
  f138 := Tryz.func60.trans (congrArg some (by kernel_rfl))
  f143 := Tryz.func62.trans (congrArg some (by kernel_rfl))
  f146 := Tryz.func27.trans (congrArg some (by kernel_rfl))
  f195 := Tryz.func86.trans (congrArg some (by kernel_rfl))
  f197 := Tryz.func63.trans (congrArg some (by kernel_rfl))
  f217 := Tryz.func106.trans (congrArg some (by kernel_rfl))
  f218 := Tryz.func87.trans (congrArg some (by kernel_rfl))
  f219 := Tryz.func78.trans (congrArg some (by kernel_rfl))
  f221 := Tryz.func50.trans (congrArg some (by kernel_rfl))
  f224 := Tryz.func108.trans (congrArg some (by kernel_rfl))
  f225 := Tryz.func107.trans (congrArg some (by kernel_rfl))
  f260 := Tryz.func89.trans (congrArg some (by kernel_rfl))
  f266 := Tryz.func120.trans (congrArg some (by kernel_rfl))
  f267 := Tryz.func109.trans (congrArg some (by kernel_rfl))
  f268 := Tryz.func77.trans (congrArg some (by kernel_rfl))
  f314 := Tryz.func121.trans (congrArg some (by kernel_rfl))
  t0 := Tryz.underlying0
  a0 := Tryz.isAgg0
  z0 := Tryz.sizeOf0
  v0 := Tryz.zeroValue0
  t3 := Tryz.underlying3
  a3 := Tryz.isAgg3
  z3 := Tryz.sizeOf3
  v3 := Tryz.zeroValue3
  t4 := Tryz.underlying4
  a4 := Tryz.isAgg4
  z4 := Tryz.sizeOf4
  v4 := Tryz.zeroValue4
  t5 := Tryz.underlying5
  a5 := Tryz.isAgg5
  z5 := Tryz.sizeOf5
  v5 := Tryz.zeroValue5
  t9 := Tryz.underlying9
  a9 := Tryz.isAgg9
  z9 := Tryz.sizeOf9
  v9 := Tryz.zeroValue9
  t21 := Tryz.underlying21
  a21 := Tryz.isAgg21
  z21 := Tryz.sizeOf21
  v21 := Tryz.zeroValue21
  t31 := Tryz.underlying66
  a31 := Tryz.isAgg66
  z31 := Tryz.sizeOf66
  v31 := Tryz.zeroValue66
  t46 := Tryz.underlying109
  a46 := Tryz.isAgg109
  z46 := Tryz.sizeOf109
  v46 := Tryz.zeroValue109
  t51 := Tryz.underlying75
  a51 := Tryz.isAgg75
  z51 := Tryz.sizeOf75
  v51 := Tryz.zeroValue75
  t105 := Tryz.underlying102
  a105 := Tryz.isAgg102
  z105 := Tryz.sizeOf102
  v105 := Tryz.zeroValue102
  t119 := Tryz.underlying164
  a119 := Tryz.isAgg164
  z119 := Tryz.sizeOf164
  t138 := Tryz.underlying166
  a138 := Tryz.isAgg166
  z138 := Tryz.sizeOf166
  v138 := Tryz.zeroValue166
  t139 := Tryz.underlying167
  a139 := Tryz.isAgg167
  z139 := Tryz.sizeOf167
  v139 := Tryz.zeroValue167
  t146 := Tryz.underlying146
  a146 := Tryz.isAgg146
  z146 := Tryz.sizeOf146
  v146 := Tryz.zeroValue146
  g1 := by kernel_rfl
  g3 := by kernel_rfl
  g4 := by kernel_rfl }
open Go.RowKit Go.Lib in
theorem Tryz.strings_Split (s sep : ByteArray) (m : Int) (w : World) (hs : s.size < 4294967281) (hm : w.cell? ⟨4, 0, none⟩ = some (.int .i64 m)) (h1 : 1 ≤ sep.size) :
    Calls Tryz.prog 27 #[.string s, .string sep] w fun e w' =>
      e = .returned (.slice (some ⟨w.heap.size, 0, none⟩) (Lib.countB s sep + 1) (Lib.countB s sep + 1)) ∧ w' = w.alloc (.cells ((Lib.splitB sep 0 (Lib.countB s sep) s).map Value.string).toArray 9) := Any.strings_Split Tryz.lays146 (by kernel_rfl) s sep m w hs hm h1
def Tryz.lays155_ren : Go.Shelf.Ren := ⟨fun | 155 => 15 | 154 => 37 | 138 => 60 | 165 => 61 | 143 => 62 | 166 => 44 | 197 => 63 | 169 => 26 | 195 => 86 | 218 => 87 | 240 => 71 | 241 => 88 | 219 => 78 | 260 => 89 | 276 => 98 | 277 => 114 | 217 => 106 | 225 => 107 | 224 => 108 | 267 => 109 | 266 => 120 | 314 => 121 | n => n, fun | 9 => 9 | 3 => 3 | 4 => 4 | 72 => 57 | 0 => 0 | 76 => 44 | 105 => 102 | 21 => 21 | 5 => 5 | 70 => 54 | 20 => 20 | 37 => 55 | 75 => 43 | 127 => 89 | 164 => 144 | 46 => 109 | 119 => 164 | 139 => 167 | 138 => 166 | 146 => 146 | 51 => 75 | 80 => 65 | n => n, fun | 1 => 4 | 3 => 5 | 4 => 6 | n => n⟩
theorem Tryz.lays155 : Go.Proofs.Lays.n155 Tryz.prog Tryz.lays155_ren := {
  mixed := by kernel_rfl
  f138 := Tryz.func60.trans (congrArg some (by kernel_rfl))
  f143 := Tryz.func62.trans (congrArg some (by kernel_rfl))
  f154 := Tryz.func37.trans (congrArg some (by kernel_rfl))
  f155 := Tryz.func15.trans (congrArg some (by kernel_rfl))
  f165 := Tryz.func61.trans (congrArg some (by kernel_rfl))
  f166 := Tryz.func44.trans (congrArg some (by kernel_rfl))
  f169 := Tryz.func26.trans (congrArg some (by kernel_rfl))
  f195 := Tryz.func86.trans (congrArg some (by kernel_rfl))
  f197 := Tryz.func63.trans (congrArg some (by kernel_rfl))
  f217 := Tryz.func106.trans (congrArg some (by kernel_rfl))
  f218 := Tryz.func87.trans (congrArg some (by kernel_rfl))
  f219 := Tryz.func78.trans (congrArg some (by kernel_rfl))
  f224 := Tryz.func108.trans (congrArg some (by kernel_rfl))
  f225 := Tryz.func107.trans (congrArg some (by kernel_rfl))
  f240 := Tryz.func71.trans (congrArg some (by kernel_rfl))
  f241 := Tryz.func88.trans (congrArg some (by kernel_rfl))
  f260 := Tryz.func89.trans (congrArg some (by kernel_rfl))
  f266 := Tryz.func120.trans (congrArg some (by kernel_rfl))
  f267 := Tryz.func109.trans (congrArg some (by kernel_rfl))
  f276 := Tryz.func98.trans (congrArg some (by kernel_rfl))
  f277 := Tryz.func114.trans (congrArg some (by kernel_rfl))
  f314 := Tryz.func121.trans (congrArg some (by kernel_rfl))
  t0 := Tryz.underlying0
  a0 := Tryz.isAgg0
  z0 := Tryz.sizeOf0
  v0 := Tryz.zeroValue0
  t3 := Tryz.underlying3
  a3 := Tryz.isAgg3
  z3 := Tryz.sizeOf3
  v3 := Tryz.zeroValue3
  t4 := Tryz.underlying4
  a4 := Tryz.isAgg4
  z4 := Tryz.sizeOf4
  v4 := Tryz.zeroValue4
  t5 := Tryz.underlying5
  a5 := Tryz.isAgg5
  z5 := Tryz.sizeOf5
  v5 := Tryz.zeroValue5
  t9 := Tryz.underlying9
  a9 := Tryz.isAgg9
  z9 := Tryz.sizeOf9
  v9 := Tryz.zeroValue9
  t20 := Tryz.underlying20
  a20 := Tryz.isAgg20
  z20 := Tryz.sizeOf20
  v20 := Tryz.zeroValue20
  t21 := Tryz.underlying21
  a21 := Tryz.isAgg21
  z21 := Tryz.sizeOf21
  v21 := Tryz.zeroValue21
  t37 := Tryz.underlying55
  a37 := Tryz.isAgg55
  z37 := Tryz.sizeOf55
  v37 := Tryz.zeroValue55
  t46 := Tryz.underlying109
  a46 := Tryz.isAgg109
  z46 := Tryz.sizeOf109
  v46 := Tryz.zeroValue109
  t51 := Tryz.underlying75
  a51 := Tryz.isAgg75
  z51 := Tryz.sizeOf75
  v51 := Tryz.zeroValue75
  t70 := Tryz.underlying54
  a70 := Tryz.isAgg54
  z70 := Tryz.sizeOf54
  v70 := Tryz.zeroValue54
  t72 := Tryz.underlying57
  a72 := Tryz.isAgg57
  z72 := Tryz.sizeOf57
  v72 := Tryz.zeroValue57
  t75 := Tryz.underlying43
  a75 := Tryz.isAgg43
  z75 := Tryz.sizeOf43
  v75 := Tryz.zeroValue43
  t76 := Tryz.underlying44
  a76 := Tryz.isAgg44
  z76 := Tryz.sizeOf44
  v76 := Tryz.zeroValue44
  t105 := Tryz.underlying102
  a105 := Tryz.isAgg102
  z105 := Tryz.sizeOf102
  v105 := Tryz.zeroValue102
  t119 := Tryz.underlying164
  a119 := Tryz.isAgg164
  z119 := Tryz.sizeOf164
  t127 := Tryz.underlying89
  a127 := Tryz.isAgg89
  z127 := Tryz.sizeOf89
  v127 := Tryz.zeroValue89
  t138 := Tryz.underlying166
  a138 := Tryz.isAgg166
  z138 := Tryz.sizeOf166
  v138 := Tryz.zeroValue166
  t139 := Tryz.underlying167
  a139 := Tryz.isAgg167
  z139 := Tryz.sizeOf167
  v139 := Tryz.zeroValue167
  t146 := Tryz.underlying146
  a146 := Tryz.isAgg146
  z146 := Tryz.sizeOf146
  v146 := Tryz.zeroValue146
  t164 := Tryz.underlying144
  a164 := Tryz.isAgg144
  z164 := Tryz.sizeOf144
  v164 := Tryz.zeroValue144
  g1 := by kernel_rfl
  g3 := by kernel_rfl
  g4 := by kernel_rfl }
theorem Tryz.Builder_Extra_155 : Builder.Extra Tryz.prog Tryz.lays155_ren := {
  sizeBuilder := by kernel_rfl
  liesBuilder := by kernel_rfl
  t5 := Tryz.underlying5
  a5 := Tryz.isAgg5
  z5 := Tryz.sizeOf5
  v5 := Tryz.zeroValue5
  infoByte := by kernel_rfl
  cellsByte := by kernel_rfl
  sizeByte := by kernel_rfl
  neB5 := by decide }
open Go.RowKit Go.Lib in
theorem Tryz.strings_ReplaceAll (s old new : ByteArray) (m : Int) (w : World) (hs : s.size < 4294967281) (hm : w.cell? ⟨4, 0, none⟩ = some (.int .i64 m)) (h1 : 1 ≤ old.size) (hlen : s.size + Lib.countB s old * new.size ≤ 140737488355328) :
    Calls Tryz.prog 15 #[.string s, .string old, .string new] w fun e w' =>
      e = .returned (.string ⟨(Lib.replaceAll s.data.toList old.data.toList new.data.toList).toArray⟩) ∧ Below w.heap.size w w' := Any.strings_ReplaceAll Tryz.lays155 Tryz.Builder_Extra_155 s old new m w hs hm h1 hlen
end Go.Proofs

/- The lines of a text, told by their names, in the program. -/
namespace Go.Proofs.YtlicdeppfhmfjabGreatDoor.rcg
open Go.Proofs.YtlicdeppfhmfjabGreatDoor.rcp (putL foldL fold_snoc found cut_len)
open Go.RowKit
open Go.Maps (Keyed IsMap)
open Go.WideMaps (keyOf_string_mk)
set_option maxRecDepth 100000
set_option linter.unusedVariables false
set_option linter.unusedSimpArgs false

/-- How an element reads: a struct with one text. -/
def RE (v : Value) : Option (DataW Unit × List MemPlace) := match v with
  | .agg cs => match cs.toList with
    | [.string s] => some (.lit (.string s.data.toList), [])
    | _ => none
  | _ => none
theorem RE_mk (s : ByteArray) : RE (.agg #[.string s]) = some (.lit (.string s.data.toList), []) := rfl
theorem RE_inv {v : Value} {d : DataW Unit} {ps : List MemPlace} (h : RE v = some (d, ps)) : ∃ s : ByteArray, v = .agg #[.string s] ∧ d = .lit (.string s.data.toList) := by
  cases v with
  | agg cs =>
    cases cs with
    | mk l =>
      match l, h with
      | [.string s], h =>
        have h' : (DataW.lit (.string s.data.toList), ([] : List MemPlace)) = (d, ps) := Option.some.inj h
        injection h' with h1 h2
        exact ⟨s, rfl, h1.symm⟩
  | _ => cases h
/-- The map in block b: what it tells of each name. -/
def Fd (w : World) (b c : Nat) (F : List UInt8 → List UInt8) : Prop :=
  ∃ D, w.ownsMap Tryz.prog 9 RE b c D ∧ IsMap D ∧ (∀ k, D.atKey (.string k) (.lit (.string [])) = .lit (.string (F k)))
theorem keyS : Keyed Tryz.prog 9 := Maps.string_keyed Tryz.underlying9
theorem own_next {w w' : World} {b n : Nat} {D : DataW Unit} (h : w.ownsMap Tryz.prog 9 RE b n D) (hb : Below w.heap.size w w') : w'.ownsMap Tryz.prog 9 RE b n D := by
  have hl := h.lt
  obtain ⟨es, c, h1, h2, h3, h4⟩ := h
  exact ⟨es, c, by rw [hb.block b hl]; exact h1, h2, h3, h4⟩
theorem Fd.next {w w' : World} {b c : Nat} {F : List UInt8 → List UInt8} (h : Fd w b c F) (hb : Below w.heap.size w w') : Fd w' b c F := by
  obtain ⟨D, h2, h3, h4⟩ := h
  exact ⟨D, own_next h2 hb, h3, h4⟩
theorem Fd.lt {w : World} {b c : Nat} {F : List UInt8 → List UInt8} (h : Fd w b c F) : b < w.heap.size := by
  obtain ⟨D, h2, h3, h4⟩ := h
  exact h2.lt
theorem zeroB (w : World) : (zeroValue 40).run Tryz.prog w = .ok (.agg #[.string ByteArray.empty]) w := by kernel_rfl
/-- A name is looked up. -/
theorem Fd.look {w : World} {b c : Nat} {F : List UInt8 → List UInt8} (h : Fd w b c F) (k : ByteArray) (hk : k.size ≤ 1000) :
    (Instr.lookup 35 (.map (some b)) (.string k) false).run Tryz.prog w = .ok (.agg #[.string ⟨(F k.data.toList).toArray⟩]) w := by
  obtain ⟨D, h2, h3, h4⟩ := h
  obtain ⟨v, ps, hrun, hv⟩ := h2.lookup keyS Tryz.underlying35 (zeroB w) (RE_mk _) (keyOf_string_mk Tryz.underlying9 (s := k) (by unfold maxLen; omega))
  have e : D.atKey (.string k.data.toList) (.lit (.string ByteArray.empty.data.toList)) = .lit (.string (F k.data.toList)) := h4 _
  rw [e] at hv
  obtain ⟨s, rfl, hs⟩ := RE_inv hv
  injection hs with hs
  injection hs with hs
  rw [hrun, hs]
/-- The length of the library's greatest text for a quick look: whatever it is. -/
def XL (w : World) : Prop := ∃ m, w.cell? ⟨4, 0, none⟩ = some (.int .i64 m)
theorem XL.below {w w' : World} (h : XL w) (hb : Below w.heap.size w w') : XL w' := by
  obtain ⟨m, hm⟩ := h
  exact ⟨m, by rw [hb.cell (World.block_lt_of_cell? w _ hm)]; exact hm⟩
theorem Fd.new (w : World) : Fd (w.alloc (.map #[] 0)) w.heap.size 0 (fun _ => []) :=
  ⟨.map [], World.ownsMap_made w _ _ _, Maps.isMap_empty, fun k => rfl⟩
theorem Fd.put {w' : World} {b c : Nat} {F : List UInt8 → List UInt8} {D : DataW Unit} {K T : List UInt8} (hD : IsMap D) (hF : ∀ k, D.atKey (.string k) (.lit (.string [])) = .lit (.string (F k)))
    (h : w'.ownsMap Tryz.prog 9 RE b c (D.put (.string K) (.lit (.string T)))) : Fd w' b c (fun k => if k = K then T else F k) := by
  refine ⟨_, h, hD.put _ _, fun k => ?_⟩
  by_cases hk : k = K
  · subst hk
    rw [Maps.atKey_put_same hD (by first | trivial | simp [WideAt.IsKeyLit] | exact ⟨_, rfl⟩)]; dsimp only; rw [if_pos rfl]
  · rw [Maps.atKey_put_other (fun e => hk (by injection e)), hF]; dsimp only; rw [if_neg hk]
theorem run_mk (w : World) : (Instr.makeMap 35 none).run Tryz.prog w = .ok (.map (some w.heap.size)) (w.alloc (.map #[] 0)) := by kernel_rfl
/-- The lines of a text. -/
def pcs (s : ByteArray) : List ByteArray := Lib.splitB ⟨#[10]⟩ 0 (Lib.countB s ⟨#[10]⟩) s
theorem pcs_list (s : ByteArray) : (pcs s).map (·.data.toList) = Lib.splitK [10] 0 (Lib.count s.data.toList [10]) s.data.toList := Lib.splitB_data _ _ _ _
theorem pcs_len (s : ByteArray) : (pcs s).length = Lib.countB s ⟨#[10]⟩ + 1 := Lib.splitB_all _ (by decide) 0 _ s rfl
theorem splitB_small (sep : ByteArray) : ∀ (k : Nat) (s x : ByteArray), x ∈ Lib.splitB sep 0 k s → x.size ≤ s.size
  | 0, s, x, h => by
    have : x = s := by simpa [Lib.splitB] using h
    rw [this]; exact Nat.le_refl _
  | k + 1, s, x, h => by
    unfold Lib.splitB at h
    split at h
    · have : x = s := by simpa using h
      rw [this]; exact Nat.le_refl _
    · rcases List.mem_cons.1 h with rfl | h
      · rw [ByteArray.size_extract]; omega
      · have := splitB_small sep k _ x h
        rw [ByteArray.size_extract] at this
        omega
theorem pcs_small (s x : ByteArray) (h : x ∈ pcs s) : x.size ≤ s.size := splitB_small _ _ s x h
def pfx (s : ByteArray) (i : Nat) : List UInt8 → List UInt8 := foldL (((pcs s).take i).map (·.data.toList))
theorem pfx_next (s : ByteArray) (i : Nat) (h : i < (pcs s).length) : pfx s (i + 1) = putL (pfx s i) ((pcs s).getD i ByteArray.empty).data.toList := by
  unfold pfx
  rw [List.take_succ_eq_append_getElem h, List.map_append, List.map_singleton, fold_snoc]
  simp [List.getD, h]
theorem pfx_all (s : ByteArray) : pfx s (pcs s).length = found s.data.toList := by
  unfold pfx found
  rw [List.take_of_length_le (Nat.le_refl _), pcs_list]

theorem fold_small (M : Nat) : ∀ (ls : List (List UInt8)), (∀ l ∈ ls, l.length ≤ M) → ∀ (F : List UInt8 → List UInt8), (∀ k, (F k).length ≤ M) → ∀ k, (ls.foldl putL F k).length ≤ M
  | [], _, F, hF, k => hF k
  | l :: ls, hl, F, hF, k => by
    rw [List.foldl_cons]
    refine fold_small M ls (fun x hx => hl x (List.mem_cons_of_mem _ hx)) _ (fun k => ?_) k
    unfold putL
    split
    · exact Nat.le_trans (cut_len l) (hl l (by simp))
    · exact hF k
theorem found_small (s : ByteArray) (k : List UInt8) : (found s.data.toList k).length ≤ s.size := by
  rw [← pfx_all]
  unfold pfx foldL
  refine fold_small s.size _ (fun l hl => ?_) _ (fun _ => Nat.zero_le _) k
  obtain ⟨x, hx, rfl⟩ := List.mem_map.1 hl
  have := pcs_small s x (List.mem_of_mem_take hx)
  rw [Array.length_toList]
  exact this

set_option maxHeartbeats 2000000 in
theorem named_any (s : ByteArray) (w : World) (hs : s.size ≤ 400) (hx : XL w) :
    Calls Tryz.prog 9 #[.string s] w fun e w' => ∃ b c, e = .returned (.map (some b)) ∧ Fd w' b c (found s.data.toList) ∧ w.heap.size ≤ b ∧ Below w.heap.size w w' := by
  have hcb := Lib.countB_le ⟨#[10]⟩ (by decide) s.size s (Nat.le_refl _)
  have hpl := pcs_len s
  have hn400 : (pcs s).length ≤ 401 := by omega
  have HXL : Hid (∀ w', Below w.heap.size w w' → XL w') := fun w' hb => hx.below hb
  have HW1 : Hid (Below w.heap.size w (w.alloc (.map #[] 0))) := (Below.refl _ _).alloc (Nat.le_refl _) _
  obtain ⟨m1, hm1⟩ := HXL.out _ HW1.out
  have HSP := Tryz.strings_Split s ⟨#[10]⟩ m1 (w.alloc (.map #[] 0)) (by omega) hm1 (by decide)
  rw [show Lib.splitB ⟨#[10]⟩ 0 (Lib.countB s ⟨#[10]⟩) s = pcs s from rfl, ← hpl] at HSP
  have hmk := run_mk
  have HF1 : Hid (Fd (w.alloc (.map #[] 0)) w.heap.size 0 (fun _ => [])) := Fd.new w
  clear hx hm1 hcb
  go_enter Tryz.func9, Tryz.ntmps9
  go_upto_region 2 with fail
  clear hmk
  have hgs : (w.alloc (.map #[] 0)).heap.size = w.heap.size + 1 := by simp
  generalize w.alloc (.map #[] 0) = W1 at *
  go_wp2_with fail
  refine HSP.mono ?_
  rintro e W2 ⟨rfl, rfl⟩
  have HBC : Hid (Blk (W1.alloc (.cells ((pcs s).map Value.string).toArray 9)) W1.heap.size ((pcs s).map Value.string).toArray 9) := Blk.new _ _ _
  have HF2 : Hid (Fd (W1.alloc (.cells ((pcs s).map Value.string).toArray 9)) w.heap.size 0 (pfx s 0)) := HF1.out.next ((Below.refl _ _).alloc (Nat.le_refl _) _)
  have HB2 : Hid (Below w.heap.size w (W1.alloc (.cells ((pcs s).map Value.string).toArray 9))) := HW1.out.alloc HW1.out.size _
  have HNE : Hid (W1.heap.size ≠ w.heap.size) := by show _ ≠ _; omega
  clear HSP HF1 HW1 hpl hgs
  generalize hW2 : W1.alloc (.cells ((pcs s).map Value.string).toArray 9) = W2 at *
  clear hW2
  generalize W1.heap.size = gs at *
  have HPS : Hid (∀ i, i < (pcs s).length → ((pcs s).getD i ByteArray.empty).size ≤ 400) := fun i hi => by
    have e : (pcs s).getD i ByteArray.empty = (pcs s)[i] := by simp [List.getD, hi]
    rw [e]
    exact Nat.le_trans (pcs_small s _ (List.getElem_mem hi)) hs
  generalize hN : (pcs s).length = N at *
  have HN : Hid ((pcs s).length = N) := hN
  clear hN hs
  go_wp2_with fail
  go_loopw [13] (fun v13 wr => ∃ i : Nat, i ≤ N ∧ v13 = .int .i64 (i : Int) ∧ Fd wr w.heap.size i (pfx s i) ∧ Blk wr gs ((pcs s).map Value.string).toArray 9 ∧ Below w.heap.size w wr) (fun z _ => N - (intOf z).toNat)
  case atStart => exact ⟨0, Nat.zero_le _, rfl, HF2.out, HBC.out, HB2.out⟩
  case round =>
    obtain ⟨i, hi, rfl, hf, hbc, hbl⟩ := hrel
    have HF : Hid (Fd wr w.heap.size i (pfx s i)) := hf
    have HC : Hid (Blk wr gs ((pcs s).map Value.string).toArray 9) := hbc
    have HB : Hid (Below w.heap.size w wr) := hbl
    clear hf hbc hbl HF2 HBC HB2
    by_cases hlt : i < N
    · have hcell : wr.cell? ⟨gs, i, none⟩ = some (.string ((pcs s).getD i ByteArray.empty)) := by
        rw [HC.out.cell i]
        have hi' : i < (pcs s).length := by have := HN.out; omega
        simp [List.getD, hi']
      have HNX : Hid (pfx s (i + 1) = putL (pfx s i) ((pcs s).getD i ByteArray.empty).data.toList) := pfx_next s i (by have := HN.out; omega)
      have hL4 := HPS.out i (by have := HN.out; omega)
      generalize (pcs s).getD i ByteArray.empty = L at *
      obtain ⟨m, hm⟩ := HXL.out wr HB.out
      have HCU := Tryz.strings_Cut L ⟨#[32]⟩ m wr (by omega) hm
      have hb1 : ((⟨(Lib.cut L.data.toList [32]).1.toArray⟩ : ByteArray)).size ≤ 1000 := by
        show (Lib.cut L.data.toList [32]).1.length ≤ 1000
        have hl : L.data.toList.length = L.size := Array.length_toList
        unfold Lib.cut
        split
        · simp; omega
        · simp; omega
      clear hm
      have HP : Hid (pfx s (i + 1) = fun k => if k = (⟨(Lib.cut L.data.toList [32]).1.toArray⟩ : ByteArray).data.toList then (⟨(Lib.cut L.data.toList [32]).2.1.toArray⟩ : ByteArray).data.toList else pfx s i k) := HNX.out
      have e32 : (⟨#[32]⟩ : ByteArray).data.toList = [32] := rfl
      rw [e32] at HCU
      generalize (⟨(Lib.cut L.data.toList [32]).1.toArray⟩ : ByteArray) = K at *
      generalize (⟨(Lib.cut L.data.toList [32]).2.1.toArray⟩ : ByteArray) = T at *
      generalize (Lib.cut L.data.toList [32]).2.2 = fnd at *
      clear HNX e32 hL4
      have hkey : keyOf Tryz.prog 9 (.string K) = some (.string K.data.toList) := keyOf_string_mk Tryz.underlying9 (s := K) (by unfold maxLen; omega)
      go_wp2_with fail
      refine HCU.mono ?_
      rintro e w1 ⟨rfl, q, rfl⟩
      clear HCU
      obtain ⟨D, hown, hD, hF⟩ := HF.out
      have HD : Hid (IsMap D) := hD
      have HFK : Hid (∀ k, D.atKey (.string k) (.lit (.string [])) = .lit (.string (pfx s i k))) := hF
      have hown1 : (wr.drewN q).ownsMap Tryz.prog 9 RE w.heap.size i D := hown
      have HC1 : Hid (Blk (wr.drewN q) gs ((pcs s).map Value.string).toArray 9) := HC.out
      have HB1 : Hid (Below w.heap.size w (wr.drewN q)) := bel_drew HB.out q
      clear hD hF hown HF HC HB hcell
      generalize wr.drewN q = wq at *
      go_wp2_with (first | (at_mapUpdate; refine wpList_mapUpdate_own _ rfl _ _ _ 35 rfl 9 40 keyS Tryz.underlying35 RE w.heap.size i D rfl hown1 (by unfold maxLen; omega) _ _ (.string K.data.toList) rfl rfl hkey (.lit (.string T.data.toList)) [] (RE_mk T) ?_; intro w2 hown2 hg2; have HF2 : Hid (Fd w2 w.heap.size (i + 1) (pfx s (i + 1))) := (by show Fd _ _ _ _; rw [HP.out]; exact Fd.put HD.out HFK.out hown2); have HC2 : Hid (Blk w2 gs ((pcs s).map Value.string).toArray 9) := ((hg2.block gs HC1.out.lt (fun e => HNE.out (by injection e))).trans HC1.out); have HB2 : Hid (Below w.heap.size w w2) := HB1.out.grown hg2 HB1.out.size (fun k hk => by injection hk with hk; omega); clear hown1 hown2 hg2 HP HC1 HB1) | fail)
      go_roundw
      case rel => exact ⟨i + 1, by omega, by go_num, HF2.out, HC2.out, HB2.out⟩
      case measure => simp [intOf]; omega
    · have HFF : Hid (Fd wr w.heap.size i (found s.data.toList)) := by
        have e : i = (pcs s).length := by have := HN.out; omega
        show Fd _ _ _ _
        rw [← pfx_all, ← e]
        exact HF.out
      clear HF
      go_wp2_with fail
      go_ret
      exact ⟨_, _, rfl, HFF.out, Nat.le_refl _, HB.out⟩

end Go.Proofs.YtlicdeppfhmfjabGreatDoor.rcg

/- Texts of digits: what flaw gives back. -/
namespace Go.Proofs.YtlicdeppfhmfjabGreatDoor.check
open Go.RowKit

set_option maxHeartbeats 400000 in
theorem flaw_any (s : ByteArray) (w : World) :
    Calls Tryz.prog 58 #[.string s] w fun e w' => e = .returned (.int .i64 (flawR s.data.toList)) ∧ Below w.heap.size w w' := by
  have el := ByteArray.toList_eq s
  have ln := len_eq s
  by_cases h0 : s.size = 0
  · rw [flawR_size (.inl (by omega))]
    have e : (s.toList == []) = true := by rw [el, List.eq_nil_of_length_eq_zero (by omega : s.data.toList.length = 0)]; rfl
    clear el ln
    go_enter Tryz.func58, Tryz.ntmps58
    go_wp2
    go_ret
    exact ⟨rfl, Below.refl _ _⟩
  · have e : (s.toList == []) = false := by
      rw [el]; cases hl : s.data.toList with
      | nil => rw [hl] at ln; simp at ln; omega
      | cons a r => rfl
    by_cases h2 : 200 < s.size
    · rw [flawR_size (.inr (by omega))]
      have h3 : (200 : Int) < (s.size : Int) := by omega
      clear el ln
      go_enter Tryz.func58, Tryz.ntmps58
      go_wp2
      go_ret
      exact ⟨rfl, Below.refl _ _⟩
    · have h3 : ¬ (200 : Int) < (s.size : Int) := by omega
      have HS : Hid (¬ (s.data.toList.length = 0 ∨ 200 < s.data.toList.length)) := by intro h; omega
      clear el ln
      go_enter Tryz.func58, Tryz.ntmps58
      go_wp2
      go_loopw [] (fun wr => ∃ k : Nat, k ≤ s.size ∧ wr = w.iter s k ∧ allD (s.data.toList.take k) = true) (fun wr => s.size - wr.iterPos w.heap.size)
      case atStart => exact ⟨0, Nat.zero_le _, rfl, rfl⟩
      case round =>
        obtain ⟨k, hk, rfl, hok⟩ := hrel
        have HK : Hid (allD (s.data.toList.take k) = true) := hok
        clear hok
        by_cases hp : k < s.size
        · by_cases ha : (s[k]'hp).toNat < 128
          · have hnx : ∀ ty, (Instr.next (.pointer (some ⟨w.heap.size, 0, none⟩)) true ty).run Tryz.prog (w.iter s k) = _ := fun ty => run_next_ascii w s k ty hp ha
            have HT : Hid (s.data.toList.take (k + 1) = s.data.toList.take k ++ [s[k]]) := take_snoc s k hp
            have HN : Hid (isD s[k] = false → allD s.data.toList = false) := allD_take_no s k hp
            have HY : Hid (48 ≤ ((s[k].toNat : Nat) : Int) → ((s[k].toNat : Nat) : Int) ≤ 57 → isD s[k] = true) := fun a b => isD_yes a b
            have HL : Hid (((s[k].toNat : Nat) : Int) < 48 → isD s[k] = false) := fun a => isD_lo a
            have HH : Hid (57 < ((s[k].toNat : Nat) : Int) → isD s[k] = false) := fun a => isD_hi a
            clear ha
            generalize s[k] = c at *
            generalize hcc : ((c.toNat : Nat) : Int) = z at *
            clear hcc
            by_cases h1 : z < 48
            · go_wp2
              go_ret
              exact ⟨ret_int (flawR_no HS.out (HN.out (HL.out h1))).symm, iter_below _ _ _⟩
            · by_cases h2 : 57 < z
              · go_wp2
                go_ret
                exact ⟨ret_int (flawR_no HS.out (HN.out (HH.out h2))).symm, iter_below _ _ _⟩
              · go_wp2
                go_roundw
                case rel => exact ⟨k + 1, by omega, rfl, by rw [HT.out, allD_append, HK.out]; simp [allD, HY.out (by omega) (by omega)]⟩
                case measure => simp; omega
          · have hd := (decode_high s k hp (by omega)).1
            have hnx : ∀ ty, (Instr.next (.pointer (some ⟨w.heap.size, 0, none⟩)) true ty).run Tryz.prog (w.iter s k) = _ := fun ty => run_next_any w s k ty hp
            have HN : Hid (allD s.data.toList = false) := allD_take_no s k hp (isD_hi (by omega))
            clear ha
            have hd2 := decode_le s k
            generalize (Utf8.decode s k).1 = r at *
            generalize (Utf8.decode s k).2 = n at *
            go_wp2
            go_ret
            exact ⟨ret_int (flawR_no HS.out HN.out).symm, iter_below _ _ _⟩
        · have hnx : ∀ ty, (Instr.next (.pointer (some ⟨w.heap.size, 0, none⟩)) true ty).run Tryz.prog (w.iter s k) = _ := fun ty => run_next_end w s k ty hp
          go_wp2
          go_ret
          refine ⟨ret_int ?_, iter_below _ _ _⟩
          have := HK.out
          rw [List.take_of_length_le (by simp; omega)] at this
          exact (flawR_ok HS.out this).symm

theorem value_any (z : Int) (w : World) (h1 : 48 ≤ z) (h2 : z ≤ 57) :
    Calls Tryz.prog 113 #[.int .i32 z] w fun e w' => e = .returned (.int .i64 (z - 48)) ∧ w' = w := by
  go_enter Tryz.func113, Tryz.ntmps113
  go_wp2
  go_ret
  exact ⟨rfl, rfl⟩

end Go.Proofs.YtlicdeppfhmfjabGreatDoor.check

/- The motions of a pentagon: what Mul and Inv give back. -/
namespace Go.Proofs.YtlicdeppfhmfjabGreatDoor.check
open Go.RowKit

theorem flips_yes (n : Int) (w : World) (h : 5 ≤ n) :
    Calls Tryz.prog 101 #[.int .i64 n] w fun e w' => e = .returned (.bool true) ∧ w' = w := by
  go_enter Tryz.func101, Tryz.ntmps101
  go_wp2
  go_ret
  exact ⟨rfl, rfl⟩
theorem flips_no (n : Int) (w : World) (h : n < 5) :
    Calls Tryz.prog 101 #[.int .i64 n] w fun e w' => e = .returned (.bool false) ∧ w' = w := by
  have h1 : decide (5 ≤ n) = false := by simp; omega
  go_enter Tryz.func101, Tryz.ntmps101
  go_wp2
  go_ret
  exact ⟨rfl, rfl⟩

theorem mul_form (a b : Nat) (ha : a < 10) (hb : b < 10) : ((mulN a b : Nat) : Int) =
    if (a : Int) < 5 then (if (b : Int) < 5 then ((a : Int) + b) % 5 else 5 + ((a : Int) + b) % 5)
    else (if (b : Int) < 5 then 5 + ((a : Int) - (b : Int)) % 5 else ((a : Int) % 5 - (b : Int) % 5 + 5) % 5) := by
  unfold mulN
  split <;> split <;> (first | omega | (rw [if_pos (by omega), if_pos (by omega)]; omega) | (rw [if_pos (by omega), if_neg (by omega)]; omega) | (rw [if_neg (by omega), if_pos (by omega)]; omega) | (rw [if_neg (by omega), if_neg (by omega)]; omega))

set_option maxHeartbeats 400000 in
theorem then_ll (x y : Int) (w : World) (x0 : 0 ≤ x) (x1 : x < 5) (y0 : 0 ≤ y) (y1 : y < 5) :
    Calls Tryz.prog 85 #[.int .i64 x, .int .i64 y] w fun e w' => e = .returned (.int .i64 ((x + y) % 5)) ∧ w' = w := by
  go_enter Tryz.func85, Tryz.ntmps85
  go_wp2
  go_ret
  exact ⟨rfl, rfl⟩
set_option maxHeartbeats 400000 in
theorem then_lh (x y : Int) (w : World) (x0 : 0 ≤ x) (x1 : x < 5) (y0 : 5 ≤ y) (y1 : y < 10) :
    Calls Tryz.prog 85 #[.int .i64 x, .int .i64 y] w fun e w' => e = .returned (.int .i64 (5 + (x + y) % 5)) ∧ w' = w := by
  go_enter Tryz.func85, Tryz.ntmps85
  go_wp2
  go_ret
  exact ⟨rfl, rfl⟩
set_option maxHeartbeats 400000 in
theorem then_hl (x y : Int) (w : World) (x0 : 5 ≤ x) (x1 : x < 10) (y0 : 0 ≤ y) (y1 : y < 5) :
    Calls Tryz.prog 85 #[.int .i64 x, .int .i64 y] w fun e w' => e = .returned (.int .i64 (5 + (x - y) % 5)) ∧ w' = w := by
  have hd : decide (5 ≤ y) = false := by simp; omega
  go_enter Tryz.func85, Tryz.ntmps85
  go_wp2
  go_ret
  exact ⟨rfl, rfl⟩
set_option maxHeartbeats 400000 in
theorem then_hh (x y : Int) (w : World) (x0 : 5 ≤ x) (x1 : x < 10) (y0 : 5 ≤ y) (y1 : y < 10) :
    Calls Tryz.prog 85 #[.int .i64 x, .int .i64 y] w fun e w' => e = .returned (.int .i64 ((x % 5 - y % 5 + 5) % 5)) ∧ w' = w := by
  go_enter Tryz.func85, Tryz.ntmps85
  go_wp2
  go_ret
  exact ⟨rfl, rfl⟩

theorem then_any (a b : Nat) (w : World) (ha : a < 10) (hb : b < 10) :
    Calls Tryz.prog 85 #[.int .i64 (a : Int), .int .i64 (b : Int)] w fun e w' => e = .returned (.int .i64 ((mulN a b : Nat) : Int)) ∧ w' = w := by
  rw [mul_form a b ha hb]
  by_cases h1 : (a : Int) < 5
  · by_cases h2 : (b : Int) < 5
    · rw [if_pos h1, if_pos h2]; exact then_ll _ _ w (by omega) h1 (by omega) h2
    · rw [if_pos h1, if_neg h2]; exact then_lh _ _ w (by omega) h1 (by omega) (by omega)
  · by_cases h2 : (b : Int) < 5
    · rw [if_neg h1, if_pos h2]; exact then_hl _ _ w (by omega) (by omega) (by omega) h2
    · rw [if_neg h1, if_neg h2]; exact then_hh _ _ w (by omega) (by omega) (by omega) (by omega)

theorem undo_any (a : Nat) (w : World) (ha : a < 10) :
    Calls Tryz.prog 75 #[.int .i64 (a : Int)] w fun e w' => e = .returned (.int .i64 ((invN a : Nat) : Int)) ∧ w' = w := by
  by_cases h : a < 5
  · have e : ((invN a : Nat) : Int) = (5 - (a : Int)) % 5 := by unfold invN; rw [if_pos h]; omega
    rw [e]
    have x0 : (0 : Int) ≤ a := by omega
    have x1 : (a : Int) < 5 := by omega
    clear e h ha
    generalize (a : Int) = x at *
    go_enter Tryz.func75, Tryz.ntmps75
    go_wp2
    go_ret
    exact ⟨rfl, rfl⟩
  · have e : ((invN a : Nat) : Int) = (a : Int) := by unfold invN; rw [if_neg h]
    rw [e]
    have x1 : 5 ≤ (a : Int) := by omega
    clear e h ha
    generalize (a : Int) = x at *
    go_enter Tryz.func75, Tryz.ntmps75
    go_wp2
    go_ret
    exact ⟨rfl, rfl⟩

end Go.Proofs.YtlicdeppfhmfjabGreatDoor.check

/- Where a digit comes to, and the motions of a text. -/
namespace Go.Proofs.YtlicdeppfhmfjabGreatDoor.check
open Go.RowKit

/-- The table of the moves, in memory. -/
def MTab (w : World) : Prop := ∀ d, d < 10 → w.cell? ⟨8, d, none⟩ = some (.int .i64 ((mv1 d : Nat) : Int))
theorem MTab.below {w w' : World} (h : MTab w) (hb : Below w.heap.size w w') : MTab w' := fun d hd => by
  have h1 := h d hd
  rw [hb.cell (World.block_lt_of_cell? w _ h1)]; exact h1
theorem mtab_of {w : World} {name : String} (hg : Tryz.prog.globalNamed name = some 8) (h : Lib.TabIs Tryz.prog w name .i64 [1, 5, 7, 6, 2, 8, 3, 0, 9, 4]) : MTab w := by
  unfold Lib.TabIs World.var? at h
  rw [hg] at h
  simp only [Option.bind_some] at h
  intro d hd
  split at h
  · rename_i cs t fr hc
    have hcs := Option.some.inj h
    simp only [World.cell?, hc]
    rw [hcs]
    have : ∀ d, d < 10 → (List.map (fun z => Value.int .i64 z) [1, 5, 7, 6, 2, 8, 3, 0, 9, 4]).toArray[d]? = some (Value.int .i64 ((mv1 d : Nat) : Int)) := by
      intro d hd
      match d, hd with
      | 0, _ | 1, _ | 2, _ | 3, _ | 4, _ | 5, _ | 6, _ | 7, _ | 8, _ | 9, _ => rfl
    simpa using this d hd
  · cases h

set_option maxHeartbeats 400000 in
theorem moved_any (d place : Nat) (w : World) (hd : d < 10) (hp : place ≤ 1000) (ht : MTab w) :
    Calls Tryz.prog 112 #[.int .i64 (d : Int), .int .i64 (place : Int)] w fun e w' => e = .returned (.int .i64 ((mvN (place % 8) d : Nat) : Int)) ∧ w' = w := by
  have e8 : ((place : Nat) : Int) % 8 = ((place % 8 : Nat) : Int) := by omega
  have hm : place % 8 < 8 := Nat.mod_lt _ (by decide)
  have HT : Hid (MTab w) := ht
  clear ht
  generalize hq : place % 8 = q at *
  clear hq
  go_enter Tryz.func112, Tryz.ntmps112
  go_wp2_with fail
  go_loop [0, 7] (fun v i => ∃ k : Nat, k ≤ q ∧ i = .int .i64 (k : Int) ∧ v = .int .i64 ((mvN k d : Nat) : Int)) (fun _ i => q - (intOf i).toNat)
  case atStart => exact ⟨0, Nat.zero_le _, rfl, rfl⟩
  case round =>
    obtain ⟨k, hk, rfl, rfl⟩ := hrel
    have hx := mvN_lt k d hd
    have HS : Hid (mvN (k + 1) d = mv1 (mvN k d)) := rfl
    by_cases hlt : k < q
    · have hcell := HT.out (mvN k d) hx
      generalize mvN k d = x at *
      generalize mv1 x = y at *
      go_wp2_with fail
      go_round
      case rel => exact ⟨k + 1, by omega, by go_num, by rw [HS.out]⟩
      case measure => simp [intOf]; omega
    · have hkq : k = q := by omega
      rw [hkq]
      generalize hgx : mvN q d = x at *
      have HG : Hid (mvN q d = x) := hgx
      clear hkq hgx
      go_wp2_with fail
      go_ret
      exact ⟨by rw [HG.out]; rfl, rfl⟩

/-- Block g holds the n motions f. -/
def RowM (w : World) (g n : Nat) (f : Nat → Nat) : Prop := w.heap[g]? = some (.cells ((List.range n).map fun i => Value.int .i64 ((f i : Nat) : Int)).toArray 98 (0, 0))
variable {w w' : World} {g n : Nat} {f : Nat → Nat}
theorem RowM.cell (h : RowM w g n f) {i : Nat} (hi : i < n) : w.cell? ⟨g, i, none⟩ = some (.int .i64 ((f i : Nat) : Int)) := by unfold RowM at h; simp [World.cell?, h, hi]
theorem RowM.free (h : RowM w g n f) (i : Nat) : w.frozen? ⟨g, i, none⟩ = false := by unfold RowM at h; simp [World.frozen?, h]
def updM (f : Nat → Nat) (i v : Nat) : Nat → Nat := fun k => if k = i then v else f k
theorem RowM.set (h : RowM w g n f) (i v : Nat) : RowM (w.setCell ⟨g, i, none⟩ (.int .i64 ((v : Nat) : Int))) g n (updM f i v) := by
  unfold RowM at *
  simp only [World.setCell, Array.getElem?_modify, h, if_true, Option.map_some]
  congr 2
  simp only [Option.isSome_none, Bool.false_eq_true, if_false]
  apply Array.ext'
  simp only [Array.toList_setIfInBounds]
  apply List.ext_getElem?
  intro k
  by_cases hk : k < n
  · by_cases e : k = i
    · subst e; simp [updM, hk]
    · rw [List.getElem?_set_ne (by omega)]; simp [updM, hk, e]
  · rw [List.getElem?_eq_none (by simp; omega), List.getElem?_eq_none (by simp; omega)]
theorem rowM_made {w1 : World} {n g base : Nat} (h : w1.ownsRow base 98 1 (.slice (some ⟨g, 0, none⟩) n n) n (madeCells #[Value.int .i64 0] n).toList) : RowM w1 g n (fun _ => 0) := by
  rcases h.2 with ⟨h1, _⟩ | ⟨g', cap, cur, h1, _, h2, _, _, h3, h4⟩
  · cases h1
  · simp only [Value.slice.injEq, Option.some.injEq, Addr.mk.injEq] at h1
    obtain ⟨⟨rfl, -⟩, -, rfl⟩ := h1
    unfold RowM
    rw [h2]
    congr 2
    apply Array.ext'
    have e1 : cur.toList = (madeCells #[Value.int .i64 0] n).toList := by
      rw [← h4, List.take_of_length_le (by simp; omega)]
    rw [e1, toList_madeCells_one]
    apply List.ext_getElem?
    intro k
    by_cases hk : k < n
    · simp [hk]
    · rw [List.getElem?_eq_none (by simp; omega), List.getElem?_eq_none (by simp; omega)]
theorem info_motion : (Tryz.prog.info? 98).map (fun i => (i.zero, i.size, i.bytes)) = some (some (.int .i64 0), 1, 8) := by kernel_rfl

/-- What motions make, one behind the other. -/
def foldM (f : Nat → Nat) : Nat → Nat
  | 0 => 0
  | k + 1 => mulN (foldM f k) (f k)
theorem foldM_lt (f : Nat → Nat) (k : Nat) (h : ∀ j, j < k → f j < 10) : foldM f k < 10 := by
  induction k with
  | zero => exact (by decide : 0 < 10)
  | succ k ih => exact mul_lt _ (ih fun j hj => h j (by omega)) _ (h k (by omega))
theorem foldM_congr {f f' : Nat → Nat} (k : Nat) (h : ∀ j, j < k → f j = f' j) : foldM f k = foldM f' k := by
  induction k with
  | zero => rfl
  | succ k ih => simp only [foldM]; rw [ih fun j hj => h j (by omega), h k (by omega)]
/-- The motion of the digit at a place. -/
def motN (last : Nat) (l : List Nat) (j : Nat) : Nat := mvN ((last + j) % 8) (l.getD j 0)
theorem foldM_fold (last : Nat) (l : List Nat) : foldM (motN last l) l.length = foldN last 0 l := by
  induction l using list_snoc_ind with
  | h0 => rfl
  | h1 l d ih =>
    rw [foldN_append, List.length_append, List.length_singleton, foldM]
    have e1 : foldM (motN last (l ++ [d])) l.length = foldM (motN last l) l.length := foldM_congr _ fun j hj => by
      unfold motN; congr 1; simp [List.getD, List.getElem?_append_left hj]
    rw [e1, ih]
    show mulN _ (motN last (l ++ [d]) l.length) = mulN _ _
    congr 1
    unfold motN; congr 1; simp [List.getD]

set_option maxHeartbeats 400000 in
theorem follow_any (g n : Nat) (f : Nat → Nat) (w : World) (hr : RowM w g n f) (hf : ∀ j, j < n → f j < 10) (hn : n ≤ 200) :
    Calls Tryz.prog 83 #[.slice (some ⟨g, 0, none⟩) n n, .func (.func 85) #[] #[]] w fun e w' => e = .returned (.int .i64 ((foldM f n : Nat) : Int)) ∧ w' = w := by
  have HR : Hid (RowM w g n f ∧ ∀ j, j < n → f j < 10) := ⟨hr, hf⟩
  clear hr hf
  go_enter Tryz.func83, Tryz.ntmps83
  go_wp2_with fail
  go_loop [5, 10] (fun v i => ∃ k : Nat, k ≤ n ∧ i = .int .i64 (k : Int) ∧ v = .int .i64 ((foldM f k : Nat) : Int)) (fun _ i => n - (intOf i).toNat)
  case atStart => exact ⟨0, Nat.zero_le _, rfl, rfl⟩
  case round =>
    obtain ⟨k, hk, rfl, rfl⟩ := hrel
    have hx := foldM_lt f k fun j hj => HR.out.2 j (by omega)
    have HS : Hid (foldM f (k + 1) = mulN (foldM f k) (f k)) := rfl
    by_cases hlt : k < n
    · have hcell := HR.out.1.cell hlt
      have hy := HR.out.2 k hlt
      have HC := then_any (foldM f k) (f k) w hx hy
      generalize foldM f k = x at *
      generalize f k = y at *
      generalize mulN x y = z at *
      go_wp2_with fail
      refine HC.mono ?_
      rintro e w1 ⟨rfl, rfl⟩
      go_wp2_with fail
      go_round
      case rel => exact ⟨k + 1, by omega, by go_num, by rw [HS.out]⟩
      case measure => simp [intOf]; omega
    · have hkq : k = n := by omega
      rw [hkq]
      generalize hgx : foldM f n = x at *
      have HG : Hid (foldM f n = x) := hgx
      clear hkq hgx
      go_wp2_with fail
      go_ret
      exact ⟨by rw [HG.out]; rfl, rfl⟩

end Go.Proofs.YtlicdeppfhmfjabGreatDoor.check

/- The motions of a text, and its sum. -/
namespace Go.Proofs.YtlicdeppfhmfjabGreatDoor.check
open Go.RowKit

theorem below_set {B : Nat} {w w' : World} (h : Below B w w') (G i : Nat) (u : Value) (hG : B ≤ G) : Below B w (w'.setCell ⟨G, i, none⟩ u) := by
  refine ⟨h.os, h.tape, h.output, by simp [World.setCell]; exact h.size, fun k hk => ?_⟩
  rw [← h.block k hk]
  simp only [World.setCell, Array.getElem?_modify]
  rw [if_neg (by omega)]
theorem it_set {w : World} {I G : Nat} {o : Obj} (h : w.heap[I]? = some o) (i : Nat) (u : Value) (hne : G ≠ I) : (w.setCell ⟨G, i, none⟩ u).heap[I]? = some o := by
  simp only [World.setCell, Array.getElem?_modify]; rw [if_neg hne]; exact h
theorem iterPos_of {w : World} {I p : Nat} {s : ByteArray} (h : w.heap[I]? = some (.stringIter s p)) : w.iterPos I = p := by simp [World.iterPos, h]
theorem RowM.iter {w : World} {g n I : Nat} {f : Nat → Nat} {s : ByteArray} {k : Nat} (h : RowM w g n f) (hne : g ≠ I) : RowM (w.iterAt I s k) g n f := by
  unfold RowM at *
  rw [Lib.iterAt_other _ _ _ _ _ hne]; exact h
theorem RowM.alloc {w : World} {g n : Nat} {f : Nat → Nat} (h : RowM w g n f) (o : Obj) : RowM (w.alloc o) g n f := by
  unfold RowM at *
  have hlt : g < w.heap.size := by
    by_cases hh : g < w.heap.size
    · exact hh
    · rw [Array.getElem?_eq_none (by omega)] at h; cases h
  show (w.heap.push o)[g]? = _
  rw [Array.getElem?_push, if_neg (by omega)]; exact h

theorem rev_getD (s : ByteArray) (k j : Nat) (h : k < s.size) (hj : j + 1 + k = s.size) : (digs s.data.toList).reverse.getD j 0 = s[k].toNat - 48 := by
  have hl : (digs s.data.toList).length = s.size := by rw [digs_len, len_eq]
  rw [List.getD, List.getElem?_reverse (by omega), hl, show s.size - 1 - j = k by omega]
  simp only [digs, List.getElem?_map]
  rw [List.getElem?_eq_getElem (by simpa using h)]
  rfl

/-- What holds of the world while motions are laid: k digits are. -/
structure Lay (w wr : World) (s : ByteArray) (last I k : Nat) (f : Nat → Nat) : Prop where
  below : Below w.heap.size w wr
  row : RowM wr w.heap.size s.size f
  it : wr.heap[I]? = some (.stringIter s k)
  done : ∀ j, j < s.size → s.size ≤ j + k → f j = motN last (digs s.data.toList).reverse j

/-- The motions were given back, in a new row. -/
def MotPost (w : World) (s : ByteArray) (last : Nat) (e : Ending) (w' : World) : Prop :=
  ∃ f, e = .returned (.slice (some ⟨w.heap.size, 0, none⟩) s.size s.size) ∧ RowM w' w.heap.size s.size f ∧ (∀ j, j < s.size → f j = motN last (digs s.data.toList).reverse j) ∧ Below w.heap.size w w'

set_option maxHeartbeats 2000000 in
theorem motions_any (s : ByteArray) (last : Nat) (w : World) (h1 : 1 ≤ s.size) (h2 : s.size ≤ 200) (hd : allD s.data.toList = true) (hlast : last ≤ 1) (ht : MTab w) :
    Calls Tryz.prog 84 #[.string s, .int .i64 (last : Int)] w fun e w' => MotPost w s last e w' := by
  obtain ⟨i0, hi, hz0, hz1, hz2⟩ := info_parts info_motion
  have HD : Hid (allD s.data.toList = true) := hd
  have HT : Hid (MTab w) := ht
  clear hd ht
  go_enter Tryz.func84, Tryz.ntmps84
  go_wp2_with (first
    | (at_make; refine wpList_make_full _ rfl _ _ 133 rfl w.heap.size 98 i0 (.int .i64 0) 1 Tryz.underlying133 hi hz0 hz1 _ _ _ _ s.size rfl rfl ?c0 ?c1 ?c2 ?c3 ?c4 ?_))
  try (case c0 => first | rfl | (congr 1; omega))
  try (case c1 => first | rfl | (congr 1; omega))
  case c2 => first | omega | (rw [hz2]; omega)
  case c3 => unfold maxLen; omega
  try (case c4 => simp)
  intro w1 hown hgr
  have HR1 : Hid (RowM w1 w.heap.size s.size (fun _ => 0)) := rowM_made hown
  have HB1 : Hid (Below w.heap.size w w1) := (Below.refl _ _).grown hgr (Nat.le_refl _) (fun k hk => by cases hk)
  clear hown hgr hi hz0 hz1 hz2
  have hw1 : w.heap.size < w1.heap.size := by
    have h := HR1.out
    unfold RowM at h
    by_cases hh : w.heap.size < w1.heap.size
    · exact hh
    · rw [Array.getElem?_eq_none (by omega)] at h; cases h
  have HL0 : Hid (Lay w (w1.iter s 0) s last w1.heap.size 0 (fun _ => 0)) := ⟨HB1.out.alloc HB1.out.size _, HR1.out.alloc _, World.iter_heap w1 s 0, fun j h1 h2 => by omega⟩
  generalize hI : w1.heap.size = I at *
  have HI : Hid (w1.heap.size = I) := hI
  clear hI HR1 HB1
  go_wp2_with fail
  rw [HI.out]
  go_loopw [] (fun wr => ∃ (k : Nat) (f : Nat → Nat), k ≤ s.size ∧ Lay w wr s last I k f) (fun wr => s.size - wr.iterPos I)
  case atStart => exact ⟨0, _, Nat.zero_le _, HL0.out⟩
  case round =>
    obtain ⟨k, f, hk, hl⟩ := hrel
    have HP0 : Hid (wr.iterPos I = k) := iterPos_of hl.it
    by_cases hp : k < s.size
    · obtain ⟨hk1, hk2, hk3⟩ := take_parts s k hp HD.out
      have hcb := isD_bd hk2
      have ha : (s[k]'hp).toNat < 128 := by omega
      have hnx : ∀ ty, (Instr.next (.pointer (some ⟨I, 0, none⟩)) true ty).run Tryz.prog wr = _ := fun ty => Lib.run_next_ascii_at wr I s k ty hl.it hp ha
      obtain ⟨j, hj⟩ : ∃ j, j + 1 + k = s.size := ⟨s.size - 1 - k, by omega⟩
      have BN := Lib.below_iterAt hl.below (k := I) (by omega) s (k + 1)
      have IT := Lib.iterAt_heap wr I s k (k + 1) hl.it
      have RN := hl.row.iter (I := I) (s := s) (k := k + 1) (by omega)
      have HM : Hid (motN last (digs s.data.toList).reverse j = mvN ((last + j) % 8) (s[k].toNat - 48)) := by
        show _ = _
        unfold motN; rw [rev_getD s k j hp hj]
      have HDN : Hid (∀ i, i < s.size → s.size ≤ i + k → f i = motN last (digs s.data.toList).reverse i) := hl.done
      clear hk1 hk2 hk3 ha hl
      generalize hwn : wr.iterAt I s (k + 1) = wn at *
      clear hwn
      have r0 := RN.cell (i := j) (by omega)
      have f0 := RN.free j
      have hcz : ((s[k].toNat - 48 : Nat) : Int) = ((s[k].toNat : Nat) : Int) - 48 := by omega
      have HMV := moved_any (s[k].toNat - 48) (last + j) wn (by omega) (by omega) (HT.out.below BN)
      rw [hcz, Int.natCast_add] at HMV
      have HMV' : Hid (Calls Tryz.prog 112 #[.int .i64 (((s[k].toNat : Nat) : Int) - 48), .int .i64 ((last : Int) + (j : Int))] wn fun e w' => e = .returned (.int .i64 ((mvN ((last + j) % 8) (s[k].toNat - 48) : Nat) : Int)) ∧ w' = wn) := HMV
      have HLN : Hid (Lay w (wn.setCell ⟨w.heap.size, j, none⟩ (.int .i64 ((mvN ((last + j) % 8) (s[k].toNat - 48) : Nat) : Int))) s last I (k + 1) (updM f j (mvN ((last + j) % 8) (s[k].toNat - 48)))) := by
        refine ⟨below_set BN _ _ _ (Nat.le_refl _), RN.set _ _, it_set IT _ _ (by omega), fun i h1 h2 => ?_⟩
        unfold updM
        by_cases e : i = j
        · rw [if_pos e, e, HM.out]
        · rw [if_neg e]; exact HDN.out i h1 (by omega)
      clear BN IT RN HM HDN HMV hcz
      have ej : ((s.size : Int) - 1 - (k : Int)) = (j : Int) := by omega
      generalize ((mvN ((last + j) % 8) (s[k].toNat - 48) : Nat) : Int) = mv at *
      generalize ((f j : Nat) : Int) = old at *
      generalize updM f j (mvN ((last + j) % 8) (s[k].toNat - 48)) = f' at *
      generalize s[k] = c at *
      generalize hcc : ((c.toNat : Nat) : Int) = z at *
      clear hcc
      obtain ⟨z1, z2⟩ := hcb
      have hjs : (j : Int) < (s.size : Int) := by omega
      clear hj
      go_wp2_with fail
      refine (value_any _ _ z1 z2).mono ?_
      rintro e w' ⟨rfl, rfl⟩
      go_wp2_with fail
      refine HMV'.out.mono ?_
      rintro e w' ⟨rfl, rfl⟩
      go_wp2_with fail
      go_roundw
      case rel => exact ⟨k + 1, f', by omega, HLN.out⟩
      case measure =>
        rw [HP0.out, iterPos_of HLN.out.it]
        omega
    · have hnx : ∀ ty, (Instr.next (.pointer (some ⟨I, 0, none⟩)) true ty).run Tryz.prog wr = _ := fun ty => Lib.run_next_end_at wr I s k ty hl.it hp
      have HP : Hid (MotPost w s last (.returned (.slice (some ⟨w.heap.size, 0, none⟩) s.size s.size)) wr) := ⟨f, rfl, hl.row, fun j hj => hl.done j hj (by omega), hl.below⟩
      clear hl
      go_wp2_with fail
      go_ret
      exact HP.out

theorem motN_lt {last : Nat} {l : List Nat} (h : AllD l) {j : Nat} (hj : j < l.length) : motN last l j < 10 := by
  unfold motN
  exact mvN_lt _ _ (h _ (by simp [List.getD, List.getElem?_eq_getElem hj]))
set_option maxHeartbeats 400000 in
theorem sum_any (s : ByteArray) (last : Nat) (w : World) (h1 : 1 ≤ s.size) (h2 : s.size ≤ 200) (hd : allD s.data.toList = true) (hlast : last ≤ 1) (ht : MTab w) :
    Calls Tryz.prog 59 #[.string s, .int .i64 (last : Int)] w fun e w' => e = .returned (.int .i64 ((foldN last 0 (digs s.data.toList).reverse : Nat) : Int)) ∧ Below w.heap.size w w' := by
  have HM : Hid (Calls Tryz.prog 84 #[.string s, .int .i64 (last : Int)] w fun e w' => MotPost w s last e w') := motions_any s last w h1 h2 hd hlast ht
  have hL : (digs s.data.toList).reverse.length = s.size := by rw [List.length_reverse, digs_len, len_eq]
  have HK : Hid (∀ f, (∀ j, j < s.size → f j = motN last (digs s.data.toList).reverse j) → (∀ j, j < s.size → f j < 10) ∧ foldM f s.size = foldN last 0 (digs s.data.toList).reverse) := fun f hf => by
    refine ⟨fun j hj => by rw [hf j hj]; exact motN_lt (digs_ok hd).rev (by omega), ?_⟩
    rw [← foldM_fold, hL]
    exact foldM_congr _ hf
  clear hd ht hL
  go_enter Tryz.func59, Tryz.ntmps59
  go_wp2_with fail
  refine HM.out.mono ?_
  rintro e w1 ⟨f, rfl, hrow, hf, hb⟩
  obtain ⟨k1, k2⟩ := HK.out f hf
  have HF := follow_any w.heap.size s.size f w1 hrow k1 h2
  rw [k2] at HF
  have HFF : Hid (Calls Tryz.prog 83 #[.slice (some ⟨w.heap.size, 0, none⟩) s.size s.size, .func (.func 85) #[] #[]] w1 fun e w' => e = .returned (.int .i64 ((foldN last 0 (digs s.data.toList).reverse : Nat) : Int)) ∧ w' = w1) := HF
  have HB : Hid (Below w.heap.size w w1) := hb
  clear HF hrow hf hb k1 k2 HK HM
  go_wp2_with fail
  refine HFF.out.mono ?_
  rintro e w2 ⟨rfl, rfl⟩
  go_wp2_with fail
  go_ret
  exact ⟨rfl, HB.out⟩

end Go.Proofs.YtlicdeppfhmfjabGreatDoor.check

/- What check.Digit and check.Good give back. -/
namespace Go.Proofs.YtlicdeppfhmfjabGreatDoor.check
open Go.RowKit

set_option maxHeartbeats 400000 in
theorem digit_any (s : ByteArray) (w : World) (ht : MTab w) :
    Calls Tryz.prog 47 #[.string s] w fun e w' => e = .returned (.tuple #[.int .i64 (digitR s.data.toList), .int .i64 (flawR s.data.toList)]) ∧ Below w.heap.size w w' := by
  have HF := flaw_any s w
  by_cases h0 : flawR s.data.toList = 0
  · have e : digitR s.data.toList = ((invN (sumR s.data.toList 1) : Nat) : Int) := by unfold digitR; rw [if_pos h0]
    rw [e, h0]
    rw [h0] at HF
    obtain ⟨⟨l1, l2⟩, hd⟩ := flawR_zero h0
    rw [len_eq] at l1 l2
    have HU : Hid (∀ w, Calls Tryz.prog 75 #[.int .i64 ((sumR s.data.toList 1 : Nat) : Int)] w fun e w' => e = .returned (.int .i64 ((invN (sumR s.data.toList 1) : Nat) : Int)) ∧ w' = w) := fun w => undo_any _ w (sumR_lt hd 1)
    have HS : Hid (∀ w', Below w.heap.size w w' → Calls Tryz.prog 59 #[.string s, .int .i64 1] w' fun e w'' => e = .returned (.int .i64 ((sumR s.data.toList 1 : Nat) : Int)) ∧ Below w'.heap.size w' w'') := fun w' hb => sum_any s 1 w' l1 l2 hd (by omega) (ht.below hb)
    clear e h0 hd ht
    generalize ((invN (sumR s.data.toList 1) : Nat) : Int) = y at *
    generalize ((sumR s.data.toList 1 : Nat) : Int) = x at *
    go_enter Tryz.func47, Tryz.ntmps47
    go_wp2_with fail
    refine HF.mono ?_
    rintro e w1 ⟨rfl, hb⟩
    have HB : Hid (Below w.heap.size w w1) := hb
    clear hb HF
    go_wp2_with fail
    refine (HS.out _ HB.out).mono ?_
    rintro e w2 ⟨rfl, hb2⟩
    have HB2 : Hid (Below w.heap.size w w2) := HB.out.trans (hb2.mono HB.out.size)
    clear hb2
    go_wp2_with fail
    refine (HU.out _).mono ?_
    rintro e w3 ⟨rfl, rfl⟩
    go_wp2_with fail
    go_ret2
    exact ⟨rfl, HB2.out⟩
  · have e : digitR s.data.toList = 0 := by unfold digitR; rw [if_neg h0]
    rw [e]
    have hne : (flawR s.data.toList != 0) = true := by simpa using h0
    clear e h0 ht
    generalize flawR s.data.toList = f at *
    go_enter Tryz.func47, Tryz.ntmps47
    go_wp2_with fail
    refine HF.mono ?_
    rintro e w1 ⟨rfl, hb⟩
    clear HF
    go_wp2_with fail
    go_ret2
    exact ⟨rfl, hb⟩

set_option maxHeartbeats 400000 in
theorem good_any (s : ByteArray) (w : World) (ht : MTab w) :
    Calls Tryz.prog 36 #[.string s] w fun e w' => e = .returned (.bool (goodR s.data.toList)) ∧ Below w.heap.size w w' := by
  have HF := flaw_any s w
  by_cases h2 : 2 ≤ s.size
  · have h2' : (2 : Int) ≤ (s.size : Int) := by omega
    by_cases h0 : flawR s.data.toList = 0
    · have e : goodR s.data.toList = (sumR s.data.toList 0 == 0) := by unfold goodR; rw [len_eq, h0]; simp [h2]
      rw [e]
      rw [h0] at HF
      obtain ⟨⟨l1, l2⟩, hd⟩ := flawR_zero h0
      rw [len_eq] at l1 l2
      have HS : Hid (∀ w', Below w.heap.size w w' → Calls Tryz.prog 59 #[.string s, .int .i64 0] w' fun e w'' => e = .returned (.int .i64 ((sumR s.data.toList 0 : Nat) : Int)) ∧ Below w'.heap.size w' w'') := fun w' hb => sum_any s 0 w' l1 l2 hd (by omega) (ht.below hb)
      have e2 : (sumR s.data.toList 0 == 0) = (((sumR s.data.toList 0 : Nat) : Int) == 0) := by
        by_cases h : sumR s.data.toList 0 = 0
        · rw [h]; rfl
        · rw [beq_eq_false_iff_ne.2 h, beq_eq_false_iff_ne.2 (by omega)]
      rw [e2]
      clear e h0 hd ht e2
      generalize ((sumR s.data.toList 0 : Nat) : Int) = x at *
      go_enter Tryz.func36, Tryz.ntmps36
      go_wp2_with fail
      refine HF.mono ?_
      rintro e w1 ⟨rfl, hb⟩
      have HB : Hid (Below w.heap.size w w1) := hb
      clear hb HF
      go_wp2_with fail
      refine (HS.out _ HB.out).mono ?_
      rintro e w2 ⟨rfl, hb2⟩
      have HB2 : Hid (Below w.heap.size w w2) := HB.out.trans (hb2.mono HB.out.size)
      clear hb2
      go_wp2_with fail
      go_ret
      exact ⟨rfl, HB2.out⟩
    · have e : goodR s.data.toList = false := by unfold goodR; rw [beq_eq_false_iff_ne.2 h0]; simp
      rw [e]
      have hne : (flawR s.data.toList == 0) = false := by simpa using h0
      clear e h0 ht
      generalize flawR s.data.toList = f at *
      go_enter Tryz.func36, Tryz.ntmps36
      go_wp2_with fail
      refine HF.mono ?_
      rintro e w1 ⟨rfl, hb⟩
      clear HF
      go_wp2_with fail
      go_ret
      exact ⟨rfl, hb⟩
  · have e : goodR s.data.toList = false := by unfold goodR; rw [len_eq]; simp [h2]
    rw [e]
    have h2' : decide ((2 : Int) ≤ (s.size : Int)) = false := by simp; omega
    clear e HF ht
    go_enter Tryz.func36, Tryz.ntmps36
    go_wp2_with fail
    go_ret
    exact ⟨rfl, Below.refl _ _⟩

end Go.Proofs.YtlicdeppfhmfjabGreatDoor.check

/- receipt.Meter: what is asked of it. -/
namespace Go.Proofs.YtlicdeppfhmfjabGreatDoor.rcp
open Go.RowKit

def KrMeter (w0 : World) : Prop := ∀ (W : World) (s : ByteArray), Below w0.heap.size w0 W →  Calls Tryz.prog 14 #[.string s] W fun e w' => MeterPost W s.data.toList e w'

end Go.Proofs.YtlicdeppfhmfjabGreatDoor.rcp

/- Is there nothing but digits, in the program. -/
namespace Go.Proofs.YtlicdeppfhmfjabGreatDoor.rca
open Go.Proofs.YtlicdeppfhmfjabGreatDoor.cents
open Go.RowKit
theorem ret_bool {a b : Bool} (h : a = b) : Ending.returned (.bool a) = .returned (.bool b) := by rw [h]
theorem iter_below (w : World) (s : ByteArray) (k : Nat) : Below w.heap.size w (w.iter s k) := (Below.refl _ _).alloc (Nat.le_refl _) _

set_option maxHeartbeats 400000 in
theorem allDigits_any (s : ByteArray) (w : World) :
    Calls Tryz.prog 35 #[.string s] w fun e w' => e = .returned (.bool (allD s.data.toList)) ∧ Below w.heap.size w w' := by
  go_enter Tryz.func35, Tryz.ntmps35
  go_wp2
  go_loopw [] (fun wr => ∃ k : Nat, k ≤ s.size ∧ wr = w.iter s k ∧ allD (s.data.toList.take k) = true) (fun wr => s.size - wr.iterPos w.heap.size)
  case atStart => exact ⟨0, Nat.zero_le _, rfl, rfl⟩
  case round =>
    obtain ⟨k, hk, rfl, hok⟩ := hrel
    have HK : Hid (allD (s.data.toList.take k) = true) := hok
    clear hok
    by_cases hp : k < s.size
    · by_cases ha : (s[k]'hp).toNat < 128
      · have hnx : ∀ ty, (Instr.next (.pointer (some ⟨w.heap.size, 0, none⟩)) true ty).run Tryz.prog (w.iter s k) = _ := fun ty => run_next_ascii w s k ty hp ha
        have HT : Hid (s.data.toList.take (k + 1) = s.data.toList.take k ++ [s[k]]) := take_snoc s k hp
        have HN : Hid (isD s[k] = false → allD s.data.toList = false) := allD_take_no s k hp
        have HY : Hid (48 ≤ ((s[k].toNat : Nat) : Int) → ((s[k].toNat : Nat) : Int) ≤ 57 → isD s[k] = true) := fun a b => isD_yes a b
        have HL : Hid (((s[k].toNat : Nat) : Int) < 48 → isD s[k] = false) := fun a => isD_lo a
        have HH : Hid (57 < ((s[k].toNat : Nat) : Int) → isD s[k] = false) := fun a => isD_hi a
        clear ha
        generalize s[k] = c at *
        generalize hcc : ((c.toNat : Nat) : Int) = z at *
        clear hcc
        by_cases h1 : z < 48
        · go_wp2
          go_ret
          exact ⟨ret_bool (HN.out (HL.out h1)).symm, iter_below _ _ _⟩
        · by_cases h2 : 57 < z
          · go_wp2
            go_ret
            exact ⟨ret_bool (HN.out (HH.out h2)).symm, iter_below _ _ _⟩
          · go_wp2
            go_roundw
            case rel => exact ⟨k + 1, by omega, rfl, by rw [HT.out, allD_append, HK.out]; simp [allD, HY.out (by omega) (by omega)]⟩
            case measure => simp; omega
      · have hd := (decode_high s k hp (by omega)).1
        have hnx : ∀ ty, (Instr.next (.pointer (some ⟨w.heap.size, 0, none⟩)) true ty).run Tryz.prog (w.iter s k) = _ := fun ty => run_next_any w s k ty hp
        have HN : Hid (allD s.data.toList = false) := allD_take_no s k hp (isD_hi (by omega))
        clear ha
        have hd2 := decode_le s k
        generalize (Utf8.decode s k).1 = r at *
        generalize (Utf8.decode s k).2 = n at *
        go_wp2
        go_ret
        exact ⟨ret_bool HN.out.symm, iter_below _ _ _⟩
    · have hnx : ∀ ty, (Instr.next (.pointer (some ⟨w.heap.size, 0, none⟩)) true ty).run Tryz.prog (w.iter s k) = _ := fun ty => run_next_end w s k ty hp
      go_wp2
      go_ret
      refine ⟨ret_bool ?_, iter_below _ _ _⟩
      have := HK.out
      rw [List.take_of_length_le (by simp; omega)] at this
      exact this.symm

end Go.Proofs.YtlicdeppfhmfjabGreatDoor.rca

/- Lie numbers within their bounds, in the program. -/
namespace Go.Proofs.YtlicdeppfhmfjabGreatDoor.rci
open Go.RowKit

/-- The slice a, len, cap reads as the numbers zs: its elements alone. -/
def Row (w : World) (a : Option Addr) (len : Nat) (zs : List Int) : Prop :=
  zs.length = len ∧ (len = 0 ∨ ∃ b off, a = some ⟨b, off, none⟩ ∧ ∀ i, i < len → w.cell? ⟨b, off + i, none⟩ = some (.int .i64 (zs.getD i 0)))

def okAll (lo hi : Int) (l : List Int) : Bool := l.all fun n => decide (lo ≤ n) && decide (n ≤ hi)

theorem okAll_step (lo hi : Int) (zs : List Int) (k : Nat) (hk : k < zs.length) (h : okAll lo hi (zs.take k) = true) (h1 : lo ≤ zs.getD k 0) (h2 : zs.getD k 0 ≤ hi) : okAll lo hi (zs.take (k + 1)) = true := by
  unfold okAll at *
  rw [List.take_add_one, List.all_append, h]
  simp only [List.getD, List.getElem?_eq_getElem hk, Option.getD] at h1 h2 ⊢
  simp [h1, h2]

theorem okAll_no (lo hi : Int) (zs : List Int) (k : Nat) (hk : k < zs.length) (h : zs.getD k 0 < lo ∨ hi < zs.getD k 0) : okAll lo hi zs = false := by
  unfold okAll
  rw [List.all_eq_false]
  refine ⟨zs[k], List.getElem_mem hk, ?_⟩
  simp only [List.getD, List.getElem?_eq_getElem hk, Option.getD] at h
  simp; omega

theorem ret_bool {a b : Bool} (h : a = b) : Ending.returned (.bool a) = .returned (.bool b) := by rw [h]

set_option maxHeartbeats 400000 in
theorem within_any (lo hi : Int) (a : Option Addr) (len cap : Nat) (zs : List Int) (w : World) (hr : Row w a len zs) (hl : len ≤ maxLen) :
    Calls Tryz.prog 17 #[.int .i64 lo, .int .i64 hi, .slice a len cap] w fun e w' => e = .returned (.bool (okAll lo hi zs)) ∧ w' = w := by
  unfold maxLen at hl
  obtain ⟨hz, hr⟩ := hr
  go_enter Tryz.func17, Tryz.ntmps17
  go_wp2
  go_loop [11] (fun i => ∃ k : Nat, k ≤ len ∧ i = .int .i64 k ∧ okAll lo hi (zs.take k) = true) (fun i => len - (intOf i).toNat)
  case atStart => exact ⟨0, Nat.zero_le _, rfl, rfl⟩
  case round =>
    obtain ⟨k, hk, rfl, hok⟩ := hrel
    have HK : Hid (okAll lo hi (zs.take k) = true) := hok
    clear hok
    by_cases hlt : k < len
    · rcases hr with h0 | ⟨b, off, rfl, hc⟩
      · omega
      have hcell := hc k hlt
      clear hc
      generalize hzk : zs.getD k 0 = z at hcell
      have HZ : Hid (zs.getD k 0 = z) := hzk
      clear hzk
      by_cases h1 : z < lo
      · go_wp2
        go_ret
        exact ⟨ret_bool (okAll_no lo hi zs k (by omega) (.inl (by rw [HZ.out]; exact h1))).symm, rfl⟩
      · by_cases h2 : hi < z
        · go_wp2
          go_ret
          exact ⟨ret_bool (okAll_no lo hi zs k (by omega) (.inr (by rw [HZ.out]; exact h2))).symm, rfl⟩
        · go_wp2
          go_round
          case rel => exact ⟨k + 1, by omega, by go_num, okAll_step lo hi zs k (by omega) HK.out (by rw [HZ.out]; omega) (by rw [HZ.out]; omega)⟩
          case measure => simp [intOf]; omega
    · go_wp2
      go_ret
      refine ⟨ret_bool ?_, rfl⟩
      have := HK.out
      rw [List.take_of_length_le (by omega)] at this
      exact this.symm

theorem row_one (w : World) (z : Int) (t : TypeId) : Row (w.alloc (.cells #[.int .i64 z] t)) (some ⟨w.heap.size, 0, none⟩) 1 [z] := by
  refine ⟨rfl, .inr ⟨_, _, rfl, fun i hi => ?_⟩⟩
  obtain rfl : i = 0 := by omega
  simp

theorem okAll_yes {lo hi z : Int} (h1 : lo ≤ z) (h2 : z ≤ hi) : okAll lo hi [z] = true := by simp [okAll, h1, h2]
theorem okAll_not {lo hi z : Int} (h : z < lo ∨ hi < z) : okAll lo hi [z] = false := by simp [okAll]; omega

/-- One number alone, laid in a new block: it lies within the bounds. -/
theorem within_one_yes (lo hi z : Int) (w : World) (b : Nat) (hb : b = w.heap.size) (h1 : lo ≤ z) (h2 : z ≤ hi) :
    Calls Tryz.prog 17 #[.int .i64 lo, .int .i64 hi, .slice (some ⟨b, 0, none⟩) 1 1] (w.alloc (.cells #[.int .i64 z] 3)) fun e w' => e = .returned (.bool true) ∧ w' = w.alloc (.cells #[.int .i64 z] 3) := by
  have h := within_any lo hi _ 1 1 [z] _ (row_one w z 3) (by decide)
  rw [okAll_yes h1 h2] at h
  rw [hb]
  exact h

theorem within_one_no (lo hi z : Int) (w : World) (b : Nat) (hb : b = w.heap.size) (h0 : z < lo ∨ hi < z) :
    Calls Tryz.prog 17 #[.int .i64 lo, .int .i64 hi, .slice (some ⟨b, 0, none⟩) 1 1] (w.alloc (.cells #[.int .i64 z] 3)) fun e w' => e = .returned (.bool false) ∧ w' = w.alloc (.cells #[.int .i64 z] 3) := by
  have h := within_any lo hi _ 1 1 [z] _ (row_one w z 3) (by decide)
  rw [okAll_not h0] at h
  rw [hb]
  exact h

theorem bel1 (w : World) (o : Obj) : Below w.heap.size w (w.alloc o) := (Below.refl _ _).alloc (Nat.le_refl _) _
theorem bel2 (w : World) (o o' : Obj) : Below w.heap.size w ((w.alloc o).alloc o') := (bel1 w o).alloc (by simp) _

theorem row_five (w : World) (a b c d e : Int) (t : TypeId) : Row (w.alloc (.cells #[.int .i64 a, .int .i64 b, .int .i64 c, .int .i64 d, .int .i64 e] t)) (some ⟨w.heap.size, 0, none⟩) 5 [a, b, c, d, e] := by
  refine ⟨rfl, .inr ⟨_, _, rfl, fun i hi => ?_⟩⟩
  match i, hi with
  | 0, _ => simp
  | 1, _ => simp
  | 2, _ => simp
  | 3, _ => simp
  | 4, _ => simp
/-- One number alone. -/
theorem within_one (lo hi z : Int) (w : World) (b : Nat) (hb : b = w.heap.size) :
    Calls Tryz.prog 17 #[.int .i64 lo, .int .i64 hi, .slice (some ⟨b, 0, none⟩) 1 1] (w.alloc (.cells #[.int .i64 z] 3)) fun e w' => e = .returned (.bool (decide (lo ≤ z ∧ z ≤ hi))) ∧ w' = w.alloc (.cells #[.int .i64 z] 3) := by
  have h := within_any lo hi _ 1 1 [z] _ (row_one w z 3) (by decide)
  have e : okAll lo hi [z] = decide (lo ≤ z ∧ z ≤ hi) := by simp [okAll]
  rw [e] at h
  rw [hb]
  exact h
theorem isMeter_any (z : Int) (w : World) :
    Calls Tryz.prog 16 #[.int .i64 z] w fun e w' => e = .returned (.bool (decide (0 ≤ z ∧ z ≤ 49))) ∧ Below w.heap.size w w' := by
  have HW : Hid (∀ (w : World) (b : Nat), b = w.heap.size → Calls Tryz.prog 17 #[.int .i64 0, .int .i64 49, .slice (some ⟨b, 0, none⟩) 1 1] (w.alloc (.cells #[.int .i64 z] 3)) fun e w' => e = .returned (.bool (decide (0 ≤ z ∧ z ≤ 49))) ∧ w' = w.alloc (.cells #[.int .i64 z] 3)) := fun w b hb => within_one 0 49 z w b hb
  generalize decide (0 ≤ z ∧ z ≤ 49) = d at *
  go_enter Tryz.func16, Tryz.ntmps16
  go_wp2_with fail
  refine (HW.out _ _ rfl).mono ?_
  rintro e w' ⟨rfl, rfl⟩
  go_wp2_with fail
  go_ret
  exact ⟨rfl, bel1 _ _⟩

end Go.Proofs.YtlicdeppfhmfjabGreatDoor.rci

/- The meter of a number, in the program. -/
namespace Go.Proofs.YtlicdeppfhmfjabGreatDoor.rcp
open Go.Proofs.YtlicdeppfhmfjabGreatDoor.check (goodR MTab good_any flawR allD)
open Go.Proofs.YtlicdeppfhmfjabGreatDoor.token (dv)
open Go.RowKit
set_option maxRecDepth 100000
set_option linter.unusedVariables false

theorem flaw_11 {l : List UInt8} (h : l.length = 11) : flawR l = if allD l then 0 else 7 := by unfold flawR; rw [if_neg (by omega)]
theorem atoi_ok (s : ByteArray) (v : Int) (w : World) (hs : s.size ≤ 1000) (h : Lib.atoiAll s.data.toList = .ok v) :
    Calls Tryz.prog 13 #[.string s] w fun e w' => ∃ x, e = .returned (.tuple #[.int .i64 v, x]) ∧ Below w.heap.size w w' := by
  refine (Tryz.strconv_Atoi_ok s (by omega) v h w).mono ?_
  rintro e w' ⟨rfl, hw⟩
  refine ⟨_, rfl, ?_⟩
  rcases hw with rfl | ⟨t, rfl⟩
  · exact Below.refl _ _
  · exact Lib.bytesWorld_below _ _ _

set_option maxHeartbeats 1000000 in
theorem meter_len (s : ByteArray) (w : World) (h : s.size ≠ 11) : Calls Tryz.prog 14 #[.string s] w fun e w' => e = .returned (.tuple #[.int .i64 0, .int .i64 6]) ∧ Below w.heap.size w w' := by
  have hq : ((s.size : Int) != 11) = true := by simp; omega
  go_enter Tryz.func14, Tryz.ntmps14
  go_wp2_with fail
  go_ret2
  exact ⟨rfl, Below.refl _ _⟩
set_option maxHeartbeats 1000000 in
theorem meter_abs (s : ByteArray) (dg gd mt : Bool) (v : Int) (w : World) (h : s.size = 11) (hv : 0 ≤ v ∧ v ≤ 9999999999)
    (hD : Calls Tryz.prog 35 #[.string s] w fun e w' => e = .returned (.bool dg) ∧ Below w.heap.size w w')
    (hG : ∀ w', Below w.heap.size w w' → Calls Tryz.prog 36 #[.string s] w' fun e w'' => e = .returned (.bool gd) ∧ Below w'.heap.size w' w'')
    (hA : dg = true → ∀ w', Calls Tryz.prog 13 #[.string (s.extract 0 10)] w' fun e w'' => ∃ x, e = .returned (.tuple #[.int .i64 v, x]) ∧ Below w'.heap.size w' w'')
    (hM : ∀ w', Calls Tryz.prog 16 #[.int .i64 v] w' fun e w'' => e = .returned (.bool mt) ∧ Below w'.heap.size w' w'') :
    Calls Tryz.prog 14 #[.string s] w fun e w' => e = .returned (if dg = false then .tuple #[.int .i64 0, .int .i64 7] else if gd = false then .tuple #[.int .i64 0, .int .i64 8] else if mt = false then .tuple #[.int .i64 0, .int .i64 18] else .tuple #[.int .i64 v, .int .i64 0]) ∧ Below w.heap.size w w' := by
  have hq : ((s.size : Int) != 11) = false := by simp; omega
  have hsz : 10 ≤ s.size := by omega
  have HG : Hid (∀ w', Below w.heap.size w w' → Calls Tryz.prog 36 #[.string s] w' fun e w'' => e = .returned (.bool gd) ∧ Below w'.heap.size w' w'') := hG
  have HA : Hid (dg = true → ∀ w', Calls Tryz.prog 13 #[.string (s.extract 0 10)] w' fun e w'' => ∃ x, e = .returned (.tuple #[.int .i64 v, x]) ∧ Below w'.heap.size w' w'') := hA
  have HM : Hid (∀ w', Calls Tryz.prog 16 #[.int .i64 v] w' fun e w'' => e = .returned (.bool mt) ∧ Below w'.heap.size w' w'') := hM
  obtain ⟨v0, v1⟩ := hv
  clear hG hA hM h
  go_enter Tryz.func14, Tryz.ntmps14
  go_wp2_with fail
  refine hD.mono ?_
  rintro e w1 ⟨rfl, hb⟩
  have HB1 : Hid (Below w.heap.size w w1) := hb
  clear hb hD
  cases dg with
  | false =>
    go_wp2_with fail
    go_ret2
    exact ⟨rfl, HB1.out⟩
  | true =>
    go_wp2_with fail
    refine (HG.out _ HB1.out).mono ?_
    rintro e w2 ⟨rfl, hb⟩
    have HB2 : Hid (Below w.heap.size w w2) := HB1.out.trans (hb.mono HB1.out.size)
    clear hb HG HB1
    cases gd with
    | false =>
      go_wp2_with fail
      go_ret2
      exact ⟨rfl, HB2.out⟩
    | true =>
      go_wp2_with fail
      refine (HA.out (by first | rfl | trivial) _).mono ?_
      rintro e w3 ⟨x, rfl, hb⟩
      have HB3 : Hid (Below w.heap.size w w3) := HB2.out.trans (hb.mono HB2.out.size)
      clear hb HA HB2
      go_wp2_with fail
      refine (HM.out _).mono ?_
      rintro e w4 ⟨rfl, hb⟩
      have HB4 : Hid (Below w.heap.size w w4) := HB3.out.trans (hb.mono HB3.out.size)
      clear hb HM HB3
      cases mt with
      | false =>
        go_wp2_with fail
        go_ret2
        exact ⟨rfl, HB4.out⟩
      | true =>
        go_wp2_with fail
        go_ret2
        exact ⟨rfl, HB4.out⟩

theorem pmeter_any (s : ByteArray) (w : World) (ht : MTab w) : Calls Tryz.prog 14 #[.string s] w fun e w' => MeterPost w s.data.toList e w' := by
  have hl : s.data.toList.length = s.size := Array.length_toList
  by_cases h : s.size = 11
  · have e10 : (s.extract 0 10).data.toList = s.data.toList.take 10 := by simp [ByteArray.data_extract]
    have hdt : allD s.data.toList = true → allD (s.data.toList.take 10) = true := fun hd => List.all_eq_true.2 fun c hc => List.all_eq_true.1 hd c (List.mem_of_mem_take hc)
    have hv : ((if allD s.data.toList = true then dv (s.data.toList.take 10) else 0 : Nat) : Int) ≤ 9999999999 := by
      split
      · rename_i hd
        have := token.dv_lt _ (hdt hd)
        have h10 : (s.data.toList.take 10).length = 10 := by rw [List.length_take]; omega
        rw [h10] at this
        omega
      · omega
    refine (meter_abs s (allD s.data.toList) (goodR s.data.toList) (decide (0 ≤ ((if allD s.data.toList = true then dv (s.data.toList.take 10) else 0 : Nat) : Int) ∧ ((if allD s.data.toList = true then dv (s.data.toList.take 10) else 0 : Nat) : Int) ≤ 49)) ((if allD s.data.toList = true then dv (s.data.toList.take 10) else 0 : Nat) : Int) w h ⟨by omega, hv⟩ (rca.allDigits_any s w) (fun w' hb => good_any s w' (ht.below hb)) (fun hd w' => ?_) (fun w' => rci.isMeter_any _ w')).mono ?_
    · rw [if_pos hd]
      refine atoi_ok _ _ w' (by rw [ByteArray.size_extract]; omega) ?_
      rw [e10]
      refine atoi_digits (hdt hd) ?_ ?_
      · intro h0
        have h2 : (s.data.toList.take 10).length = 10 := by rw [List.length_take]; omega
        rw [h0] at h2
        exact absurd h2 (by decide)
      · rw [List.length_take]; omega
    · rintro e w' ⟨rfl, hb⟩
      have hf := flaw_11 (l := s.data.toList) (by omega)
      cases hd : allD s.data.toList with
      | false =>
        rw [hd] at hf
        exact ⟨0, 7, rfl, .inr (.inl ⟨by omega, by rw [hf]; decide, rfl, by rw [hf]; rfl⟩), hb⟩
      | true =>
        rw [hd] at hf
        have hf0 : flawR s.data.toList = 0 := hf
        cases hg : goodR s.data.toList with
        | false => exact ⟨0, 8, rfl, .inr (.inr (.inl ⟨by omega, hf0, hg, rfl, rfl⟩)), hb⟩
        | true =>
          by_cases hk : dv (s.data.toList.take 10) < 50
          · have hk' : decide (0 ≤ ((if true = true then dv (s.data.toList.take 10) else 0 : Nat) : Int) ∧ ((if true = true then dv (s.data.toList.take 10) else 0 : Nat) : Int) ≤ 49) = true := by rw [if_pos rfl]; exact decide_eq_true ⟨by omega, by omega⟩
            refine ⟨((dv (s.data.toList.take 10) : Nat) : Int), 0, ?_, .inr (.inr (.inr (.inr ⟨by omega, hf0, hg, _, named_of (by omega) hd hg hk, rfl, rfl⟩))), hb⟩
            rw [hk']
            rfl
          · have hk' : decide (0 ≤ ((if true = true then dv (s.data.toList.take 10) else 0 : Nat) : Int) ∧ ((if true = true then dv (s.data.toList.take 10) else 0 : Nat) : Int) ≤ 49) = false := by rw [if_pos rfl]; exact decide_eq_false (by omega)
            refine ⟨0, 18, ?_, .inr (.inr (.inr (.inl ⟨by omega, hf0, hg, fun k hn => hk (by rw [named_val hn]; exact hn.1), rfl, rfl⟩))), hb⟩
            rw [hk']
            rfl
  · refine (meter_len s w h).mono ?_
    rintro e w' ⟨rfl, hb⟩
    exact ⟨0, 6, rfl, .inl ⟨by omega, rfl, rfl⟩, hb⟩
theorem kmeter {w : World} (ht : MTab w) : KrMeter w := fun W s hb => pmeter_any s W (ht.below hb)

end Go.Proofs.YtlicdeppfhmfjabGreatDoor.rcp

/- The receipt that a text is of, if it is of any: guessed. -/
namespace Go.Proofs.YtlicdeppfhmfjabGreatDoor.rcg
open Go.Proofs.YtlicdeppfhmfjabGreatDoor.rcp (found gs atoiV MeterIs MeterPost pmeter_any atoiV_bounds readR_bd nMETER nNUMBER nTENDER nDEBT nFEE nPRICE nCHANGE nUNITS nTOKEN)
open Go.Proofs.YtlicdeppfhmfjabGreatDoor.cents (readR)
open Go.RowKit
set_option maxRecDepth 100000
set_option linter.unusedVariables false
set_option linter.unusedSimpArgs false

theorem fld (T : ByteArray) (w : World) : (Instr.field 40 (.agg #[.string T]) 0).run Tryz.prog w = .ok (.string T) w := by kernel_rfl
theorem Fd.upd {w W : World} {g b c : Nat} {F : List UInt8 → List UInt8} {cs : Array Value} {ty : TypeId} (h : Fd w b c F) (hu : Upd w W g cs ty) (hne : b ≠ g) : Fd W b c F := by
  obtain ⟨D, ⟨es, k, h1, h2, h3, h4⟩, h5, h6⟩ := h
  exact ⟨D, ⟨es, k, (hu.oth b hne).trans h1, h2, h3, h4⟩, h5, h6⟩
set_option maxHeartbeats 1000000 in
theorem g1_any (gb b c : Nat) (F : List UInt8 → List UInt8) (nm : ByteArray) (w : World) (hx : Blk w gb #[.map (some b)] 35) (hF : Fd w b c F) (hn : nm.size ≤ 1000) (hl : (F nm.data.toList).length ≤ 400) :
    Calls Tryz.prog 10 #[.string nm, .pointer (some ⟨gb, 0, none⟩)] w fun e w' => e = .returned (.int .i64 ((readR (F nm.data.toList)).1)) ∧ Below w.heap.size w w' := by
  have hlk := hF.look nm hn
  have hfd := fld ⟨(F nm.data.toList).toArray⟩
  have c0 : w.cell? ⟨gb, 0, none⟩ = some (.map (some b)) := hx.cell 0
  have HC : Calls Tryz.prog 11 #[.string ⟨(F nm.data.toList).toArray⟩] w fun e w' => ∃ x, e = .returned (.tuple #[.int .i64 (readR (F nm.data.toList)).1, .int .i64 x]) ∧ Below w.heap.size w w' := by
    refine (cents.read_any ⟨(F nm.data.toList).toArray⟩ w).mono ?_
    rintro e w' ⟨rfl, hb⟩
    exact ⟨_, rfl, hb⟩
  clear hx hF hn hl
  generalize (⟨(F nm.data.toList).toArray⟩ : ByteArray) = T at *
  generalize (readR (F nm.data.toList)).1 = V at *
  go_enter Tryz.func10, Tryz.ntmps10
  go_wp2_with fail
  refine HC.mono ?_
  rintro e w1 ⟨x, rfl, hb⟩
  clear HC hlk c0
  go_wp2_with fail
  go_ret
  exact ⟨rfl, hb⟩
set_option maxHeartbeats 1000000 in
theorem g2_any (gb b c : Nat) (F : List UInt8 → List UInt8) (nm : ByteArray) (w : World) (hx : Blk w gb #[.map (some b)] 35) (hF : Fd w b c F) (hn : nm.size ≤ 1000) (hl : (F nm.data.toList).length ≤ 400) (he : Errs w) :
    Calls Tryz.prog 12 #[.string nm, .pointer (some ⟨gb, 0, none⟩)] w fun e w' => e = .returned (.int .i64 (atoiV (F nm.data.toList))) ∧ Below w.heap.size w w' := by
  have hlk := hF.look nm hn
  have hfd := fld ⟨(F nm.data.toList).toArray⟩
  have c0 : w.cell? ⟨gb, 0, none⟩ = some (.map (some b)) := hx.cell 0
  have HC : Calls Tryz.prog 13 #[.string ⟨(F nm.data.toList).toArray⟩] w fun e w' => ∃ x, e = .returned (.tuple #[.int .i64 (atoiV (F nm.data.toList)), x]) ∧ Below w.heap.size w w' :=
    atoi_any ⟨(F nm.data.toList).toArray⟩ w (by show (F nm.data.toList).length ≤ 1000; omega) he
  clear hx hF hn hl he
  generalize (⟨(F nm.data.toList).toArray⟩ : ByteArray) = T at *
  generalize atoiV (F nm.data.toList) = V at *
  go_enter Tryz.func12, Tryz.ntmps12
  go_wp2_with fail
  refine HC.mono ?_
  rintro e w1 ⟨x, rfl, hb⟩
  clear HC hlk c0
  go_wp2_with fail
  go_ret
  exact ⟨rfl, hb⟩
set_option maxHeartbeats 4000000 in
theorem guess_abs (s : ByteArray) (F : List UInt8 → List UInt8) (me : Int) (w : World) (TS RS MS : ByteArray) (v0 v1 v2 v3 v4 v5 v6 : Int)
    (hN : ∀ w', Below w.heap.size w w' → Calls Tryz.prog 9 #[.string s] w' fun e w'' => ∃ b c, e = .returned (.map (some b)) ∧ Fd w'' b c F ∧ w'.heap.size ≤ b ∧ Below w'.heap.size w' w'')
    (hT : TS = ⟨(F nTOKEN).toArray⟩) (hMS : MS = ⟨(F nMETER).toArray⟩)
    (hM : ∀ w', Below w.heap.size w w' → Calls Tryz.prog 14 #[.string MS] w' fun e w'' => ∃ x, e = .returned (.tuple #[.int .i64 me, .int .i64 x]) ∧ Below w'.heap.size w' w'')
    (h1 : ∀ (gb b c : Nat) (nm : ByteArray) (V : Int) w', Below w.heap.size w w' → Blk w' gb #[.map (some b)] 35 → Fd w' b c F → (nm, V) ∈ [((⟨#[84, 69, 78, 68, 69, 82]⟩ : ByteArray), v1), ((⟨#[68, 69, 66, 84]⟩ : ByteArray), v2), ((⟨#[70, 69, 69]⟩ : ByteArray), v3), ((⟨#[80, 82, 73, 67, 69]⟩ : ByteArray), v4), ((⟨#[67, 72, 65, 78, 71, 69]⟩ : ByteArray), v5)] → Calls Tryz.prog 10 #[.string nm, .pointer (some ⟨gb, 0, none⟩)] w' fun e w'' => e = .returned (.int .i64 V) ∧ Below w'.heap.size w' w'')
    (h2 : ∀ (gb b c : Nat) (nm : ByteArray) (V : Int) w', Below w.heap.size w w' → Blk w' gb #[.map (some b)] 35 → Fd w' b c F → (nm, V) ∈ [((⟨#[78, 85, 77, 66, 69, 82]⟩ : ByteArray), v0), ((⟨#[85, 78, 73, 84, 83]⟩ : ByteArray), v6)] → Calls Tryz.prog 12 #[.string nm, .pointer (some ⟨gb, 0, none⟩)] w' fun e w'' => e = .returned (.int .i64 V) ∧ Below w'.heap.size w' w'')
    (hR : ∀ w', Below w.heap.size w w' → Calls Tryz.prog 15 #[.string TS, .string ⟨#[32]⟩, .string ⟨#[]⟩] w' fun e w'' => e = .returned (.string RS) ∧ Below w'.heap.size w' w'') :
    Calls Tryz.prog 6 #[.string s] w fun e w' => e = .returned (.agg #[.int .i64 me, .int .i64 v0, .int .i64 v1, .int .i64 v2, .int .i64 v3, .int .i64 v4, .int .i64 v5, .int .i64 v6, .string RS]) ∧ Below w.heap.size w w' := by
  have HM : Hid (∀ w', Below w.heap.size w w' → Calls Tryz.prog 14 #[.string MS] w' fun e w'' => ∃ x, e = .returned (.tuple #[.int .i64 me, .int .i64 x]) ∧ Below w'.heap.size w' w'') := hM
  have H1 : Hid (∀ (gb b c : Nat) (nm : ByteArray) (V : Int) w', Below w.heap.size w w' → Blk w' gb #[.map (some b)] 35 → Fd w' b c F → (nm, V) ∈ [((⟨#[84, 69, 78, 68, 69, 82]⟩ : ByteArray), v1), ((⟨#[68, 69, 66, 84]⟩ : ByteArray), v2), ((⟨#[70, 69, 69]⟩ : ByteArray), v3), ((⟨#[80, 82, 73, 67, 69]⟩ : ByteArray), v4), ((⟨#[67, 72, 65, 78, 71, 69]⟩ : ByteArray), v5)] → Calls Tryz.prog 10 #[.string nm, .pointer (some ⟨gb, 0, none⟩)] w' fun e w'' => e = .returned (.int .i64 V) ∧ Below w'.heap.size w' w'') := h1
  have H2 : Hid (∀ (gb b c : Nat) (nm : ByteArray) (V : Int) w', Below w.heap.size w w' → Blk w' gb #[.map (some b)] 35 → Fd w' b c F → (nm, V) ∈ [((⟨#[78, 85, 77, 66, 69, 82]⟩ : ByteArray), v0), ((⟨#[85, 78, 73, 84, 83]⟩ : ByteArray), v6)] → Calls Tryz.prog 12 #[.string nm, .pointer (some ⟨gb, 0, none⟩)] w' fun e w'' => e = .returned (.int .i64 V) ∧ Below w'.heap.size w' w'') := h2
  have HR : Hid (∀ w', Below w.heap.size w w' → Calls Tryz.prog 15 #[.string TS, .string ⟨#[32]⟩, .string ⟨#[]⟩] w' fun e w'' => e = .returned (.string RS) ∧ Below w'.heap.size w' w'') := hR
  have HTE : Hid (TS = ⟨(F nTOKEN).toArray⟩) := hT
  have HME : Hid (MS = ⟨(F nMETER).toArray⟩) := hMS
  clear hM h1 h2 hR hT hMS
  have HZ0 : Hid (Blk (w.alloc (.cells #[.int .i64 0, .int .i64 0, .int .i64 0, .int .i64 0, .int .i64 0, .int .i64 0, .int .i64 0, .int .i64 0, .string ⟨#[]⟩] 25)) w.heap.size #[.int .i64 0, .int .i64 0, .int .i64 0, .int .i64 0, .int .i64 0, .int .i64 0, .int .i64 0, .int .i64 0, .string ⟨#[]⟩] 25) := Blk.new _ _ _
  have HB0 : Hid (Below w.heap.size w (w.alloc (.cells #[.int .i64 0, .int .i64 0, .int .i64 0, .int .i64 0, .int .i64 0, .int .i64 0, .int .i64 0, .int .i64 0, .string ⟨#[]⟩] 25))) := (Below.refl _ _).alloc (Nat.le_refl _) _
  have HN := hN _ HB0.out
  clear hN
  go_enter Tryz.func6, Tryz.ntmps6
  go_upto_region 1 with fail
  generalize w.alloc (.cells #[.int .i64 0, .int .i64 0, .int .i64 0, .int .i64 0, .int .i64 0, .int .i64 0, .int .i64 0, .int .i64 0, .string ⟨#[]⟩] 25) = W0 at *
  go_wp2_with fail
  refine HN.mono ?_
  rintro e W1 ⟨b, c, rfl, hf, hbge, hb⟩
  have HB1 : Hid (Below w.heap.size w W1) := bel_step HB0.out hb
  have HZ1 : Hid (Blk W1 w.heap.size #[.int .i64 0, .int .i64 0, .int .i64 0, .int .i64 0, .int .i64 0, .int .i64 0, .int .i64 0, .int .i64 0, .string ⟨#[]⟩] 25) := HZ0.out.next hb
  have HF1 : Hid (Fd W1 b c F) := hf
  have HNB : Hid (b ≠ w.heap.size) := by have := HZ0.out.lt; show _ ≠ _; omega
  have HNG : Hid (W1.heap.size ≠ w.heap.size) := by have := HZ1.out.lt; show _ ≠ _; omega
  clear HN hf hb HZ0 HB0 hbge
  have HX2 : Hid (Blk (W1.alloc (.cells #[.map (some b)] 35)) W1.heap.size #[.map (some b)] 35) := Blk.new _ _ _
  have HB2 : Hid (Below w.heap.size w (W1.alloc (.cells #[.map (some b)] 35))) := HB1.out.alloc HB1.out.size _
  have HZ2 : Hid (Blk (W1.alloc (.cells #[.map (some b)] 35)) w.heap.size #[.int .i64 0, .int .i64 0, .int .i64 0, .int .i64 0, .int .i64 0, .int .i64 0, .int .i64 0, .int .i64 0, .string ⟨#[]⟩] 25) := HZ1.out.alloc _
  have HF2 : Hid (Fd (W1.alloc (.cells #[.map (some b)] 35)) b c F) := HF1.out.next ((Below.refl _ _).alloc (Nat.le_refl _) _)
  clear HB1 HZ1 HF1
  go_upto_region 4 with fail
  generalize W1.alloc (.cells #[.map (some b)] 35) = W2 at *
  generalize W1.heap.size = gb at *
  have hlk : (Instr.lookup 35 (.map (some b)) (.string (⟨#[77, 69, 84, 69, 82]⟩ : ByteArray)) false).run Tryz.prog W2 = .ok (.agg #[.string MS]) W2 := by rw [HME.out]; exact HF2.out.look (⟨#[77, 69, 84, 69, 82]⟩ : ByteArray) (by decide)
  have c0 : W2.cell? ⟨gb, 0, none⟩ = some (.map (some b)) := HX2.out.cell 0
  have HMC := HM.out W2 HB2.out
  have hfd := fld MS
  go_wp2_with fail
  refine HMC.mono ?_
  rintro e W3 ⟨x, rfl, hb⟩
  have HB3 : Hid (Below w.heap.size w W3) := bel_step HB2.out hb
  have HZ3 : Hid (Blk W3 w.heap.size #[.int .i64 0, .int .i64 0, .int .i64 0, .int .i64 0, .int .i64 0, .int .i64 0, .int .i64 0, .int .i64 0, .string ⟨#[]⟩] 25) := HZ2.out.next hb
  have HF3 : Hid (Fd W3 b c F) := HF2.out.next hb
  have HX3 : Hid (Blk W3 gb #[.map (some b)] 35) := HX2.out.next hb
  clear HMC hb HB2 HZ2 HF2 HX2 hlk c0 HM HME hfd
  go_upto_region 5 with fail
  have HDR : Hid (Below W3.heap.size W3 W3.drew) := bel_drew (Below.refl _ _) 1
  refine wp_region_held_drew (S := fun v => Blk v gb #[.map (some b)] 35 ∧ Fd v b c F) (by kernel_rfl) ⟨HX3.out.next HDR.out, HF3.out.next HDR.out⟩ (fun hHeld => ?_)
  refine take_at 0 19 (.int .i64 me) _ rfl rfl (by kernel_rfl) (by kernel_rfl) (by kernel_rfl) (fun _ _ _ h => h) (Or.inl ⟨by rfl, fun v hv => by skip; clear hv; go_simp⟩) hHeld ?_
  simp only [Act.put, List.setIfInBounds_toArray, List.set_cons_zero, List.set_cons_succ]
  refine take_at 1 20 (.func (.func 12) #[] #[.pointer (some ⟨gb, 0, none⟩)]) _ rfl rfl (by kernel_rfl) (by kernel_rfl) (by kernel_rfl) (fun _ _ _ h => h) (Or.inl ⟨by rfl, fun v hv => by skip; clear hv; go_simp⟩) hHeld ?_
  simp only [Act.put, List.setIfInBounds_toArray, List.set_cons_zero, List.set_cons_succ]
  refine take_at 3 22 (.func (.func 10) #[] #[.pointer (some ⟨gb, 0, none⟩)]) _ rfl rfl (by kernel_rfl) (by kernel_rfl) (by kernel_rfl) (fun _ _ _ h => h) (Or.inl ⟨by rfl, fun v hv => by skip; clear hv; go_simp⟩) hHeld ?_
  simp only [Act.put, List.setIfInBounds_toArray, List.set_cons_zero, List.set_cons_succ]
  refine take_at 5 24 (.func (.func 10) #[] #[.pointer (some ⟨gb, 0, none⟩)]) _ rfl rfl (by kernel_rfl) (by kernel_rfl) (by kernel_rfl) (fun _ _ _ h => h) (Or.inl ⟨by rfl, fun v hv => by skip; clear hv; go_simp⟩) hHeld ?_
  simp only [Act.put, List.setIfInBounds_toArray, List.set_cons_zero, List.set_cons_succ]
  refine take_at 7 26 (.func (.func 10) #[] #[.pointer (some ⟨gb, 0, none⟩)]) _ rfl rfl (by kernel_rfl) (by kernel_rfl) (by kernel_rfl) (fun _ _ _ h => h) (Or.inl ⟨by rfl, fun v hv => by skip; clear hv; go_simp⟩) hHeld ?_
  simp only [Act.put, List.setIfInBounds_toArray, List.set_cons_zero, List.set_cons_succ]
  refine take_at 9 28 (.func (.func 10) #[] #[.pointer (some ⟨gb, 0, none⟩)]) _ rfl rfl (by kernel_rfl) (by kernel_rfl) (by kernel_rfl) (fun _ _ _ h => h) (Or.inl ⟨by rfl, fun v hv => by skip; clear hv; go_simp⟩) hHeld ?_
  simp only [Act.put, List.setIfInBounds_toArray, List.set_cons_zero, List.set_cons_succ]
  refine take_at 11 30 (.func (.func 10) #[] #[.pointer (some ⟨gb, 0, none⟩)]) _ rfl rfl (by kernel_rfl) (by kernel_rfl) (by kernel_rfl) (fun _ _ _ h => h) (Or.inl ⟨by rfl, fun v hv => by skip; clear hv; go_simp⟩) hHeld ?_
  simp only [Act.put, List.setIfInBounds_toArray, List.set_cons_zero, List.set_cons_succ]
  refine take_at 13 32 (.func (.func 12) #[] #[.pointer (some ⟨gb, 0, none⟩)]) _ rfl rfl (by kernel_rfl) (by kernel_rfl) (by kernel_rfl) (fun _ _ _ h => h) (Or.inl ⟨by rfl, fun v hv => by skip; clear hv; go_simp⟩) hHeld ?_
  simp only [Act.put, List.setIfInBounds_toArray, List.set_cons_zero, List.set_cons_succ]
  refine take_at 16 35 (.map (some b)) _ rfl rfl (by kernel_rfl) (by kernel_rfl) (by kernel_rfl) (fun _ _ _ h => h) (Or.inl ⟨by rfl, fun v hv => by have g0 := hv.1.cell 0; clear hv; go_simp⟩) hHeld ?_
  simp only [Act.put, List.setIfInBounds_toArray, List.set_cons_zero, List.set_cons_succ]
  refine take_at 17 36 (.agg #[.string TS]) _ rfl rfl (by kernel_rfl) (by kernel_rfl) (by kernel_rfl) (fun _ _ _ h => h) (Or.inl ⟨by rfl, fun v hv => by have g0 : (Instr.lookup 35 (.map (some b)) (.string (⟨#[84, 79, 75, 69, 78]⟩ : ByteArray)) false).run Tryz.prog v = .ok (.agg #[.string TS]) v := (by rw [HTE.out]; exact hv.2.look (⟨#[84, 79, 75, 69, 78]⟩ : ByteArray) (by decide)); clear hv; go_simp⟩) hHeld ?_
  simp only [Act.put, List.setIfInBounds_toArray, List.set_cons_zero, List.set_cons_succ]
  refine take_at 18 37 (.string TS) _ rfl rfl (by kernel_rfl) (by kernel_rfl) (by kernel_rfl) (fun _ _ _ h => h) (Or.inl ⟨by rfl, fun v hv => by have g1 := fld TS v; clear hv; go_simp⟩) hHeld ?_
  simp only [Act.put, List.setIfInBounds_toArray, List.set_cons_zero, List.set_cons_succ]
  have HB4 : Hid (Below w.heap.size w W3.drew) := bel_drew HB3.out 1
  have HH4 : Hid (Below W3.heap.size W3 W3.drew) := HDR.out
  clear HDR
  generalize W3.drew = U0 at *
  refine wpAnyH_ready (rs := [2]) (by kernel_rfl) (by simp) (AllReadyH.cons rfl (fun K hK => ?_) AllReadyH.nil)
  rw [if_pos (by rfl)]
  refine wp_callOp 21 rfl (by clear hK; go_simp) (H2.out gb b c (⟨#[78, 85, 77, 66, 69, 82]⟩ : ByteArray) v0 U0 HB4.out (HX3.out.next HH4.out) (HF3.out.next HH4.out) (by simp)) ?_
  rintro e U1 ⟨rfl, hb⟩
  have HB5 : Hid (Below w.heap.size w U1) := bel_step HB4.out hb
  have HH5 : Hid (Below W3.heap.size W3 U1) := bel_step HH4.out hb
  refine ⟨_, rfl, hK.out _ _ ⟨HX3.out.next HH5.out, HF3.out.next HH5.out⟩ (fun hHeld => ?_)⟩
  clear hK hb HB4 HH4
  simp only [Act.put, List.setIfInBounds_toArray, List.set_cons_zero, List.set_cons_succ]
  refine wpAnyH_ready (rs := [4]) (by kernel_rfl) (by simp) (AllReadyH.cons rfl (fun K hK => ?_) AllReadyH.nil)
  rw [if_pos (by rfl)]
  refine wp_callOp 23 rfl (by clear hK; go_simp) (H1.out gb b c (⟨#[84, 69, 78, 68, 69, 82]⟩ : ByteArray) v1 U1 HB5.out (HX3.out.next HH5.out) (HF3.out.next HH5.out) (by simp)) ?_
  rintro e U2 ⟨rfl, hb⟩
  have HB6 : Hid (Below w.heap.size w U2) := bel_step HB5.out hb
  have HH6 : Hid (Below W3.heap.size W3 U2) := bel_step HH5.out hb
  refine ⟨_, rfl, hK.out _ _ ⟨HX3.out.next HH6.out, HF3.out.next HH6.out⟩ (fun hHeld => ?_)⟩
  clear hK hb HB5 HH5
  simp only [Act.put, List.setIfInBounds_toArray, List.set_cons_zero, List.set_cons_succ]
  refine wpAnyH_ready (rs := [6]) (by kernel_rfl) (by simp) (AllReadyH.cons rfl (fun K hK => ?_) AllReadyH.nil)
  rw [if_pos (by rfl)]
  refine wp_callOp 25 rfl (by clear hK; go_simp) (H1.out gb b c (⟨#[68, 69, 66, 84]⟩ : ByteArray) v2 U2 HB6.out (HX3.out.next HH6.out) (HF3.out.next HH6.out) (by simp)) ?_
  rintro e U3 ⟨rfl, hb⟩
  have HB7 : Hid (Below w.heap.size w U3) := bel_step HB6.out hb
  have HH7 : Hid (Below W3.heap.size W3 U3) := bel_step HH6.out hb
  refine ⟨_, rfl, hK.out _ _ ⟨HX3.out.next HH7.out, HF3.out.next HH7.out⟩ (fun hHeld => ?_)⟩
  clear hK hb HB6 HH6
  simp only [Act.put, List.setIfInBounds_toArray, List.set_cons_zero, List.set_cons_succ]
  refine wpAnyH_ready (rs := [8]) (by kernel_rfl) (by simp) (AllReadyH.cons rfl (fun K hK => ?_) AllReadyH.nil)
  rw [if_pos (by rfl)]
  refine wp_callOp 27 rfl (by clear hK; go_simp) (H1.out gb b c (⟨#[70, 69, 69]⟩ : ByteArray) v3 U3 HB7.out (HX3.out.next HH7.out) (HF3.out.next HH7.out) (by simp)) ?_
  rintro e U4 ⟨rfl, hb⟩
  have HB8 : Hid (Below w.heap.size w U4) := bel_step HB7.out hb
  have HH8 : Hid (Below W3.heap.size W3 U4) := bel_step HH7.out hb
  refine ⟨_, rfl, hK.out _ _ ⟨HX3.out.next HH8.out, HF3.out.next HH8.out⟩ (fun hHeld => ?_)⟩
  clear hK hb HB7 HH7
  simp only [Act.put, List.setIfInBounds_toArray, List.set_cons_zero, List.set_cons_succ]
  refine wpAnyH_ready (rs := [10]) (by kernel_rfl) (by simp) (AllReadyH.cons rfl (fun K hK => ?_) AllReadyH.nil)
  rw [if_pos (by rfl)]
  refine wp_callOp 29 rfl (by clear hK; go_simp) (H1.out gb b c (⟨#[80, 82, 73, 67, 69]⟩ : ByteArray) v4 U4 HB8.out (HX3.out.next HH8.out) (HF3.out.next HH8.out) (by simp)) ?_
  rintro e U5 ⟨rfl, hb⟩
  have HB9 : Hid (Below w.heap.size w U5) := bel_step HB8.out hb
  have HH9 : Hid (Below W3.heap.size W3 U5) := bel_step HH8.out hb
  refine ⟨_, rfl, hK.out _ _ ⟨HX3.out.next HH9.out, HF3.out.next HH9.out⟩ (fun hHeld => ?_)⟩
  clear hK hb HB8 HH8
  simp only [Act.put, List.setIfInBounds_toArray, List.set_cons_zero, List.set_cons_succ]
  refine wpAnyH_ready (rs := [12]) (by kernel_rfl) (by simp) (AllReadyH.cons rfl (fun K hK => ?_) AllReadyH.nil)
  rw [if_pos (by rfl)]
  refine wp_callOp 31 rfl (by clear hK; go_simp) (H1.out gb b c (⟨#[67, 72, 65, 78, 71, 69]⟩ : ByteArray) v5 U5 HB9.out (HX3.out.next HH9.out) (HF3.out.next HH9.out) (by simp)) ?_
  rintro e U6 ⟨rfl, hb⟩
  have HB10 : Hid (Below w.heap.size w U6) := bel_step HB9.out hb
  have HH10 : Hid (Below W3.heap.size W3 U6) := bel_step HH9.out hb
  refine ⟨_, rfl, hK.out _ _ ⟨HX3.out.next HH10.out, HF3.out.next HH10.out⟩ (fun hHeld => ?_)⟩
  clear hK hb HB9 HH9
  simp only [Act.put, List.setIfInBounds_toArray, List.set_cons_zero, List.set_cons_succ]
  refine wpAnyH_ready (rs := [14]) (by kernel_rfl) (by simp) (AllReadyH.cons rfl (fun K hK => ?_) AllReadyH.nil)
  rw [if_pos (by rfl)]
  refine wp_callOp 33 rfl (by clear hK; go_simp) (H2.out gb b c (⟨#[85, 78, 73, 84, 83]⟩ : ByteArray) v6 U6 HB10.out (HX3.out.next HH10.out) (HF3.out.next HH10.out) (by simp)) ?_
  rintro e U7 ⟨rfl, hb⟩
  have HB11 : Hid (Below w.heap.size w U7) := bel_step HB10.out hb
  have HH11 : Hid (Below W3.heap.size W3 U7) := bel_step HH10.out hb
  refine ⟨_, rfl, hK.out _ _ ⟨HX3.out.next HH11.out, HF3.out.next HH11.out⟩ (fun hHeld => ?_)⟩
  clear hK hb HB10 HH10
  simp only [Act.put, List.setIfInBounds_toArray, List.set_cons_zero, List.set_cons_succ]
  refine take_at 15 34 (.agg #[.int .i64 v0, .int .i64 v1, .int .i64 v2, .int .i64 v3, .int .i64 v4, .int .i64 v5, .int .i64 v6]) _ rfl rfl (by kernel_rfl) (by kernel_rfl) (by kernel_rfl) (fun _ _ _ h => h) (Or.inl ⟨by rfl, fun v hv => by skip; clear hv; go_simp⟩) hHeld ?_
  simp only [Act.put, List.setIfInBounds_toArray, List.set_cons_zero, List.set_cons_succ]
  refine wpAnyH_ready (rs := [19]) (by kernel_rfl) (by simp) (AllReadyH.cons rfl (fun K hK => ?_) AllReadyH.nil)
  rw [if_pos (by rfl)]
  refine wp_callOp 38 rfl (by clear hK; go_simp) (HR.out U7 HB11.out) ?_
  rintro e U8 ⟨rfl, hb⟩
  have HB12 : Hid (Below w.heap.size w U8) := bel_step HB11.out hb
  have HH12 : Hid (Below W3.heap.size W3 U8) := bel_step HH11.out hb
  refine ⟨_, rfl, hK.out _ _ ⟨HX3.out.next HH12.out, HF3.out.next HH12.out⟩ (fun hHeld => ?_)⟩
  clear hK hb HB11 HH11
  simp only [Act.put, List.setIfInBounds_toArray, List.set_cons_zero, List.set_cons_succ]
  refine take_at 20 39 (.agg #[.int .i64 me, .int .i64 v0, .int .i64 v1, .int .i64 v2, .int .i64 v3, .int .i64 v4, .int .i64 v5, .int .i64 v6, .string RS]) _ rfl rfl (by kernel_rfl) (by kernel_rfl) (by kernel_rfl) (fun _ _ _ h => h) (Or.inl ⟨by rfl, fun v hv => by skip; clear hv; go_simp⟩) hHeld ?_
  simp only [Act.put, List.setIfInBounds_toArray, List.set_cons_zero, List.set_cons_succ]
  have HZ12 : Hid (Blk U8 w.heap.size #[.int .i64 0, .int .i64 0, .int .i64 0, .int .i64 0, .int .i64 0, .int .i64 0, .int .i64 0, .int .i64 0, .string ⟨#[]⟩] 25) := HZ3.out.next HH12.out
  refine wpAnyH_ready (rs := [21]) (by kernel_rfl) (by simp) (AllReadyH.cons rfl (fun K hK => ?_) AllReadyH.nil)
  rw [if_pos (by rfl)]
  refine wp_letOp 25 _ _ rfl w.heap.size rfl #[.int .i64 me, .int .i64 v0, .int .i64 v1, .int .i64 v2, .int .i64 v3, .int .i64 v4, .int .i64 v5, .int .i64 v6, .string RS] rfl (by kernel_rfl) (by simp [Value.oneCell']) #[.int .i64 0, .int .i64 0, .int .i64 0, .int .i64 0, .int .i64 0, .int .i64 0, .int .i64 0, .int .i64 0, .string ⟨#[]⟩] 25 HZ12.out rfl rfl ?_
  intro WF hUF
  have HBF : Hid (Below w.heap.size w WF) := hUF.bel _ _ (Nat.le_refl _) HB12.out
  refine hK.out _ _ ⟨hUF.keep (HX3.out.next HH12.out) HNG.out, (HF3.out.next HH12.out).upd hUF HNB.out⟩ (fun hHeld => ?_)
  clear hK
  refine wpAnyH_done (by kernel_rfl) ?_ _
  have R0 : Hid (WF.cell? ⟨w.heap.size, 0, none⟩ = some (.int .i64 me)) := hUF.blk.cell 0
  have R1 : Hid (WF.cell? ⟨w.heap.size, 1, none⟩ = some (.int .i64 v0)) := hUF.blk.cell 1
  have R2 : Hid (WF.cell? ⟨w.heap.size, 2, none⟩ = some (.int .i64 v1)) := hUF.blk.cell 2
  have R3 : Hid (WF.cell? ⟨w.heap.size, 3, none⟩ = some (.int .i64 v2)) := hUF.blk.cell 3
  have R4 : Hid (WF.cell? ⟨w.heap.size, 4, none⟩ = some (.int .i64 v3)) := hUF.blk.cell 4
  have R5 : Hid (WF.cell? ⟨w.heap.size, 5, none⟩ = some (.int .i64 v4)) := hUF.blk.cell 5
  have R6 : Hid (WF.cell? ⟨w.heap.size, 6, none⟩ = some (.int .i64 v5)) := hUF.blk.cell 6
  have R7 : Hid (WF.cell? ⟨w.heap.size, 7, none⟩ = some (.int .i64 v6)) := hUF.blk.cell 7
  have R8 : Hid (WF.cell? ⟨w.heap.size, 8, none⟩ = some (.string RS)) := hUF.blk.cell 8
  clear hUF hHeld HZ12
  go_wp2_with fail
  exact bodyPost_ret (v := .agg #[.int .i64 me, .int .i64 v0, .int .i64 v1, .int .i64 v2, .int .i64 v3, .int .i64 v4, .int .i64 v5, .int .i64 v6, .string RS]) (by simp [results, Tryz.results6, R0.out, R1.out, R2.out, R3.out, R4.out, R5.out, R6.out, R7.out, R8.out, go_sem]) rfl ⟨rfl, HBF.out⟩

end Go.Proofs.YtlicdeppfhmfjabGreatDoor.rcg

/- receipt.Check: what is asked of it. -/
namespace Go.Proofs.YtlicdeppfhmfjabGreatDoor.rcp
open Go.RowKit

def KrCheck (w0 : World) : Prop := ∀ (W : World) (r : Rc), Below w0.heap.size w0 W → wf8 r → Calls Tryz.prog 7 #[r.v] W fun e w' => FaultPost W r e w'

end Go.Proofs.YtlicdeppfhmfjabGreatDoor.rcp

/- What is wrong with a receipt, in the program. -/
namespace Go.Proofs.YtlicdeppfhmfjabGreatDoor.rcp
open Go.RowKit
set_option maxRecDepth 100000
set_option linter.unusedVariables false
set_option linter.unusedSimpArgs false

set_option maxHeartbeats 1000000 in
theorem units_any (c i a t : Int) (w : World) : Calls Tryz.prog 19 #[.agg #[.int .i64 c, .int .i64 i, .int .i64 a, .int .i64 t]] w fun e w' => e = .returned (.int .i64 (if c = 0 then a else 0)) ∧ Below w.heap.size w w' := by
  by_cases h : c = 0
  · subst h
    rw [if_pos rfl]
    go_enter Tryz.func19, Tryz.ntmps19
    go_wp2_with fail
    go_ret
    exact ⟨rfl, rci.bel1 _ _⟩
  · rw [if_neg h]
    have hq : (c == 0) = false := by simpa using h
    clear h
    go_enter Tryz.func19, Tryz.ntmps19
    go_wp2_with fail
    go_ret
    exact ⟨rfl, rci.bel1 _ _⟩
/-- What Check answers, over what Parse answers. -/
def chk (me id te de fe pr ch un c i a pe : Int) : Int :=
  if ¬ (0 ≤ me ∧ me ≤ 49) then 18 else if rci.okAll 0 100000000 [te, de, fe, pr, ch] = false then 2 else if ¬ (1 ≤ id ∧ id ≤ 1048575) then 2 else if ¬ (0 ≤ un ∧ un ≤ 2097151) then 2 else if te ≠ de + fe + pr + ch then 19 else if pe ≠ 0 then pe else if i ≠ id then 8 else if (if c = 0 then a else 0) ≠ un then 8 else 0
theorem five_bd {a b c d e : Int} (h : rci.okAll 0 100000000 [a, b, c, d, e] = true) : (0 ≤ a ∧ a ≤ 100000000) ∧ (0 ≤ b ∧ b ≤ 100000000) ∧ (0 ≤ c ∧ c ≤ 100000000) ∧ (0 ≤ d ∧ d ≤ 100000000) ∧ (0 ≤ e ∧ e ≤ 100000000) := by
  simpa [rci.okAll] using h
set_option maxHeartbeats 4000000 in
theorem check_abs (me id te de fe pr ch un c i a t pe : Int) (S : ByteArray) (w : World)
    (hP : ∀ w', Below w.heap.size w w' → Calls Tryz.prog 18 #[.string S] w' fun e w'' => e = .returned (.tuple #[.agg #[.int .i64 c, .int .i64 i, .int .i64 a, .int .i64 t], .int .i64 pe]) ∧ Below w'.heap.size w' w'') :
    Calls Tryz.prog 7 #[.agg #[.int .i64 me, .int .i64 id, .int .i64 te, .int .i64 de, .int .i64 fe, .int .i64 pr, .int .i64 ch, .int .i64 un, .string S]] w fun e w' => e = .returned (.int .i64 (chk me id te de fe pr ch un c i a pe)) ∧ Below w.heap.size w w' := by
  have HP : Hid (∀ w', Below w.heap.size w w' → Calls Tryz.prog 18 #[.string S] w' fun e w'' => e = .returned (.tuple #[.agg #[.int .i64 c, .int .i64 i, .int .i64 a, .int .i64 t], .int .i64 pe]) ∧ Below w'.heap.size w' w'') := hP
  clear hP
  have HX0 : Hid (Blk (w.alloc (.cells #[.int .i64 me, .int .i64 id, .int .i64 te, .int .i64 de, .int .i64 fe, .int .i64 pr, .int .i64 ch, .int .i64 un, .string S] 25)) w.heap.size #[.int .i64 me, .int .i64 id, .int .i64 te, .int .i64 de, .int .i64 fe, .int .i64 pr, .int .i64 ch, .int .i64 un, .string S] 25) := Blk.new _ _ _
  have HB0 : Hid (Below w.heap.size w (w.alloc (.cells #[.int .i64 me, .int .i64 id, .int .i64 te, .int .i64 de, .int .i64 fe, .int .i64 pr, .int .i64 ch, .int .i64 un, .string S] 25))) := (Below.refl _ _).alloc (Nat.le_refl _) _
  have hs0 : w.heap.size < (w.alloc (.cells #[.int .i64 me, .int .i64 id, .int .i64 te, .int .i64 de, .int .i64 fe, .int .i64 pr, .int .i64 ch, .int .i64 un, .string S] 25)).heap.size := HX0.out.lt
  generalize hWW : w.alloc (.cells #[.int .i64 me, .int .i64 id, .int .i64 te, .int .i64 de, .int .i64 fe, .int .i64 pr, .int .i64 ch, .int .i64 un, .string S] 25) = W0 at *
  have HWW : Hid (w.alloc (.cells #[.int .i64 me, .int .i64 id, .int .i64 te, .int .i64 de, .int .i64 fe, .int .i64 pr, .int .i64 ch, .int .i64 un, .string S] 25) = W0) := hWW
  clear hWW
  have HU : Hid (∀ W, Calls Tryz.prog 19 #[.agg #[.int .i64 c, .int .i64 i, .int .i64 a, .int .i64 t]] W fun e w' => e = .returned (.int .i64 (if c = 0 then a else 0)) ∧ Below W.heap.size W w') := fun W => units_any c i a t W
  generalize hun' : (if c = 0 then a else 0) = ut at HU
  have HUT : Hid ((if c = 0 then a else 0) = ut) := hun'
  clear hun'
  have xme : W0.cell? ⟨w.heap.size, 0, none⟩ = some (.int .i64 me) := HX0.out.cell 0
  have xid : W0.cell? ⟨w.heap.size, 1, none⟩ = some (.int .i64 id) := HX0.out.cell 1
  have xte : W0.cell? ⟨w.heap.size, 2, none⟩ = some (.int .i64 te) := HX0.out.cell 2
  have xde : W0.cell? ⟨w.heap.size, 3, none⟩ = some (.int .i64 de) := HX0.out.cell 3
  have xfe : W0.cell? ⟨w.heap.size, 4, none⟩ = some (.int .i64 fe) := HX0.out.cell 4
  have xpr : W0.cell? ⟨w.heap.size, 5, none⟩ = some (.int .i64 pr) := HX0.out.cell 5
  have xch : W0.cell? ⟨w.heap.size, 6, none⟩ = some (.int .i64 ch) := HX0.out.cell 6
  have xun : W0.cell? ⟨w.heap.size, 7, none⟩ = some (.int .i64 un) := HX0.out.cell 7
  go_enter Tryz.func7, Tryz.ntmps7
  go_upto_region 1 with fail
  rw [HWW.out]
  clear HWW
  have HBB : Hid (Blk (W0.alloc (.cells #[.int .i64 id, .int .i64 te, .int .i64 de, .int .i64 fe, .int .i64 pr, .int .i64 ch, .int .i64 un] 23)) W0.heap.size #[.int .i64 id, .int .i64 te, .int .i64 de, .int .i64 fe, .int .i64 pr, .int .i64 ch, .int .i64 un] 23) := Blk.new _ _ _
  have HX1 : Hid (Blk (W0.alloc (.cells #[.int .i64 id, .int .i64 te, .int .i64 de, .int .i64 fe, .int .i64 pr, .int .i64 ch, .int .i64 un] 23)) w.heap.size #[.int .i64 me, .int .i64 id, .int .i64 te, .int .i64 de, .int .i64 fe, .int .i64 pr, .int .i64 ch, .int .i64 un, .string S] 25) := HX0.out.alloc _
  have HB1 : Hid (Below w.heap.size w (W0.alloc (.cells #[.int .i64 id, .int .i64 te, .int .i64 de, .int .i64 fe, .int .i64 pr, .int .i64 ch, .int .i64 un] 23))) := HB0.out.alloc HB0.out.size _
  go_upto_region 2 with fail
  generalize W0.alloc (.cells #[.int .i64 id, .int .i64 te, .int .i64 de, .int .i64 fe, .int .i64 pr, .int .i64 ch, .int .i64 un] 23) = W1 at *
  generalize W0.heap.size = gb at *
  clear xme xid xte xde xfe xpr xch xun HX0 HB0
  have yme : W1.cell? ⟨w.heap.size, 0, none⟩ = some (.int .i64 me) := HX1.out.cell 0
  have HIM := rci.isMeter_any me W1
  by_cases hme : 0 ≤ me ∧ me ≤ 49
  case neg =>
    rw [decide_eq_false hme] at HIM
    have HR : Hid (chk me id te de fe pr ch un c i a pe = 18) := by show _ = _; unfold chk; rw [if_pos hme]
    go_wp2_with fail
    refine HIM.mono ?_
    rintro e W2 ⟨rfl, hb⟩
    have HB2 : Hid (Below w.heap.size w W2) := bel_step HB1.out hb
    clear hb HIM
    go_wp2_with fail
    go_ret
    exact ⟨by rw [HR.out]; rfl, HB2.out⟩
  rw [decide_eq_true hme] at HIM
  go_wp2_with fail
  refine HIM.mono ?_
  rintro e W2 ⟨rfl, hb⟩
  have HB2 : Hid (Below w.heap.size w W2) := bel_step HB1.out hb
  have HBB2 : Hid (Blk W2 gb #[.int .i64 id, .int .i64 te, .int .i64 de, .int .i64 fe, .int .i64 pr, .int .i64 ch, .int .i64 un] 23) := HBB.out.next hb
  have HX2 : Hid (Blk W2 w.heap.size #[.int .i64 me, .int .i64 id, .int .i64 te, .int .i64 de, .int .i64 fe, .int .i64 pr, .int .i64 ch, .int .i64 un, .string S] 25) := HX1.out.next hb
  clear hb HIM HB1 HBB HX1 yme
  have bid : W2.cell? ⟨gb, 0, none⟩ = some (.int .i64 id) := HBB2.out.cell 0
  have bte : W2.cell? ⟨gb, 1, none⟩ = some (.int .i64 te) := HBB2.out.cell 1
  have bde : W2.cell? ⟨gb, 2, none⟩ = some (.int .i64 de) := HBB2.out.cell 2
  have bfe : W2.cell? ⟨gb, 3, none⟩ = some (.int .i64 fe) := HBB2.out.cell 3
  have bpr : W2.cell? ⟨gb, 4, none⟩ = some (.int .i64 pr) := HBB2.out.cell 4
  have bch : W2.cell? ⟨gb, 5, none⟩ = some (.int .i64 ch) := HBB2.out.cell 5
  have bun : W2.cell? ⟨gb, 6, none⟩ = some (.int .i64 un) := HBB2.out.cell 6
  have HW2 : Hid (Calls Tryz.prog 17 #[.int .i64 0, .int .i64 100000000, .slice (some ⟨W2.heap.size, 0, none⟩) 5 5] (W2.alloc (.cells #[.int .i64 te, .int .i64 de, .int .i64 fe, .int .i64 pr, .int .i64 ch] 3)) fun e w' => e = .returned (.bool (rci.okAll 0 100000000 [te, de, fe, pr, ch])) ∧ w' = W2.alloc (.cells #[.int .i64 te, .int .i64 de, .int .i64 fe, .int .i64 pr, .int .i64 ch] 3)) := rci.within_any 0 100000000 _ 5 5 [te, de, fe, pr, ch] _ (rci.row_five W2 te de fe pr ch 3) (by decide)
  have HB3 : Hid (Below w.heap.size w (W2.alloc (.cells #[.int .i64 te, .int .i64 de, .int .i64 fe, .int .i64 pr, .int .i64 ch] 3))) := HB2.out.alloc HB2.out.size _
  have HBB3 : Hid (Blk (W2.alloc (.cells #[.int .i64 te, .int .i64 de, .int .i64 fe, .int .i64 pr, .int .i64 ch] 3)) gb #[.int .i64 id, .int .i64 te, .int .i64 de, .int .i64 fe, .int .i64 pr, .int .i64 ch, .int .i64 un] 23) := HBB2.out.alloc _
  have HX3 : Hid (Blk (W2.alloc (.cells #[.int .i64 te, .int .i64 de, .int .i64 fe, .int .i64 pr, .int .i64 ch] 3)) w.heap.size #[.int .i64 me, .int .i64 id, .int .i64 te, .int .i64 de, .int .i64 fe, .int .i64 pr, .int .i64 ch, .int .i64 un, .string S] 25) := HX2.out.alloc _
  by_cases h5 : rci.okAll 0 100000000 [te, de, fe, pr, ch] = true
  case neg =>
    rw [show rci.okAll 0 100000000 [te, de, fe, pr, ch] = false by simpa using h5] at HW2
    have HR : Hid (chk me id te de fe pr ch un c i a pe = 2) := by show _ = _; unfold chk; rw [if_neg (not_not_intro hme), if_pos (by simpa using h5)]
    go_wp2_with fail
    refine HW2.out.mono ?_
    rintro e W ⟨rfl, hw⟩
    subst hw
    clear HW2
    go_wp2_with fail
    go_ret
    exact ⟨by rw [HR.out]; rfl, HB3.out⟩
  rw [h5] at HW2
  go_wp2_with fail
  refine HW2.out.mono ?_
  rintro e W ⟨rfl, hw⟩
  subst hw
  clear HW2 HB2 HBB2 HX2 bid bte bde bfe bpr bch bun
  generalize W2.alloc (.cells #[.int .i64 te, .int .i64 de, .int .i64 fe, .int .i64 pr, .int .i64 ch] 3) = W3 at *
  have bid : W3.cell? ⟨gb, 0, none⟩ = some (.int .i64 id) := HBB3.out.cell 0
  have bte : W3.cell? ⟨gb, 1, none⟩ = some (.int .i64 te) := HBB3.out.cell 1
  have bde : W3.cell? ⟨gb, 2, none⟩ = some (.int .i64 de) := HBB3.out.cell 2
  have bfe : W3.cell? ⟨gb, 3, none⟩ = some (.int .i64 fe) := HBB3.out.cell 3
  have bpr : W3.cell? ⟨gb, 4, none⟩ = some (.int .i64 pr) := HBB3.out.cell 4
  have bch : W3.cell? ⟨gb, 5, none⟩ = some (.int .i64 ch) := HBB3.out.cell 5
  have bun : W3.cell? ⟨gb, 6, none⟩ = some (.int .i64 un) := HBB3.out.cell 6
  have HW3 : Hid (Calls Tryz.prog 17 #[.int .i64 1, .int .i64 1048575, .slice (some ⟨W3.heap.size, 0, none⟩) 1 1] (W3.alloc (.cells #[.int .i64 id] 3)) fun e w' => e = .returned (.bool (decide (1 ≤ id ∧ id ≤ 1048575))) ∧ w' = W3.alloc (.cells #[.int .i64 id] 3)) := rci.within_one 1 1048575 id W3 _ rfl
  have HB4 : Hid (Below w.heap.size w (W3.alloc (.cells #[.int .i64 id] 3))) := HB3.out.alloc HB3.out.size _
  have HBB4 : Hid (Blk (W3.alloc (.cells #[.int .i64 id] 3)) gb #[.int .i64 id, .int .i64 te, .int .i64 de, .int .i64 fe, .int .i64 pr, .int .i64 ch, .int .i64 un] 23) := HBB3.out.alloc _
  have HX4 : Hid (Blk (W3.alloc (.cells #[.int .i64 id] 3)) w.heap.size #[.int .i64 me, .int .i64 id, .int .i64 te, .int .i64 de, .int .i64 fe, .int .i64 pr, .int .i64 ch, .int .i64 un, .string S] 25) := HX3.out.alloc _
  by_cases hid : 1 ≤ id ∧ id ≤ 1048575
  case neg =>
    rw [decide_eq_false hid] at HW3
    have HR : Hid (chk me id te de fe pr ch un c i a pe = 2) := by show _ = _; unfold chk; rw [if_neg (not_not_intro hme), if_neg (by rw [h5]; decide), if_pos hid]
    go_wp2_with fail
    refine HW3.out.mono ?_
    rintro e W ⟨rfl, hw⟩
    subst hw
    clear HW3
    go_wp2_with fail
    go_ret
    exact ⟨by rw [HR.out]; rfl, HB4.out⟩
  rw [decide_eq_true hid] at HW3
  go_wp2_with fail
  refine HW3.out.mono ?_
  rintro e W ⟨rfl, hw⟩
  subst hw
  clear HW3 HB3 HBB3 HX3 bid bte bde bfe bpr bch bun
  generalize W3.alloc (.cells #[.int .i64 id] 3) = W4 at *
  have bid : W4.cell? ⟨gb, 0, none⟩ = some (.int .i64 id) := HBB4.out.cell 0
  have bte : W4.cell? ⟨gb, 1, none⟩ = some (.int .i64 te) := HBB4.out.cell 1
  have bde : W4.cell? ⟨gb, 2, none⟩ = some (.int .i64 de) := HBB4.out.cell 2
  have bfe : W4.cell? ⟨gb, 3, none⟩ = some (.int .i64 fe) := HBB4.out.cell 3
  have bpr : W4.cell? ⟨gb, 4, none⟩ = some (.int .i64 pr) := HBB4.out.cell 4
  have bch : W4.cell? ⟨gb, 5, none⟩ = some (.int .i64 ch) := HBB4.out.cell 5
  have bun : W4.cell? ⟨gb, 6, none⟩ = some (.int .i64 un) := HBB4.out.cell 6
  have HW4 : Hid (Calls Tryz.prog 17 #[.int .i64 0, .int .i64 2097151, .slice (some ⟨W4.heap.size, 0, none⟩) 1 1] (W4.alloc (.cells #[.int .i64 un] 3)) fun e w' => e = .returned (.bool (decide (0 ≤ un ∧ un ≤ 2097151))) ∧ w' = W4.alloc (.cells #[.int .i64 un] 3)) := rci.within_one 0 2097151 un W4 _ rfl
  have HB5 : Hid (Below w.heap.size w (W4.alloc (.cells #[.int .i64 un] 3))) := HB4.out.alloc HB4.out.size _
  have HBB5 : Hid (Blk (W4.alloc (.cells #[.int .i64 un] 3)) gb #[.int .i64 id, .int .i64 te, .int .i64 de, .int .i64 fe, .int .i64 pr, .int .i64 ch, .int .i64 un] 23) := HBB4.out.alloc _
  have HX5 : Hid (Blk (W4.alloc (.cells #[.int .i64 un] 3)) w.heap.size #[.int .i64 me, .int .i64 id, .int .i64 te, .int .i64 de, .int .i64 fe, .int .i64 pr, .int .i64 ch, .int .i64 un, .string S] 25) := HX4.out.alloc _
  by_cases hun : 0 ≤ un ∧ un ≤ 2097151
  case neg =>
    rw [decide_eq_false hun] at HW4
    have HR : Hid (chk me id te de fe pr ch un c i a pe = 2) := by show _ = _; unfold chk; rw [if_neg (not_not_intro hme), if_neg (by rw [h5]; decide), if_neg (not_not_intro hid), if_pos hun]
    go_wp2_with fail
    refine HW4.out.mono ?_
    rintro e W ⟨rfl, hw⟩
    subst hw
    clear HW4
    go_wp2_with fail
    go_ret
    exact ⟨by rw [HR.out]; rfl, HB5.out⟩
  rw [decide_eq_true hun] at HW4
  go_wp2_with fail
  refine HW4.out.mono ?_
  rintro e W ⟨rfl, hw⟩
  subst hw
  clear HW4 HB4 HBB4 HX4 bid bte bde bfe bpr bch bun
  generalize W4.alloc (.cells #[.int .i64 un] 3) = W5 at *
  have bid : W5.cell? ⟨gb, 0, none⟩ = some (.int .i64 id) := HBB5.out.cell 0
  have bte : W5.cell? ⟨gb, 1, none⟩ = some (.int .i64 te) := HBB5.out.cell 1
  have bde : W5.cell? ⟨gb, 2, none⟩ = some (.int .i64 de) := HBB5.out.cell 2
  have bfe : W5.cell? ⟨gb, 3, none⟩ = some (.int .i64 fe) := HBB5.out.cell 3
  have bpr : W5.cell? ⟨gb, 4, none⟩ = some (.int .i64 pr) := HBB5.out.cell 4
  have bch : W5.cell? ⟨gb, 5, none⟩ = some (.int .i64 ch) := HBB5.out.cell 5
  have bun : W5.cell? ⟨gb, 6, none⟩ = some (.int .i64 un) := HBB5.out.cell 6
  obtain ⟨⟨te0, te1⟩, ⟨de0, de1⟩, ⟨fe0, fe1⟩, ⟨pr0, pr1⟩, ⟨ch0, ch1⟩⟩ := five_bd h5
  have q1 : IntKind.i64.wrap (de + fe) = de + fe := by rw [IntKind.wrap_i64]; omega
  have q2 : IntKind.i64.wrap (de + fe + pr) = de + fe + pr := by rw [IntKind.wrap_i64]; omega
  have q3 : IntKind.i64.wrap (de + fe + pr + ch) = de + fe + pr + ch := by rw [IntKind.wrap_i64]; omega
  by_cases hsum : te = de + fe + pr + ch
  case neg =>
    have hq : (te != de + fe + pr + ch) = true := by simpa using hsum
    have HR : Hid (chk me id te de fe pr ch un c i a pe = 19) := by show _ = _; unfold chk; rw [if_neg (not_not_intro hme), if_neg (by rw [h5]; decide), if_neg (not_not_intro hid), if_neg (not_not_intro hun), if_pos hsum]
    clear hsum
    go_wp2_with fail
    go_ret
    exact ⟨by rw [HR.out]; rfl, HB5.out⟩
  have hq : (te != de + fe + pr + ch) = false := by simpa using hsum
  have ytk : W5.cell? ⟨w.heap.size, 8, none⟩ = some (.string S) := HX5.out.cell 8
  have HP5 := HP.out W5 HB5.out
  have HHE : Hid (te = de + fe + pr + ch) := hsum
  clear hsum HP
  go_upto_region 10 with fail
  go_wp2_with fail
  refine HP5.mono ?_
  rintro e W6 ⟨rfl, hb⟩
  have HB6 : Hid (Below w.heap.size w W6) := bel_step HB5.out hb
  have HBB6 : Hid (Blk W6 gb #[.int .i64 id, .int .i64 te, .int .i64 de, .int .i64 fe, .int .i64 pr, .int .i64 ch, .int .i64 un] 23) := HBB5.out.next hb
  clear hb HP5 HB5 HBB5 HX5 ytk bid bte bde bfe bpr bch bun q1 q2 q3
  have HT7 : Hid (Blk (W6.alloc (.cells #[.int .i64 c, .int .i64 i, .int .i64 a, .int .i64 t] 50)) W6.heap.size #[.int .i64 c, .int .i64 i, .int .i64 a, .int .i64 t] 50) := Blk.new _ _ _
  have HBB7 : Hid (Blk (W6.alloc (.cells #[.int .i64 c, .int .i64 i, .int .i64 a, .int .i64 t] 50)) gb #[.int .i64 id, .int .i64 te, .int .i64 de, .int .i64 fe, .int .i64 pr, .int .i64 ch, .int .i64 un] 23) := HBB6.out.alloc _
  have HB7 : Hid (Below w.heap.size w (W6.alloc (.cells #[.int .i64 c, .int .i64 i, .int .i64 a, .int .i64 t] 50))) := HB6.out.alloc HB6.out.size _
  go_upto_region 11 with fail
  generalize W6.alloc (.cells #[.int .i64 c, .int .i64 i, .int .i64 a, .int .i64 t] 50) = W7 at *
  generalize W6.heap.size = gt at *
  clear HB6 HBB6
  by_cases hpe : pe = 0
  case neg =>
    have hq2 : (pe != 0) = true := by simpa using hpe
    have HR : Hid (chk me id te de fe pr ch un c i a pe = pe) := by show _ = _; unfold chk; rw [if_neg (not_not_intro hme), if_neg (by rw [h5]; decide), if_neg (not_not_intro hid), if_neg (not_not_intro hun), if_neg (not_not_intro HHE.out), if_pos hpe]
    clear hpe
    go_wp2_with fail
    go_ret
    exact ⟨by rw [HR.out]; rfl, HB7.out⟩
  have hq2 : (pe != 0) = false := by simpa using hpe
  have HPE : Hid (pe = 0) := hpe
  clear hpe
  go_upto_region 13 with fail
  have lt0 : gt < W7.heap.size := HT7.out.lt
  have lb0 : gb < W7.heap.size := HBB7.out.lt
  have u0 : W7.cell? ⟨gt, 0, none⟩ = some (.int .i64 c) := HT7.out.cell 0
  have u1 : W7.cell? ⟨gt, 1, none⟩ = some (.int .i64 i) := HT7.out.cell 1
  have u2 : W7.cell? ⟨gt, 2, none⟩ = some (.int .i64 a) := HT7.out.cell 2
  have u3 : W7.cell? ⟨gt, 3, none⟩ = some (.int .i64 t) := HT7.out.cell 3
  have v0 : W7.cell? ⟨gb, 0, none⟩ = some (.int .i64 id) := HBB7.out.cell 0
  have v6 : W7.cell? ⟨gb, 6, none⟩ = some (.int .i64 un) := HBB7.out.cell 6
  have HDR : Hid (Below W7.heap.size W7 W7.drew) := bel_drew (Below.refl _ _) 1
  by_cases hi : i = id
  case neg =>
    have hq3 : (i != id) = true := by simpa using hi
    have HR : Hid (chk me id te de fe pr ch un c i a pe = 8) := by show _ = _; unfold chk; rw [if_neg (not_not_intro hme), if_neg (by rw [h5]; decide), if_neg (not_not_intro hid), if_neg (not_not_intro hun), if_neg (not_not_intro HHE.out), if_neg (not_not_intro HPE.out), if_pos hi]
    clear hi
    refine wp_region_held_drew (S := fun v => Below W7.heap.size W7 v) (by kernel_rfl) HDR.out (fun hHeld => ?_)
    refine take_at 0 61 (.pointer (some ⟨gt, 1, none⟩)) _ rfl rfl (by kernel_rfl) (by kernel_rfl) (by kernel_rfl) (fun _ _ _ h => h) (Or.inl ⟨by rfl, fun v hv => by skip; clear hv; go_simp⟩) hHeld ?_
    simp only [Act.put, List.setIfInBounds_toArray, List.set_cons_zero, List.set_cons_succ]
    refine take_at 1 62 (.int .i64 i) _ rfl rfl (by kernel_rfl) (by kernel_rfl) (by kernel_rfl) (fun _ _ _ h => h) (Or.inl ⟨by rfl, fun v hv => by have g1 := (hv.cell (p := ⟨gt, 1, none⟩) lt0).trans u1; clear hv; go_simp⟩) hHeld ?_
    simp only [Act.put, List.setIfInBounds_toArray, List.set_cons_zero, List.set_cons_succ]
    refine take_at 2 63 (.pointer (some ⟨gb, 0, none⟩)) _ rfl rfl (by kernel_rfl) (by kernel_rfl) (by kernel_rfl) (fun _ _ _ h => h) (Or.inl ⟨by rfl, fun v hv => by skip; clear hv; go_simp⟩) hHeld ?_
    simp only [Act.put, List.setIfInBounds_toArray, List.set_cons_zero, List.set_cons_succ]
    refine take_at 3 64 (.int .i64 id) _ rfl rfl (by kernel_rfl) (by kernel_rfl) (by kernel_rfl) (fun _ _ _ h => h) (Or.inl ⟨by rfl, fun v hv => by have g0 := (hv.cell (p := ⟨gb, 0, none⟩) lb0).trans v0; clear hv; go_simp⟩) hHeld ?_
    simp only [Act.put, List.setIfInBounds_toArray, List.set_cons_zero, List.set_cons_succ]
    refine take_at 4 65 (.bool true) _ rfl rfl (by kernel_rfl) (by kernel_rfl) (by kernel_rfl) (fun _ _ _ h => h) (Or.inl ⟨by rfl, fun v hv => by skip; clear hv; go_simp⟩) hHeld ?_
    simp only [Act.put, List.setIfInBounds_toArray, List.set_cons_zero, List.set_cons_succ]
    refine take_at 5 66 (.bool true) _ rfl rfl (by kernel_rfl) (by kernel_rfl) (by kernel_rfl) (fun _ _ _ h => h) (Or.inl ⟨by rfl, fun v hv => by skip; clear hv; go_simp⟩) hHeld ?_
    simp only [Act.put, List.setIfInBounds_toArray, List.set_cons_zero, List.set_cons_succ]
    refine take_at 6 67 undef _ rfl rfl (by kernel_rfl) (by kernel_rfl) (by kernel_rfl) (fun _ _ _ h => h) (Or.inr ⟨by rfl, rfl⟩) hHeld ?_
    simp only [Act.put, List.setIfInBounds_toArray, List.set_cons_zero, List.set_cons_succ]
    refine take_at 7 68 undef _ rfl rfl (by kernel_rfl) (by kernel_rfl) (by kernel_rfl) (fun _ _ _ h => h) (Or.inr ⟨by rfl, rfl⟩) hHeld ?_
    simp only [Act.put, List.setIfInBounds_toArray, List.set_cons_zero, List.set_cons_succ]
    refine take_at 8 69 undef _ rfl rfl (by kernel_rfl) (by kernel_rfl) (by kernel_rfl) (fun _ _ _ h => h) (Or.inr ⟨by rfl, rfl⟩) hHeld ?_
    simp only [Act.put, List.setIfInBounds_toArray, List.set_cons_zero, List.set_cons_succ]
    refine take_at 9 70 undef _ rfl rfl (by kernel_rfl) (by kernel_rfl) (by kernel_rfl) (fun _ _ _ h => h) (Or.inr ⟨by rfl, rfl⟩) hHeld ?_
    simp only [Act.put, List.setIfInBounds_toArray, List.set_cons_zero, List.set_cons_succ]
    refine take_at 10 71 undef _ rfl rfl (by kernel_rfl) (by kernel_rfl) (by kernel_rfl) (fun _ _ _ h => h) (Or.inr ⟨by rfl, rfl⟩) hHeld ?_
    simp only [Act.put, List.setIfInBounds_toArray, List.set_cons_zero, List.set_cons_succ]
    refine take_at 11 72 (.bool true) _ rfl rfl (by kernel_rfl) (by kernel_rfl) (by kernel_rfl) (fun _ _ _ h => h) (Or.inl ⟨by rfl, fun v hv => by skip; clear hv; go_simp⟩) hHeld ?_
    simp only [Act.put, List.setIfInBounds_toArray, List.set_cons_zero, List.set_cons_succ]
    refine wpAnyH_done (by kernel_rfl) ?_ _
    have HB8 : Hid (Below w.heap.size w W7.drew) := bel_drew HB7.out 1
    clear hHeld
    go_wp2_with fail
    go_ret
    exact ⟨by rw [HR.out]; rfl, HB8.out⟩
  have hq3 : (i != id) = false := by simpa using hi
  have HII : Hid (i = id) := hi
  clear hi
  refine wp_region_held_drew (S := fun v => Below W7.heap.size W7 v) (by kernel_rfl) HDR.out (fun hHeld => ?_)
  refine take_at 0 61 (.pointer (some ⟨gt, 1, none⟩)) _ rfl rfl (by kernel_rfl) (by kernel_rfl) (by kernel_rfl) (fun _ _ _ h => h) (Or.inl ⟨by rfl, fun v hv => by skip; clear hv; go_simp⟩) hHeld ?_
  simp only [Act.put, List.setIfInBounds_toArray, List.set_cons_zero, List.set_cons_succ]
  refine take_at 1 62 (.int .i64 i) _ rfl rfl (by kernel_rfl) (by kernel_rfl) (by kernel_rfl) (fun _ _ _ h => h) (Or.inl ⟨by rfl, fun v hv => by have g1 := (hv.cell (p := ⟨gt, 1, none⟩) lt0).trans u1; clear hv; go_simp⟩) hHeld ?_
  simp only [Act.put, List.setIfInBounds_toArray, List.set_cons_zero, List.set_cons_succ]
  refine take_at 2 63 (.pointer (some ⟨gb, 0, none⟩)) _ rfl rfl (by kernel_rfl) (by kernel_rfl) (by kernel_rfl) (fun _ _ _ h => h) (Or.inl ⟨by rfl, fun v hv => by skip; clear hv; go_simp⟩) hHeld ?_
  simp only [Act.put, List.setIfInBounds_toArray, List.set_cons_zero, List.set_cons_succ]
  refine take_at 3 64 (.int .i64 id) _ rfl rfl (by kernel_rfl) (by kernel_rfl) (by kernel_rfl) (fun _ _ _ h => h) (Or.inl ⟨by rfl, fun v hv => by have g0 := (hv.cell (p := ⟨gb, 0, none⟩) lb0).trans v0; clear hv; go_simp⟩) hHeld ?_
  simp only [Act.put, List.setIfInBounds_toArray, List.set_cons_zero, List.set_cons_succ]
  refine take_at 4 65 (.bool false) _ rfl rfl (by kernel_rfl) (by kernel_rfl) (by kernel_rfl) (fun _ _ _ h => h) (Or.inl ⟨by rfl, fun v hv => by skip; clear hv; go_simp⟩) hHeld ?_
  simp only [Act.put, List.setIfInBounds_toArray, List.set_cons_zero, List.set_cons_succ]
  refine take_at 5 66 (.bool false) _ rfl rfl (by kernel_rfl) (by kernel_rfl) (by kernel_rfl) (fun _ _ _ h => h) (Or.inl ⟨by rfl, fun v hv => by skip; clear hv; go_simp⟩) hHeld ?_
  simp only [Act.put, List.setIfInBounds_toArray, List.set_cons_zero, List.set_cons_succ]
  refine take_at 6 67 (.agg #[.int .i64 c, .int .i64 i, .int .i64 a, .int .i64 t]) _ rfl rfl (by kernel_rfl) (by kernel_rfl) (by kernel_rfl) (fun _ _ _ h => h) (Or.inl ⟨by rfl, fun v hv => by have g0 := (hv.cell (p := ⟨gt, 0, none⟩) lt0).trans u0; have g1 := (hv.cell (p := ⟨gt, 1, none⟩) lt0).trans u1; have g2 := (hv.cell (p := ⟨gt, 2, none⟩) lt0).trans u2; have g3 := (hv.cell (p := ⟨gt, 3, none⟩) lt0).trans u3; clear hv; go_simp⟩) hHeld ?_
  simp only [Act.put, List.setIfInBounds_toArray, List.set_cons_zero, List.set_cons_succ]
  refine take_at 8 69 (.pointer (some ⟨gb, 6, none⟩)) _ rfl rfl (by kernel_rfl) (by kernel_rfl) (by kernel_rfl) (fun _ _ _ h => h) (Or.inl ⟨by rfl, fun v hv => by skip; clear hv; go_simp⟩) hHeld ?_
  simp only [Act.put, List.setIfInBounds_toArray, List.set_cons_zero, List.set_cons_succ]
  refine take_at 9 70 (.int .i64 un) _ rfl rfl (by kernel_rfl) (by kernel_rfl) (by kernel_rfl) (fun _ _ _ h => h) (Or.inl ⟨by rfl, fun v hv => by have g6 := (hv.cell (p := ⟨gb, 6, none⟩) lb0).trans v6; clear hv; go_simp⟩) hHeld ?_
  simp only [Act.put, List.setIfInBounds_toArray, List.set_cons_zero, List.set_cons_succ]
  refine wpAnyH_ready (rs := [7]) (by kernel_rfl) (by simp) (AllReadyH.cons rfl (fun K hK => ?_) AllReadyH.nil)
  rw [if_pos (by rfl)]
  refine wp_callOp 68 rfl (by clear hK; go_simp) (HU.out _) ?_
  rintro e W8 ⟨rfl, hb⟩
  have HB8 : Hid (Below w.heap.size w W8) := bel_step (bel_drew HB7.out 1) hb
  refine ⟨_, rfl, hK.out _ _ (bel_step HDR.out hb) (fun hHeld => ?_)⟩
  clear hK hb HB7
  simp only [Act.put, List.setIfInBounds_toArray, List.set_cons_zero, List.set_cons_succ]
  by_cases hu : ut = un
  · have hq4 : (ut != un) = false := by simpa using hu
    have HR : Hid (chk me id te de fe pr ch un c i a pe = 0) := by show _ = _; unfold chk; rw [if_neg (not_not_intro hme), if_neg (by rw [h5]; decide), if_neg (not_not_intro hid), if_neg (not_not_intro hun), if_neg (not_not_intro HHE.out), if_neg (not_not_intro HPE.out), if_neg (not_not_intro HII.out), HUT.out, if_neg (not_not_intro hu)]
    clear hu
    refine take_at 10 71 (.bool false) _ rfl rfl (by kernel_rfl) (by kernel_rfl) (by kernel_rfl) (fun _ _ _ h => h) (Or.inl ⟨by rfl, fun v hv => by skip; clear hv; go_simp⟩) hHeld ?_
    simp only [Act.put, List.setIfInBounds_toArray, List.set_cons_zero, List.set_cons_succ]
    refine take_at 11 72 (.bool false) _ rfl rfl (by kernel_rfl) (by kernel_rfl) (by kernel_rfl) (fun _ _ _ h => h) (Or.inl ⟨by rfl, fun v hv => by skip; clear hv; go_simp⟩) hHeld ?_
    simp only [Act.put, List.setIfInBounds_toArray, List.set_cons_zero, List.set_cons_succ]
    refine wpAnyH_done (by kernel_rfl) ?_ _
    clear hHeld
    go_wp2_with fail
    go_ret
    exact ⟨by rw [HR.out]; rfl, HB8.out⟩
  · have hq4 : (ut != un) = true := by simpa using hu
    have HR : Hid (chk me id te de fe pr ch un c i a pe = 8) := by show _ = _; unfold chk; rw [if_neg (not_not_intro hme), if_neg (by rw [h5]; decide), if_neg (not_not_intro hid), if_neg (not_not_intro hun), if_neg (not_not_intro HHE.out), if_neg (not_not_intro HPE.out), if_neg (not_not_intro HII.out), HUT.out, if_pos hu]
    clear hu
    refine take_at 10 71 (.bool true) _ rfl rfl (by kernel_rfl) (by kernel_rfl) (by kernel_rfl) (fun _ _ _ h => h) (Or.inl ⟨by rfl, fun v hv => by skip; clear hv; go_simp⟩) hHeld ?_
    simp only [Act.put, List.setIfInBounds_toArray, List.set_cons_zero, List.set_cons_succ]
    refine take_at 11 72 (.bool true) _ rfl rfl (by kernel_rfl) (by kernel_rfl) (by kernel_rfl) (fun _ _ _ h => h) (Or.inl ⟨by rfl, fun v hv => by skip; clear hv; go_simp⟩) hHeld ?_
    simp only [Act.put, List.setIfInBounds_toArray, List.set_cons_zero, List.set_cons_succ]
    refine wpAnyH_done (by kernel_rfl) ?_ _
    clear hHeld
    go_wp2_with fail
    go_ret
    exact ⟨by rw [HR.out]; rfl, HB8.out⟩

theorem chk_is (r : Rc) (c i a : Int) (pe : Int) (hpe : pe = token.parseE r.tk) (hok : token.parseE r.tk = 0 → c = ((tokR r).c : Int) ∧ i = ((tokR r).i : Int) ∧ a = ((tokR r).a : Int)) :
    FaultIs r (chk r.me r.id r.te r.de r.fe r.pr r.ch r.un c i a pe) := by
  unfold chk
  by_cases h1 : 0 ≤ r.me ∧ r.me ≤ 49
  case neg => rw [if_pos h1]; exact .inl ⟨h1, rfl⟩
  rw [if_neg (not_not_intro h1)]
  cases h5 : rci.okAll 0 100000000 [r.te, r.de, r.fe, r.pr, r.ch] with
  | false =>
    rw [if_pos rfl]
    refine .inr (.inl ⟨h1, fun hr => ?_, rfl⟩)
    obtain ⟨⟨a, b, c, d⟩, e, _⟩ := hr
    have : rci.okAll 0 100000000 [r.te, r.de, r.fe, r.pr, r.ch] = true := by simp [rci.okAll]; exact ⟨a, b, c, d, e⟩
    rw [this] at h5; cases h5
  | true =>
    rw [if_neg (by decide)]
    obtain ⟨b1, b2, b3, b4, b5⟩ := five_bd h5
    by_cases hid : 1 ≤ r.id ∧ r.id ≤ 1048575
    case neg => rw [if_pos hid]; exact .inr (.inl ⟨h1, fun hr => hid hr.2.2.1, rfl⟩)
    rw [if_neg (not_not_intro hid)]
    by_cases hun : 0 ≤ r.un ∧ r.un ≤ 2097151
    case neg => rw [if_pos hun]; exact .inr (.inl ⟨h1, fun hr => hun hr.2.2.2, rfl⟩)
    rw [if_neg (not_not_intro hun)]
    have hrr : RRange r := ⟨⟨b1, b2, b3, b4⟩, b5, hid, hun⟩
    by_cases hs : r.te = r.de + r.fe + r.pr + r.ch
    case neg => rw [if_pos hs]; exact .inr (.inr (.inl ⟨h1, hrr, fun h => hs (by unfold RSum at h; omega), rfl⟩))
    rw [if_neg (not_not_intro hs)]
    have hsm : RSum r := by unfold RSum; omega
    subst hpe
    by_cases hp : token.parseE r.tk = 0
    case neg => rw [if_pos hp]; exact .inr (.inr (.inr (.inl ⟨h1, hrr, hsm, hp, rfl⟩)))
    rw [if_neg (not_not_intro hp)]
    obtain ⟨rfl, rfl, rfl⟩ := hok hp
    by_cases hi : ((tokR r).i : Int) = r.id
    case neg => rw [if_pos hi]; exact .inr (.inr (.inr (.inr (.inl ⟨h1, hrr, hsm, hp, fun h => hi h.1, rfl⟩))))
    rw [if_neg (not_not_intro hi)]
    by_cases hc : (tokR r).c = 0
    · rw [if_pos (show ((tokR r).c : Int) = 0 by omega)]
      by_cases ha : ((tokR r).a : Int) = r.un
      case neg => rw [if_pos ha]; exact .inr (.inr (.inr (.inr (.inl ⟨h1, hrr, hsm, hp, fun h => ha (h.2.1 hc), rfl⟩))))
      rw [if_neg (not_not_intro ha)]
      exact .inr (.inr (.inr (.inr (.inr ⟨h1, hrr, hsm, hp, ⟨hi, fun _ => ha, fun h => absurd hc h⟩, rfl⟩))))
    · rw [if_neg (show ¬ ((tokR r).c : Int) = 0 by omega)]
      by_cases ha : (0 : Int) = r.un
      case neg => rw [if_pos ha]; exact .inr (.inr (.inr (.inr (.inl ⟨h1, hrr, hsm, hp, fun h => ha (h.2.2 hc).symm, rfl⟩))))
      rw [if_neg (not_not_intro ha)]
      exact .inr (.inr (.inr (.inr (.inr ⟨h1, hrr, hsm, hp, ⟨hi, fun h => absurd h hc, fun _ => ha.symm⟩, rfl⟩))))
theorem check_any (r : Rc) (w : World) (ht : token.TTab w) : Calls Tryz.prog 7 #[r.v] w fun e w' => FaultPost w r e w' := by
  have fin : ∀ (c i a t : Int), (token.parseE r.tk = 0 → c = ((tokR r).c : Int) ∧ i = ((tokR r).i : Int) ∧ a = ((tokR r).a : Int)) → token.parseV r.tk = .agg #[.int .i64 c, .int .i64 i, .int .i64 a, .int .i64 t] → Calls Tryz.prog 7 #[r.v] w fun e w' => FaultPost w r e w' := fun c i a t hok hv => by
    refine (check_abs r.me r.id r.te r.de r.fe r.pr r.ch r.un c i a t (token.parseE r.tk) ⟨r.tk.toArray⟩ w (fun w' hb => ?_)).mono ?_
    · have := token.parse_any ⟨r.tk.toArray⟩ w' (ht.below hb)
      simp only at this
      rw [hv] at this
      exact this
    · rintro e w' ⟨rfl, hb⟩
      exact ⟨_, rfl, chk_is r c i a _ rfl hok, hb⟩
  by_cases h : token.parseE r.tk = 0
  · exact fin ((tokR r).c : Int) ((tokR r).i : Int) ((tokR r).a : Int) ((tokR r).t : Int) (fun _ => ⟨rfl, rfl, rfl⟩) (by unfold token.parseV; rw [if_pos h]; rfl)
  · exact fin 0 0 0 0 (fun h' => absurd h' h) (by unfold token.parseV; rw [if_neg h]; rfl)
theorem kcheck {w : World} (ht : token.TTab w) : KrCheck w := fun W r hb _ => check_any r W (ht.below hb)

end Go.Proofs.YtlicdeppfhmfjabGreatDoor.rcp

/- A builder that lies at the head of a paper: what its methods do there. -/
namespace Go.Proofs.YtlicdeppfhmfjabGreatDoor.rcb
open Go.RowKit
set_option maxRecDepth 100000

def TP : TypeId := 59
def TU : TypeId := 5
/-- The paper in block b holds these bytes. -/
def Sb (B b : Nat) (bs : List Value) (w : World) : Prop := Lib.IsBuilder TP TU B b bs w
/-- .. and was written on. -/
def Su (B b : Nat) (bs : List Value) (w : World) : Prop := Lib.BuilderAt TP TU B b (.pointer (some ⟨b, 0, none⟩)) bs w
theorem Su.sb {B b : Nat} {bs : List Value} {w : World} (h : Su B b bs w) : Sb B b bs w := .inr h
theorem infoB : ∃ i, Tryz.prog.info? 5 = some i ∧ i.zero = some (.int .u8 0) ∧ i.size = 1 ∧ i.bytes = 1 := info_parts (by kernel_rfl)
theorem infoS : (Tryz.prog.info? 57).map (·.size) = some 2 := by kernel_rfl
theorem lies : liesAt Tryz.prog Tryz.prog.depth TP (2 / Tryz.prog.cellsOf TP) 0 57 1 = true := by kernel_rfl
theorem neP : TP ≠ TU := by decide

set_option maxHeartbeats 1000000 in
theorem copy_used (b : Nat) (w : World) (h0 : w.cell? ⟨b, 0, none⟩ = some (.pointer (some ⟨b, 0, none⟩))) :
    Calls Tryz.prog 71 #[.pointer (some ⟨b, 0, none⟩)] w fun e w' => e = .returned (.tuple #[]) ∧ w' = w := by
  obtain ⟨j, hj, _⟩ := Option.map_eq_some_iff.1 infoS
  go_enter Tryz.func71, Tryz.ntmps71
  go_wp2
  rw [Lib.run_neq_ptr_same w _ Tryz.underlying54 hj]
  go_wp2
  go_end0
  exact ⟨rfl, rfl⟩

set_option maxHeartbeats 1000000 in
theorem copy_fresh (b : Nat) (w : World) (h0 : w.cell? ⟨b, 0, none⟩ = some (.pointer none)) (hsh : w.shape? b = some (TP, 2)) (hfz : w.frozen? ⟨b, 0, none⟩ = false) :
    Calls Tryz.prog 71 #[.pointer (some ⟨b, 0, none⟩)] w fun e w' => e = .returned (.tuple #[]) ∧ w' = w.setCell ⟨b, 0, none⟩ (.pointer (some ⟨b, 0, none⟩)) := by
  obtain ⟨j, hj, hjs⟩ := Option.map_eq_some_iff.1 infoS
  go_enter Tryz.func71, Tryz.ntmps71
  go_wp2
  rw [Lib.run_to_unsafe w ⟨b, 0, none⟩ Tryz.underlying54 Tryz.underlying144 hj (by rw [hjs]; decide) hsh (Nat.zero_lt_succ 1)]
  simp only [Result.andThen]
  rw [Oper.upon_value]
  go_wp2
  rw [run_callFunc_extern Tryz.func98 (by kernel_rfl) (by kernel_rfl) (by kernel_rfl) (e := Extern.AbiNoEscape.same) (by kernel_rfl)]
  rw [Lib.run_noEscape]
  simp only [Result.andThen]
  rw [Oper.upon_value]
  go_wp2
  rw [Lib.run_from_unsafe w ⟨b, 0, none⟩ Tryz.underlying144 Tryz.underlying54 hj hsh lies]
  simp only [Result.andThen]
  rw [Oper.upon_value]
  go_wp2
  go_end0
  exact ⟨rfl, rfl⟩

theorem copy_any (B b : Nat) (bs : List Value) (w : World) (h : Sb B b bs w) :
    Calls Tryz.prog 71 #[.pointer (some ⟨b, 0, none⟩)] w fun e w' => e = .returned (.tuple #[]) ∧ Su B b bs w' ∧ Below B w w' := by
  rcases h with h | h
  · refine (copy_fresh b w h.cell0 h.shape h.frozen0).mono ?_
    rintro e w' ⟨rfl, rfl⟩
    exact ⟨rfl, h.used _, (Below.refl B w).setCell (p := ⟨b, 0, none⟩) h.1 _⟩
  · refine (copy_used b w h.cell0).mono ?_
    rintro e w' ⟨rfl, rfl⟩
    exact ⟨rfl, h, Below.refl B _⟩

theorem lt_of {w : World} {b : Nat} {o : Obj} (h : w.heap[b]? = some o) : b < w.heap.size := by
  rcases Nat.lt_or_ge b w.heap.size with h' | h'
  · exact h'
  · simp [Array.getElem?_eq_none h'] at h

set_option maxHeartbeats 2000000 in
theorem byte_any (B b : Nat) (bs : List Value) (c : Int) (w : World) (h : Sb B b bs w) (hlen : bs.length + 1 ≤ 100000) (hBw : B ≤ w.heap.size) :
    Calls Tryz.prog 45 #[.pointer (some ⟨b, 0, none⟩), .int .u8 c] w fun e w' => e = .returned .nilIface ∧ Su B b (bs ++ [.int .u8 c]) w' ∧ Below B w w' := by
  obtain ⟨i0, hi, hz0, hz1, hz2⟩ := infoB
  have HC := copy_any B b bs w h
  clear h
  go_enter Tryz.func45, Tryz.ntmps45
  go_wp2_with fail
  refine HC.mono ?_
  rintro e w1 ⟨rfl, ⟨hB, v, hbk, hown, hne⟩, hb1⟩
  clear HC
  have c0 : w1.cell? ⟨b, 0, none⟩ = some (.pointer (some ⟨b, 0, none⟩)) := by rw [Lib.cell_of_heap hbk]; rfl
  have c1 : w1.cell? ⟨b, 1, none⟩ = some v := by rw [Lib.cell_of_heap hbk]; rfl
  have hs1 := hb1.size
  go_wp2_with (at_builtin; refine wpList_append_own _ rfl _ _ 55 rfl B TU i0 (.int .u8 0) 1 1 Tryz.underlying55 hi hz0 hz1 hz2 rfl (by decide) _ _ _ rfl (hown.alloc _) ⟨w1.heap.size, 0, none⟩ 1 1 [.int .u8 c] rfl rfl ?c1 ?c2 ?c3 ?c4 ?c5 ?_)
  case c1 =>
    intro j u hj
    match j, hj with
    | 0, hj => simp at hj; subst hj; simp [Addr.add]
  case c2 => intro u hu; simp at hu; subst hu; rfl
  case c3 => unfold maxLen; omega
  case c4 => omega
  case c5 => simp; omega
  intro v' w2 hown' hgrow _
  have hlt := lt_of hbk
  have hb2 : w2.heap[b]? = some (.cells #[.pointer (some ⟨b, 0, none⟩), v] TP (0, 0)) := by
    rw [hgrow.block b (by simp; omega) (fun e => hne e.symm), Lib.alloc_old w1 _ b hlt]
    exact hbk
  have d0 : w2.cell? ⟨b, 0, none⟩ = some (.pointer (some ⟨b, 0, none⟩)) := by rw [Lib.cell_of_heap hb2]; rfl
  have d1 : w2.cell? ⟨b, 1, none⟩ = some v := by rw [Lib.cell_of_heap hb2]; rfl
  have f1 : w2.frozen? ⟨b, 1, none⟩ = false := Lib.frozen_of_heap hb2 1
  obtain ⟨g, cap, rfl⟩ : ∃ g cap, v' = .slice (some ⟨g, 0, none⟩) (bs.length + 1) cap := by
    rcases hown'.2 with ⟨_, h0⟩ | ⟨g, cap, cur, hv, _⟩
    · omega
    · exact ⟨g, cap, hv⟩
  go_wp2
  go_ret
  refine ⟨rfl, ?_, ?_⟩
  · exact Lib.BuilderAt.put (T := TP) (e := TU) hB hb2 (bs' := bs ++ [.int .u8 c]) (by simpa using hown') neP
  · exact ((hb1.alloc (by omega) _).grown hgrow (by simp; omega) (fun k hk => (hown.lt k hk).1)).setCell (p := ⟨b, 1, none⟩) hB _

set_option maxHeartbeats 2000000 in
theorem str_any (B b : Nat) (bs : List Value) (s : ByteArray) (w : World) (h : Sb B b bs w) (hlen : bs.length + s.size ≤ 100000) (hBw : B ≤ w.heap.size) :
    Calls Tryz.prog 44 #[.pointer (some ⟨b, 0, none⟩), .string s] w fun e w' => e = .returned (.tuple #[.int .i64 s.size, .nilIface]) ∧ Su B b (bs ++ Lib.strCells s) w' ∧ Below B w w' := by
  obtain ⟨i0, hi, hz0, hz1, hz2⟩ := infoB
  have HC := copy_any B b bs w h
  clear h
  go_enter Tryz.func44, Tryz.ntmps44
  go_wp2_with fail
  refine HC.mono ?_
  rintro e w1 ⟨rfl, ⟨hB, v, hbk, hown, hne⟩, hb1⟩
  clear HC
  have c0 : w1.cell? ⟨b, 0, none⟩ = some (.pointer (some ⟨b, 0, none⟩)) := by rw [Lib.cell_of_heap hbk]; rfl
  have c1 : w1.cell? ⟨b, 1, none⟩ = some v := by rw [Lib.cell_of_heap hbk]; rfl
  have hs1 := hb1.size
  go_wp2_with (at_builtin; refine Lib.wpList_append_own_string _ rfl _ _ 55 9 rfl B TU i0 Tryz.underlying55 Tryz.underlying9 hi hz0 hz1 hz2 _ _ _ rfl hown s rfl ?c3 ?c4 ?c5 ?_)
  case c3 => unfold maxLen; omega
  case c4 => omega
  case c5 => omega
  intro v' w2 hown' hgrow _
  have hlt := lt_of hbk
  have hb2 : w2.heap[b]? = some (.cells #[.pointer (some ⟨b, 0, none⟩), v] TP (0, 0)) := by
    rw [hgrow.block b hlt (fun e => hne e.symm)]
    exact hbk
  have d0 : w2.cell? ⟨b, 0, none⟩ = some (.pointer (some ⟨b, 0, none⟩)) := by rw [Lib.cell_of_heap hb2]; rfl
  have d1 : w2.cell? ⟨b, 1, none⟩ = some v := by rw [Lib.cell_of_heap hb2]; rfl
  have f1 : w2.frozen? ⟨b, 1, none⟩ = false := Lib.frozen_of_heap hb2 1
  obtain ⟨ao, n', cap, rfl⟩ : ∃ ao n' cap, v' = .slice ao n' cap := by
    rcases hown'.2 with ⟨hv, _⟩ | ⟨g, cap, cur, hv, _⟩
    · exact ⟨_, _, _, hv⟩
    · exact ⟨_, _, _, hv⟩
  go_wp2
  go_ret2
  refine ⟨rfl, ?_, ?_⟩
  · exact Lib.BuilderAt.put (T := TP) (e := TU) hB hb2 (bs' := bs ++ Lib.strCells s) (by simpa [Lib.strCells_length] using hown') neP
  · exact (hb1.grown hgrow (by omega) (fun k hk => (hown.lt k hk).1)).setCell (p := ⟨b, 1, none⟩) hB _

set_option maxHeartbeats 1000000 in
/-- What was written, as a text: at least one byte. -/
theorem text_any (B b : Nat) (l : List UInt8) (w : World) (h : Sb B b (Lib.byteCells l) w) (h0 : l ≠ []) :
    Calls Tryz.prog 26 #[.pointer (some ⟨b, 0, none⟩)] w fun e w' => e = .returned (.string ⟨l.toArray⟩) ∧ Below B w w' := by
  obtain ⟨p, hB, v, hbk, hown, hne⟩ : ∃ p, Lib.BuilderAt TP TU B b p (Lib.byteCells l) w := by
    rcases h with h | h
    · exact ⟨_, h⟩
    · exact ⟨_, h⟩
  have hl0 : l.length ≠ 0 := by simpa using h0
  rw [Lib.byteCells_length] at hown
  obtain ⟨g, cap, cur, rfl, hbg, hg, hnc, hcm, hcs, htake⟩ : ∃ g cap cur, v = .slice (some ⟨g, 0, none⟩) l.length cap ∧ B ≤ g ∧ w.heap[g]? = some (.cells cur TU (0, 0)) ∧ l.length ≤ cap ∧ cap ≤ maxLen ∧ cur.size = cap * 1 ∧ cur.toList.take (l.length * 1) = Lib.byteCells l := by
    rcases hown.2 with ⟨_, hz⟩ | ⟨g, cap, cur, hv, r⟩
    · exact absurd hz hl0
    · exact ⟨g, cap, cur, hv, r⟩
  have c1 : w.drew.cell? ⟨b, 1, none⟩ = some (.slice (some ⟨g, 0, none⟩) l.length cap) := by
    have : w.drew.heap[b]? = some (.cells #[p, .slice (some ⟨g, 0, none⟩) l.length cap] TP (0, 0)) := hbk
    rw [Lib.cell_of_heap this]; rfl
  have hg' : w.drew.heap[g]? = some (.cells cur 5 (0, 0)) := hg
  have hSD : (Builtin.unsafeSliceData_ #[55] 89 #[.slice (some ⟨g, 0, none⟩) l.length cap]).run Tryz.prog w.drew = .ok (.pointer (some ⟨g, 0, none⟩)) w.drew :=
    Lib.run_unsafeSliceData_row _ _ _ _ _ _ (by omega)
  have hUS : (Builtin.unsafeString_ #[89, 3] 9 #[.pointer (some ⟨g, 0, none⟩), .int .i64 l.length]).run Tryz.prog w.drew = .ok (.string ⟨l.toArray⟩) (w.drew.freeze ⟨g, 0, none⟩ l.length) := by
    refine Lib.run_unsafeString_row w.drew 89 3 9 5 Tryz.underlying89 (by kernel_rfl) g cur.size (by simp [World.shape?, hg']) l h0 (by omega) (by unfold maxLen at hcm; omega) ?_
    intro j x hx
    exact hown.cells (g := g) rfl j (.int .u8 x.toNat) (by simp [Lib.byteCells, hx])
  clear hg' hg hown hbk hcm hcs htake hnc hl0 h0
  go_enter Tryz.func26, Tryz.ntmps26
  go_wp2
  go_region
  all_goals (go_wp2; go_ret; exact ⟨rfl, Lib.below_freeze (Below.drew (Below.refl B w)) (p := ⟨g, 0, none⟩) hbg _⟩)

end Go.Proofs.YtlicdeppfhmfjabGreatDoor.rcb

/- A line is written. -/
namespace Go.Proofs.YtlicdeppfhmfjabGreatDoor.rcb
open Go.RowKit
set_option maxRecDepth 100000

theorem str_bytes (s : ByteArray) : Lib.strCells s = Lib.byteCells s.data.toList := rfl
theorem bytes_app (l m : List UInt8) : Lib.byteCells l ++ Lib.byteCells m = Lib.byteCells (l ++ m) := by simp [Lib.byteCells]
theorem bytes_one (c : UInt8) : [Value.int .u8 ((c.toNat : Nat) : Int)] = Lib.byteCells [c] := rfl

set_option maxHeartbeats 1000000 in
theorem line_any (B b : Nat) (l : List UInt8) (n t : ByteArray) (w : World) (h : Sb B b (Lib.byteCells l) w) (hl : l.length ≤ 1000) (hn : n.size ≤ 1000) (ht : t.size ≤ 1000) (hBw : B ≤ w.heap.size) :
    Calls Tryz.prog 22 #[.pointer (some ⟨b, 0, none⟩), .string n, .string t] w fun e w' => e = .returned (.tuple #[]) ∧ Sb B b (Lib.byteCells (l ++ rcp.line n.data.toList t.data.toList)) w' ∧ Below B w w' := by
  have hl' : (Lib.byteCells l).length = l.length := Lib.byteCells_length _
  have hn' : (Lib.strCells n).length = n.size := Lib.strCells_length _
  have ht' : (Lib.strCells t).length = t.size := Lib.strCells_length _
  have H1 := str_any B b (Lib.byteCells l) n w h (by omega) hBw
  clear h
  have HE : Hid (Lib.byteCells l ++ Lib.strCells n ++ [.int .u8 32] ++ Lib.strCells t ++ [.int .u8 10] = Lib.byteCells (l ++ rcp.line n.data.toList t.data.toList)) := by
    show _ = _
    rw [show [Value.int .u8 32] = Lib.byteCells [32] from rfl, show [Value.int .u8 10] = Lib.byteCells [10] from rfl, str_bytes, str_bytes, bytes_app, bytes_app, bytes_app, bytes_app]
    congr 1
    simp [rcp.line]
  go_enter Tryz.func22, Tryz.ntmps22
  go_wp2_with fail
  refine H1.mono ?_
  rintro e w1 ⟨rfl, h1, b1⟩
  clear H1
  have s1 := b1.size
  have H2 := byte_any B b _ 32 w1 h1.sb (by rw [List.length_append]; omega) (by omega)
  clear h1
  go_wp2_with fail
  refine H2.mono ?_
  rintro e w2 ⟨rfl, h2, b2⟩
  clear H2
  have s2 := b2.size
  have H3 := str_any B b _ t w2 h2.sb (by rw [List.length_append, List.length_append]; simp; omega) (by omega)
  clear h2
  go_wp2_with fail
  refine H3.mono ?_
  rintro e w3 ⟨rfl, h3, b3⟩
  clear H3
  have s3 := b3.size
  have H4 := byte_any B b _ 10 w3 h3.sb (by rw [List.length_append, List.length_append, List.length_append]; simp; omega) (by omega)
  clear h3
  go_wp2_with fail
  refine H4.mono ?_
  rintro e w4 ⟨rfl, h4, b4⟩
  clear H4
  rw [HE.out] at h4
  go_wp2_with fail
  go_end0
  exact ⟨rfl, h4.sb, ((b1.trans b2).trans b3).trans b4⟩

end Go.Proofs.YtlicdeppfhmfjabGreatDoor.rcb

/- The paper's builder: what stays as it is. -/
namespace Go.Proofs.YtlicdeppfhmfjabGreatDoor.rcb
open Go.RowKit
theorem own_next {w w' : World} {B : Nat} {e : TypeId} {k : Nat} {v : Value} {n : Nat} {xs : List Value} (h : w.ownsRow B e k v n xs) (hb : Below w.heap.size w w') : w'.ownsRow B e k v n xs := by
  refine ⟨h.1, ?_⟩
  rcases h.2 with hn | ⟨g, cap, cur, hv, hg, hc, rest⟩
  · exact .inl hn
  · exact .inr ⟨g, cap, cur, hv, hg, Blk.next hc hb, rest⟩
theorem at_next {B b : Nat} {p : Value} {bs : List Value} {w w' : World} (h : Lib.BuilderAt TP TU B b p bs w) (hb : Below w.heap.size w w') : Lib.BuilderAt TP TU B b p bs w' := by
  obtain ⟨h1, v, h2, h3, h4⟩ := h
  exact ⟨h1, v, Blk.next h2 hb, own_next h3 hb, h4⟩
theorem Sb.next {B b : Nat} {bs : List Value} {w w' : World} (h : Sb B b bs w) (hb : Below w.heap.size w w') : Sb B b bs w' := by
  rcases h with h | h
  · exact .inl (at_next h hb)
  · exact .inr (at_next h hb)
theorem Sb.fresh (w : World) : Sb w.heap.size w.heap.size (Lib.byteCells []) (w.alloc (.cells #[.pointer none, .slice none 0 0] 59)) := Lib.fresh_isBuilder TP TU w

set_option maxHeartbeats 1000000 in
theorem amount_any (B b : Nat) (l : List UInt8) (nm T : ByteArray) (n : Int) (w : World) (h : Sb B b (Lib.byteCells l) w) (hl : l.length ≤ 1000) (hn : nm.size ≤ 1000) (ht : T.size ≤ 1000) (hBw : B ≤ w.heap.size)
    (hC : Calls Tryz.prog 21 #[.int .i64 n] w fun e w' => e = .returned (.tuple #[.string T, .int .i64 0]) ∧ Below w.heap.size w w') :
    Calls Tryz.prog 20 #[.string nm, .int .i64 n, .pointer (some ⟨b, 0, none⟩)] w fun e w' => e = .returned (.tuple #[]) ∧ Sb B b (Lib.byteCells (l ++ rcp.line nm.data.toList T.data.toList)) w' ∧ Below B w w' := by
  have HS : Hid (Sb B b (Lib.byteCells l) w) := h
  clear h
  go_enter Tryz.func20, Tryz.ntmps20
  go_wp2_with fail
  refine hC.mono ?_
  rintro e w1 ⟨rfl, b1⟩
  have HL := line_any B b l nm T w1 (HS.out.next b1) hl hn ht (Nat.le_trans hBw b1.size)
  have HB1 : Hid (Below B w w1) := b1.mono hBw
  clear b1 hC HS
  go_wp2_with fail
  refine HL.mono ?_
  rintro e w2 ⟨rfl, h2, b2⟩
  have HB2 : Hid (Below B w w2) := HB1.out.trans b2
  have HS2 : Hid (Sb B b (Lib.byteCells (l ++ rcp.line nm.data.toList T.data.toList)) w2) := h2
  clear HL h2 b2 HB1
  go_wp2_with fail
  go_end0
  exact ⟨rfl, HS2.out, HB2.out⟩

end Go.Proofs.YtlicdeppfhmfjabGreatDoor.rcb

/- Contracts of the library, laid at this dump in plain words: strings_Join, strings_Join_none. -/
namespace Go.Proofs
open Go.Shelf
def Tryz.lays156_ren : Go.Shelf.Ren := ⟨fun | 156 => 49 | 165 => 61 | 166 => 44 | 169 => 26 | 240 => 71 | 241 => 88 | 276 => 98 | 277 => 114 | n => n, fun | 31 => 66 | 9 => 9 | 3 => 3 | 4 => 4 | 0 => 0 | 20 => 20 | 72 => 57 | 76 => 44 | 70 => 54 | 37 => 55 | 75 => 43 | 127 => 89 | 164 => 144 | 5 => 5 | 80 => 65 | n => n, fun | n => n⟩
theorem Tryz.lays156 : Go.Proofs.Lays.n156 Tryz.prog Tryz.lays156_ren := {
  mixed := by kernel_rfl
  f156 := Tryz.func49.trans (congrArg some (by kernel_rfl))
  f165 := Tryz.func61.trans (congrArg some (by kernel_rfl))
  f166 := Tryz.func44.trans (congrArg some (by kernel_rfl))
  f169 := Tryz.func26.trans (congrArg some (by kernel_rfl))
  f240 := Tryz.func71.trans (congrArg some (by kernel_rfl))
  f241 := Tryz.func88.trans (congrArg some (by kernel_rfl))
  f276 := Tryz.func98.trans (congrArg some (by kernel_rfl))
  f277 := Tryz.func114.trans (congrArg some (by kernel_rfl))
  t0 := Tryz.underlying0
  a0 := Tryz.isAgg0
  z0 := Tryz.sizeOf0
  v0 := Tryz.zeroValue0
  t3 := Tryz.underlying3
  a3 := Tryz.isAgg3
  z3 := Tryz.sizeOf3
  v3 := Tryz.zeroValue3
  t4 := Tryz.underlying4
  a4 := Tryz.isAgg4
  z4 := Tryz.sizeOf4
  v4 := Tryz.zeroValue4
  t9 := Tryz.underlying9
  a9 := Tryz.isAgg9
  z9 := Tryz.sizeOf9
  v9 := Tryz.zeroValue9
  t20 := Tryz.underlying20
  a20 := Tryz.isAgg20
  z20 := Tryz.sizeOf20
  v20 := Tryz.zeroValue20
  t31 := Tryz.underlying66
  a31 := Tryz.isAgg66
  z31 := Tryz.sizeOf66
  v31 := Tryz.zeroValue66
  t37 := Tryz.underlying55
  a37 := Tryz.isAgg55
  z37 := Tryz.sizeOf55
  v37 := Tryz.zeroValue55
  t70 := Tryz.underlying54
  a70 := Tryz.isAgg54
  z70 := Tryz.sizeOf54
  v70 := Tryz.zeroValue54
  t72 := Tryz.underlying57
  a72 := Tryz.isAgg57
  z72 := Tryz.sizeOf57
  v72 := Tryz.zeroValue57
  t75 := Tryz.underlying43
  a75 := Tryz.isAgg43
  z75 := Tryz.sizeOf43
  v75 := Tryz.zeroValue43
  t76 := Tryz.underlying44
  a76 := Tryz.isAgg44
  z76 := Tryz.sizeOf44
  v76 := Tryz.zeroValue44
  t127 := Tryz.underlying89
  a127 := Tryz.isAgg89
  z127 := Tryz.sizeOf89
  v127 := Tryz.zeroValue89
  t164 := Tryz.underlying144
  a164 := Tryz.isAgg144
  z164 := Tryz.sizeOf144
  v164 := Tryz.zeroValue144 }
theorem Tryz.Builder_Extra_156 : Builder.Extra Tryz.prog Tryz.lays156_ren := {
  sizeBuilder := by kernel_rfl
  liesBuilder := by kernel_rfl
  t5 := Tryz.underlying5
  a5 := Tryz.isAgg5
  z5 := Tryz.sizeOf5
  v5 := Tryz.zeroValue5
  infoByte := by kernel_rfl
  cellsByte := by kernel_rfl
  sizeByte := by kernel_rfl
  neB5 := by decide }
open Go.RowKit in
theorem Tryz.strings_Join_none (a : Option Addr) (c : Nat) (sep : ByteArray) (w : World) :
    Calls Tryz.prog 49 #[.slice a 0 c, .string sep] w fun e w' => e = .returned (.string ⟨#[]⟩) ∧ w' = w := Any.strings_Join_none Tryz.lays156 Tryz.Builder_Extra_156 a c sep w
open Go.RowKit in
theorem Tryz.strings_Join (bk o c : Nat) (xs : List ByteArray) (sep : ByteArray) (w : World) (hcells : ∀ (j : Nat) x, xs[j]? = some x → w.cell? ⟨bk, o + j, none⟩ = some (.string x)) (hbk : bk < w.heap.size) (hN : xs.length ≤ 140737488355328) (hcap : xs.length ≤ c) (hlen : (Lib.join (xs.map (·.data.toList)) sep.data.toList).length ≤ 140737488355328) :
    Calls Tryz.prog 49 #[.slice (some ⟨bk, o, none⟩) xs.length c, .string sep] w fun e w' => e = .returned (.string ⟨(Lib.join (xs.map (·.data.toList)) sep.data.toList).toArray⟩) ∧ Below w.heap.size w w' := Any.strings_Join Tryz.lays156 Tryz.Builder_Extra_156 bk o c xs sep w hcells hbk hN hcap hlen
end Go.Proofs

/- Rows of texts that a call owns. -/
namespace Go.Proofs.YtlicdeppfhmfjabGreatDoor.rcp
open Go.RowKit
set_option maxRecDepth 100000

def cellsS (l : List ByteArray) : List Value := l.map Value.string
theorem oneS (l : List ByteArray) : ∀ u ∈ cellsS l, u.oneCell' = true := fun u hu => by
  obtain ⟨s, _, rfl⟩ := List.mem_map.1 hu
  rfl
/-- Texts (of the kind T) that nobody else holds. -/
def Ls (T : TypeId) (w : World) (base : Nat) (v : Value) (l : List ByteArray) : Prop := w.ownsRow base T 1 v l.length (cellsS l)
theorem Ls.zero (T : TypeId) (w : World) (base : Nat) : Ls T w base (.slice none 0 0) [] := World.ownsRow_nil _ _ _ _
theorem Ls.alloc {T : TypeId} {w : World} {base : Nat} {v : Value} {l : List ByteArray} (h : Ls T w base v l) (o : Obj) : Ls T (w.alloc o) base v l := World.ownsRow.alloc h o
theorem Ls.next {T : TypeId} {w w' : World} {base : Nat} {v : Value} {l : List ByteArray} (h : Ls T w base v l) (hb : Below w.heap.size w w') : Ls T w' base v l := by
  refine ⟨h.1, ?_⟩
  rcases h.2 with hn | ⟨g, cap, cur, hv, hg, hc, rest⟩
  · exact .inl hn
  · exact .inr ⟨g, cap, cur, hv, hg, Blk.next hc hb, rest⟩
theorem Ls.row {T : TypeId} {w : World} {base : Nat} {v : Value} {l : List ByteArray} (h : Ls T w base v l) (h0 : 0 < l.length) : ∃ g cap, v = .slice (some ⟨g, 0, none⟩) l.length cap ∧ base ≤ g ∧ g < w.heap.size ∧ l.length ≤ cap ∧ ∀ i, i < l.length → w.cell? ⟨g, i, none⟩ = some (.string (l.getD i ByteArray.empty)) := by
  rcases h.2 with ⟨hv, hn⟩ | ⟨g, cap, cur, hv, hg, hc, h1, _⟩
  · omega
  · subst hv
    refine ⟨g, cap, rfl, hg, Blk.lt hc, h1, fun i hi => ?_⟩
    have e1 := World.ownsRow.cellAt h i (by omega)
    rw [e1]
    simp [cellsS, List.getD, hi]
theorem Ls.len {T : TypeId} {w : World} {base : Nat} {v : Value} {l : List ByteArray} (h : Ls T w base v l) : ∃ a cap, v = .slice a l.length cap := by
  rcases h.2 with ⟨hv, hn⟩ | ⟨g, cap, cur, hv, _⟩
  · exact ⟨none, 0, by rw [hn]; exact hv⟩
  · exact ⟨_, cap, hv⟩
/-- What is to be known of a kind T of texts, whose slices are S. -/
structure TextT (P : Program) (T S : TypeId) : Prop where
  info : (P.info? T).map (fun i => (i.zero, i.size, i.bytes)) = some (some (.string ByteArray.empty), 1, 16)
  under : P.underlying S = some (.slice T)
/-- One text is put behind the others. -/
theorem wp_str {P : Program} {T S : TypeId} (hP : TextT P T S) {w : World} {ops : Array Oper} {rest : List Oper} {o : Oper} {a : Act} {Q : Exit → Act → World → Prop} (hgd : o.guard = none) (s x : Operand)
    (ho : o.op = .call { callee := .builtin .append, args := #[s, x], argTypes := #[S, S] })
    (base G : Nat) (v : Value) (l : List ByteArray) (r : ByteArray) (hs : a.eval s = v) (hx : a.eval x = .slice (some ⟨G, 0, none⟩) 1 1) (hv : Ls T w base v l) (hu : w.cell? ⟨G, 0, none⟩ = some (.string r)) (hn : l.length ≤ 1000000) (hbase : base ≤ w.heap.size)
    (h : ∀ v' w', Ls T w' base v' (l ++ [r]) → w.grownBy w' v.ownBlock → wpList P ops Q rest (a.put o.dst v') w') : wpList P ops Q (o :: rest) a w := by
  obtain ⟨i0, hi, hz0, hz1, hz2⟩ := info_parts hP.info
  refine wpList_append_own w hgd s x S ho base T i0 (.string ByteArray.empty) 1 16 hP.under hi hz0 hz1 hz2 rfl (by decide) v l.length (cellsS l) hs hv ⟨G, 0, none⟩ 1 1 (cellsS [r]) hx rfl ?_ (oneS [r]) (by unfold maxLen; omega) (by omega) hbase ?_
  · intro j u hj
    match j, hj with
    | 0, hj => simp [cellsS] at hj; subst hj; simpa [Addr.add] using hu
    | j + 1, hj => simp [cellsS] at hj
  intro v' w' h1 h2 _
  refine h v' w' ?_ h2
  unfold Ls
  rw [List.length_append]
  unfold cellsS at *
  rw [List.map_append]
  exact h1

end Go.Proofs.YtlicdeppfhmfjabGreatDoor.rcp

/- Twenty digits, four by four, in the program. -/
namespace Go.Proofs.YtlicdeppfhmfjabGreatDoor.rcf
open Go.Proofs.YtlicdeppfhmfjabGreatDoor.rcp (Ls wp_str TextT four)
open Go.RowKit
set_option maxRecDepth 100000
set_option linter.unusedVariables false

theorem textT : TextT Tryz.prog 9 66 := ⟨by kernel_rfl, Tryz.underlying66⟩
def szOf : Value → Nat
  | .string s => s.size
  | _ => 0
/-- The first k groups. -/
def grp (l : List UInt8) (k : Nat) : List (List UInt8) := (List.range k).map fun i => (l.drop (4 * i)).take 4
def lists (l : List ByteArray) : List (List UInt8) := l.map fun s => s.data.toList
theorem grp_snoc (l : List UInt8) (k : Nat) : grp l (k + 1) = grp l k ++ [(l.drop (4 * k)).take 4] := by
  unfold grp; rw [List.range_succ, List.map_append]; rfl
theorem lists_snoc (l : List ByteArray) (s : ByteArray) : lists (l ++ [s]) = lists l ++ [s.data.toList] := by unfold lists; rw [List.map_append]; rfl
theorem join_grp {l : List UInt8} (h : l.length = 20) : Lib.join (grp l 5) [32] = four l := by
  match l, h with
  | [a, b, c, d, e, f, g, i, j, l, m, n, o, p, q, r, s, t, u, v], _ => rfl
theorem ext_take (d : ByteArray) (k : Nat) : (d.extract 0 k).data.toList = d.data.toList.take k := by simp [ByteArray.data_extract]
theorem ext_drop (d : ByteArray) (k : Nat) : (d.extract k d.size).data.toList = d.data.toList.drop k := by
  simp [ByteArray.data_extract]
  exact List.take_of_length_le (by rw [List.length_drop, Array.length_toList]; exact Nat.le_refl _)

set_option maxHeartbeats 1000000 in
theorem fours_any (s : ByteArray) (w : World) (hs : s.size = 20) :
    Calls Tryz.prog 25 #[.string s] w fun e w' => e = .returned (.string ⟨(four s.data.toList).toArray⟩) ∧ Below w.heap.size w w' := by
  have HLN : Hid (s.data.toList.length = 20) := (Array.length_toList).trans hs
  have HS : Hid (s.size = 20) := hs
  clear hs
  go_enter Tryz.func25, Tryz.ntmps25
  go_wp2_with fail
  go_loopw [0, 3] (fun v0 v3 wr => ∃ (k : Nat) (D : ByteArray) (V : Value) (out : List ByteArray), k ≤ 5 ∧ D.size = 20 - 4 * k ∧ v0 = .string D ∧ V = v3 ∧ D.data.toList = s.data.toList.drop (4 * k) ∧ out.length = k ∧ lists out = grp s.data.toList k ∧ Ls 9 wr w.heap.size V out ∧ Below w.heap.size w wr) (fun v0 _ _ => szOf v0)
  case atStart => exact ⟨0, s, _, [], by decide, HS.out, rfl, rfl, rfl, rfl, rfl, Ls.zero _ _ _, Below.refl _ _⟩
  case round =>
    obtain ⟨k, D, V, out, hk, hD, rfl, hV, hDl, hol, hli, hls, hbel⟩ := hrel
    subst hV
    have HLS : Hid (Ls 9 wr w.heap.size V out) := hls
    have HDL : Hid (D.data.toList = s.data.toList.drop (4 * k)) := hDl
    have HLI : Hid (lists out = grp s.data.toList k) := hli
    have HBL : Hid (Below w.heap.size w wr) := hbel
    have HDS : Hid (D.size = 20 - 4 * k) := hD
    have HOL : Hid (out.length = k) := hol
    have hol6 : out.length ≤ 1000000 := by omega
    clear hls hDl hli hbel
    by_cases h5 : k = 5
    · have hne : D = ⟨#[]⟩ := by
        apply ByteArray.ext
        have : D.data.size = 0 := by show D.size = 0; omega
        exact Array.eq_empty_of_size_eq_zero this
      have HJ : Hid (∀ w', Below w.heap.size wr w' → True) := fun _ _ => trivial
      obtain ⟨g, cap, hV2, hg0, hg1, hcap, hcells⟩ := HLS.out.row (by omega)
      subst hV2 hne
      have HJN : Hid (Calls Tryz.prog 49 #[.slice (some ⟨g, 0, none⟩) out.length cap, .string ⟨#[32]⟩] wr fun e w' => e = .returned (.string ⟨(four s.data.toList).toArray⟩) ∧ Below wr.heap.size wr w') := by
        have hq : Lib.join (out.map (·.data.toList)) [32] = four s.data.toList := by
          have := HLI.out
          rw [h5] at this
          show Lib.join (lists out) [32] = _
          rw [this, join_grp HLN.out]
        have hfl : (four s.data.toList).length = 24 := rcp.four_len HLN.out
        have h := Tryz.strings_Join g 0 cap out ⟨#[32]⟩ wr (fun j x hx => by
          have hj : j < out.length := by
            rcases Nat.lt_or_ge j out.length with h | h
            · exact h
            · rw [List.getElem?_eq_none h] at hx; cases hx
          have := hcells j hj
          rw [List.getD_eq_getElem?_getD, hx] at this
          simpa using this) hg1 (by omega) hcap (by show (Lib.join (out.map (·.data.toList)) [32]).length ≤ _; rw [hq, hfl]; decide)
        have hq' : Lib.join (out.map (·.data.toList)) (⟨#[32]⟩ : ByteArray).data.toList = four s.data.toList := hq
        rw [hq'] at h
        exact h
      clear hcells hg0 hg1 hcap HLI HDL HDS HOL h5 hD hol hk
      go_wp2_with fail
      refine HJN.out.mono ?_
      rintro e w' ⟨rfl, hb⟩
      have HB2 : Hid (Below w.heap.size w w') := HBL.out.trans (hb.mono HBL.out.size)
      clear hb HJN
      go_wp2_with fail
      go_ret
      exact ⟨rfl, HB2.out⟩
    · have hD4 : 4 ≤ D.size := by omega
      have hne : D ≠ ⟨#[]⟩ := by rintro rfl; exact absurd hD4 (by decide)
      have hE : D.toList.isEmpty = false := by
        cases hx : D.toList.isEmpty with
        | false => rfl
        | true =>
          exfalso
          have h1 : D.toList = [] := List.isEmpty_iff.1 hx
          have h2 : D.data.toList = [] := by rw [← h1, ByteArray.toList_eq]
          have h3 : D.data.toList.length = D.size := Array.length_toList
          rw [h2] at h3
          simp at h3
          omega
      have HUA : Hid (∀ o, Ls 9 (wr.alloc o) w.heap.size V out) := fun o => HLS.out.alloc o
      have HBA : Hid (∀ o, Below w.heap.size w (wr.alloc o)) := fun o => HBL.out.alloc HBL.out.size o
      have HK : Hid (k < 5) := by show k < 5; omega
      clear hD hol hk h5
      go_wp2_with (first | (refine wp_str textT rfl _ _ rfl w.heap.size wr.heap.size V out (D.extract 0 4) rfl rfl (HUA.out _) ((Blk.new wr _ _).cell 0) hol6 (by have := HBL.out.size; simp; omega) ?_; intro v3 w3 h3 hg3; have HB3 : Hid (Below w.heap.size w w3) := tar.own_bel (HUA.out _) hg3 (HBA.out _) (Nat.le_refl _) (by have := HBL.out.size; simp; omega); have H3 : Hid (Ls 9 w3 w.heap.size v3 (out ++ [D.extract 0 4])) := h3; clear h3 hg3) | fail)
      go_roundw
      case rel =>
        refine ⟨k + 1, D.extract 4 D.size, v3, out ++ [D.extract 0 4], HK.out, ?_, rfl, rfl, ?_, ?_, ?_, H3.out, HB3.out⟩
        · have := HDS.out; rw [ByteArray.size_extract]; omega
        · rw [ext_drop, HDL.out, List.drop_drop]; congr 1
        · rw [List.length_append, HOL.out]; rfl
        · rw [lists_snoc, HLI.out, grp_snoc, ext_take, HDL.out]
      case measure => simp [szOf]; omega

end Go.Proofs.YtlicdeppfhmfjabGreatDoor.rcf

/- receipt.Number: what is asked of it. -/
namespace Go.Proofs.YtlicdeppfhmfjabGreatDoor.rcp
open Go.RowKit

def KrNumber (w0 : World) : Prop := ∀ (W : World) (m : Int), Below w0.heap.size w0 W → (Lit.int .i64 m).wf = true → Calls Tryz.prog 23 #[.int .i64 m] W fun e w' => NumPost W m e w'

end Go.Proofs.YtlicdeppfhmfjabGreatDoor.rcp
