import Derived.Test.YtlicdeppfhmfjaaGreatDoorBack
import Derived.Test.YtlicdeppfhmfjaaGreatDoorCkGdN
import Derived.Test.YtlicdeppfhmfjaaGreatDoorCkDgN
import Derived.Test.YtlicdeppfhmfjaaGreatDoorTkN
import Derived.Test.YtlicdeppfhmfjaaGreatDoorBlk
import Derived.WalkKit
import Derived.Test.YtlicdeppfhmfjaaGreatDoorProg
import Derived.Laws.IdiomCopy
import Derived.Laws.Rows
import Derived.Laws.Tables
import Derived.Deep.MidRow
import Derived.Deep.RegionHeld
import Derived.Laws.StructEq
import Derived.Test.YtlicdeppfhmfjaaGreatDoorTkMade
import Derived.Test.YtlicdeppfhmfjaaGreatDoorCkPick
import Derived.Deep.DeepCutAuto
import Derived.Laws.OwnMore
import Derived.Laws.AppendOwnNone
import Derived.OwnWalk
import Derived.BigRegion
import Derived.BigQuiet
import Derived.WalkSpells
import Derived.WalkLawsBesides
import Derived.Below
import Derived.Test.YtlicdeppfhmfjaaGreatDoorDigitsN
import Derived.Laws.RangeAny
import Derived.Test.YtlicdeppfhmfjaaGreatDoorCutN
import Derived.Lib.Bytealg
import Derived.Lib.IndexBytes
import Derived.Test.YtlicdeppfhmfjaaGreatDoorReadN
import Derived.Lib.AtoiAll
import Derived.Shelf.LaysM
import Derived.Shelf.LaysC
import Derived.Shelf.Strconv.AtoiAll
import Derived.Shelf.Strconv.ErrVarAll
import Derived.Lib.SplitLaws
import Derived.Lib.Replace
import Derived.Shelf.Strings.Cut
import Derived.Shelf.Strings.Split
import Derived.Shelf.Strings.Replace
import Derived.Maps.Own
import Derived.Maps.Keyed
import Derived.Maps.Views
import Derived.StringKeys
import Derived.Test.YtlicdeppfhmfjaaGreatDoorCkTxt
import Derived.Test.YtlicdeppfhmfjaaGreatDoorChk
import Derived.DataReads
import Derived.Lib.LaidTab
import Derived.Test.YtlicdeppfhmfjaaGreatDoorCkRv
import Derived.Lib.OthersKept

/- Receipts: plain facts. -/
namespace Go.Proofs.YtlicdeppfhmfjaaGreatDoor.rcp
open Go.Proofs.YtlicdeppfhmfjaaGreatDoor.cents (showT readR read_shown)
open Go.Proofs.YtlicdeppfhmfjaaGreatDoor.check (digitR goodR flawR)
open Go.Proofs.YtlicdeppfhmfjaaGreatDoor.token (parseE tokOf dv)
set_option linter.unusedVariables false

/-- Decimal digits, with noughts ahead. -/
def pad (n : Nat) (k : Nat) : List UInt8 := List.replicate (k - (Lib.decDigits n).length) 48 ++ Lib.decDigits n
/-- A meter's number on paper. -/
def numL (m : Nat) : List UInt8 := pad m 10 ++ Lib.decDigits (digitR (pad m 10)).toNat
def MMay (m : Int) : Prop := 0 ≤ m ∧ m ≤ 49
def NumIs (m : Int) (l : List UInt8) (e : Int) : Prop := (MMay m ∧ l = numL m.toNat ∧ e = 0) ∨ (¬ MMay m ∧ l = [] ∧ e = 18)
theorem NumIs.one {m e e' : Int} {l l' : List UInt8} (h : NumIs m l e) (h' : NumIs m l' e') : l = l' ∧ e = e' := by
  rcases h with ⟨a, rfl, rfl⟩ | ⟨a, rfl, rfl⟩ <;> rcases h' with ⟨a', rfl, rfl⟩ | ⟨a', rfl, rfl⟩ <;> first | exact ⟨rfl, rfl⟩ | contradiction
theorem num_all : ∀ m, m < 50 → (numL m).length = 11 ∧ flawR (numL m) = 0 ∧ goodR (numL m) = true ∧ dv ((numL m).take 10) = m ∧ (numL m).all (fun c => c != 10) = true := by decide +kernel
/-- The meter of a number. -/
def Named (l : List UInt8) (m : Nat) : Prop := m < 50 ∧ numL m = l
theorem Named.one {l : List UInt8} {m k : Nat} (h : Named l m) (h' : Named l k) : m = k := by
  have a := (num_all m h.1).2.2.2.1
  have b := (num_all k h'.1).2.2.2.1
  rw [h.2] at a
  rw [h'.2] at b
  omega
def MeterIs (l : List UInt8) (m e : Int) : Prop :=
  (l.length ≠ 11 ∧ m = 0 ∧ e = 6) ∨ (l.length = 11 ∧ flawR l ≠ 0 ∧ m = 0 ∧ e = flawR l) ∨ (l.length = 11 ∧ flawR l = 0 ∧ goodR l = false ∧ m = 0 ∧ e = 8) ∨
  (l.length = 11 ∧ flawR l = 0 ∧ goodR l = true ∧ (∀ k, ¬ Named l k) ∧ m = 0 ∧ e = 18) ∨ (l.length = 11 ∧ flawR l = 0 ∧ goodR l = true ∧ ∃ k : Nat, Named l k ∧ m = (k : Int) ∧ e = 0)
theorem MeterIs.one {l : List UInt8} {m e m' e' : Int} (h : MeterIs l m e) (h' : MeterIs l m' e') : m = m' ∧ e = e' := by
  rcases h with ⟨a, rfl, rfl⟩ | ⟨a, b, rfl, rfl⟩ | ⟨a, b, c, rfl, rfl⟩ | ⟨a, b, c, d, rfl, rfl⟩ | ⟨a, b, c, k, d, rfl, rfl⟩ <;> rcases h' with ⟨a', rfl, rfl⟩ | ⟨a', b', rfl, rfl⟩ | ⟨a', b', c', rfl, rfl⟩ | ⟨a', b', c', d', rfl, rfl⟩ | ⟨a', b', c', k', d', rfl, rfl⟩ <;> first | exact ⟨rfl, rfl⟩ | contradiction | (rw [c] at c'; exact absurd c' (by decide)) | exact absurd d' (d _) | exact absurd d (d' _) | (obtain rfl := d.one d'; exact ⟨rfl, rfl⟩)
theorem meter_back {k : Nat} (hk : k < 50) {m e : Int} (h : MeterIs (numL k) m e) : m = (k : Int) ∧ e = 0 := by
  obtain ⟨a, b, c, _⟩ := num_all k hk
  exact h.one (.inr (.inr (.inr (.inr ⟨a, b, c, k, ⟨hk, rfl⟩, rfl, rfl⟩))))
/-- A receipt. -/
structure Rc where
  me : Int
  id : Int
  te : Int
  de : Int
  fe : Int
  pr : Int
  ch : Int
  un : Int
  tk : List UInt8
def rc0 : Rc := ⟨0, 0, 0, 0, 0, 0, 0, 0, []⟩
def Ten (z : Int) : Prop := 0 ≤ z ∧ z ≤ 100000000
def RRange (r : Rc) : Prop := (Ten r.te ∧ Ten r.de ∧ Ten r.fe ∧ Ten r.pr) ∧ Ten r.ch ∧ (1 ≤ r.id ∧ r.id ≤ 1048575) ∧ 0 ≤ r.un ∧ r.un ≤ 2097151
def RSum (r : Rc) : Prop := r.te - r.de - r.fe - r.pr - r.ch = 0
def tokR (r : Rc) : token.Tok := tokOf (dv r.tk / 97)
def RTok (r : Rc) : Prop := ((tokR r).i : Int) = r.id ∧ ((tokR r).c = 0 → ((tokR r).a : Int) = r.un) ∧ ((tokR r).c ≠ 0 → r.un = 0)
/-- What is wrong with a receipt. -/
def FaultIs (r : Rc) (e : Int) : Prop :=
  (¬ MMay r.me ∧ e = 18) ∨ (MMay r.me ∧ ¬ RRange r ∧ e = 2) ∨ (MMay r.me ∧ RRange r ∧ ¬ RSum r ∧ e = 19) ∨ (MMay r.me ∧ RRange r ∧ RSum r ∧ parseE r.tk ≠ 0 ∧ e = parseE r.tk) ∨
  (MMay r.me ∧ RRange r ∧ RSum r ∧ parseE r.tk = 0 ∧ ¬ RTok r ∧ e = 8) ∨ (MMay r.me ∧ RRange r ∧ RSum r ∧ parseE r.tk = 0 ∧ RTok r ∧ e = 0)
theorem FaultIs.one {r : Rc} {e f : Int} (h : FaultIs r e) (h' : FaultIs r f) : e = f := by
  rcases h with ⟨a, rfl⟩ | ⟨a, b, rfl⟩ | ⟨a, b, c, rfl⟩ | ⟨a, b, c, d, rfl⟩ | ⟨a, b, c, d, g, rfl⟩ | ⟨a, b, c, d, g, rfl⟩ <;> rcases h' with ⟨a', rfl⟩ | ⟨a', b', rfl⟩ | ⟨a', b', c', rfl⟩ | ⟨a', b', c', d', rfl⟩ | ⟨a', b', c', d', g', rfl⟩ | ⟨a', b', c', d', g', rfl⟩ <;> first | rfl | contradiction
def Right (r : Rc) : Prop := MMay r.me ∧ RRange r ∧ RSum r ∧ parseE r.tk = 0 ∧ RTok r
theorem FaultIs.ok {r : Rc} {e : Int} (h : FaultIs r e) : e = 0 ↔ Right r := by
  rcases h with ⟨a, rfl⟩ | ⟨a, b, rfl⟩ | ⟨a, b, c, rfl⟩ | ⟨a, b, c, d, rfl⟩ | ⟨a, b, c, d, g, rfl⟩ | ⟨a, b, c, d, g, rfl⟩
  · exact ⟨fun h => absurd h (by decide), fun h => absurd h.1 a⟩
  · exact ⟨fun h => absurd h (by decide), fun h => absurd h.2.1 b⟩
  · exact ⟨fun h => absurd h (by decide), fun h => absurd h.2.2.1 c⟩
  · exact ⟨fun h => absurd h d, fun h => absurd h.2.2.2.1 d⟩
  · exact ⟨fun h => absurd h (by decide), fun h => absurd h.2.2.2.2 g⟩
  · exact ⟨fun _ => ⟨a, b, c, d, g⟩, fun _ => rfl⟩
theorem parse_len {l : List UInt8} (h : parseE l = 0) : l.length = 20 ∧ check.allD l = true := by
  unfold parseE at h
  by_cases a : l.length = 20
  · refine ⟨a, ?_⟩
    rw [if_neg (by omega)] at h
    by_cases b : check.allD l = false
    · rw [if_pos b] at h; exact absurd h (by decide)
    · simpa using b
  · rw [if_pos a] at h; exact absurd h (by decide)
/-- A line: a name, a blank, a text, a line feed. -/
def line (n v : List UInt8) : List UInt8 := n ++ 32 :: (v ++ [10])
def nMETER : List UInt8 := [77, 69, 84, 69, 82]
def nNUMBER : List UInt8 := [78, 85, 77, 66, 69, 82]
def nTENDER : List UInt8 := [84, 69, 78, 68, 69, 82]
def nDEBT : List UInt8 := [68, 69, 66, 84]
def nFEE : List UInt8 := [70, 69, 69]
def nPRICE : List UInt8 := [80, 82, 73, 67, 69]
def nCHANGE : List UInt8 := [67, 72, 65, 78, 71, 69]
def nUNITS : List UInt8 := [85, 78, 73, 84, 83]
def nTOKEN : List UInt8 := [84, 79, 75, 69, 78]
/-- Twenty digits, four by four. -/
def four (k : List UInt8) : List UInt8 := k.take 4 ++ 32 :: ((k.drop 4).take 4 ++ 32 :: ((k.drop 8).take 4 ++ 32 :: ((k.drop 12).take 4 ++ 32 :: (k.drop 16).take 4)))
/-- What stands behind the first blank of each line. -/
def vals (r : Rc) : List (List UInt8) := [numL r.me.toNat, Lib.decDigits r.id.toNat, showT r.te, showT r.de, showT r.fe, showT r.pr, showT r.ch, Lib.decDigits r.un.toNat, four r.tk]
def paper (r : Rc) : List UInt8 :=
  line nMETER (numL r.me.toNat) ++ (line nNUMBER (Lib.decDigits r.id.toNat) ++ (line nTENDER (showT r.te) ++ (line nDEBT (showT r.de) ++ (line nFEE (showT r.fe) ++ (line nPRICE (showT r.pr) ++ (line nCHANGE (showT r.ch) ++ (line nUNITS (Lib.decDigits r.un.toNat) ++ line nTOKEN (four r.tk))))))))
/-- The values of a text, byte by byte: those that are whole; whether a line begins; what has come behind the blank. -/
def valG : List UInt8 → List (List UInt8) → Bool → Option (List UInt8) → List (List UInt8) × Bool
  | [], out, b, _ => (out, decide (out.length = 9) && b)
  | c :: t, out, b, cur =>
    if c = 10 then match cur with
      | none => ([], false)
      | some v => valG t (out ++ [v]) true none
    else valG t out false (match cur with
      | none => if c = 32 then some [] else none
      | some v => some (v ++ [c]))
def valsOf (l : List UInt8) : List (List UInt8) × Bool := valG l [] true none
theorem valG_skip {c : UInt8} (h : c ≠ 10) (t : List UInt8) (out : List (List UInt8)) (b : Bool) (cur : Option (List UInt8)) : valG (c :: t) out b cur = valG t out false (match cur with
      | none => if c = 32 then some [] else none
      | some v => some (v ++ [c])) := by
  conv => lhs; unfold valG
  rw [if_neg h]
theorem val_name (n t : List UInt8) (out : List (List UInt8)) (b : Bool) (h : n.all (fun c => c != 10 && c != 32) = true) : valG (n ++ 32 :: t) out b none = valG t out false (some []) := by
  induction n generalizing b with
  | nil => rfl
  | cons c n ih =>
    rw [List.all_cons, Bool.and_eq_true] at h
    obtain ⟨h1, h2⟩ := h
    rw [Bool.and_eq_true] at h1
    have c1 : c ≠ 10 := by simpa using h1.1
    have c2 : c ≠ 32 := by simpa using h1.2
    show valG (c :: (n ++ 32 :: t)) out b none = _
    rw [valG_skip c1]
    dsimp only
    rw [if_neg c2]
    exact ih false h2
theorem val_text (v u t : List UInt8) (out : List (List UInt8)) (h : v.all (fun c => c != 10) = true) : valG (v ++ 10 :: t) out false (some u) = valG t (out ++ [u ++ v]) true none := by
  induction v generalizing u with
  | nil => rw [List.append_nil]; rfl
  | cons c v ih =>
    rw [List.all_cons, Bool.and_eq_true] at h
    have c1 : c ≠ 10 := by simpa using h.1
    show valG (c :: (v ++ 10 :: t)) out false (some u) = _
    rw [valG_skip c1]
    dsimp only
    rw [ih (u ++ [c]) h.2, List.append_assoc]
    rfl
theorem val_line (n v t : List UInt8) (out : List (List UInt8)) (b : Bool) (hn : n.all (fun c => c != 10 && c != 32) = true) (hv : v.all (fun c => c != 10) = true) : valG (line n v ++ t) out b none = valG t (out ++ [v]) true none := by
  unfold line
  rw [List.append_assoc, List.cons_append, val_name n _ out b hn, List.append_assoc]
  exact val_text v [] t out hv
theorem dec_no10 (u : Nat) : (Lib.decDigits u).all (fun c => c != 10) = true := by
  have h := (cents.dec_facts u u (Nat.le_refl _)).1
  refine List.all_eq_true.2 fun c hc => ?_
  have := List.all_eq_true.1 h c hc
  simp [cents.isD] at this
  simp
  intro e
  subst e
  exact absurd this.1 (by decide)
theorem all_app (l m : List UInt8) (f : UInt8 → Bool) : (l ++ m).all f = (l.all f && m.all f) := List.all_append
theorem show_no10 (n : Int) (h : 0 ≤ n) : (showT n).all (fun c => c != 10) = true := by
  unfold showT
  rw [if_neg (by omega)]
  unfold cents.showP
  rw [all_app, all_app, all_app, dec_no10, dec_no10, dec_no10]
  decide
theorem four_no10 {k : List UInt8} (h : check.allD k = true) : (four k).all (fun c => c != 10) = true := by
  have hk : ∀ c ∈ k, (c != 10) = true := fun c hc => by
    have := List.all_eq_true.1 h c hc
    simp [check.isD] at this
    simp
    intro e
    subst e
    exact absurd this.1 (by decide)
  have ht : ∀ (l : List UInt8), (∀ c ∈ l, c ∈ k) → l.all (fun c => c != 10) = true := fun l hl => List.all_eq_true.2 fun c hc => hk c (hl c hc)
  have e : ((32 : UInt8) != 10) = true := by decide
  unfold four
  simp only [all_app, List.all_cons, Bool.and_eq_true, e]
  exact ⟨ht _ fun c hc => List.mem_of_mem_take hc, trivial, ht _ fun c hc => List.mem_of_mem_drop (List.mem_of_mem_take hc), trivial, ht _ fun c hc => List.mem_of_mem_drop (List.mem_of_mem_take hc), trivial, ht _ fun c hc => List.mem_of_mem_drop (List.mem_of_mem_take hc), trivial, ht _ fun c hc => List.mem_of_mem_drop (List.mem_of_mem_take hc)⟩
/-- The lines of a receipt that is right are read off its paper. -/
theorem vals_paper {r : Rc} (h : Right r) : valsOf (paper r) = (vals r, true) := by
  obtain ⟨⟨m0, m1⟩, ⟨⟨⟨t0, _⟩, ⟨d0, _⟩, ⟨f0, _⟩, p0, _⟩, ⟨c0, _⟩, _⟩, _, hp, _⟩ := h
  have hn := (num_all r.me.toNat (by omega)).2.2.2.2
  unfold valsOf paper
  rw [val_line _ _ _ _ _ (by decide) hn, val_line _ _ _ _ _ (by decide) (dec_no10 _), val_line _ _ _ _ _ (by decide) (show_no10 _ t0), val_line _ _ _ _ _ (by decide) (show_no10 _ d0), val_line _ _ _ _ _ (by decide) (show_no10 _ f0), val_line _ _ _ _ _ (by decide) (show_no10 _ p0), val_line _ _ _ _ _ (by decide) (show_no10 _ c0), val_line _ _ _ _ _ (by decide) (dec_no10 _)]
  have e := val_line nTOKEN (four r.tk) [] ([] ++ [numL r.me.toNat] ++ [Lib.decDigits r.id.toNat] ++ [showT r.te] ++ [showT r.de] ++ [showT r.fe] ++ [showT r.pr] ++ [showT r.ch] ++ [Lib.decDigits r.un.toNat]) true (by decide) (four_no10 (parse_len hp).2)
  rw [List.append_nil] at e
  rw [e]
  rfl
/-- A whole number of at most seven digits. -/
def wholeR (l : List UInt8) : Int := if l.length < 1 ∨ 7 < l.length then -1 else if cents.allD l = true then cents.dval l else -1
theorem dec_len7 (u : Nat) (h : u ≤ 2097151) : 1 ≤ (Lib.decDigits u).length ∧ (Lib.decDigits u).length ≤ 7 := by
  have hne := (cents.dec_facts u u (Nat.le_refl _)).2.2.1
  refine ⟨by cases e : Lib.decDigits u with
    | nil => exact absurd e hne
    | cons a l => simp, ?_⟩
  have step : ∀ v : Nat, ∀ k : Nat, v < 10 ^ (k + 1) → (Lib.decDigits v).length ≤ k + 1 := fun v k => by
    induction k generalizing v with
    | zero =>
      intro hv
      have : ∀ x, x < 10 → (Lib.decDigits x).length ≤ 0 + 1 := by decide +kernel
      exact this v (by omega)
    | succ k ih =>
      intro hv
      by_cases h10 : v < 10
      · have : ∀ x, x < 10 → (Lib.decDigits x).length ≤ 1 := by decide +kernel
        have := this v h10
        omega
      · rw [cents.dec_step h10, List.length_append]
        have := ih (v / 10) (by rw [Nat.pow_succ] at hv; omega)
        simp
        omega
  have := step u 6 (by omega)
  omega
theorem whole_dec {u : Nat} (h : u ≤ 2097151) : wholeR (Lib.decDigits u) = (u : Int) := by
  have h1 := dec_len7 u h
  have h2 := cents.dec_facts u u (Nat.le_refl _)
  unfold wholeR
  rw [if_neg (by omega), if_pos h2.1, h2.2.1]
/-- The twenty digits out of their line. -/
def unfour (t : List UInt8) : List UInt8 := t.take 4 ++ ((t.drop 5).take 4 ++ ((t.drop 10).take 4 ++ ((t.drop 15).take 4 ++ (t.drop 20).take 4)))
theorem four_len {k : List UInt8} (h : k.length = 20) : (four k).length = 24 := by
  unfold four
  simp only [List.length_append, List.length_cons, List.length_take, List.length_drop]
  omega
theorem un_four {k : List UInt8} (h : k.length = 20) : unfour (four k) = k := by
  match k, h with
  | [a, b, c, d, e, f, g, i, j, l, m, n, o, p, q, r, s, t, u, v], _ => rfl
/-- The receipt that the lines tell of. -/
def MeterV (l : List UInt8) (m : Int) : Prop := ∃ e, MeterIs l m e
def Cand (l : List (List UInt8)) (r : Rc) : Prop := MeterV (l.getD 0 []) r.me ∧ r = ⟨r.me, wholeR (l.getD 1 []), (readR (l.getD 2 [])).1, (readR (l.getD 3 [])).1, (readR (l.getD 4 [])).1, (readR (l.getD 5 [])).1, (readR (l.getD 6 [])).1, wholeR (l.getD 7 []), unfour (l.getD 8 [])⟩
theorem Cand.one {l : List (List UInt8)} {r s : Rc} (h : Cand l r) (h' : Cand l s) : r = s := by
  obtain ⟨⟨e, a⟩, b⟩ := h
  obtain ⟨⟨e', a'⟩, b'⟩ := h'
  rw [b, b', (a.one a').1]
theorem cand_right {r : Rc} (h : Right r) : Cand (vals r) r := by
  obtain ⟨⟨m0, m1⟩, ⟨⟨⟨t0, t1⟩, ⟨d0, d1⟩, ⟨f0, f1⟩, p0, p1⟩, ⟨c0, c1⟩, ⟨i0, i1⟩, u0, u1⟩, _, hp, _⟩ := h
  obtain ⟨na, nb, nc, _⟩ := num_all r.me.toNat (by omega)
  refine ⟨⟨0, .inr (.inr (.inr (.inr ⟨na, nb, nc, r.me.toNat, ⟨by omega, rfl⟩, by omega, rfl⟩)))⟩, ?_⟩
  show r = ⟨r.me, wholeR (Lib.decDigits r.id.toNat), (readR (showT r.te)).1, (readR (showT r.de)).1, (readR (showT r.fe)).1, (readR (showT r.pr)).1, (readR (showT r.ch)).1, wholeR (Lib.decDigits r.un.toNat), unfour (four r.tk)⟩
  rw [whole_dec (by omega), whole_dec (by omega), read_shown _ (by omega) (by omega), read_shown _ (by omega) (by omega), read_shown _ (by omega) (by omega), read_shown _ (by omega) (by omega), read_shown _ (by omega) (by omega), un_four (parse_len hp).1]
  rw [Int.toNat_of_nonneg (by omega), Int.toNat_of_nonneg (by omega)]
theorem paper_inj {r s : Rc} (hr : Right r) (hs : Right s) (h : paper r = paper s) : r = s := by
  have a := vals_paper hr
  rw [h, vals_paper hs] at a
  have b : vals s = vals r := congrArg Prod.fst a
  have c := cand_right hr
  rw [← b] at c
  exact c.one (cand_right hs)
def ShowIs (r : Rc) (l : List UInt8) (e : Int) : Prop := FaultIs r e ∧ ((e = 0 ∧ l = paper r) ∨ (e ≠ 0 ∧ l = []))
theorem ShowIs.one {r : Rc} {l l' : List UInt8} {e e' : Int} (h : ShowIs r l e) (h' : ShowIs r l' e') : l = l' ∧ e = e' := by
  obtain ⟨a, b⟩ := h
  obtain ⟨a', b'⟩ := h'
  obtain rfl := a.one a'
  rcases b with ⟨_, rfl⟩ | ⟨c, rfl⟩ <;> rcases b' with ⟨_, rfl⟩ | ⟨c', rfl⟩ <;> first | exact ⟨rfl, rfl⟩ | contradiction
def ReadIs (l : List UInt8) (r : Rc) (e : Int) : Prop :=
  (400 < l.length ∧ r = rc0 ∧ e = 1) ∨ (¬ 400 < l.length ∧ (∀ s, Right s → paper s ≠ l) ∧ r = rc0 ∧ e = 3) ∨ (¬ 400 < l.length ∧ Right r ∧ paper r = l ∧ e = 0)
theorem ReadIs.one {l : List UInt8} {r s : Rc} {e f : Int} (h : ReadIs l r e) (h' : ReadIs l s f) : r = s ∧ e = f := by
  rcases h with ⟨a, rfl, rfl⟩ | ⟨a, b, rfl, rfl⟩ | ⟨a, b, c, rfl⟩ <;> rcases h' with ⟨a', rfl, rfl⟩ | ⟨a', b', rfl, rfl⟩ | ⟨a', b', c', rfl⟩ <;> first | exact ⟨rfl, rfl⟩ | contradiction | exact absurd c' (b _ b') | exact absurd c (b' _ ‹_›) | exact ⟨paper_inj b b' (c.trans c'.symm), rfl⟩

end Go.Proofs.YtlicdeppfhmfjaaGreatDoor.rcp

/- What the five of the receipts give back. -/
namespace Go.Proofs.YtlicdeppfhmfjaaGreatDoor.rcp
open Go.RowKit

/-- A text. -/
def tx (l : List UInt8) : Value := .string ⟨l.toArray⟩
def Rc.cs (r : Rc) : Array Value := #[.int .i64 r.me, .int .i64 r.id, .int .i64 r.te, .int .i64 r.de, .int .i64 r.fe, .int .i64 r.pr, .int .i64 r.ch, .int .i64 r.un, .string ⟨r.tk.toArray⟩]
def wf8 (r : Rc) : Prop := ((Lit.int .i64 r.me).wf = true ∧ (Lit.int .i64 r.id).wf = true ∧ (Lit.int .i64 r.te).wf = true ∧ (Lit.int .i64 r.de).wf = true) ∧ (Lit.int .i64 r.fe).wf = true ∧ (Lit.int .i64 r.pr).wf = true ∧ (Lit.int .i64 r.ch).wf = true ∧ (Lit.int .i64 r.un).wf = true
def Rc.v (r : Rc) : Value := .agg r.cs
def NumPost (w : World) (m : Int) (e : Ending) (w' : World) : Prop := ∃ l f, e = .returned (.tuple #[.string ⟨l.toArray⟩, .int .i64 f]) ∧ NumIs m l f ∧ Below w.heap.size w w'
def MeterPost (w : World) (l : List UInt8) (e : Ending) (w' : World) : Prop := ∃ m f, e = .returned (.tuple #[.int .i64 m, .int .i64 f]) ∧ MeterIs l m f ∧ Below w.heap.size w w'
def FaultPost (w : World) (r : Rc) (e : Ending) (w' : World) : Prop := ∃ f, e = .returned (.int .i64 f) ∧ FaultIs r f ∧ Below w.heap.size w w'
def ShowPost (w : World) (r : Rc) (e : Ending) (w' : World) : Prop := ∃ l f, e = .returned (.tuple #[.string ⟨l.toArray⟩, .int .i64 f]) ∧ ShowIs r l f ∧ Below w.heap.size w w'
def ReadPost (w : World) (l : List UInt8) (e : Ending) (w' : World) : Prop := ∃ r f, e = .returned (.tuple #[Rc.v r, .int .i64 f]) ∧ ReadIs l r f ∧ Below w.heap.size w w'

end Go.Proofs.YtlicdeppfhmfjaaGreatDoor.rcp

/- receipt.Check: what is asked of it. -/
namespace Go.Proofs.YtlicdeppfhmfjaaGreatDoor.rcp
open Go.RowKit

def KrCheck (w0 : World) : Prop := ∀ (W : World) (r : Rc), Below w0.heap.size w0 W → wf8 r → Calls Tryz.prog 11 #[r.v] W fun e w' => FaultPost W r e w'

end Go.Proofs.YtlicdeppfhmfjaaGreatDoor.rcp

/- receipt.Read: what is asked of it. -/
namespace Go.Proofs.YtlicdeppfhmfjaaGreatDoor.rcp
open Go.RowKit

def KrRead (w0 : World) : Prop := ∀ (W : World) (s : ByteArray), Below w0.heap.size w0 W →  Calls Tryz.prog 8 #[.string s] W fun e w' => ReadPost W s.data.toList e w'

end Go.Proofs.YtlicdeppfhmfjaaGreatDoor.rcp

/- receipt.Show: what is asked of it. -/
namespace Go.Proofs.YtlicdeppfhmfjaaGreatDoor.rcp
open Go.RowKit

def KrShow (w0 : World) : Prop := ∀ (W : World) (r : Rc), Below w0.heap.size w0 W → wf8 r → Calls Tryz.prog 6 #[r.v] W fun e w' => ShowPost W r e w'

end Go.Proofs.YtlicdeppfhmfjaaGreatDoor.rcp

/- A store behind which the world is a letter: what it changed, and that nothing else did. -/
namespace Go.Proofs.YtlicdeppfhmfjaaGreatDoor
open Go.RowKit

/-- The cells with these ones from a place on. -/
def putAll (cs : Array Value) : Nat → List Value → Array Value
  | _, [] => cs
  | o, v :: r => putAll (cs.setIfInBounds o v) (o + 1) r
/-- The block g holds these cells now; nothing else is changed. -/
structure Upd (w W : World) (g : Nat) (cs : Array Value) (t : TypeId) : Prop where
  blk : Blk W g cs t
  oth : ∀ G, G ≠ g → W.heap[G]? = w.heap[G]?
  bel : ∀ B w0, B ≤ g → Below B w0 w → Below B w0 W
  size : W.heap.size = w.heap.size
theorem Upd.keep {w W : World} {g G : Nat} {cs cs' : Array Value} {t t' : TypeId} (h : Upd w W g cs t) (hb : Blk w G cs' t') (hne : G ≠ g) : Blk W G cs' t' := by
  unfold Blk at *; rw [h.oth G hne]; exact hb
theorem Upd.cell {w W : World} {g : Nat} {cs : Array Value} {t : TypeId} (h : Upd w W g cs t) (x : Addr) (hne : x.block ≠ g) (hs : x.spot = none) : W.cell? x = w.cell? x := by
  obtain ⟨b, o, s⟩ := x
  simp only at hs hne
  subst hs
  simp only [World.cell?, h.oth b hne]
theorem upd_cells (g : Nat) (t : TypeId) : ∀ (vs : List Value) (o : Nat) (w : World) (cs : Array Value), Blk w g cs t → Upd w (w.setCells g o vs) g (putAll cs o vs) t
  | [], o, w, cs, h => ⟨h, fun _ _ => rfl, fun _ _ _ hb => hb, rfl⟩
  | v :: r, o, w, cs, h => by
    have ih := upd_cells g t r (o + 1) (w.setCell ⟨g, o, none⟩ v) (cs.setIfInBounds o v) (h.set o v)
    refine ⟨ih.blk, fun G hG => ?_, fun B w0 hB hb => ih.bel B w0 hB (bel_set hb g o v hB), ?_⟩
    · show ((w.setCell ⟨g, o, none⟩ v).setCells g (o + 1) r).heap[G]? = _
      rw [ih.oth G hG]
      simp only [World.setCell, Array.getElem?_modify]
      rw [if_neg (fun e => hG e.symm)]
    · show ((w.setCell ⟨g, o, none⟩ v).setCells g (o + 1) r).heap.size = _
      rw [ih.size]; simp [World.setCell]
theorem run_storeVar_let {P : Program} {w : World} {g off : Nat} {ty t : TypeId} {v : Value} {cells cs : Array Value} (hv : v.cells = cells) (hi : (P.info? ty).map (·.size) = some cells.size) (h1 : cells.all (·.oneCell') = true)
    (hB : Blk w g cs t) (hin : off + cells.size ≤ cs.size) : (storeVar ty ⟨g, off, none⟩ v).run P w = .ok () (w.setCells g off cells.toList) := by
  have := run_storeCells_cells (P := P) g off cells.toList 0 w (fun j hj => by
      have hj' : j < cells.size := by simpa using hj
      rw [Nat.add_zero, hB.cell (off + j), Array.getElem?_eq_getElem (by omega)]; rfl)
    (fun j hj => hB.free _) (fun v hv => (Array.all_eq_true_iff_forall_mem.1 h1) v (by simpa using hv))
  cases hq : P.info? ty with
  | none => simp [hq] at hi
  | some i =>
    have hs : cells.size = i.size := by simp [hq] at hi; omega
    simp only [Nat.add_zero] at this
    simp [storeVar, sizeOf, typeInfo, hq, hv, hs, this]
/-- THE STORE. -/
theorem wp_let {P : Program} {ops : Array Oper} {rest : List Oper} {o : Oper} {a : Act} {w : World} {Q : Exit → Act → World → Prop} (hgd : o.guard = none) (ty : TypeId) (x y : Operand) (ho : o.op = .store ty x y)
    (g off : Nat) (hx : a.eval x = .pointer (some ⟨g, off, none⟩)) (v : Value) (hy : a.eval y = v) (cells : Array Value) (hv : v.cells = cells) (hi : (P.info? ty).map (·.size) = some cells.size) (h1 : cells.all (·.oneCell') = true)
    (cs : Array Value) (t : TypeId) (hB : Blk w g cs t) (hin : off + cells.size ≤ cs.size) (new : Array Value) (hnew : putAll cs off cells.toList = new)
    (h : ∀ W, Upd w W g new t → wpList P ops Q rest (a.put o.dst undef) W) : wpList P ops Q (o :: rest) a w :=
  wpList_plain hgd fun _ hK => by
    unfold Oper.wp execOp
    simp only [ho, hx, hy, Instr.storeAt, Instr.sureAddr, Sem.run_bind, Sem.run_pure, Result.andThen_ok, run_storeVar_let hv hi h1 hB hin]
    refine hK _ _ (h _ ?_)
    rw [← hnew]
    exact upd_cells g t cells.toList off w cs hB
theorem putAll_all : ∀ (vs : List Value) (o : Nat) (cs : Array Value), o + vs.length = cs.size → (putAll cs o vs).toList = cs.toList.take o ++ vs
  | [], o, cs, h => by simp [putAll]; rw [List.take_of_length_le (by simpa using (by simp at h; omega))]
  | v :: r, o, cs, h => by
    rw [putAll, putAll_all r (o + 1) (cs.setIfInBounds o v) (by simp at h ⊢; omega)]
    have ho : o < cs.toList.length := by simp at h ⊢; omega
    rw [Array.toList_setIfInBounds, List.take_set, List.take_succ_eq_append_getElem ho]
    have ho' : o < cs.size := by simpa using ho
    have hm : min o cs.size = o := by omega
    simp [hm]
/-- The whole block is stored. -/
theorem wp_letAll {P : Program} {ops : Array Oper} {rest : List Oper} {o : Oper} {a : Act} {w : World} {Q : Exit → Act → World → Prop} (hgd : o.guard = none) (ty : TypeId) (x y : Operand) (ho : o.op = .store ty x y)
    (g : Nat) (hx : a.eval x = .pointer (some ⟨g, 0, none⟩)) (cells : Array Value) (hy : a.eval y = .agg cells) (hi : (P.info? ty).map (·.size) = some cells.size) (h1 : cells.all (·.oneCell') = true)
    (cs : Array Value) (t : TypeId) (hB : Blk w g cs t) (hin : cells.size = cs.size)
    (h : ∀ W, Upd w W g cells t → wpList P ops Q rest (a.put o.dst undef) W) : wpList P ops Q (o :: rest) a w :=
  wp_let hgd ty x y ho g 0 hx _ hy cells rfl hi h1 cs t hB (by omega) cells (by
    have := putAll_all cells.toList 0 cs (by simpa using hin)
    rw [List.take_zero, List.nil_append] at this
    rw [← Array.toList_inj]; exact this) h
/-- One cell is stored. -/
theorem wp_let1 {P : Program} {ops : Array Oper} {rest : List Oper} {o : Oper} {a : Act} {w : World} {Q : Exit → Act → World → Prop} (hgd : o.guard = none) (ty : TypeId) (x y : Operand) (ho : o.op = .store ty x y)
    (g off : Nat) (hx : a.eval x = .pointer (some ⟨g, off, none⟩)) (k : IntKind) (n : Int) (hy : a.eval y = .int k n) (hi : (P.info? ty).map (·.size) = some 1)
    (cs : Array Value) (t : TypeId) (hB : Blk w g cs t) (hin : off < cs.size)
    (h : ∀ W, Upd w W g (cs.setIfInBounds off (.int k n)) t → wpList P ops Q rest (a.put o.dst undef) W) : wpList P ops Q (o :: rest) a w :=
  wp_let hgd ty x y ho g off hx _ hy #[.int k n] rfl hi (by simp [Value.oneCell']) cs t hB (by simp; omega) _ rfl h
/-- THE LOAD of a whole block. -/
theorem wp_whole {P : Program} {ops : Array Oper} {rest : List Oper} {o : Oper} {a : Act} {w : World} {Q : Exit → Act → World → Prop} (hgd : o.guard = none) (ty : TypeId) (x : Operand) (ho : o.op = .load ty x)
    (g : Nat) (hx : a.eval x = .pointer (some ⟨g, 0, none⟩)) (t : TypeId) (cs : Array Value) (d : TypeDesc) (hB : Blk w g cs t)
    (hu : P.underlying ty = some d) (hd : (match d with | .struct _ | .array _ _ => true | _ => false) = true) (hi : (P.info? ty).map (·.size) = some cs.size)
    (h : wpList P ops Q rest (a.put o.dst (.agg cs)) w) : wpList P ops Q (o :: rest) a w := wpList_load_row hgd ty x ho g hx t cs (0, 0) d hB hu hd hi h

/-- A store and a load as what they run to, where the order is open. -/
theorem store_let {P : Program} {w : World} {g : Nat} {ty t : TypeId} {cells cs : Array Value} (hi : (P.info? ty).map (·.size) = some cells.size) (h1 : cells.all (·.oneCell') = true)
    (hB : Blk w g cs t) (hin : cells.size = cs.size) : ∃ W, (Instr.storeAt ty (.pointer (some ⟨g, 0, none⟩)) (.agg cells)).run P w = .ok () W ∧ Upd w W g cells t := by
  refine ⟨w.setCells g 0 cells.toList, ?_, ?_⟩
  · have hs := run_storeVar_let (P := P) (v := .agg cells) (cells := cells) (off := 0) rfl hi h1 hB (by omega)
    simp only [Instr.storeAt, Instr.sureAddr, Sem.run_bind, Sem.run_pure, Result.andThen_ok, hs]
  · have h := upd_cells g t cells.toList 0 w cs hB
    have := putAll_all cells.toList 0 cs (by simpa using hin)
    rw [List.take_zero, List.nil_append] at this
    rw [show putAll cs 0 cells.toList = cells by rw [← Array.toList_inj]; exact this] at h
    exact h
theorem load_let {P : Program} {w : World} {g : Nat} {ty t : TypeId} {cs : Array Value} {d : TypeDesc} (hB : Blk w g cs t) (hu : P.underlying ty = some d) (hd : d.isRow = true) (hi : (P.info? ty).map (·.size) = some cs.size) :
    (Instr.loadAt ty (.pointer (some ⟨g, 0, none⟩))).run P w = .ok (.agg cs) w := by
  have := run_loadAt_mid (P := P) w g 0 ty cs.toList d (fun j v hv => by rw [Nat.zero_add, hB.cell j]; simpa using hv) hu hd (by simpa using hi)
  simpa using this
/-- A whole block is read, whatever comes ahead. -/
theorem yieldsIf_whole {P : Program} {ops : Array Oper} {S : World → Prop} {op : Oper} {a : Act} (hw : Region.wanted op (yielded ops a.tmps) = true) (ty : TypeId) (x : Operand) (ho : op.op = .load ty x)
    (g : Nat) (hx : a.eval x = .pointer (some ⟨g, 0, none⟩)) (t : TypeId) (cs : Array Value) (d : TypeDesc) (hS : ∀ w, S w → Blk w g cs t)
    (hu : P.underlying ty = some d) (hd : d.isRow = true) (hi : (P.info? ty).map (·.size) = some cs.size) : YieldsIf P ops S op (.agg cs) a := by
  have := yieldsIf_load_mid (P := P) (S := S) hw ty x ho g 0 hx cs.toList d (fun w hSw j v hv => by rw [Nat.zero_add, (hS w hSw).cell j]; simpa using hv) hu hd (by simpa using hi)
  simpa using this
/-- An operation is taken first: where its answer goes is said. -/
theorem take_at {P : Program} {ops : Array Oper} {Q : Exit → Act → World → Prop} {md : Region.Mode} {S : World → Prop} {fuel : Nat} {listed : Array Bool} {a : Act} {w : World} (i d : Nat) (v : Value) (oi : Oper) (hi : ops[i]? = some oi) (hd : oi.dst = some d)
    (hs : Region.noSelect ops = true) (hf : Region.free md ops listed i = true) (hr : (Region.ready md ops listed).contains i = true)
    (hQ : ∀ c a w, Q (.panic c) (a.put oi.dst v) w → Q (.panic c) a w) (hy : YieldsIf P ops S oi v a) (hS : S w)
    (h : wpAnyH P md ops Q S fuel (listed.setIfInBounds i true) (a.put (some d) v) w) : wpAnyH P md ops Q S (fuel + 1) listed a w :=
  wpAnyH_take hi hs hf hr hQ hy hS (by rw [hd]; exact h)
/-- A whole block is stored, where the order is open. -/
theorem wp_letOp {P : Program} {o : Oper} {a : Act} {w : World} {K : Act → World → Prop} {Q : Exit → Act → World → Prop} (ty : TypeId) (x y : Operand) (ho : o.op = .store ty x y)
    (g : Nat) (hx : a.eval x = .pointer (some ⟨g, 0, none⟩)) (cells : Array Value) (hy : a.eval y = .agg cells) (hi : (P.info? ty).map (·.size) = some cells.size) (h1 : cells.all (·.oneCell') = true)
    (cs : Array Value) (t : TypeId) (hB : Blk w g cs t) (hin : cells.size = cs.size) (hd : o.dst = none)
    (h : ∀ W, Upd w W g cells t → K a W) : o.wp P a w K Q := by
  obtain ⟨W, hst, hU⟩ := store_let (P := P) (ty := ty) hi h1 hB hin
  unfold Oper.wp execOp
  simp only [ho, hx, hy, Sem.run_bind, hst, Result.andThen_ok]
  have := h W hU
  have e : a.put o.dst undef = a := by rw [hd]; rfl
  rw [← e] at this
  exact this
theorem Upd.drew {w W : World} {g : Nat} {cs : Array Value} {t : TypeId} (h : Upd w W g cs t) (q : Nat) : Upd w (W.drewN q) g cs t := ⟨h.blk, h.oth, fun B w0 hB hb => bel_drew (h.bel B w0 hB hb) q, h.size⟩

end Go.Proofs.YtlicdeppfhmfjaaGreatDoor

/- The load of a whole block, under a test that came out so. -/
namespace Go.Proofs.YtlicdeppfhmfjaaGreatDoor
open Go.RowKit

theorem wp_wholeG {P : Program} {ops : Array Oper} {rest : List Oper} {o : Oper} {a : Act} {w : World} {Q : Exit → Act → World → Prop} (hw : Region.wanted o (yielded ops a.tmps) = true) (ty : TypeId) (x : Operand) (ho : o.op = .load ty x)
    (g : Nat) (hx : a.eval x = .pointer (some ⟨g, 0, none⟩)) (t : TypeId) (cs : Array Value) (d : TypeDesc) (hB : Blk w g cs t)
    (hu : P.underlying ty = some d) (hd : d.isRow = true) (hi : (P.info? ty).map (·.size) = some cs.size)
    (h : wpList P ops Q rest (a.put o.dst (.agg cs)) w) : wpList P ops Q (o :: rest) a w :=
  wpList_step fun K hK => by
    rw [if_pos hw]
    exact wp_load_mid (P := P) (op := o) (a := a) (w := w) (K := K) (Q := Q) ty x ho g 0 hx cs.toList d (fun j v hv => by rw [Nat.zero_add, hB.cell j]; simpa using hv) hu hd (by simpa using hi) (by simpa using hK _ _ h)

end Go.Proofs.YtlicdeppfhmfjaaGreatDoor

/- Receipts compared. -/
namespace Go.Proofs.YtlicdeppfhmfjaaGreatDoor.rcp
open Go.RowKit
set_option maxRecDepth 100000
set_option linter.unusedVariables false
set_option linter.unusedSimpArgs false

theorem reI (d : Nat) (a a' : Int) (w : World) : (Op.equalIn (d + 1) 3 (.int .i64 a) (.int .i64 a')).run Tryz.prog w = .ok (a == a') w := run_equalIn_int w d _ _ _ a a' Tryz.underlying3
theorem rp0 (a b c d e f g h : Int) (t : ByteArray) (w : World) : (part 3 #[.int .i64 a, .int .i64 b, .int .i64 c, .int .i64 d, .int .i64 e, .int .i64 f, .int .i64 g, .int .i64 h, .string t] 0).run Tryz.prog w = .ok (.int .i64 a) w := by kernel_rfl
theorem rp1 (a b c d e f g h : Int) (t : ByteArray) (w : World) : (part 23 #[.int .i64 a, .int .i64 b, .int .i64 c, .int .i64 d, .int .i64 e, .int .i64 f, .int .i64 g, .int .i64 h, .string t] 1).run Tryz.prog w = .ok (.agg #[.int .i64 b, .int .i64 c, .int .i64 d, .int .i64 e, .int .i64 f, .int .i64 g, .int .i64 h]) w := by kernel_rfl
theorem rp8 (a b c d e f g h : Int) (t : ByteArray) (w : World) : (part 9 #[.int .i64 a, .int .i64 b, .int .i64 c, .int .i64 d, .int .i64 e, .int .i64 f, .int .i64 g, .int .i64 h, .string t] 8).run Tryz.prog w = .ok (.string t) w := by kernel_rfl
theorem rb0 (b c d e f g h : Int) (w : World) : (part 3 #[.int .i64 b, .int .i64 c, .int .i64 d, .int .i64 e, .int .i64 f, .int .i64 g, .int .i64 h] 0).run Tryz.prog w = .ok (.int .i64 b) w := by kernel_rfl
theorem rb1 (b c d e f g h : Int) (w : World) : (part 3 #[.int .i64 b, .int .i64 c, .int .i64 d, .int .i64 e, .int .i64 f, .int .i64 g, .int .i64 h] 1).run Tryz.prog w = .ok (.int .i64 c) w := by kernel_rfl
theorem rb2 (b c d e f g h : Int) (w : World) : (part 3 #[.int .i64 b, .int .i64 c, .int .i64 d, .int .i64 e, .int .i64 f, .int .i64 g, .int .i64 h] 2).run Tryz.prog w = .ok (.int .i64 d) w := by kernel_rfl
theorem rb3 (b c d e f g h : Int) (w : World) : (part 3 #[.int .i64 b, .int .i64 c, .int .i64 d, .int .i64 e, .int .i64 f, .int .i64 g, .int .i64 h] 3).run Tryz.prog w = .ok (.int .i64 e) w := by kernel_rfl
theorem rb4 (b c d e f g h : Int) (w : World) : (part 3 #[.int .i64 b, .int .i64 c, .int .i64 d, .int .i64 e, .int .i64 f, .int .i64 g, .int .i64 h] 4).run Tryz.prog w = .ok (.int .i64 f) w := by kernel_rfl
theorem rb5 (b c d e f g h : Int) (w : World) : (part 3 #[.int .i64 b, .int .i64 c, .int .i64 d, .int .i64 e, .int .i64 f, .int .i64 g, .int .i64 h] 5).run Tryz.prog w = .ok (.int .i64 g) w := by kernel_rfl
theorem rb6 (b c d e f g h : Int) (w : World) : (part 3 #[.int .i64 b, .int .i64 c, .int .i64 d, .int .i64 e, .int .i64 f, .int .i64 g, .int .i64 h] 6).run Tryz.prog w = .ok (.int .i64 h) w := by kernel_rfl
theorem eqB (k : Nat) (b c d e f g h : Int) (w : World) : (Op.equalIn (k + 2) 23 (.agg #[.int .i64 b, .int .i64 c, .int .i64 d, .int .i64 e, .int .i64 f, .int .i64 g, .int .i64 h]) (.agg #[.int .i64 b, .int .i64 c, .int .i64 d, .int .i64 e, .int .i64 f, .int .i64 g, .int .i64 h])).run Tryz.prog w = .ok true w := by
  rw [show k + 2 = (k + 1) + 1 from rfl, run_equalIn_agg w (k + 1) 23 _ _ (by kernel_rfl) (by kernel_rfl)]
  simp only [Program.fieldsOf, Tryz.underlying23, Op.eqFields, Sem.run_bind, Sem.run_ite]
  simp [rb0, rb1, rb2, rb3, rb4, rb5, rb6, reI]
theorem reS (d : Nat) (t : ByteArray) (w : World) : (Op.equalIn (d + 1) 9 (.string t) (.string t)).run Tryz.prog w = .ok true w := by
  have h : (t == t) = true := by
    first
      | exact beq_self_eq_true t
      | exact BEq.rfl
      | (cases t with | mk d => exact beq_self_eq_true d)
      | (cases t with | mk d => simp [BEq.beq])
  simp [Op.equalIn, Tryz.underlying9, go_sem, h]
theorem eqRc (a b c d e f g h : Int) (t : ByteArray) (w : World) : (Op.equalIn 10000 25 (.agg #[.int .i64 a, .int .i64 b, .int .i64 c, .int .i64 d, .int .i64 e, .int .i64 f, .int .i64 g, .int .i64 h, .string t]) (.agg #[.int .i64 a, .int .i64 b, .int .i64 c, .int .i64 d, .int .i64 e, .int .i64 f, .int .i64 g, .int .i64 h, .string t])).run Tryz.prog w = .ok true w := by
  rw [show (10000 : Nat) = 9999 + 1 from rfl, run_equalIn_agg w 9999 25 _ _ (by kernel_rfl) (by kernel_rfl)]
  simp only [Program.fieldsOf, Tryz.underlying25, Op.eqFields, Sem.run_bind, Sem.run_ite]
  simp [rp0, rp1, rp8, show (9999 : Nat) = 9998 + 1 from rfl, show (9999 : Nat) = 9997 + 2 from rfl, reI, reS, eqB]

end Go.Proofs.YtlicdeppfhmfjaaGreatDoor.rcp

/- Where the order is open: a call that changes nothing may be thought of as coming up first. -/
namespace Go.Proofs.YtlicdeppfhmfjaaGreatDoor
open Go.RowKit

section
variable {P : Program} {ops : Array Oper} {Q : Exit → Act → World → Prop} {md : Region.Mode} {S : World → Prop}
/-- In the state a, in every world of S, the operation is a call of f with these arguments. -/
structure EntersIf (P : Program) (ops : Array Oper) (S : World → Prop) (o : Oper) (f : FuncId) (args : Array Value) (a : Act) : Prop where
  want : Region.wanted o (yielded ops a.tmps) = true
  run : ∀ w, S w → (execOp a.eval o).run P w = .ok (.enter f args) w
/-- And the call gives v, and leaves the world as it is. -/
def Gives (P : Program) (S : World → Prop) (f : FuncId) (args : Array Value) (v : Value) : Prop := ∀ w, S w → Calls P f args w fun e w' => e = .returned v ∧ w' = w
theorem EntersIf.now {o : Oper} {f : FuncId} {args : Array Value} {a : Act} {v : Value} {i : Nat} (h : EntersIf P ops S o f args a) (hg : Gives P S f args v) (hi : ops[i]? = some o) {K : Act → World → Prop} {w : World} (hS : S w) (hk : K (a.put o.dst v) w) : wpOp P ops Q i K a w := by
  unfold wpOp
  simp only [hi, h.want, if_true]
  left
  unfold Oper.wp
  rw [h.run w hS, Oper.upon_enter]
  refine (hg w hS).mono fun e w' he => ?_
  obtain ⟨rfl, rfl⟩ := he
  exact hk
/-- Another operation, apart from it, neither sees it nor is seen. -/
theorem EntersIf.apart {o p : Oper} {f : FuncId} {args : Array Value} {v : Value} {j : Nat} (hj : ops[j]? = some p) (hap : o.apart ops p = true) (hso : ∀ cs b, o.op ≠ .select cs b) (hsp : ∀ cs b, p.op ≠ .select cs b)
    (hQ : ∀ c a w, Q (.panic c) (a.put o.dst v) w → Q (.panic c) a w) {K : Act → World → Prop} {a : Act} {w : World} (he : EntersIf P ops S o f args a) (h : wpOp P ops Q j K (a.put o.dst v) w) :
    wpOp P ops Q j (fun a' w' => EntersIf P ops S o f args a' ∧ K (a'.put o.dst v) w') a w := by
  obtain ⟨n1, n2, n3⟩ := Oper.apart_spec hap
  have stay : ∀ b : Act, EntersIf P ops S o f args b → ∀ u, EntersIf P ops S o f args (b.put p.dst u) := fun b hb u => ⟨by rw [wanted_put o b p.dst u n3]; exact hb.want, fun w hw => by rw [execOp_put o hso b p.dst u n3]; exact hb.run w hw⟩
  have both : ∀ (b : Act) (u : Value) (w' : World), EntersIf P ops S o f args b → K ((b.put o.dst v).put p.dst u) w' → EntersIf P ops S o f args (b.put p.dst u) ∧ K ((b.put p.dst u).put o.dst v) w' := fun b u w' hb hk => ⟨stay b hb u, by rw [← Act.put_comm b v u n2]; exact hk⟩
  unfold wpOp at h ⊢
  simp only [hj] at h ⊢
  rw [wanted_put p a o.dst v n1] at h
  by_cases hw : Region.wanted p (yielded ops a.tmps) = true
  · rw [if_pos hw] at h ⊢
    rcases h with h | ⟨h, hl⟩
    · left
      unfold Oper.wp at h ⊢
      rw [execOp_put p hsp a o.dst v n1] at h
      cases hr : (execOp a.eval p).run P w with
      | halt x w' =>
        rw [hr] at h
        cases x <;> simp only [Oper.upon] at h ⊢
        exact hQ _ _ _ h
      | ok n w' =>
        rw [hr] at h
        cases n with
        | value u => exact both a u w' he h
        | skip => exact both a undef w' he h
        | defer d =>
          simp only [Oper.upon] at h ⊢
          rw [Act.put_defers] at h
          exact both _ _ _ ⟨he.want, he.run⟩ h
        | enter g xs =>
          simp only [Oper.upon] at h ⊢
          refine Calls.mono h fun e w'' hx => ?_
          cases e with
          | returned u => exact both a u w'' he hx
          | panicked c => exact hQ _ _ _ hx
          | outgrown => exact hx
        | row r xs =>
          simp only [Oper.upon] at h ⊢
          exact Rows.mono h fun u w'' hx => both a u w'' he hx
        | _ => exact False.elim h
    · right
      unfold Oper.asks at h ⊢
      rw [execOp_put p hsp a o.dst v n1] at h
      exact ⟨h, hl⟩
  · rw [if_neg hw] at h ⊢
    exact both a undef w he h
/-- THE CALL FIRST. -/
theorem call_first {i : Nat} {o : Oper} {f : FuncId} {args : Array Value} {v : Value} (hi : ops[i]? = some o) (hsel : ∀ (j : Nat) (o : Oper) cs b, ops[j]? = some o → o.op ≠ .select cs b)
    (hQ : ∀ c a w, Q (.panic c) (a.put o.dst v) w → Q (.panic c) a w) (hg : Gives P S f args v) (fuel : Nat) : ∀ (listed : Array Bool) (a : Act) (w : World),
      (∀ j p, ops[j]? = some p → j ≠ i → listed.getD j true = false → (∀ e ∈ p.after, Region.binds md e = true → e.on ≠ i) → o.apart ops p = true) →
      i ∈ Region.ready md ops listed → EntersIf P ops S o f args a → S w →
      wpAnyH P md ops Q S fuel (listed.setIfInBounds i true) (a.put o.dst v) w → wpAnyH P md ops Q S (fuel + 1) listed a w := by
  induction fuel with
  | zero =>
    intro listed a w _ hr he hS H
    refine ⟨fun h => absurd hr (by rw [h]; exact List.not_mem_nil), fun j hj => ?_⟩
    by_cases e : j = i
    · rw [e]; exact he.now hg hi hS ⟨hS, H⟩
    · have := ready_mono hj e
      rw [H.1] at this
      exact absurd this List.not_mem_nil
  | succ fuel ih =>
    intro listed a w hfree hr he hS H
    refine ⟨fun h => absurd hr (by rw [h]; exact List.not_mem_nil), fun j hj => ?_⟩
    by_cases e : j = i
    · rw [e]; exact he.now hg hi hS ⟨hS, H⟩
    · obtain ⟨hun, p, hp, hall⟩ := mem_ready.1 hj
      have hno : ∀ x ∈ p.after, Region.binds md x = true → x.on ≠ i := fun x hx hb hxi => by
        have h1 := hall x hx hb
        have h0 := (mem_ready.1 hr).1
        rw [hxi] at h1
        by_cases hlt : i < listed.size
        · simp [hlt] at h0 h1
          rw [h0] at h1; cases h1
        · simp [hlt] at h1
      have h2 := EntersIf.apart hp (hfree j p hp e hun hno) (fun cs b => hsel i o cs b hi) (fun cs b => hsel j p cs b hp) hQ he (H.2 j (ready_mono hj e))
      refine wpOp_mono (fun a' w' h3 => ⟨h3.2.1, ih (listed.setIfInBounds j true) a' w' (fun k q hq hki hku hkn => hfree k q hq hki ?_ hkn) (ready_mono hr (Ne.symm e)) h3.1 h3.2.1 ?_⟩) h2
      · by_cases hjk : j = k
        · rw [← hjk]; exact hun
        · rw [getD_set_ne true hjk] at hku; exact hku
      · rw [Array.setIfInBounds_comm _ _ e]; exact h3.2.2
theorem call_at {fuel : Nat} {listed : Array Bool} {a : Act} {w : World} (i d : Nat) (v : Value) (o : Oper) (hi : ops[i]? = some o) (hd : o.dst = some d)
    (hs : Region.noSelect ops = true) (hf : Region.free md ops listed i = true) (hr : (Region.ready md ops listed).contains i = true)
    (hQ : ∀ c a w, Q (.panic c) (a.put o.dst v) w → Q (.panic c) a w) (f : FuncId) (args : Array Value) (he : EntersIf P ops S o f args a) (hg : Gives P S f args v) (hS : S w)
    (h : wpAnyH P md ops Q S fuel (listed.setIfInBounds i true) (a.put (some d) v) w) : wpAnyH P md ops Q S (fuel + 1) listed a w :=
  call_first hi (Region.noSelect_spec hs) hQ hg fuel listed a w (Region.free_spec hi hf) (by simpa using hr) he hS (by rw [hd]; exact h)
end

end Go.Proofs.YtlicdeppfhmfjaaGreatDoor

/- Operations one by one, where the order is open. -/
namespace Go.Proofs.YtlicdeppfhmfjaaGreatDoor
open Go.RowKit

/-- An operation that gives a value, where the order is open. -/
theorem wp_runOp {P : Program} {o : Oper} {a : Act} {w w' : World} {v : Value} {K : Act → World → Prop} {Q : Exit → Act → World → Prop} (d : Nat) (hd : o.dst = some d) (hrun : (execOp a.eval o).run P w = .ok (.value v) w') (h : K (a.put (some d) v) w') : o.wp P a w K Q := by
  rw [← hd] at h
  unfold Oper.wp
  rw [hrun, Oper.upon_value]
  exact h
/-- A call by its contract, where the order is open. -/
theorem wp_callOp {P : Program} {o : Oper} {a : Act} {w : World} {f : FuncId} {args : Array Value} {R : Ending → World → Prop} {K : Act → World → Prop} {Q : Exit → Act → World → Prop} (d : Nat) (hd : o.dst = some d) (hrun : (execOp a.eval o).run P w = .ok (.enter f args) w) (hc : Calls P f args w R)
    (h : ∀ e w', R e w' → ∃ v, e = .returned v ∧ K (a.put (some d) v) w') : o.wp P a w K Q := by
  rw [← hd] at h
  unfold Oper.wp
  rw [hrun, Oper.upon_enter]
  refine hc.mono fun e w' hr => ?_
  obtain ⟨v, rfl, hk⟩ := h e w' hr
  exact hk

end Go.Proofs.YtlicdeppfhmfjaaGreatDoor

/- A receipt that is right, of raw numbers. -/
namespace Go.Proofs.YtlicdeppfhmfjaaGreatDoor.rcp
open Go.RowKit
set_option maxRecDepth 100000
set_option linter.unusedVariables false
set_option linter.unusedSimpArgs false

/-- The numbers of a slip are numbers. -/
def wf9 (xm x1 x2 x3 x4 xd xf xp xc : Int) : Prop := ((Lit.int .i64 xm).wf = true ∧ token.wf4 x1 x2 x3 x4) ∧ (Lit.int .i64 xd).wf = true ∧ (Lit.int .i64 xf).wf = true ∧ (Lit.int .i64 xp).wf = true ∧ (Lit.int .i64 xc).wf = true
/-- A receipt that is right, its amounts small. -/
structure Good (r : Rc) : Prop where
  right : Right r
  te : r.te ≤ 80000000
  de : r.de ≤ 20000000
  fe : r.fe ≤ 20000000
  pr : r.pr ≤ 20000000
  ch : r.ch ≤ 20000000
theorem tok_back {k : token.Tok} (h : k.ok) : token.tokOf (token.dv (token.fmtL (97 * k.num)) / 97) = k := by
  rw [token.fmt_dv, show 97 * k.num / 97 = k.num by omega]
  exact token.tokOf_num h
theorem slip_right {k : token.Tok} (h : k.ok) (zm zd zf zp zc u : Int) (hm : 0 ≤ zm ∧ zm < 50) (hd : 0 ≤ zd ∧ zd < 20000000) (hf : 0 ≤ zf ∧ zf < 20000000) (hp : 0 ≤ zp ∧ zp < 20000000) (hc : 0 ≤ zc ∧ zc < 20000000) (hu : (k.c = 0 → u = (k.a : Int)) ∧ (k.c ≠ 0 → u = 0)) : Good ⟨zm, (k.i : Int), zd + zf + zp + zc, zd, zf, zp, zc, u, token.fmtL (97 * k.num)⟩ := by
  have hi1 := h.i1
  have hi2 := h.i2
  have ha := h.a2
  have hub : 0 ≤ u ∧ u ≤ 2097151 := by
    by_cases e : k.c = 0
    · have := hu.1 e; omega
    · have := hu.2 e; omega
  refine ⟨⟨⟨hm.1, by show zm ≤ 49; omega⟩, ⟨⟨⟨by show 0 ≤ zd + zf + zp + zc; omega, by show zd + zf + zp + zc ≤ 100000000; omega⟩, ⟨hd.1, by show zd ≤ 100000000; omega⟩, ⟨hf.1, by show zf ≤ 100000000; omega⟩, ⟨hp.1, by show zp ≤ 100000000; omega⟩⟩, ⟨hc.1, by show zc ≤ 100000000; omega⟩, ⟨by show 1 ≤ (k.i : Int); omega, by show (k.i : Int) ≤ 1048575; omega⟩, hub⟩, by show zd + zf + zp + zc - zd - zf - zp - zc = 0; omega, (token.parse_fmt h).1, ?_⟩, by show zd + zf + zp + zc ≤ 80000000; omega, by show zd ≤ 20000000; omega, by show zf ≤ 20000000; omega, by show zp ≤ 20000000; omega, by show zc ≤ 20000000; omega⟩
  have e : tokR ⟨zm, (k.i : Int), zd + zf + zp + zc, zd, zf, zp, zc, u, token.fmtL (97 * k.num)⟩ = k := tok_back h
  unfold RTok
  rw [e]
  exact ⟨rfl, fun a => (hu.1 a).symm, fun a => hu.2 a⟩
set_option maxHeartbeats 8000000 in
theorem slip_any (xm x1 x2 x3 x4 xd xf xp xc : Int) (w : World) (hw : wf9 xm x1 x2 x3 x4 xd xf xp xc) (KF : ∀ (k : token.Tok) W, Below w.heap.size w W → k.ok → Calls Tryz.prog 23 #[k.v] W fun e w' => e = .returned (.tuple #[.string (token.fmtB (97 * k.num)), .int .i64 0]) ∧ Below W.heap.size W w') :
    Calls Tryz.prog 10 #[.agg #[.int .i64 xm, .int .i64 x1, .int .i64 x2, .int .i64 x3, .int .i64 x4, .int .i64 xd, .int .i64 xf, .int .i64 xp, .int .i64 xc]] w fun e w' => ∃ r, e = .returned (.tuple #[Rc.v r, .bool true]) ∧ Good r ∧ Below w.heap.size w w' := by
  have HMD : Hid (∀ W, Calls Tryz.prog 22 #[.agg #[.int .i64 x1, .int .i64 x2, .int .i64 x3, .int .i64 x4]] W fun e w' => e = .returned (token.madeT x1 x2 x3 x4).v ∧ Below W.heap.size W w') := fun W => token.made_any x1 x2 x3 x4 W hw.1.2
  have hok := token.made_ok x1 x2 x3 x4
  generalize token.madeT x1 x2 x3 x4 = k at *
  have HOK : Hid k.ok := hok
  have HFM : Hid (∀ W, Below w.heap.size w W → Calls Tryz.prog 23 #[.agg #[.int .i64 (k.c : Int), .int .i64 (k.i : Int), .int .i64 (k.a : Int), .int .i64 (k.t : Int)]] W fun e w' => e = .returned (.tuple #[.string (token.fmtB (97 * k.num)), .int .i64 0]) ∧ Below W.heap.size W w') := fun W hW => KF k W hW hok
  have HFL : Hid (token.fmtB (97 * k.num) = ⟨(token.fmtL (97 * k.num)).toArray⟩) := rfl
  obtain ⟨S, hS⟩ : ∃ S, token.fmtB (97 * k.num) = S := ⟨_, rfl⟩
  rw [hS] at HFM HFL
  clear hS
  have HPzm : Hid (∀ W, Calls Tryz.prog 24 #[.int .i64 xm, .int .i64 50] W fun e w' => e = .returned (.int .i64 (check.pick xm 50)) ∧ w' = W) := fun W => check.picked_any xm 50 W hw.1.1 (by decide) (by decide)
  have zm0 := check.pick_nonneg xm 50 (by decide)
  have zm1 := check.pick_lt xm 50 (by decide)
  generalize check.pick xm 50 = zm at *
  have HPzd : Hid (∀ W, Calls Tryz.prog 24 #[.int .i64 xd, .int .i64 20000000] W fun e w' => e = .returned (.int .i64 (check.pick xd 20000000)) ∧ w' = W) := fun W => check.picked_any xd 20000000 W hw.2.1 (by decide) (by decide)
  have zd0 := check.pick_nonneg xd 20000000 (by decide)
  have zd1 := check.pick_lt xd 20000000 (by decide)
  generalize check.pick xd 20000000 = zd at *
  have HPzf : Hid (∀ W, Calls Tryz.prog 24 #[.int .i64 xf, .int .i64 20000000] W fun e w' => e = .returned (.int .i64 (check.pick xf 20000000)) ∧ w' = W) := fun W => check.picked_any xf 20000000 W hw.2.2.1 (by decide) (by decide)
  have zf0 := check.pick_nonneg xf 20000000 (by decide)
  have zf1 := check.pick_lt xf 20000000 (by decide)
  generalize check.pick xf 20000000 = zf at *
  have HPzp : Hid (∀ W, Calls Tryz.prog 24 #[.int .i64 xp, .int .i64 20000000] W fun e w' => e = .returned (.int .i64 (check.pick xp 20000000)) ∧ w' = W) := fun W => check.picked_any xp 20000000 W hw.2.2.2.1 (by decide) (by decide)
  have zp0 := check.pick_nonneg xp 20000000 (by decide)
  have zp1 := check.pick_lt xp 20000000 (by decide)
  generalize check.pick xp 20000000 = zp at *
  have HPzc : Hid (∀ W, Calls Tryz.prog 24 #[.int .i64 xc, .int .i64 20000000] W fun e w' => e = .returned (.int .i64 (check.pick xc 20000000)) ∧ w' = W) := fun W => check.picked_any xc 20000000 W hw.2.2.2.2 (by decide) (by decide)
  have zc0 := check.pick_nonneg xc 20000000 (by decide)
  have zc1 := check.pick_lt xc 20000000 (by decide)
  generalize check.pick xc 20000000 = zc at *
  clear hw hok KF
  have HX0 : Hid (Blk ((w.alloc (.cells #[.int .i64 xm, .int .i64 x1, .int .i64 x2, .int .i64 x3, .int .i64 x4, .int .i64 xd, .int .i64 xf, .int .i64 xp, .int .i64 xc] 36)).alloc (.cells #[.int .i64 0, .int .i64 0, .int .i64 0, .int .i64 0, .int .i64 0, .int .i64 0, .int .i64 0, .int .i64 0, .string ⟨#[]⟩] 25)) w.heap.size #[.int .i64 xm, .int .i64 x1, .int .i64 x2, .int .i64 x3, .int .i64 x4, .int .i64 xd, .int .i64 xf, .int .i64 xp, .int .i64 xc] 36) := (Blk.new w _ _).alloc _
  have HR0 : Hid (Blk ((w.alloc (.cells #[.int .i64 xm, .int .i64 x1, .int .i64 x2, .int .i64 x3, .int .i64 x4, .int .i64 xd, .int .i64 xf, .int .i64 xp, .int .i64 xc] 36)).alloc (.cells #[.int .i64 0, .int .i64 0, .int .i64 0, .int .i64 0, .int .i64 0, .int .i64 0, .int .i64 0, .int .i64 0, .string ⟨#[]⟩] 25)) (w.heap.size + 1) #[.int .i64 0, .int .i64 0, .int .i64 0, .int .i64 0, .int .i64 0, .int .i64 0, .int .i64 0, .int .i64 0, .string ⟨#[]⟩] 25) := Blk.new1 w _ _ _
  have HB0 : Hid (Below w.heap.size w ((w.alloc (.cells #[.int .i64 xm, .int .i64 x1, .int .i64 x2, .int .i64 x3, .int .i64 x4, .int .i64 xd, .int .i64 xf, .int .i64 xp, .int .i64 xc] 36)).alloc (.cells #[.int .i64 0, .int .i64 0, .int .i64 0, .int .i64 0, .int .i64 0, .int .i64 0, .int .i64 0, .int .i64 0, .string ⟨#[]⟩] 25))) := ((Below.refl _ _).alloc (Nat.le_refl _) _).alloc (by simp) _
  have hs0 : w.heap.size + 1 < ((w.alloc (.cells #[.int .i64 xm, .int .i64 x1, .int .i64 x2, .int .i64 x3, .int .i64 x4, .int .i64 xd, .int .i64 xf, .int .i64 xp, .int .i64 xc] 36)).alloc (.cells #[.int .i64 0, .int .i64 0, .int .i64 0, .int .i64 0, .int .i64 0, .int .i64 0, .int .i64 0, .int .i64 0, .string ⟨#[]⟩] 25)).heap.size := HR0.out.lt
  have k1 : ((w.alloc (.cells #[.int .i64 xm, .int .i64 x1, .int .i64 x2, .int .i64 x3, .int .i64 x4, .int .i64 xd, .int .i64 xf, .int .i64 xp, .int .i64 xc] 36)).alloc (.cells #[.int .i64 0, .int .i64 0, .int .i64 0, .int .i64 0, .int .i64 0, .int .i64 0, .int .i64 0, .int .i64 0, .string ⟨#[]⟩] 25)).cell? ⟨w.heap.size, 1, none⟩ = some (.int .i64 x1) := HX0.out.cell 1
  have k2 : ((w.alloc (.cells #[.int .i64 xm, .int .i64 x1, .int .i64 x2, .int .i64 x3, .int .i64 x4, .int .i64 xd, .int .i64 xf, .int .i64 xp, .int .i64 xc] 36)).alloc (.cells #[.int .i64 0, .int .i64 0, .int .i64 0, .int .i64 0, .int .i64 0, .int .i64 0, .int .i64 0, .int .i64 0, .string ⟨#[]⟩] 25)).cell? ⟨w.heap.size, 2, none⟩ = some (.int .i64 x2) := HX0.out.cell 2
  have k3 : ((w.alloc (.cells #[.int .i64 xm, .int .i64 x1, .int .i64 x2, .int .i64 x3, .int .i64 x4, .int .i64 xd, .int .i64 xf, .int .i64 xp, .int .i64 xc] 36)).alloc (.cells #[.int .i64 0, .int .i64 0, .int .i64 0, .int .i64 0, .int .i64 0, .int .i64 0, .int .i64 0, .int .i64 0, .string ⟨#[]⟩] 25)).cell? ⟨w.heap.size, 3, none⟩ = some (.int .i64 x3) := HX0.out.cell 3
  have k4 : ((w.alloc (.cells #[.int .i64 xm, .int .i64 x1, .int .i64 x2, .int .i64 x3, .int .i64 x4, .int .i64 xd, .int .i64 xf, .int .i64 xp, .int .i64 xc] 36)).alloc (.cells #[.int .i64 0, .int .i64 0, .int .i64 0, .int .i64 0, .int .i64 0, .int .i64 0, .int .i64 0, .int .i64 0, .string ⟨#[]⟩] 25)).cell? ⟨w.heap.size, 4, none⟩ = some (.int .i64 x4) := HX0.out.cell 4
  generalize hWW : ((w.alloc (.cells #[.int .i64 xm, .int .i64 x1, .int .i64 x2, .int .i64 x3, .int .i64 x4, .int .i64 xd, .int .i64 xf, .int .i64 xp, .int .i64 xc] 36)).alloc (.cells #[.int .i64 0, .int .i64 0, .int .i64 0, .int .i64 0, .int .i64 0, .int .i64 0, .int .i64 0, .int .i64 0, .string ⟨#[]⟩] 25)) = W0 at *
  have HWW : Hid (((w.alloc (.cells #[.int .i64 xm, .int .i64 x1, .int .i64 x2, .int .i64 x3, .int .i64 x4, .int .i64 xd, .int .i64 xf, .int .i64 xp, .int .i64 xc] 36)).alloc (.cells #[.int .i64 0, .int .i64 0, .int .i64 0, .int .i64 0, .int .i64 0, .int .i64 0, .int .i64 0, .int .i64 0, .string ⟨#[]⟩] 25)) = W0) := hWW
  clear hWW
  go_enter Tryz.func10, Tryz.ntmps10
  go_upto_region 1 with fail
  rw [HWW.out]
  clear HWW
  go_wp2_with fail
  refine (HMD.out _).mono ?_
  rintro e w1 ⟨rfl, hb1⟩
  unfold token.Tok.v
  have HT1 : Hid (Blk (w1.alloc (.cells #[.int .i64 (k.c : Int), .int .i64 (k.i : Int), .int .i64 (k.a : Int), .int .i64 (k.t : Int)] 51)) w1.heap.size #[.int .i64 (k.c : Int), .int .i64 (k.i : Int), .int .i64 (k.a : Int), .int .i64 (k.t : Int)] 51) := Blk.new w1 _ _
  have HX1 : Hid (Blk (w1.alloc (.cells #[.int .i64 (k.c : Int), .int .i64 (k.i : Int), .int .i64 (k.a : Int), .int .i64 (k.t : Int)] 51)) w.heap.size #[.int .i64 xm, .int .i64 x1, .int .i64 x2, .int .i64 x3, .int .i64 x4, .int .i64 xd, .int .i64 xf, .int .i64 xp, .int .i64 xc] 36) := (HX0.out.next hb1).alloc _
  have HR1 : Hid (Blk (w1.alloc (.cells #[.int .i64 (k.c : Int), .int .i64 (k.i : Int), .int .i64 (k.a : Int), .int .i64 (k.t : Int)] 51)) (w.heap.size + 1) #[.int .i64 0, .int .i64 0, .int .i64 0, .int .i64 0, .int .i64 0, .int .i64 0, .int .i64 0, .int .i64 0, .string ⟨#[]⟩] 25) := (HR0.out.next hb1).alloc _
  have HB1 : Hid (Below w.heap.size w (w1.alloc (.cells #[.int .i64 (k.c : Int), .int .i64 (k.i : Int), .int .i64 (k.a : Int), .int .i64 (k.t : Int)] 51))) := (HB0.out.trans (hb1.mono HB0.out.size)).alloc (Nat.le_trans HB0.out.size hb1.size) _
  have hs1 : w.heap.size + 1 < w1.heap.size := by have := hb1.size; omega
  have hs2 : w1.heap.size < (w1.alloc (.cells #[.int .i64 (k.c : Int), .int .i64 (k.i : Int), .int .i64 (k.a : Int), .int .i64 (k.t : Int)] 51)).heap.size := HT1.out.lt
  clear hb1 HX0 HR0 HB0 k1 k2 k3 k4 HMD
  go_upto_region 2 with fail
  generalize hgt : w1.heap.size = gt at *
  generalize (w1.alloc (.cells #[.int .i64 (k.c : Int), .int .i64 (k.i : Int), .int .i64 (k.a : Int), .int .i64 (k.t : Int)] 51)) = W1 at *
  clear hgt
  go_wp2_with (first | (refine wp_whole rfl 51 _ rfl (gt) rfl 51 #[.int .i64 (k.c : Int), .int .i64 (k.i : Int), .int .i64 (k.a : Int), .int .i64 (k.t : Int)] _ HT1.out Tryz.underlying51 rfl (by kernel_rfl) ?_) | fail)
  refine (HFM.out _ HB1.out).mono ?_
  rintro e w2 ⟨rfl, hb2⟩
  have HT2 : Hid (Blk w2 (gt) #[.int .i64 (k.c : Int), .int .i64 (k.i : Int), .int .i64 (k.a : Int), .int .i64 (k.t : Int)] 51) := HT1.out.next hb2
  have HX2 : Hid (Blk w2 (w.heap.size) #[.int .i64 xm, .int .i64 x1, .int .i64 x2, .int .i64 x3, .int .i64 x4, .int .i64 xd, .int .i64 xf, .int .i64 xp, .int .i64 xc] 36) := HX1.out.next hb2
  have HR2 : Hid (Blk w2 (w.heap.size + 1) #[.int .i64 0, .int .i64 0, .int .i64 0, .int .i64 0, .int .i64 0, .int .i64 0, .int .i64 0, .int .i64 0, .string ⟨#[]⟩] 25) := HR1.out.next hb2
  have HB2 : Hid (Below w.heap.size w w2) := HB1.out.trans (hb2.mono HB1.out.size)
  have hs3 : W1.heap.size ≤ w2.heap.size := hb2.size
  clear hb2 HT1 HX1 HR1 HB1 HFM
  go_wp2_with fail
  refine wp_region_held_drew (S := fun v => Blk v w.heap.size #[.int .i64 xm, .int .i64 x1, .int .i64 x2, .int .i64 x3, .int .i64 x4, .int .i64 xd, .int .i64 xf, .int .i64 xp, .int .i64 xc] 36 ∧ Blk v gt #[.int .i64 (k.c : Int), .int .i64 (k.i : Int), .int .i64 (k.a : Int), .int .i64 (k.t : Int)] 51) (by kernel_rfl) ⟨Blk.drew HX2.out 1, Blk.drew HT2.out 1⟩ (fun hHeld => ?_)
  refine take_at 0 16 (.pointer (some ⟨gt, 1, none⟩)) _ rfl rfl (by kernel_rfl) (by kernel_rfl) (by kernel_rfl) (fun _ _ _ h => h) (Or.inl ⟨by rfl, fun v hv => by skip; clear hv; go_simp⟩) hHeld ?_
  simp only [Act.put, List.setIfInBounds_toArray, List.set_cons_zero, List.set_cons_succ]
  refine take_at 1 17 (.int .i64 (k.i : Int)) _ rfl rfl (by kernel_rfl) (by kernel_rfl) (by kernel_rfl) (fun _ _ _ h => h) (Or.inl ⟨by rfl, fun v hv => by have h2 := hv.2.cell 1; simp at h2; clear hv; go_simp⟩) hHeld ?_
  simp only [Act.put, List.setIfInBounds_toArray, List.set_cons_zero, List.set_cons_succ]
  refine take_at 2 18 (.pointer (some ⟨w.heap.size, 5, none⟩)) _ rfl rfl (by kernel_rfl) (by kernel_rfl) (by kernel_rfl) (fun _ _ _ h => h) (Or.inl ⟨by rfl, fun v hv => by skip; clear hv; go_simp⟩) hHeld ?_
  simp only [Act.put, List.setIfInBounds_toArray, List.set_cons_zero, List.set_cons_succ]
  refine take_at 3 19 (.int .i64 xd) _ rfl rfl (by kernel_rfl) (by kernel_rfl) (by kernel_rfl) (fun _ _ _ h => h) (Or.inl ⟨by rfl, fun v hv => by have h2 := hv.1.cell 5; simp at h2; clear hv; go_simp⟩) hHeld ?_
  simp only [Act.put, List.setIfInBounds_toArray, List.set_cons_zero, List.set_cons_succ]
  refine call_at 4 20 (.int .i64 zd) _ rfl rfl (by kernel_rfl) (by kernel_rfl) (by kernel_rfl) (fun _ _ _ h => h) 24 #[.int .i64 xd, .int .i64 20000000] ⟨by rfl, fun v hv => by clear hv; go_simp⟩ (fun v _ => HPzd.out v) hHeld ?_
  simp only [Act.put, List.setIfInBounds_toArray, List.set_cons_zero, List.set_cons_succ]
  refine take_at 5 21 (.pointer (some ⟨w.heap.size, 6, none⟩)) _ rfl rfl (by kernel_rfl) (by kernel_rfl) (by kernel_rfl) (fun _ _ _ h => h) (Or.inl ⟨by rfl, fun v hv => by skip; clear hv; go_simp⟩) hHeld ?_
  simp only [Act.put, List.setIfInBounds_toArray, List.set_cons_zero, List.set_cons_succ]
  refine take_at 6 22 (.int .i64 xf) _ rfl rfl (by kernel_rfl) (by kernel_rfl) (by kernel_rfl) (fun _ _ _ h => h) (Or.inl ⟨by rfl, fun v hv => by have h2 := hv.1.cell 6; simp at h2; clear hv; go_simp⟩) hHeld ?_
  simp only [Act.put, List.setIfInBounds_toArray, List.set_cons_zero, List.set_cons_succ]
  refine call_at 7 23 (.int .i64 zf) _ rfl rfl (by kernel_rfl) (by kernel_rfl) (by kernel_rfl) (fun _ _ _ h => h) 24 #[.int .i64 xf, .int .i64 20000000] ⟨by rfl, fun v hv => by clear hv; go_simp⟩ (fun v _ => HPzf.out v) hHeld ?_
  simp only [Act.put, List.setIfInBounds_toArray, List.set_cons_zero, List.set_cons_succ]
  refine take_at 8 24 (.pointer (some ⟨w.heap.size, 7, none⟩)) _ rfl rfl (by kernel_rfl) (by kernel_rfl) (by kernel_rfl) (fun _ _ _ h => h) (Or.inl ⟨by rfl, fun v hv => by skip; clear hv; go_simp⟩) hHeld ?_
  simp only [Act.put, List.setIfInBounds_toArray, List.set_cons_zero, List.set_cons_succ]
  refine take_at 9 25 (.int .i64 xp) _ rfl rfl (by kernel_rfl) (by kernel_rfl) (by kernel_rfl) (fun _ _ _ h => h) (Or.inl ⟨by rfl, fun v hv => by have h2 := hv.1.cell 7; simp at h2; clear hv; go_simp⟩) hHeld ?_
  simp only [Act.put, List.setIfInBounds_toArray, List.set_cons_zero, List.set_cons_succ]
  refine call_at 10 26 (.int .i64 zp) _ rfl rfl (by kernel_rfl) (by kernel_rfl) (by kernel_rfl) (fun _ _ _ h => h) 24 #[.int .i64 xp, .int .i64 20000000] ⟨by rfl, fun v hv => by clear hv; go_simp⟩ (fun v _ => HPzp.out v) hHeld ?_
  simp only [Act.put, List.setIfInBounds_toArray, List.set_cons_zero, List.set_cons_succ]
  refine take_at 11 27 (.pointer (some ⟨w.heap.size, 8, none⟩)) _ rfl rfl (by kernel_rfl) (by kernel_rfl) (by kernel_rfl) (fun _ _ _ h => h) (Or.inl ⟨by rfl, fun v hv => by skip; clear hv; go_simp⟩) hHeld ?_
  simp only [Act.put, List.setIfInBounds_toArray, List.set_cons_zero, List.set_cons_succ]
  refine take_at 12 28 (.int .i64 xc) _ rfl rfl (by kernel_rfl) (by kernel_rfl) (by kernel_rfl) (fun _ _ _ h => h) (Or.inl ⟨by rfl, fun v hv => by have h2 := hv.1.cell 8; simp at h2; clear hv; go_simp⟩) hHeld ?_
  simp only [Act.put, List.setIfInBounds_toArray, List.set_cons_zero, List.set_cons_succ]
  refine call_at 13 29 (.int .i64 zc) _ rfl rfl (by kernel_rfl) (by kernel_rfl) (by kernel_rfl) (fun _ _ _ h => h) 24 #[.int .i64 xc, .int .i64 20000000] ⟨by rfl, fun v hv => by clear hv; go_simp⟩ (fun v _ => HPzc.out v) hHeld ?_
  simp only [Act.put, List.setIfInBounds_toArray, List.set_cons_zero, List.set_cons_succ]
  refine take_at 14 30 (.agg #[.int .i64 (k.i : Int), .int .i64 0, .int .i64 zd, .int .i64 zf, .int .i64 zp, .int .i64 zc, .int .i64 0]) _ rfl rfl (by kernel_rfl) (by kernel_rfl) (by kernel_rfl) (fun _ _ _ h => h) (Or.inl ⟨by rfl, fun v hv => by skip; clear hv; go_simp⟩) hHeld ?_
  simp only [Act.put, List.setIfInBounds_toArray, List.set_cons_zero, List.set_cons_succ]
  have HT3 : Hid (Blk w2.drew (gt) #[.int .i64 (k.c : Int), .int .i64 (k.i : Int), .int .i64 (k.a : Int), .int .i64 (k.t : Int)] 51) := Blk.drew HT2.out 1
  have HX3 : Hid (Blk w2.drew (w.heap.size) #[.int .i64 xm, .int .i64 x1, .int .i64 x2, .int .i64 x3, .int .i64 x4, .int .i64 xd, .int .i64 xf, .int .i64 xp, .int .i64 xc] 36) := Blk.drew HX2.out 1
  have HR3 : Hid (Blk w2.drew (w.heap.size + 1) #[.int .i64 0, .int .i64 0, .int .i64 0, .int .i64 0, .int .i64 0, .int .i64 0, .int .i64 0, .int .i64 0, .string ⟨#[]⟩] 25) := Blk.drew HR2.out 1
  have HB3 : Hid (Below w.heap.size w w2.drew) := HB2.out.drew
  have hs4 : W1.heap.size ≤ w2.drew.heap.size := hs3
  clear HT2 HX2 HR2 HB2 hs3
  generalize w2.drew = U0 at *
  refine wpAnyH_ready (rs := [15]) (by kernel_rfl) (by simp) (AllReadyH.cons rfl (fun K hK => ?_) AllReadyH.nil)
  rw [if_pos (by rfl)]
  have HT4 : Hid (Blk (U0.alloc (.cells #[.int .i64 0, .int .i64 0, .int .i64 0, .int .i64 0, .int .i64 0, .int .i64 0, .int .i64 0] 23)) (gt) #[.int .i64 (k.c : Int), .int .i64 (k.i : Int), .int .i64 (k.a : Int), .int .i64 (k.t : Int)] 51) := HT3.out.alloc _
  have HX4 : Hid (Blk (U0.alloc (.cells #[.int .i64 0, .int .i64 0, .int .i64 0, .int .i64 0, .int .i64 0, .int .i64 0, .int .i64 0] 23)) (w.heap.size) #[.int .i64 xm, .int .i64 x1, .int .i64 x2, .int .i64 x3, .int .i64 x4, .int .i64 xd, .int .i64 xf, .int .i64 xp, .int .i64 xc] 36) := HX3.out.alloc _
  have HR4 : Hid (Blk (U0.alloc (.cells #[.int .i64 0, .int .i64 0, .int .i64 0, .int .i64 0, .int .i64 0, .int .i64 0, .int .i64 0] 23)) (w.heap.size + 1) #[.int .i64 0, .int .i64 0, .int .i64 0, .int .i64 0, .int .i64 0, .int .i64 0, .int .i64 0, .int .i64 0, .string ⟨#[]⟩] 25) := HR3.out.alloc _
  have HV4 : Hid (Blk (U0.alloc (.cells #[.int .i64 0, .int .i64 0, .int .i64 0, .int .i64 0, .int .i64 0, .int .i64 0, .int .i64 0] 23)) U0.heap.size #[.int .i64 0, .int .i64 0, .int .i64 0, .int .i64 0, .int .i64 0, .int .i64 0, .int .i64 0] 23) := Blk.new _ _ _
  have HB4 : Hid (Below w.heap.size w (U0.alloc (.cells #[.int .i64 0, .int .i64 0, .int .i64 0, .int .i64 0, .int .i64 0, .int .i64 0, .int .i64 0] 23))) := HB3.out.alloc HB3.out.size _
  refine wp_runOp (v := .pointer (some ⟨U0.heap.size, 0, none⟩)) (w' := (U0.alloc (.cells #[.int .i64 0, .int .i64 0, .int .i64 0, .int .i64 0, .int .i64 0, .int .i64 0, .int .i64 0] 23))) 7 rfl (by clear hK; go_simp) ?_
  refine hK.out _ _ ⟨HX4.out, HT4.out⟩ (fun hHeld => ?_)
  clear hK HT3 HX3 HR3 HB3
  simp only [Act.put, List.setIfInBounds_toArray, List.set_cons_zero, List.set_cons_succ]
  generalize hgv : U0.heap.size = gv at *
  generalize U0.alloc _ = U1 at *
  refine wpAnyH_ready (rs := [16]) (by kernel_rfl) (by simp) (AllReadyH.cons rfl (fun K hK => ?_) AllReadyH.nil)
  rw [if_pos (by rfl)]
  refine wp_letOp 23 _ _ rfl gv rfl #[.int .i64 (k.i : Int), .int .i64 0, .int .i64 zd, .int .i64 zf, .int .i64 zp, .int .i64 zc, .int .i64 0] rfl (by kernel_rfl) (by simp [Value.oneCell']) #[.int .i64 0, .int .i64 0, .int .i64 0, .int .i64 0, .int .i64 0, .int .i64 0, .int .i64 0] 23 HV4.out rfl rfl ?_
  intro U2 hU
  have HT5 : Hid (Blk U2 (gt) #[.int .i64 (k.c : Int), .int .i64 (k.i : Int), .int .i64 (k.a : Int), .int .i64 (k.t : Int)] 51) := hU.keep HT4.out (by omega)
  have HX5 : Hid (Blk U2 (w.heap.size) #[.int .i64 xm, .int .i64 x1, .int .i64 x2, .int .i64 x3, .int .i64 x4, .int .i64 xd, .int .i64 xf, .int .i64 xp, .int .i64 xc] 36) := hU.keep HX4.out (by omega)
  have HR5 : Hid (Blk U2 (w.heap.size + 1) #[.int .i64 0, .int .i64 0, .int .i64 0, .int .i64 0, .int .i64 0, .int .i64 0, .int .i64 0, .int .i64 0, .string ⟨#[]⟩] 25) := hU.keep HR4.out (by omega)
  have HV5 : Hid (Blk U2 gv #[.int .i64 (k.i : Int), .int .i64 0, .int .i64 zd, .int .i64 zf, .int .i64 zp, .int .i64 zc, .int .i64 0] 23) := hU.blk
  have HB5 : Hid (Below w.heap.size w U2) := hU.bel _ _ (by omega) HB4.out
  refine hK.out _ _ ⟨HX5.out, HT5.out⟩ (fun hHeld => ?_)
  clear hK K hU HT4 HX4 HR4 HV4 HB4
  refine wpAnyH_done (by kernel_rfl) ?_ _
  clear hHeld
  have b2 : U2.cell? ⟨gv, 2, none⟩ = some (.int .i64 zd) := HV5.out.cell 2
  have b3 : U2.cell? ⟨gv, 3, none⟩ = some (.int .i64 zf) := HV5.out.cell 3
  have b4 : U2.cell? ⟨gv, 4, none⟩ = some (.int .i64 zp) := HV5.out.cell 4
  have b5 : U2.cell? ⟨gv, 5, none⟩ = some (.int .i64 zc) := HV5.out.cell 5
  go_wp2_with (first | (refine wp_let1 rfl 3 _ _ rfl (gv) 1 rfl .i64 (zd + zf + zp + zc) rfl (by kernel_rfl) #[.int .i64 (k.i : Int), .int .i64 0, .int .i64 zd, .int .i64 zf, .int .i64 zp, .int .i64 zc, .int .i64 0] 23 HV5.out (by simp) ?_) | fail)
  intro U3 hU
  have HT6 : Hid (Blk U3 (gt) #[.int .i64 (k.c : Int), .int .i64 (k.i : Int), .int .i64 (k.a : Int), .int .i64 (k.t : Int)] 51) := hU.keep HT5.out (by omega)
  have HX6 : Hid (Blk U3 (w.heap.size) #[.int .i64 xm, .int .i64 x1, .int .i64 x2, .int .i64 x3, .int .i64 x4, .int .i64 xd, .int .i64 xf, .int .i64 xp, .int .i64 xc] 36) := hU.keep HX5.out (by omega)
  have HR6 : Hid (Blk U3 (w.heap.size + 1) #[.int .i64 0, .int .i64 0, .int .i64 0, .int .i64 0, .int .i64 0, .int .i64 0, .int .i64 0, .int .i64 0, .string ⟨#[]⟩] 25) := hU.keep HR5.out (by omega)
  have HV6 : Hid (Blk U3 gv #[.int .i64 (k.i : Int), .int .i64 (zd + zf + zp + zc), .int .i64 zd, .int .i64 zf, .int .i64 zp, .int .i64 zc, .int .i64 0] 23) := hU.blk
  have HB6 : Hid (Below w.heap.size w U3) := hU.bel _ _ (by omega) HB5.out
  clear hU HT5 HX5 HR5 HV5 HB5 b2 b3 b4 b5
  have t0 : U3.cell? ⟨gt, 0, none⟩ = some (.int .i64 (k.c : Int)) := HT6.out.cell 0
  have t2 : U3.cell? ⟨gt, 2, none⟩ = some (.int .i64 (k.a : Int)) := HT6.out.cell 2
  by_cases hc : k.c = 0
  · have n0 : ((k.c : Int) == 0) = true := by rw [hc]; rfl
    have HCC : Hid (k.c = 0) := hc
    clear hc
    go_wp2_with (first | (refine wp_let1 rfl 3 _ _ rfl (gv) 6 rfl .i64 (k.a : Int) rfl (by kernel_rfl) #[.int .i64 (k.i : Int), .int .i64 (zd + zf + zp + zc), .int .i64 zd, .int .i64 zf, .int .i64 zp, .int .i64 zc, .int .i64 0] 23 HV6.out (by simp) ?_) | fail)
    intro U4 hU
    have HT7 : Hid (Blk U4 (gt) #[.int .i64 (k.c : Int), .int .i64 (k.i : Int), .int .i64 (k.a : Int), .int .i64 (k.t : Int)] 51) := hU.keep HT6.out (by omega)
    have HX7 : Hid (Blk U4 (w.heap.size) #[.int .i64 xm, .int .i64 x1, .int .i64 x2, .int .i64 x3, .int .i64 x4, .int .i64 xd, .int .i64 xf, .int .i64 xp, .int .i64 xc] 36) := hU.keep HX6.out (by omega)
    have HR7 : Hid (Blk U4 (w.heap.size + 1) #[.int .i64 0, .int .i64 0, .int .i64 0, .int .i64 0, .int .i64 0, .int .i64 0, .int .i64 0, .int .i64 0, .string ⟨#[]⟩] 25) := hU.keep HR6.out (by omega)
    have HV7 : Hid (Blk U4 gv #[.int .i64 (k.i : Int), .int .i64 (zd + zf + zp + zc), .int .i64 zd, .int .i64 zf, .int .i64 zp, .int .i64 zc, .int .i64 (k.a : Int)] 23) := hU.blk
    have HB7 : Hid (Below w.heap.size w U4) := hU.bel _ _ (by omega) HB6.out
    clear hU HT6 HX6 HR6 HV6 HB6 t0 t2
    go_wp2_with fail
    refine wp_region_held_drew (S := fun v => Blk v w.heap.size #[.int .i64 xm, .int .i64 x1, .int .i64 x2, .int .i64 x3, .int .i64 x4, .int .i64 xd, .int .i64 xf, .int .i64 xp, .int .i64 xc] 36 ∧ Blk v gv #[.int .i64 (k.i : Int), .int .i64 (zd + zf + zp + zc), .int .i64 zd, .int .i64 zf, .int .i64 zp, .int .i64 zc, .int .i64 (k.a : Int)] 23) (by kernel_rfl) ⟨Blk.drew HX7.out 1, Blk.drew HV7.out 1⟩ (fun hHeld => ?_)
    refine take_at 0 49 (.pointer (some ⟨w.heap.size, 0, none⟩)) _ rfl rfl (by kernel_rfl) (by kernel_rfl) (by kernel_rfl) (fun _ _ _ h => h) (Or.inl ⟨by rfl, fun v hv => by skip; clear hv; go_simp⟩) hHeld ?_
    simp only [Act.put, List.setIfInBounds_toArray, List.set_cons_zero, List.set_cons_succ]
    refine take_at 1 50 (.int .i64 xm) _ rfl rfl (by kernel_rfl) (by kernel_rfl) (by kernel_rfl) (fun _ _ _ h => h) (Or.inl ⟨by rfl, fun v hv => by have h2 := hv.1.cell 0; simp at h2; clear hv; go_simp⟩) hHeld ?_
    simp only [Act.put, List.setIfInBounds_toArray, List.set_cons_zero, List.set_cons_succ]
    refine call_at 2 51 (.int .i64 zm) _ rfl rfl (by kernel_rfl) (by kernel_rfl) (by kernel_rfl) (fun _ _ _ h => h) 24 #[.int .i64 xm, .int .i64 50] ⟨by rfl, fun v hv => by clear hv; go_simp⟩ (fun v _ => HPzm.out v) hHeld ?_
    simp only [Act.put, List.setIfInBounds_toArray, List.set_cons_zero, List.set_cons_succ]
    refine take_at 3 52 (.agg #[.int .i64 (k.i : Int), .int .i64 (zd + zf + zp + zc), .int .i64 zd, .int .i64 zf, .int .i64 zp, .int .i64 zc, .int .i64 (k.a : Int)]) _ rfl rfl (by kernel_rfl) (by kernel_rfl) (by kernel_rfl) (fun _ _ _ h => h) (yieldsIf_whole (by rfl) 23 _ rfl (gv) rfl 23 #[.int .i64 (k.i : Int), .int .i64 (zd + zf + zp + zc), .int .i64 zd, .int .i64 zf, .int .i64 zp, .int .i64 zc, .int .i64 (k.a : Int)] _ (fun v hv => hv.2) Tryz.underlying23 rfl (by kernel_rfl)) hHeld ?_
    simp only [Act.put, List.setIfInBounds_toArray, List.set_cons_zero, List.set_cons_succ]
    refine take_at 4 53 (.string S) _ rfl rfl (by kernel_rfl) (by kernel_rfl) (by kernel_rfl) (fun _ _ _ h => h) (Or.inl ⟨by rfl, fun v hv => by skip; clear hv; go_simp⟩) hHeld ?_
    simp only [Act.put, List.setIfInBounds_toArray, List.set_cons_zero, List.set_cons_succ]
    refine take_at 5 54 (.agg #[.int .i64 zm, .int .i64 (k.i : Int), .int .i64 (zd + zf + zp + zc), .int .i64 zd, .int .i64 zf, .int .i64 zp, .int .i64 zc, .int .i64 (k.a : Int), .string S]) _ rfl rfl (by kernel_rfl) (by kernel_rfl) (by kernel_rfl) (fun _ _ _ h => h) (Or.inl ⟨by rfl, fun v hv => by skip; clear hv; go_simp⟩) hHeld ?_
    simp only [Act.put, List.setIfInBounds_toArray, List.set_cons_zero, List.set_cons_succ]
    refine take_at 6 55 (.int .i64 0) _ rfl rfl (by kernel_rfl) (by kernel_rfl) (by kernel_rfl) (fun _ _ _ h => h) (Or.inl ⟨by rfl, fun v hv => by skip; clear hv; go_simp⟩) hHeld ?_
    simp only [Act.put, List.setIfInBounds_toArray, List.set_cons_zero, List.set_cons_succ]
    refine take_at 7 56 (.bool true) _ rfl rfl (by kernel_rfl) (by kernel_rfl) (by kernel_rfl) (fun _ _ _ h => h) (Or.inl ⟨by rfl, fun v hv => by skip; clear hv; go_simp⟩) hHeld ?_
    simp only [Act.put, List.setIfInBounds_toArray, List.set_cons_zero, List.set_cons_succ]
    refine wpAnyH_ready (rs := [8]) (by kernel_rfl) (by simp) (AllReadyH.cons rfl (fun K hK => ?_) AllReadyH.nil)
    rw [if_pos (by rfl)]
    refine wp_letOp 25 _ _ rfl (w.heap.size + 1) rfl #[.int .i64 zm, .int .i64 (k.i : Int), .int .i64 (zd + zf + zp + zc), .int .i64 zd, .int .i64 zf, .int .i64 zp, .int .i64 zc, .int .i64 (k.a : Int), .string S] rfl (by kernel_rfl) (by simp [Value.oneCell']) #[.int .i64 0, .int .i64 0, .int .i64 0, .int .i64 0, .int .i64 0, .int .i64 0, .int .i64 0, .int .i64 0, .string ⟨#[]⟩] 25 (Blk.drew HR7.out 1) rfl rfl ?_
    intro UZ hU
    have HXZ : Hid (Blk UZ w.heap.size #[.int .i64 xm, .int .i64 x1, .int .i64 x2, .int .i64 x3, .int .i64 x4, .int .i64 xd, .int .i64 xf, .int .i64 xp, .int .i64 xc] 36) := hU.keep (Blk.drew HX7.out 1) (by omega)
    have HVZ : Hid (Blk UZ gv #[.int .i64 (k.i : Int), .int .i64 (zd + zf + zp + zc), .int .i64 zd, .int .i64 zf, .int .i64 zp, .int .i64 zc, .int .i64 (k.a : Int)] 23) := hU.keep (Blk.drew HV7.out 1) (by omega)
    have HRZ : Hid (Blk UZ (w.heap.size + 1) #[.int .i64 zm, .int .i64 (k.i : Int), .int .i64 (zd + zf + zp + zc), .int .i64 zd, .int .i64 zf, .int .i64 zp, .int .i64 zc, .int .i64 (k.a : Int), .string S] 25) := hU.blk
    have HBZ : Hid (Below w.heap.size w UZ) := hU.bel _ _ (by omega) HB7.out.drew
    refine hK.out _ _ ⟨HXZ.out, HVZ.out⟩ (fun hHeld => ?_)
    clear hK K hU
    refine take_at 9 3 (.bool true) _ rfl rfl (by kernel_rfl) (by kernel_rfl) (by kernel_rfl) (fun _ _ _ h => h) (Or.inl ⟨by rfl, fun v hv => by skip; clear hv; go_simp⟩) hHeld ?_
    simp only [Act.put, List.setIfInBounds_toArray, List.set_cons_zero, List.set_cons_succ]
    refine wpAnyH_done (by kernel_rfl) ?_ _
    clear hHeld
    have R0 : Hid (UZ.cell? ⟨w.heap.size + 1, 0, none⟩ = some (.int .i64 zm)) := HRZ.out.cell 0
    have R1 : Hid (UZ.cell? ⟨w.heap.size + 1, 1, none⟩ = some (.int .i64 (k.i : Int))) := HRZ.out.cell 1
    have R2 : Hid (UZ.cell? ⟨w.heap.size + 1, 2, none⟩ = some (.int .i64 (zd + zf + zp + zc))) := HRZ.out.cell 2
    have R3 : Hid (UZ.cell? ⟨w.heap.size + 1, 3, none⟩ = some (.int .i64 zd)) := HRZ.out.cell 3
    have R4 : Hid (UZ.cell? ⟨w.heap.size + 1, 4, none⟩ = some (.int .i64 zf)) := HRZ.out.cell 4
    have R5 : Hid (UZ.cell? ⟨w.heap.size + 1, 5, none⟩ = some (.int .i64 zp)) := HRZ.out.cell 5
    have R6 : Hid (UZ.cell? ⟨w.heap.size + 1, 6, none⟩ = some (.int .i64 zc)) := HRZ.out.cell 6
    have R7 : Hid (UZ.cell? ⟨w.heap.size + 1, 7, none⟩ = some (.int .i64 (k.a : Int))) := HRZ.out.cell 7
    have R8 : Hid (UZ.cell? ⟨w.heap.size + 1, 8, none⟩ = some (.string S)) := HRZ.out.cell 8
    have HGD : Hid (Good ⟨zm, (k.i : Int), zd + zf + zp + zc, zd, zf, zp, zc, (k.a : Int), token.fmtL (97 * k.num)⟩) := slip_right HOK.out zm zd zf zp zc (k.a : Int) ⟨zm0, zm1⟩ ⟨zd0, zd1⟩ ⟨zf0, zf1⟩ ⟨zp0, zp1⟩ ⟨zc0, zc1⟩ ⟨fun _ => rfl, fun h => absurd HCC.out h⟩
    have HVV : Hid (Ending.returned (.tuple #[.agg #[.int .i64 zm, .int .i64 (k.i : Int), .int .i64 (zd + zf + zp + zc), .int .i64 zd, .int .i64 zf, .int .i64 zp, .int .i64 zc, .int .i64 (k.a : Int), .string S], .bool true]) = .returned (.tuple #[Rc.v ⟨zm, (k.i : Int), zd + zf + zp + zc, zd, zf, zp, zc, (k.a : Int), token.fmtL (97 * k.num)⟩, .bool true])) := by show _ = _; unfold Rc.v Rc.cs; rw [HFL.out]
    go_wp2_with fail
    exact bodyPost_ret (v := .tuple #[.agg #[.int .i64 zm, .int .i64 (k.i : Int), .int .i64 (zd + zf + zp + zc), .int .i64 zd, .int .i64 zf, .int .i64 zp, .int .i64 zc, .int .i64 (k.a : Int), .string S], .bool true]) (by simp [results, Tryz.results10, R0.out, R1.out, R2.out, R3.out, R4.out, R5.out, R6.out, R7.out, R8.out, go_sem]) rfl ⟨_, HVV.out, HGD.out, HBZ.out⟩
  · have n0 : ((k.c : Int) == 0) = false := by simp; omega
    have HCC : Hid (k.c ≠ 0) := hc
    clear hc
    go_wp2_with fail
    refine wp_region_held_drew (S := fun v => Blk v w.heap.size #[.int .i64 xm, .int .i64 x1, .int .i64 x2, .int .i64 x3, .int .i64 x4, .int .i64 xd, .int .i64 xf, .int .i64 xp, .int .i64 xc] 36 ∧ Blk v gv #[.int .i64 (k.i : Int), .int .i64 (zd + zf + zp + zc), .int .i64 zd, .int .i64 zf, .int .i64 zp, .int .i64 zc, .int .i64 0] 23) (by kernel_rfl) ⟨Blk.drew HX6.out 1, Blk.drew HV6.out 1⟩ (fun hHeld => ?_)
    refine take_at 0 49 (.pointer (some ⟨w.heap.size, 0, none⟩)) _ rfl rfl (by kernel_rfl) (by kernel_rfl) (by kernel_rfl) (fun _ _ _ h => h) (Or.inl ⟨by rfl, fun v hv => by skip; clear hv; go_simp⟩) hHeld ?_
    simp only [Act.put, List.setIfInBounds_toArray, List.set_cons_zero, List.set_cons_succ]
    refine take_at 1 50 (.int .i64 xm) _ rfl rfl (by kernel_rfl) (by kernel_rfl) (by kernel_rfl) (fun _ _ _ h => h) (Or.inl ⟨by rfl, fun v hv => by have h2 := hv.1.cell 0; simp at h2; clear hv; go_simp⟩) hHeld ?_
    simp only [Act.put, List.setIfInBounds_toArray, List.set_cons_zero, List.set_cons_succ]
    refine call_at 2 51 (.int .i64 zm) _ rfl rfl (by kernel_rfl) (by kernel_rfl) (by kernel_rfl) (fun _ _ _ h => h) 24 #[.int .i64 xm, .int .i64 50] ⟨by rfl, fun v hv => by clear hv; go_simp⟩ (fun v _ => HPzm.out v) hHeld ?_
    simp only [Act.put, List.setIfInBounds_toArray, List.set_cons_zero, List.set_cons_succ]
    refine take_at 3 52 (.agg #[.int .i64 (k.i : Int), .int .i64 (zd + zf + zp + zc), .int .i64 zd, .int .i64 zf, .int .i64 zp, .int .i64 zc, .int .i64 0]) _ rfl rfl (by kernel_rfl) (by kernel_rfl) (by kernel_rfl) (fun _ _ _ h => h) (yieldsIf_whole (by rfl) 23 _ rfl (gv) rfl 23 #[.int .i64 (k.i : Int), .int .i64 (zd + zf + zp + zc), .int .i64 zd, .int .i64 zf, .int .i64 zp, .int .i64 zc, .int .i64 0] _ (fun v hv => hv.2) Tryz.underlying23 rfl (by kernel_rfl)) hHeld ?_
    simp only [Act.put, List.setIfInBounds_toArray, List.set_cons_zero, List.set_cons_succ]
    refine take_at 4 53 (.string S) _ rfl rfl (by kernel_rfl) (by kernel_rfl) (by kernel_rfl) (fun _ _ _ h => h) (Or.inl ⟨by rfl, fun v hv => by skip; clear hv; go_simp⟩) hHeld ?_
    simp only [Act.put, List.setIfInBounds_toArray, List.set_cons_zero, List.set_cons_succ]
    refine take_at 5 54 (.agg #[.int .i64 zm, .int .i64 (k.i : Int), .int .i64 (zd + zf + zp + zc), .int .i64 zd, .int .i64 zf, .int .i64 zp, .int .i64 zc, .int .i64 0, .string S]) _ rfl rfl (by kernel_rfl) (by kernel_rfl) (by kernel_rfl) (fun _ _ _ h => h) (Or.inl ⟨by rfl, fun v hv => by skip; clear hv; go_simp⟩) hHeld ?_
    simp only [Act.put, List.setIfInBounds_toArray, List.set_cons_zero, List.set_cons_succ]
    refine take_at 6 55 (.int .i64 0) _ rfl rfl (by kernel_rfl) (by kernel_rfl) (by kernel_rfl) (fun _ _ _ h => h) (Or.inl ⟨by rfl, fun v hv => by skip; clear hv; go_simp⟩) hHeld ?_
    simp only [Act.put, List.setIfInBounds_toArray, List.set_cons_zero, List.set_cons_succ]
    refine take_at 7 56 (.bool true) _ rfl rfl (by kernel_rfl) (by kernel_rfl) (by kernel_rfl) (fun _ _ _ h => h) (Or.inl ⟨by rfl, fun v hv => by skip; clear hv; go_simp⟩) hHeld ?_
    simp only [Act.put, List.setIfInBounds_toArray, List.set_cons_zero, List.set_cons_succ]
    refine wpAnyH_ready (rs := [8]) (by kernel_rfl) (by simp) (AllReadyH.cons rfl (fun K hK => ?_) AllReadyH.nil)
    rw [if_pos (by rfl)]
    refine wp_letOp 25 _ _ rfl (w.heap.size + 1) rfl #[.int .i64 zm, .int .i64 (k.i : Int), .int .i64 (zd + zf + zp + zc), .int .i64 zd, .int .i64 zf, .int .i64 zp, .int .i64 zc, .int .i64 0, .string S] rfl (by kernel_rfl) (by simp [Value.oneCell']) #[.int .i64 0, .int .i64 0, .int .i64 0, .int .i64 0, .int .i64 0, .int .i64 0, .int .i64 0, .int .i64 0, .string ⟨#[]⟩] 25 (Blk.drew HR6.out 1) rfl rfl ?_
    intro UZ hU
    have HXZ : Hid (Blk UZ w.heap.size #[.int .i64 xm, .int .i64 x1, .int .i64 x2, .int .i64 x3, .int .i64 x4, .int .i64 xd, .int .i64 xf, .int .i64 xp, .int .i64 xc] 36) := hU.keep (Blk.drew HX6.out 1) (by omega)
    have HVZ : Hid (Blk UZ gv #[.int .i64 (k.i : Int), .int .i64 (zd + zf + zp + zc), .int .i64 zd, .int .i64 zf, .int .i64 zp, .int .i64 zc, .int .i64 0] 23) := hU.keep (Blk.drew HV6.out 1) (by omega)
    have HRZ : Hid (Blk UZ (w.heap.size + 1) #[.int .i64 zm, .int .i64 (k.i : Int), .int .i64 (zd + zf + zp + zc), .int .i64 zd, .int .i64 zf, .int .i64 zp, .int .i64 zc, .int .i64 0, .string S] 25) := hU.blk
    have HBZ : Hid (Below w.heap.size w UZ) := hU.bel _ _ (by omega) HB6.out.drew
    refine hK.out _ _ ⟨HXZ.out, HVZ.out⟩ (fun hHeld => ?_)
    clear hK K hU
    refine take_at 9 3 (.bool true) _ rfl rfl (by kernel_rfl) (by kernel_rfl) (by kernel_rfl) (fun _ _ _ h => h) (Or.inl ⟨by rfl, fun v hv => by skip; clear hv; go_simp⟩) hHeld ?_
    simp only [Act.put, List.setIfInBounds_toArray, List.set_cons_zero, List.set_cons_succ]
    refine wpAnyH_done (by kernel_rfl) ?_ _
    clear hHeld
    have R0 : Hid (UZ.cell? ⟨w.heap.size + 1, 0, none⟩ = some (.int .i64 zm)) := HRZ.out.cell 0
    have R1 : Hid (UZ.cell? ⟨w.heap.size + 1, 1, none⟩ = some (.int .i64 (k.i : Int))) := HRZ.out.cell 1
    have R2 : Hid (UZ.cell? ⟨w.heap.size + 1, 2, none⟩ = some (.int .i64 (zd + zf + zp + zc))) := HRZ.out.cell 2
    have R3 : Hid (UZ.cell? ⟨w.heap.size + 1, 3, none⟩ = some (.int .i64 zd)) := HRZ.out.cell 3
    have R4 : Hid (UZ.cell? ⟨w.heap.size + 1, 4, none⟩ = some (.int .i64 zf)) := HRZ.out.cell 4
    have R5 : Hid (UZ.cell? ⟨w.heap.size + 1, 5, none⟩ = some (.int .i64 zp)) := HRZ.out.cell 5
    have R6 : Hid (UZ.cell? ⟨w.heap.size + 1, 6, none⟩ = some (.int .i64 zc)) := HRZ.out.cell 6
    have R7 : Hid (UZ.cell? ⟨w.heap.size + 1, 7, none⟩ = some (.int .i64 0)) := HRZ.out.cell 7
    have R8 : Hid (UZ.cell? ⟨w.heap.size + 1, 8, none⟩ = some (.string S)) := HRZ.out.cell 8
    have HGD : Hid (Good ⟨zm, (k.i : Int), zd + zf + zp + zc, zd, zf, zp, zc, 0, token.fmtL (97 * k.num)⟩) := slip_right HOK.out zm zd zf zp zc 0 ⟨zm0, zm1⟩ ⟨zd0, zd1⟩ ⟨zf0, zf1⟩ ⟨zp0, zp1⟩ ⟨zc0, zc1⟩ ⟨fun h => absurd h HCC.out, fun _ => rfl⟩
    have HVV : Hid (Ending.returned (.tuple #[.agg #[.int .i64 zm, .int .i64 (k.i : Int), .int .i64 (zd + zf + zp + zc), .int .i64 zd, .int .i64 zf, .int .i64 zp, .int .i64 zc, .int .i64 0, .string S], .bool true]) = .returned (.tuple #[Rc.v ⟨zm, (k.i : Int), zd + zf + zp + zc, zd, zf, zp, zc, 0, token.fmtL (97 * k.num)⟩, .bool true])) := by show _ = _; unfold Rc.v Rc.cs; rw [HFL.out]
    go_wp2_with fail
    exact bodyPost_ret (v := .tuple #[.agg #[.int .i64 zm, .int .i64 (k.i : Int), .int .i64 (zd + zf + zp + zc), .int .i64 zd, .int .i64 zf, .int .i64 zp, .int .i64 zc, .int .i64 0, .string S], .bool true]) (by simp [results, Tryz.results10, R0.out, R1.out, R2.out, R3.out, R4.out, R5.out, R6.out, R7.out, R8.out, go_sem]) rfl ⟨_, HVV.out, HGD.out, HBZ.out⟩

end Go.Proofs.YtlicdeppfhmfjaaGreatDoor.rcp

/- Tariffs: plain facts. -/
namespace Go.Proofs.YtlicdeppfhmfjaaGreatDoor.tar
set_option linter.unusedVariables false

/-- A pair of numbers: of a step how far it goes, and its price; of a debt what is owed, and what it grows by. -/
structure Du where
  a : Int
  b : Int
def du0 : Du := ⟨0, 0⟩
/-- Three numbers: of a line its units, its price, its cost. -/
structure Tr where
  a : Int
  b : Int
  c : Int
def tr0 : Tr := ⟨0, 0, 0⟩

theorem take_one (l : List Du) (k : Nat) (h : k < l.length) : l.take (k + 1) = l.take k ++ [l.getD k du0] := by
  rw [List.take_succ_eq_append_getElem h]
  simp [List.getD, List.getElem?_eq_getElem h]
theorem drop_one (l : List Du) (k : Nat) (h : k < l.length) : l.drop k = l.getD k du0 :: l.drop (k + 1) := by
  rw [List.drop_eq_getElem_cons h]
  simp [List.getD, List.getElem?_eq_getElem h]
/-- How far the steps ahead of the place k go. -/
def low (l : List Du) (k : Nat) : Int := if k = 0 then 0 else (l.getD (k - 1) du0).a
theorem low_next (l : List Du) (k : Nat) : low l (k + 1) = (l.getD k du0).a := rfl
theorem low_zero (l : List Du) : low l 0 = 0 := rfl
/-- What is wrong with a tariff. -/
def Fits (l : List Du) : Prop := ∀ i, i < l.length → (1 ≤ (l.getD i du0).a ∧ (l.getD i du0).a ≤ 10000000) ∧ 1 ≤ (l.getD i du0).b ∧ (l.getD i du0).b ≤ 100000
def Rises (l : List Du) : Prop := ∀ i, 1 ≤ i → i < l.length → (l.getD (i - 1) du0).a < (l.getD i du0).a
def Sized (l : List Du) : Prop := 1 ≤ l.length ∧ l.length ≤ 8
def Ends (l : List Du) : Prop := (l.getD (l.length - 1) du0).a = 10000000
def Right (l : List Du) : Prop := Sized l ∧ Fits l ∧ Rises l ∧ Ends l
def FaultIs (l : List Du) (e : Int) : Prop := (¬ Sized l ∧ e = 1) ∨ (Sized l ∧ ¬ Fits l ∧ e = 2) ∨ (Sized l ∧ Fits l ∧ ¬ (Rises l ∧ Ends l) ∧ e = 3) ∨ (Right l ∧ e = 0)
theorem FaultIs.one {l : List Du} {e f : Int} (h : FaultIs l e) (h' : FaultIs l f) : e = f := by
  rcases h with ⟨a, rfl⟩ | ⟨a, b, rfl⟩ | ⟨a, b, c, rfl⟩ | ⟨⟨a, b, c⟩, rfl⟩ <;> rcases h' with ⟨a', rfl⟩ | ⟨a', b', rfl⟩ | ⟨a', b', c', rfl⟩ | ⟨⟨a', b', c'⟩, rfl⟩ <;> first | rfl | contradiction
theorem FaultIs.ok {l : List Du} {e : Int} (h : FaultIs l e) : e = 0 ↔ Right l := by
  rcases h with ⟨a, rfl⟩ | ⟨a, b, rfl⟩ | ⟨a, b, c, rfl⟩ | ⟨h, rfl⟩
  · exact ⟨fun h => absurd h (by decide), fun h => absurd h.1 a⟩
  · exact ⟨fun h => absurd h (by decide), fun h => absurd h.2.1 b⟩
  · exact ⟨fun h => absurd h (by decide), fun h => absurd h.2.2 c⟩
  · exact ⟨fun _ => h, fun _ => rfl⟩
theorem fault_is (l : List Du) : ∃ e, FaultIs l e := by
  by_cases a : Sized l
  · by_cases b : Fits l
    · by_cases c : Rises l ∧ Ends l
      · exact ⟨0, .inr (.inr (.inr ⟨⟨a, b, c⟩, rfl⟩))⟩
      · exact ⟨3, .inr (.inr (.inl ⟨a, b, c, rfl⟩))⟩
    · exact ⟨2, .inr (.inl ⟨a, b, rfl⟩)⟩
  · exact ⟨1, .inl ⟨a, rfl⟩⟩
/-- How many units from x to y lie from lo to hi. -/
def ov (lo hi x y : Int) : Int := max 0 (min hi y - max lo x)
theorem ov_pos (lo hi x y : Int) : 0 ≤ ov lo hi x y := by unfold ov; omega
/-- What the units from x to y cost, as far as the place k. -/
def costK (l : List Du) (x y : Int) : Nat → Int
  | 0 => 0
  | k + 1 => costK l x y k + ov (low l k) (l.getD k du0).a x y * (l.getD k du0).b
def cost (l : List Du) (x y : Int) : Int := costK l x y l.length
theorem costK_next (l : List Du) (x y : Int) (k : Nat) : costK l x y (k + 1) = costK l x y k + ov (low l k) (l.getD k du0).a x y * (l.getD k du0).b := rfl
/-- How many of them lie there. -/
def manyK (l : List Du) (x y : Int) : Nat → Int
  | 0 => 0
  | k + 1 => manyK l x y k + ov (low l k) (l.getD k du0).a x y
theorem Right.price {l : List Du} (h : Right l) (k : Nat) (hk : k < l.length) : 1 ≤ (l.getD k du0).b ∧ (l.getD k du0).b ≤ 100000 := (h.2.1 k hk).2
theorem Right.upto {l : List Du} (h : Right l) (k : Nat) (hk : k < l.length) : 1 ≤ (l.getD k du0).a ∧ (l.getD k du0).a ≤ 10000000 := (h.2.1 k hk).1
theorem Right.rise {l : List Du} (h : Right l) (k : Nat) (hk : k < l.length) : low l k < (l.getD k du0).a := by
  by_cases e : k = 0
  · subst e; rw [low_zero]; have := (h.upto 0 hk).1; omega
  · unfold low; rw [if_neg e]; exact h.2.2.1 k (by omega) hk
theorem Right.low_pos {l : List Du} (h : Right l) (k : Nat) (hk : k ≤ l.length) : 0 ≤ low l k := by
  unfold low
  by_cases e : k = 0
  · rw [if_pos e]; omega
  · rw [if_neg e]; have := (h.upto (k - 1) (by omega)).1; omega
theorem Right.low_end {l : List Du} (h : Right l) : low l l.length = 10000000 := by
  unfold low
  rw [if_neg (by have := h.1.1; omega)]
  exact h.2.2.2
/-- The units up to a place are those that lie ahead of it. -/
theorem many_eq {l : List Du} (h : Right l) (x y : Int) (hx : 0 ≤ x) (hxy : x ≤ y) (k : Nat) (hk : k ≤ l.length) : manyK l x y k = max 0 (min (low l k) y - x) := by
  induction k with
  | zero => unfold manyK; rw [low_zero]; omega
  | succ k ih =>
    have h1 := ih (by omega)
    have h2 := h.rise k (by omega)
    have h3 := h.low_pos k (by omega)
    unfold manyK
    rw [h1, low_next]
    unfold ov
    omega
theorem many_all {l : List Du} (h : Right l) (x y : Int) (hx : 0 ≤ x) (hxy : x ≤ y) (hy : y ≤ 10000000) : manyK l x y l.length = y - x := by
  rw [many_eq h x y hx hxy _ (Nat.le_refl _), h.low_end]; omega
theorem costK_pos {l : List Du} (h : Right l) (x y : Int) (k : Nat) (hk : k ≤ l.length) : 0 ≤ costK l x y k := by
  induction k with
  | zero => exact Int.le_refl _
  | succ k ih =>
    have h1 := ih (by omega)
    have h2 := Int.mul_nonneg (ov_pos (low l k) (l.getD k du0).a x y) (show 0 ≤ (l.getD k du0).b by have := (h.price k (by omega)).1; omega)
    unfold costK; omega
theorem cost_many {l : List Du} (h : Right l) (x y : Int) (k : Nat) (hk : k ≤ l.length) : manyK l x y k ≤ costK l x y k ∧ costK l x y k ≤ manyK l x y k * 100000 := by
  induction k with
  | zero => exact ⟨Int.le_refl _, Int.le_refl _⟩
  | succ k ih =>
    have h1 := ih (by omega)
    have h0 := ov_pos (low l k) (l.getD k du0).a x y
    have hp := h.price k (by omega)
    have h2 : ov (low l k) (l.getD k du0).a x y * 1 ≤ ov (low l k) (l.getD k du0).a x y * (l.getD k du0).b := Int.mul_le_mul_of_nonneg_left hp.1 h0
    have h3 : ov (low l k) (l.getD k du0).a x y * (l.getD k du0).b ≤ ov (low l k) (l.getD k du0).a x y * 100000 := Int.mul_le_mul_of_nonneg_left hp.2 h0
    unfold costK manyK
    rw [Int.mul_one] at h2
    constructor
    · omega
    · rw [Int.add_mul]; omega
theorem cost_bd {l : List Du} (h : Right l) (x y : Int) (hx : 0 ≤ x) (hxy : x ≤ y) (hy : y ≤ 10000000) : y - x ≤ cost l x y ∧ cost l x y ≤ (y - x) * 100000 := by
  have := cost_many h x y l.length (Nat.le_refl _)
  rw [many_all h x y hx hxy hy] at this
  exact this
theorem ov_adds (lo hi x y z : Int) (h : lo ≤ hi) (h1 : x ≤ y) (h2 : y ≤ z) : ov lo hi x z = ov lo hi x y + ov lo hi y z := by unfold ov; omega
theorem costK_adds {l : List Du} (h : Right l) (x y z : Int) (h1 : x ≤ y) (h2 : y ≤ z) (k : Nat) (hk : k ≤ l.length) : costK l x z k = costK l x y k + costK l y z k := by
  induction k with
  | zero => rfl
  | succ k ih =>
    have h3 := ih (by omega)
    have h4 := h.rise k (by omega)
    unfold costK
    rw [h3, ov_adds _ _ x y z (by omega) h1 h2, Int.add_mul]
    omega
theorem cost_adds {l : List Du} (h : Right l) (x y z : Int) (h1 : x ≤ y) (h2 : y ≤ z) : cost l x z = cost l x y + cost l y z := costK_adds h x y z h1 h2 _ (Nat.le_refl _)
theorem cost_self {l : List Du} (h : Right l) (x : Int) : cost l x x = 0 := by
  have := cost_adds h x x x (Int.le_refl _) (Int.le_refl _); omega
theorem costK_mono {l : List Du} (h : Right l) (x y : Int) (j k : Nat) (hjk : j ≤ k) (hk : k ≤ l.length) : costK l x y j ≤ costK l x y k := by
  induction k with
  | zero => have : j = 0 := by omega
            subst this; exact Int.le_refl _
  | succ k ih =>
    by_cases e : j = k + 1
    · subst e; exact Int.le_refl _
    · have h1 := ih (by omega) (by omega)
      have h2 := Int.mul_nonneg (ov_pos (low l k) (l.getD k du0).a x y) (show 0 ≤ (l.getD k du0).b by have := (h.price k (by omega)).1; omega)
      rw [costK_next]; omega
theorem low_mono {l : List Du} (h : Right l) (j k : Nat) (hjk : j ≤ k) (hk : k ≤ l.length) : low l j ≤ low l k := by
  induction k with
  | zero => have : j = 0 := by omega
            subst this; exact Int.le_refl _
  | succ k ih =>
    by_cases e : j = k + 1
    · subst e; exact Int.le_refl _
    · have h1 := ih (by omega) (by omega)
      have h2 := h.rise k (by omega)
      rw [low_next]; omega
/-- One unit costs what its step says. -/
theorem costK_none {l : List Du} (h : Right l) (n : Int) (k : Nat) (hk : k ≤ l.length) (hn : low l k ≤ n) : costK l n (n + 1) k = 0 := by
  induction k with
  | zero => rfl
  | succ k ih =>
    have h2 := h.rise k (by omega)
    rw [low_next] at hn
    have h1 := ih (by omega) (by omega)
    unfold costK
    rw [h1, show ov (low l k) (l.getD k du0).a n (n + 1) = 0 by unfold ov; omega]
    omega
theorem costK_after {l : List Du} (h : Right l) (n : Int) (j k : Nat) (hjk : j ≤ k) (hk : k ≤ l.length) (hn : n + 1 ≤ low l j) : costK l n (n + 1) k = costK l n (n + 1) j := by
  induction k with
  | zero => have : j = 0 := by omega
            subst this; rfl
  | succ k ih =>
    by_cases e : j = k + 1
    · subst e; rfl
    · have h1 := ih (by omega) (by omega)
      have h2 := low_mono h j k (by omega) (by omega)
      rw [costK_next, h1, show ov (low l k) (l.getD k du0).a n (n + 1) = 0 by unfold ov; omega]
      omega
theorem cost_unit {l : List Du} (h : Right l) (n : Int) (k : Nat) (hk : k < l.length) (h1 : low l k ≤ n) (h2 : n + 1 ≤ (l.getD k du0).a) : cost l n (n + 1) = (l.getD k du0).b := by
  have e1 := costK_after h n (k + 1) l.length (by omega) (Nat.le_refl _) (by rw [low_next]; exact h2)
  unfold cost
  rw [e1]
  unfold costK
  rw [costK_none h n k (by omega) h1, show ov (low l k) (l.getD k du0).a n (n + 1) = 1 by unfold ov; omega]
  omega
/-- What the four ask for. -/
def Mays (x n : Int) : Prop := (0 ≤ x ∧ x ≤ 10000000) ∧ (0 ≤ n ∧ n ≤ 2097151) ∧ x + n ≤ 10000000
def MayIs (l : List Du) (x n : Int) (e : Int) : Prop := (¬ Right l ∧ FaultIs l e) ∨ (Right l ∧ ¬ Mays x n ∧ e = 2) ∨ (Right l ∧ Mays x n ∧ e = 0)
theorem MayIs.one {l : List Du} {x n e f : Int} (h : MayIs l x n e) (h' : MayIs l x n f) : e = f := by
  rcases h with ⟨a, b⟩ | ⟨a, b, rfl⟩ | ⟨a, b, rfl⟩ <;> rcases h' with ⟨a', b'⟩ | ⟨a', b', rfl⟩ | ⟨a', b', rfl⟩ <;> first | rfl | exact b.one b' | contradiction
theorem MayIs.ok {l : List Du} {x n e : Int} (h : MayIs l x n e) : e = 0 ↔ Right l ∧ Mays x n := by
  rcases h with ⟨a, b⟩ | ⟨a, b, rfl⟩ | ⟨a, b, rfl⟩
  · exact ⟨fun h => absurd (b.ok.1 h) a, fun h => absurd h.1 a⟩
  · exact ⟨fun h => absurd h (by decide), fun h => absurd h.2 b⟩
  · exact ⟨fun _ => ⟨a, b⟩, fun _ => rfl⟩
def PriceIs (l : List Du) (x n : Int) (p e : Int) : Prop := MayIs l x n e ∧ ((e = 0 ∧ p = cost l x (x + n)) ∨ (e ≠ 0 ∧ p = 0))
theorem PriceIs.one {l : List Du} {x n p e q f : Int} (h : PriceIs l x n p e) (h' : PriceIs l x n q f) : p = q ∧ e = f := by
  obtain ⟨a, b⟩ := h
  obtain ⟨a', b'⟩ := h'
  obtain rfl := a.one a'
  rcases b with ⟨_, rfl⟩ | ⟨c, rfl⟩ <;> rcases b' with ⟨_, rfl⟩ | ⟨c', rfl⟩ <;> first | exact ⟨rfl, rfl⟩ | contradiction
/-- The lines, as far as the place k. -/
def billK (l : List Du) (x y : Int) : Nat → List Tr
  | 0 => []
  | k + 1 => billK l x y k ++ (if 0 < ov (low l k) (l.getD k du0).a x y then [⟨ov (low l k) (l.getD k du0).a x y, (l.getD k du0).b, ov (low l k) (l.getD k du0).a x y * (l.getD k du0).b⟩] else [])
def BillIs (l : List Du) (x n : Int) (z : List Tr) (e : Int) : Prop := MayIs l x n e ∧ ((e = 0 ∧ z = billK l x (x + n) l.length) ∨ (e ≠ 0 ∧ z = []))
theorem BillIs.one {l : List Du} {x n e f : Int} {p q : List Tr} (h : BillIs l x n p e) (h' : BillIs l x n q f) : p = q ∧ e = f := by
  obtain ⟨a, b⟩ := h
  obtain ⟨a', b'⟩ := h'
  obtain rfl := a.one a'
  rcases b with ⟨_, rfl⟩ | ⟨c, rfl⟩ <;> rcases b' with ⟨_, rfl⟩ | ⟨c', rfl⟩ <;> first | exact ⟨rfl, rfl⟩ | contradiction
theorem bill_len (l : List Du) (x y : Int) (k : Nat) : (billK l x y k).length ≤ k := by
  induction k with
  | zero => exact Nat.le_refl _
  | succ k ih => unfold billK; rw [List.length_append]; split <;> simp <;> omega
theorem BillIs.small {l : List Du} {x n e : Int} {z : List Tr} (h : BillIs l x n z e) : z.length ≤ 1000000 := by
  rcases h.2 with ⟨h0, rfl⟩ | ⟨_, rfl⟩
  · have h1 := bill_len l x (x + n) l.length
    have h2 := (h.1.ok.1 h0).1.1.2
    omega
  · exact Nat.zero_le _
/-- The lines add up. -/
def sumA : List Tr → Int
  | [] => 0
  | t :: l => t.a + sumA l
def sumC : List Tr → Int
  | [] => 0
  | t :: l => t.c + sumC l
theorem sumA_app (l m : List Tr) : sumA (l ++ m) = sumA l + sumA m := by
  induction l with
  | nil => simp [sumA]
  | cons t l ih => simp only [List.cons_append, sumA, ih]; omega
theorem sumC_app (l m : List Tr) : sumC (l ++ m) = sumC l + sumC m := by
  induction l with
  | nil => simp [sumC]
  | cons t l ih => simp only [List.cons_append, sumC, ih]; omega
theorem bill_sums (l : List Du) (x y : Int) (k : Nat) : sumA (billK l x y k) = manyK l x y k ∧ sumC (billK l x y k) = costK l x y k := by
  induction k with
  | zero => exact ⟨rfl, rfl⟩
  | succ k ih =>
    have h0 := ov_pos (low l k) (l.getD k du0).a x y
    unfold billK manyK costK
    rw [sumA_app, sumC_app, ih.1, ih.2]
    by_cases h : 0 < ov (low l k) (l.getD k du0).a x y
    · rw [if_pos h]; simp [sumA, sumC]
    · have e : ov (low l k) (l.getD k du0).a x y = 0 := by omega
      rw [if_neg h, e]; simp [sumA, sumC]
def LineOk (t : Tr) : Prop := 1 ≤ t.a ∧ t.a ≤ 10000000 ∧ 1 ≤ t.b ∧ t.b ≤ 100000 ∧ t.c = t.a * t.b
theorem bill_ok {l : List Du} (h : Right l) (x y : Int) (k : Nat) (hk : k ≤ l.length) : ∀ t ∈ billK l x y k, LineOk t := by
  induction k with
  | zero => intro t ht; cases ht
  | succ k ih =>
    intro t ht
    unfold billK at ht
    rcases List.mem_append.1 ht with ht | ht
    · exact ih (by omega) t ht
    · by_cases hp : 0 < ov (low l k) (l.getD k du0).a x y
      · rw [if_pos hp] at ht
        have e := List.mem_singleton.1 ht
        subst e
        have h1 := h.price k (by omega)
        have h2 := h.upto k (by omega)
        have h3 := h.low_pos k (by omega)
        exact ⟨by show 1 ≤ ov _ _ _ _; omega, by show ov _ _ _ _ ≤ _; unfold ov; omega, h1.1, h1.2, rfl⟩
      · rw [if_neg hp] at ht; cases ht
/-- The most that there can be. -/
def Top (x : Int) : Int := min 2097151 (10000000 - x)
def MostOf (l : List Du) (x m u : Int) : Prop := (0 ≤ u ∧ u ≤ Top x) ∧ cost l x (x + u) ≤ m ∧ (u = Top x ∨ m < cost l x (x + (u + 1)))
theorem MostOf.one {l : List Du} {x m u v : Int} (h : Right l) (hx : 0 ≤ x) (a : MostOf l x m u) (b : MostOf l x m v) : u = v := by
  obtain ⟨⟨a1, a2⟩, a3, a4⟩ := a
  obtain ⟨⟨b1, b2⟩, b3, b4⟩ := b
  rcases Int.lt_trichotomy u v with c | c | c
  · rcases a4 with a4 | a4
    · omega
    · have h1 := cost_adds h x (x + (u + 1)) (x + v) (by omega) (by omega)
      have h2 := cost_bd h (x + (u + 1)) (x + v) (by omega) (by omega) (by unfold Top at b2; omega)
      omega
  · exact c
  · rcases b4 with b4 | b4
    · omega
    · have h1 := cost_adds h x (x + (v + 1)) (x + u) (by omega) (by omega)
      have h2 := cost_bd h (x + (v + 1)) (x + u) (by omega) (by omega) (by unfold Top at a2; omega)
      omega
def MayMost (x m : Int) : Prop := (0 ≤ x ∧ x ≤ 10000000) ∧ 0 ≤ m ∧ m ≤ 1000000000000
def MostIs (l : List Du) (x m : Int) (u p e : Int) : Prop := (¬ Right l ∧ FaultIs l e ∧ u = 0 ∧ p = 0) ∨ (Right l ∧ ¬ MayMost x m ∧ e = 2 ∧ u = 0 ∧ p = 0) ∨ (Right l ∧ MayMost x m ∧ e = 0 ∧ MostOf l x m u ∧ p = cost l x (x + u))
theorem MostIs.one {l : List Du} {x m u p e u' p' e' : Int} (h : MostIs l x m u p e) (h' : MostIs l x m u' p' e') : u = u' ∧ p = p' ∧ e = e' := by
  rcases h with ⟨a, b, rfl, rfl⟩ | ⟨a, b, rfl, rfl, rfl⟩ | ⟨a, b, rfl, c, rfl⟩ <;> rcases h' with ⟨a', b', rfl, rfl⟩ | ⟨a', b', rfl, rfl, rfl⟩ | ⟨a', b', rfl, c', rfl⟩ <;> first | exact ⟨rfl, rfl, b.one b'⟩ | exact ⟨rfl, rfl, rfl⟩ | contradiction | skip
  obtain rfl := c.one a b.1.1 c'
  exact ⟨rfl, rfl, rfl⟩
theorem rise_not {l : List Du} {k : Nat} (h1 : 1 ≤ k) (hk : k < l.length) (h : (l.getD k du0).a ≤ (l.getD (k - 1) du0).a) : ¬ (Rises l ∧ Ends l) := fun hh => by
  have := hh.1 k h1 hk; omega
/-- What bounds a product. -/
theorem prod_bd {o p : Int} (h0 : 0 ≤ o) (h1 : o ≤ 10000000) (h2 : 1 ≤ p) (h3 : p ≤ 100000) : 0 ≤ o * p ∧ o * p ≤ 1000000000000 := by
  have a := Int.mul_nonneg h0 (show 0 ≤ p by omega)
  have b : o * p ≤ 10000000 * 100000 := Int.le_trans (Int.mul_le_mul_of_nonneg_left h3 h0) (Int.mul_le_mul_of_nonneg_right h1 (by decide))
  exact ⟨a, by omega⟩
theorem costK_le {l : List Du} (h : Right l) (x y : Int) (hx : 0 ≤ x) (hxy : x ≤ y) (hy : y ≤ 10000000) (k : Nat) (hk : k ≤ l.length) : costK l x y k ≤ 1000000000000 := by
  have h1 := costK_mono h x y k l.length hk (Nat.le_refl _)
  have h2 := (cost_bd h x y hx hxy hy).2
  unfold cost at h2
  omega
theorem ov_le (lo hi x y : Int) (h0 : 0 ≤ lo) (h1 : hi ≤ 10000000) : ov lo hi x y ≤ 10000000 := by unfold ov; omega
theorem billK_yes (l : List Du) (x y : Int) (k : Nat) (h : 0 < ov (low l k) (l.getD k du0).a x y) : billK l x y (k + 1) = billK l x y k ++ [⟨ov (low l k) (l.getD k du0).a x y, (l.getD k du0).b, ov (low l k) (l.getD k du0).a x y * (l.getD k du0).b⟩] := by
  unfold billK; rw [if_pos h]
  cases k <;> rfl
theorem billK_no (l : List Du) (x y : Int) (k : Nat) (h : ¬ 0 < ov (low l k) (l.getD k du0).a x y) : billK l x y (k + 1) = billK l x y k := by
  conv => lhs; unfold billK
  rw [if_neg h, List.append_nil]
theorem sums_pos (l : List Tr) (h : ∀ t ∈ l, LineOk t) : 0 ≤ sumA l ∧ 0 ≤ sumC l := by
  induction l with
  | nil => exact ⟨Int.le_refl _, Int.le_refl _⟩
  | cons t l ih =>
    have h1 := ih fun x hx => h x (List.mem_cons_of_mem _ hx)
    obtain ⟨a1, a2, a3, a4, a5⟩ := h t List.mem_cons_self
    have h2 := Int.mul_nonneg (show 0 ≤ t.a by omega) (show 0 ≤ t.b by omega)
    exact ⟨by show 0 ≤ t.a + sumA l; omega, by show 0 ≤ t.c + sumC l; omega⟩
theorem sums_take (l : List Tr) (h : ∀ t ∈ l, LineOk t) (k : Nat) : (0 ≤ sumA (l.take k) ∧ sumA (l.take k) ≤ sumA l) ∧ 0 ≤ sumC (l.take k) ∧ sumC (l.take k) ≤ sumC l := by
  have h1 := sums_pos (l.take k) fun x hx => h x (List.mem_of_mem_take hx)
  have h2 := sums_pos (l.drop k) fun x hx => h x (List.mem_of_mem_drop hx)
  have e1 := sumA_app (l.take k) (l.drop k)
  have e2 := sumC_app (l.take k) (l.drop k)
  rw [List.take_append_drop] at e1 e2
  exact ⟨⟨h1.1, by omega⟩, h1.2, by omega⟩
theorem sums_next (l : List Tr) (k : Nat) (hk : k < l.length) : sumA (l.take (k + 1)) = sumA (l.take k) + (l.getD k tr0).a ∧ sumC (l.take (k + 1)) = sumC (l.take k) + (l.getD k tr0).c := by
  rw [List.take_succ_eq_append_getElem hk, sumA_app, sumC_app]
  simp [List.getD, List.getElem?_eq_getElem hk, sumA, sumC]
theorem line_at {l : List Tr} (h : ∀ t ∈ l, LineOk t) (k : Nat) (hk : k < l.length) : LineOk (l.getD k tr0) := by
  have e : l.getD k tr0 = l[k] := by simp [List.getD, List.getElem?_eq_getElem hk]
  rw [e]; exact h _ (List.getElem_mem hk)

end Go.Proofs.YtlicdeppfhmfjaaGreatDoor.tar

/- Rows of pairs of numbers: that came in, and that a call owns. -/
namespace Go.Proofs.YtlicdeppfhmfjaaGreatDoor.tar
open Go.RowKit
set_option maxRecDepth 100000

/-- The slice a, len reads as the pairs ls. -/
def RowD (w : World) (a : Option Addr) (len : Nat) (ls : List Du) : Prop :=
  ls.length = len ∧ (len = 0 ∨ ∃ b off, a = some ⟨b, off, none⟩ ∧ ∀ i, i < len → w.cell? ⟨b, off + i * 2, none⟩ = some (.int .i64 (ls.getD i du0).a) ∧ w.cell? ⟨b, off + i * 2 + 1, none⟩ = some (.int .i64 (ls.getD i du0).b))
theorem RowD.below {w w' : World} {a : Option Addr} {n : Nat} {zs : List Du} (h : RowD w a n zs) (hb : Below w.heap.size w w') : RowD w' a n zs := by
  refine ⟨h.1, ?_⟩
  rcases h.2 with h0 | ⟨b, off, rfl, hc⟩
  · exact .inl h0
  · refine .inr ⟨b, off, rfl, fun i hi => ?_⟩
    have h1 := hc i hi
    rw [hb.cell (p := ⟨b, off + i * 2, none⟩) (World.block_lt_of_cell? w _ h1.1), hb.cell (p := ⟨b, off + i * 2 + 1, none⟩) (World.block_lt_of_cell? w _ h1.2)]
    exact h1
theorem RowD.nil (w : World) (a : Option Addr) : RowD w a 0 [] := ⟨rfl, .inl rfl⟩
theorem RowD.at {w : World} {a : Option Addr} {n : Nat} {zs : List Du} (h : RowD w a n zs) (h0 : 0 < n) : ∃ b off, a = some ⟨b, off, none⟩ ∧ b < w.heap.size ∧ ∀ i, i < n → w.cell? ⟨b, off + i * 2, none⟩ = some (.int .i64 (zs.getD i du0).a) ∧ w.cell? ⟨b, off + i * 2 + 1, none⟩ = some (.int .i64 (zs.getD i du0).b) := by
  rcases h.2 with h1 | ⟨b, off, rfl, hc⟩
  · omega
  · exact ⟨b, off, rfl, World.block_lt_of_cell? w _ (hc 0 h0).1, hc⟩
/-- What the frame hands to the walk of pairs that came in. -/
theorem rowD_of {w : World} {a : Addr} {m len : Nat} (hl : len ≤ m)
    (h : ∀ j, j < m → ∃ z0 z1, w.cell? (a.add (j * 2)) = some (.int .i64 z0) ∧ w.cell? (a.add (j * 2 + 1)) = some (.int .i64 z1) ∧ (Lit.int .i64 z0).wf = true ∧ (Lit.int .i64 z1).wf = true) :
    ∃ zs : List Du, RowD w (some a) len zs ∧ ∀ x ∈ zs, (Lit.int .i64 x.a).wf = true ∧ (Lit.int .i64 x.b).wf = true := by
  have h' : ∀ j, ∃ e : Du, j < m → w.cell? (a.add (j * 2)) = some (.int .i64 e.a) ∧ w.cell? (a.add (j * 2 + 1)) = some (.int .i64 e.b) ∧ (Lit.int .i64 e.a).wf = true ∧ (Lit.int .i64 e.b).wf = true := fun j => by
    by_cases hj : j < m
    · obtain ⟨z0, z1, hz⟩ := h j hj
      exact ⟨⟨z0, z1⟩, fun _ => hz⟩
    · exact ⟨du0, fun hh => absurd hh hj⟩
  obtain ⟨f, hf⟩ : ∃ f : Nat → Du, ∀ j, j < m → w.cell? (a.add (j * 2)) = some (.int .i64 (f j).a) ∧ w.cell? (a.add (j * 2 + 1)) = some (.int .i64 (f j).b) ∧ (Lit.int .i64 (f j).a).wf = true ∧ (Lit.int .i64 (f j).b).wf = true := ⟨fun j => Classical.choose (h' j), fun j hj => Classical.choose_spec (h' j) hj⟩
  clear h' h
  refine ⟨(List.range len).map f, ⟨by simp, ?_⟩, fun x hx => ?_⟩
  · by_cases h0 : len = 0
    · exact .inl h0
    · obtain ⟨b, off, spot⟩ := a
      have hs : spot = none := by simpa [Addr.add] using World.cell?_spot (hf 0 (by omega)).1
      subst hs
      refine .inr ⟨b, off, rfl, fun i hi => ?_⟩
      have h1 := hf i (by omega)
      rw [Addr.add_lit, Addr.add_lit, ← Nat.add_assoc] at h1
      have e : ((List.range len).map f).getD i du0 = f i := by simp [List.getD, hi]
      rw [e]
      exact ⟨h1.1, h1.2.1⟩
  · obtain ⟨j, hj, rfl⟩ := List.mem_map.1 hx
    exact (hf j (by have := List.mem_range.1 hj; omega)).2.2
def cellsD : List Du → List Value
  | [] => []
  | e :: l => .int .i64 e.a :: .int .i64 e.b :: cellsD l
theorem cellsD_len (l : List Du) : (cellsD l).length = l.length * 2 := by
  induction l with
  | nil => rfl
  | cons e l ih => simp [cellsD, ih]; omega
theorem cellsD_app (l m : List Du) : cellsD (l ++ m) = cellsD l ++ cellsD m := by
  induction l with
  | nil => rfl
  | cons e l ih => simp [cellsD, ih]
theorem oneD (l : List Du) : ∀ u ∈ cellsD l, u.oneCell' = true := by
  induction l with
  | nil => intro u hu; cases hu
  | cons e l ih =>
    intro u hu
    simp only [cellsD, List.mem_cons] at hu
    rcases hu with rfl | rfl | hu
    · rfl
    · rfl
    · exact ih u hu
theorem cellsD_at (l : List Du) (k : Nat) (hk : k < l.length) : (cellsD l)[k * 2]? = some (.int .i64 (l.getD k du0).a) ∧ (cellsD l)[k * 2 + 1]? = some (.int .i64 (l.getD k du0).b) := by
  induction l generalizing k with
  | nil => simp at hk
  | cons x l ih =>
    cases k with
    | zero => exact ⟨rfl, rfl⟩
    | succ k =>
      rw [show (k + 1) * 2 = k * 2 + 1 + 1 by omega]
      have := ih k (by simpa using hk)
      simpa [cellsD] using this
theorem cellsD_get {w : World} {b off len : Nat} {zs : List Du} (hz : zs.length = len) (hc : ∀ i, i < len → w.cell? ⟨b, off + i * 2, none⟩ = some (.int .i64 (zs.getD i du0).a) ∧ w.cell? ⟨b, off + i * 2 + 1, none⟩ = some (.int .i64 (zs.getD i du0).b)) (j : Nat) (u : Value) (hu : (cellsD zs)[j]? = some u) : w.cell? ⟨b, off + j, none⟩ = some u := by
  have hj : j < (cellsD zs).length := by
    by_cases h : j < (cellsD zs).length
    · exact h
    · rw [List.getElem?_eq_none (by omega)] at hu; cases hu
  rw [cellsD_len] at hj
  have h1 := cellsD_at zs (j / 2) (by omega)
  have h2 := hc (j / 2) (by omega)
  rcases Nat.mod_two_eq_zero_or_one j with e | e
  · have e2 : j / 2 * 2 = j := by omega
    rw [e2] at h1 h2
    rw [h1.1] at hu
    rw [h2.1]; exact hu
  · have e2 : j / 2 * 2 + 1 = j := by omega
    rw [Nat.add_assoc, e2] at h2
    rw [e2] at h1
    rw [h1.2] at hu
    rw [h2.2]; exact hu
/-- Pairs (of the kind T) that nobody else holds. -/
def Ld (T : TypeId) (w : World) (base : Nat) (v : Value) (l : List Du) : Prop := w.ownsRow base T 2 v l.length (cellsD l)
theorem Ld.zero (T : TypeId) (w : World) (base : Nat) : Ld T w base (.slice none 0 0) [] := World.ownsRow_nil _ _ _ _
theorem Ld.alloc {T : TypeId} {w : World} {base : Nat} {v : Value} {l : List Du} (h : Ld T w base v l) (o : Obj) : Ld T (w.alloc o) base v l := World.ownsRow.alloc h o
theorem Ld.next {T : TypeId} {w w' : World} {base : Nat} {v : Value} {l : List Du} (h : Ld T w base v l) (hb : Below w.heap.size w w') : Ld T w' base v l := by
  refine ⟨h.1, ?_⟩
  rcases h.2 with hn | ⟨g, cap, cur, hv, hg, hc, rest⟩
  · exact .inl hn
  · exact .inr ⟨g, cap, cur, hv, hg, Blk.next hc hb, rest⟩
theorem Ld.low {T : TypeId} {w : World} {base base' : Nat} {v : Value} {l : List Du} (h : Ld T w base v l) (hb : base' ≤ base) : Ld T w base' v l := by
  refine ⟨h.1, ?_⟩
  rcases h.2 with hn | ⟨g, cap, cur, hv, hg, rest⟩
  · exact .inl hn
  · exact .inr ⟨g, cap, cur, hv, by omega, rest⟩
theorem Ld.row {T : TypeId} {w : World} {base : Nat} {v : Value} {l : List Du} (h : Ld T w base v l) : ∃ a cap, v = .slice a l.length cap ∧ RowD w a l.length l ∧ (a = none → cap = 0) ∧ l.length ≤ cap ∧ (∀ x, a = some x → x.off = 0 ∧ x.spot = none) := by
  rcases h.2 with ⟨hv, hn⟩ | ⟨g, cap, cur, hv, _, _, h1, _⟩
  · exact ⟨none, 0, by rw [hn]; exact hv, ⟨rfl, .inl hn⟩, fun _ => rfl, by omega, fun x h => by cases h⟩
  · subst hv
    refine ⟨_, cap, rfl, ⟨rfl, .inr ⟨g, 0, rfl, fun i hi => ?_⟩⟩, (fun h => by cases h), h1, fun x h => by cases h; exact ⟨rfl, rfl⟩⟩
    have e1 := World.ownsRow.cellAt h (i * 2) (by omega)
    have e2 := World.ownsRow.cellAt h (i * 2 + 1) (by omega)
    rw [Nat.zero_add, e1, e2]
    exact cellsD_at l i hi
theorem own_far {w : World} {base n k : Nat} {t : TypeId} {v : Value} {l : List Value} (h : w.ownsRow base t n v k l) {G : Nat} (hG : G < base) : some G ≠ v.ownBlock := by
  intro e
  have := (World.ownsRow.lt h G e.symm).1
  omega
theorem own_bel {w0 w w' : World} {base B n k : Nat} {t : TypeId} {v : Value} {l : List Value} (h : w.ownsRow base t n v k l) (hg : w.grownBy w' v.ownBlock) (hb : Below B w0 w) (hB : B ≤ base) (hw : B ≤ w.heap.size) : Below B w0 w' := by
  refine ⟨hg.os.trans hb.os, hg.tape.trans hb.tape, hg.output.trans hb.output, Nat.le_trans hb.size hg.size, fun k hk => ?_⟩
  rw [← hb.block k hk]
  exact hg.block k (by omega) (own_far h (by omega))
theorem bel_drewN {B : Nat} {w w' : World} (h : Below B w w') (n : Nat) : Below B w (w'.drewN n) := ⟨h.os, h.tape, h.output, h.size, h.block⟩
/-- What is to be known of a kind T of pairs, whose slices are S. -/
structure PairT (P : Program) (T S : TypeId) : Prop where
  info : (P.info? T).map (fun i => (i.zero, i.size, i.bytes)) = some (some (.agg #[.int .i64 0, .int .i64 0]), 2, 16)
  under : P.underlying S = some (.slice T)
/-- One pair is put behind the others. -/
theorem wp_pair {P : Program} {T S : TypeId} (hP : PairT P T S) {w : World} {ops : Array Oper} {rest : List Oper} {o : Oper} {a : Act} {Q : Exit → Act → World → Prop} (hgd : o.guard = none) (s x : Operand)
    (ho : o.op = .call { callee := .builtin .append, args := #[s, x], argTypes := #[S, S] })
    (base G : Nat) (v : Value) (l : List Du) (r : Du) (hs : a.eval s = v) (hx : a.eval x = .slice (some ⟨G, 0, none⟩) 1 1) (hv : Ld T w base v l) (hu : w.cell? ⟨G, 0, none⟩ = some (.int .i64 r.a) ∧ w.cell? ⟨G, 1, none⟩ = some (.int .i64 r.b)) (hn : l.length ≤ 1000000) (hbase : base ≤ w.heap.size)
    (h : ∀ v' w', Ld T w' base v' (l ++ [r]) → w.grownBy w' v.ownBlock → wpList P ops Q rest (a.put o.dst v') w') : wpList P ops Q (o :: rest) a w := by
  obtain ⟨i0, hi, hz0, hz1, hz2⟩ := info_parts hP.info
  refine wpList_append_own w hgd s x S ho base T i0 (.agg #[.int .i64 0, .int .i64 0]) 2 16 hP.under hi hz0 hz1 hz2 rfl (by decide) v l.length (cellsD l) hs hv ⟨G, 0, none⟩ 1 1 (cellsD [r]) hx rfl ?_ (oneD [r]) (by unfold maxLen; omega) (by omega) hbase ?_
  · intro j u hj
    match j, hj with
    | 0, hj => simp [cellsD] at hj; subst hj; simpa [Addr.add] using hu.1
    | 1, hj => simp [cellsD] at hj; subst hj; simpa [Addr.add] using hu.2
    | j + 2, hj => simp [cellsD] at hj
  intro v' w' h1 h2 _
  refine h v' w' ?_ h2
  unfold Ld
  rw [List.length_append, cellsD_app]
  exact h1
/-- The same, in a region that draws its order. -/
theorem step_pair {P : Program} {T S : TypeId} (hP : PairT P T S) {w : World} {ops : Array Oper} {o : Oper} {a : Act} {K : Act → World → Prop} {Q : Exit → Act → World → Prop} {E : Prop} (hgd : o.guard = none) (s x : Operand)
    (ho : o.op = .call { callee := .builtin .append, args := #[s, x], argTypes := #[S, S] })
    (base G : Nat) (v : Value) (l : List Du) (r : Du) (hs : a.eval s = v) (hx : a.eval x = .slice (some ⟨G, 0, none⟩) 1 1) (hv : Ld T w base v l) (hu : w.cell? ⟨G, 0, none⟩ = some (.int .i64 r.a) ∧ w.cell? ⟨G, 1, none⟩ = some (.int .i64 r.b)) (hn : l.length ≤ 1000000) (hbase : base ≤ w.heap.size)
    (h : ∀ v' w', Ld T w' base v' (l ++ [r]) → w.grownBy w' v.ownBlock → K (a.put o.dst v') w') : if Region.wanted o (yielded ops a.tmps) = true then Oper.wp P o a w K Q else E := by
  have hw : Region.wanted o (yielded ops a.tmps) = true := by simp [Region.wanted, hgd]
  rw [if_pos hw]
  obtain ⟨i0, hi, hz0, hz1, hz2⟩ := info_parts hP.info
  obtain ⟨v', w', hr, h2, h3, _⟩ := run_append_own (P := P) w base S o.type T i0 (.agg #[.int .i64 0, .int .i64 0]) 2 16 hP.under hi hz0 hz1 hz2 rfl (by decide) v l.length (cellsD l) hv ⟨G, 0, none⟩ 1 1 (cellsD [r]) rfl (by
    intro j u hj
    match j, hj with
    | 0, hj => simp [cellsD] at hj; subst hj; simpa [Addr.add] using hu.1
    | 1, hj => simp [cellsD] at hj; subst hj; simpa [Addr.add] using hu.2
    | j + 2, hj => simp [cellsD] at hj) (oneD [r]) (by unfold maxLen; omega) (by omega) hbase
  unfold Oper.wp execOp
  simp only [ho, resolve, invoke, builtin, Sem.run_bind, Sem.run_pure, Result.andThen_ok, List.map_toArray, List.map_cons, List.map_nil, hs, hx, hr]
  refine h v' w' ?_ h3
  unfold Ld
  rw [List.length_append, cellsD_app]
  exact h2
/-- A copy of pairs: append(nil, l...). -/
theorem wp_pairs {P : Program} {T S : TypeId} (hP : PairT P T S) {w : World} {ops : Array Oper} {rest : List Oper} {o : Oper} {a : Act} {Q : Exit → Act → World → Prop} (hgd : o.guard = none) (s x : Operand)
    (ho : o.op = .call { callee := .builtin .append, args := #[s, x], argTypes := #[S, S] })
    (base : Nat) (A : Addr) (len cap : Nat) (zs : List Du) (hs : a.eval s = .slice none 0 0) (hx : a.eval x = .slice (some A) len cap) (hr : RowD w (some A) len zs) (hl : len * 16 ≤ 140737488351232) (hbase : base ≤ w.heap.size)
    (h : ∀ v' w', Ld T w' base v' zs → w.grownBy w' none → wpList P ops Q rest (a.put o.dst v') w') : wpList P ops Q (o :: rest) a w := by
  obtain ⟨i0, hi, hz0, hz1, hz2⟩ := info_parts hP.info
  obtain ⟨hz, hr⟩ := hr
  refine wpList_append_own w hgd s x S ho base T i0 (.agg #[.int .i64 0, .int .i64 0]) 2 16 hP.under hi hz0 hz1 hz2 rfl (by decide) _ _ _ hs (World.ownsRow_nil _ _ _ _) A len cap (cellsD zs) hx ?_ ?_ (oneD zs) (by unfold maxLen; omega) (by omega) hbase ?_
  · rw [cellsD_len, hz]
  · intro j u hu
    rcases hr with h | ⟨b, off, h, hc⟩
    · rw [List.getElem?_eq_none (by rw [cellsD_len]; omega)] at hu; cases hu
    · obtain rfl := Option.some.inj h
      rw [Addr.add_lit]
      exact cellsD_get hz hc j u hu
  · intro v' w' h1 h2 _
    refine h v' w' ?_ (by simpa [Value.ownBlock] using h2)
    show w'.ownsRow _ _ _ _ _ _
    rw [hz]; simpa using h1

end Go.Proofs.YtlicdeppfhmfjaaGreatDoor.tar

/- Rows of three numbers each: that came in, and that a call owns. -/
namespace Go.Proofs.YtlicdeppfhmfjaaGreatDoor.tar
open Go.RowKit
set_option maxRecDepth 100000

/-- The slice a, len reads as the lines ls. -/
def RowL (w : World) (a : Option Addr) (len : Nat) (ls : List Tr) : Prop :=
  ls.length = len ∧ (len = 0 ∨ ∃ b off, a = some ⟨b, off, none⟩ ∧ ∀ i, i < len → w.cell? ⟨b, off + i * 3, none⟩ = some (.int .i64 (ls.getD i tr0).a) ∧ w.cell? ⟨b, off + i * 3 + 1, none⟩ = some (.int .i64 (ls.getD i tr0).b) ∧ w.cell? ⟨b, off + i * 3 + 2, none⟩ = some (.int .i64 (ls.getD i tr0).c))
theorem RowL.below {w w' : World} {a : Option Addr} {n : Nat} {zs : List Tr} (h : RowL w a n zs) (hb : Below w.heap.size w w') : RowL w' a n zs := by
  refine ⟨h.1, ?_⟩
  rcases h.2 with h0 | ⟨b, off, rfl, hc⟩
  · exact .inl h0
  · refine .inr ⟨b, off, rfl, fun i hi => ?_⟩
    have h1 := hc i hi
    rw [hb.cell (p := ⟨b, off + i * 3, none⟩) (World.block_lt_of_cell? w _ h1.1), hb.cell (p := ⟨b, off + i * 3 + 1, none⟩) (World.block_lt_of_cell? w _ h1.2.1), hb.cell (p := ⟨b, off + i * 3 + 2, none⟩) (World.block_lt_of_cell? w _ h1.2.2)]
    exact h1
theorem RowL.nil (w : World) (a : Option Addr) : RowL w a 0 [] := ⟨rfl, .inl rfl⟩
theorem RowL.at {w : World} {a : Option Addr} {n : Nat} {zs : List Tr} (h : RowL w a n zs) (h0 : 0 < n) : ∃ b off, a = some ⟨b, off, none⟩ ∧ b < w.heap.size ∧ ∀ i, i < n → w.cell? ⟨b, off + i * 3, none⟩ = some (.int .i64 (zs.getD i tr0).a) ∧ w.cell? ⟨b, off + i * 3 + 1, none⟩ = some (.int .i64 (zs.getD i tr0).b) ∧ w.cell? ⟨b, off + i * 3 + 2, none⟩ = some (.int .i64 (zs.getD i tr0).c) := by
  rcases h.2 with h1 | ⟨b, off, rfl, hc⟩
  · omega
  · exact ⟨b, off, rfl, World.block_lt_of_cell? w _ (hc 0 h0).1, hc⟩
def cellsL : List Tr → List Value
  | [] => []
  | e :: l => .int .i64 e.a :: .int .i64 e.b :: .int .i64 e.c :: cellsL l
theorem cellsL_len (l : List Tr) : (cellsL l).length = l.length * 3 := by
  induction l with
  | nil => rfl
  | cons e l ih => simp [cellsL, ih]; omega
theorem cellsL_app (l m : List Tr) : cellsL (l ++ m) = cellsL l ++ cellsL m := by
  induction l with
  | nil => rfl
  | cons e l ih => simp [cellsL, ih]
theorem oneL (l : List Tr) : ∀ u ∈ cellsL l, u.oneCell' = true := by
  induction l with
  | nil => intro u hu; cases hu
  | cons e l ih =>
    intro u hu
    simp only [cellsL, List.mem_cons] at hu
    rcases hu with rfl | rfl | rfl | hu
    · rfl
    · rfl
    · rfl
    · exact ih u hu
theorem cellsL_at (l : List Tr) (k : Nat) (hk : k < l.length) : (cellsL l)[k * 3]? = some (.int .i64 (l.getD k tr0).a) ∧ (cellsL l)[k * 3 + 1]? = some (.int .i64 (l.getD k tr0).b) ∧ (cellsL l)[k * 3 + 2]? = some (.int .i64 (l.getD k tr0).c) := by
  induction l generalizing k with
  | nil => simp at hk
  | cons x l ih =>
    cases k with
    | zero => exact ⟨rfl, rfl, rfl⟩
    | succ k =>
      rw [show (k + 1) * 3 = k * 3 + 1 + 1 + 1 by omega]
      have := ih k (by simpa using hk)
      simpa [cellsL] using this
/-- Lines (of the kind T) that nobody else holds. -/
def Lt (T : TypeId) (w : World) (base : Nat) (v : Value) (l : List Tr) : Prop := w.ownsRow base T 3 v l.length (cellsL l)
theorem Lt.zero (T : TypeId) (w : World) (base : Nat) : Lt T w base (.slice none 0 0) [] := World.ownsRow_nil _ _ _ _
theorem Lt.alloc {T : TypeId} {w : World} {base : Nat} {v : Value} {l : List Tr} (h : Lt T w base v l) (o : Obj) : Lt T (w.alloc o) base v l := World.ownsRow.alloc h o
theorem Lt.next {T : TypeId} {w w' : World} {base : Nat} {v : Value} {l : List Tr} (h : Lt T w base v l) (hb : Below w.heap.size w w') : Lt T w' base v l := by
  refine ⟨h.1, ?_⟩
  rcases h.2 with hn | ⟨g, cap, cur, hv, hg, hc, rest⟩
  · exact .inl hn
  · exact .inr ⟨g, cap, cur, hv, hg, Blk.next hc hb, rest⟩
theorem Lt.low {T : TypeId} {w : World} {base base' : Nat} {v : Value} {l : List Tr} (h : Lt T w base v l) (hb : base' ≤ base) : Lt T w base' v l := by
  refine ⟨h.1, ?_⟩
  rcases h.2 with hn | ⟨g, cap, cur, hv, hg, rest⟩
  · exact .inl hn
  · exact .inr ⟨g, cap, cur, hv, by omega, rest⟩
theorem Lt.row {T : TypeId} {w : World} {base : Nat} {v : Value} {l : List Tr} (h : Lt T w base v l) : ∃ a cap, v = .slice a l.length cap ∧ RowL w a l.length l ∧ (a = none → cap = 0) ∧ l.length ≤ cap ∧ (∀ x, a = some x → x.off = 0 ∧ x.spot = none) := by
  rcases h.2 with ⟨hv, hn⟩ | ⟨g, cap, cur, hv, _, _, h1, _⟩
  · exact ⟨none, 0, by rw [hn]; exact hv, ⟨rfl, .inl hn⟩, fun _ => rfl, by omega, fun x h => by cases h⟩
  · subst hv
    refine ⟨_, cap, rfl, ⟨rfl, .inr ⟨g, 0, rfl, fun i hi => ?_⟩⟩, (fun h => by cases h), h1, fun x h => by cases h; exact ⟨rfl, rfl⟩⟩
    have e1 := World.ownsRow.cellAt h (i * 3) (by omega)
    have e2 := World.ownsRow.cellAt h (i * 3 + 1) (by omega)
    have e3 := World.ownsRow.cellAt h (i * 3 + 2) (by omega)
    rw [Nat.zero_add, e1, e2, e3]
    exact cellsL_at l i hi
/-- What is to be known of a kind T of lines, whose slices are S. -/
structure LineT (P : Program) (T S : TypeId) : Prop where
  info : (P.info? T).map (fun i => (i.zero, i.size, i.bytes)) = some (some (.agg #[.int .i64 0, .int .i64 0, .int .i64 0]), 3, 24)
  under : P.underlying S = some (.slice T)
/-- One line is put behind the others. -/
theorem wp_line {P : Program} {T S : TypeId} (hP : LineT P T S) {w : World} {ops : Array Oper} {rest : List Oper} {o : Oper} {a : Act} {Q : Exit → Act → World → Prop} (hgd : o.guard = none) (s x : Operand)
    (ho : o.op = .call { callee := .builtin .append, args := #[s, x], argTypes := #[S, S] })
    (base G : Nat) (v : Value) (l : List Tr) (r : Tr) (hs : a.eval s = v) (hx : a.eval x = .slice (some ⟨G, 0, none⟩) 1 1) (hv : Lt T w base v l) (hu : w.cell? ⟨G, 0, none⟩ = some (.int .i64 r.a) ∧ w.cell? ⟨G, 1, none⟩ = some (.int .i64 r.b) ∧ w.cell? ⟨G, 2, none⟩ = some (.int .i64 r.c)) (hn : l.length ≤ 1000000) (hbase : base ≤ w.heap.size)
    (h : ∀ v' w', Lt T w' base v' (l ++ [r]) → w.grownBy w' v.ownBlock → wpList P ops Q rest (a.put o.dst v') w') : wpList P ops Q (o :: rest) a w := by
  obtain ⟨i0, hi, hz0, hz1, hz2⟩ := info_parts hP.info
  refine wpList_append_own w hgd s x S ho base T i0 (.agg #[.int .i64 0, .int .i64 0, .int .i64 0]) 3 24 hP.under hi hz0 hz1 hz2 rfl (by decide) v l.length (cellsL l) hs hv ⟨G, 0, none⟩ 1 1 (cellsL [r]) hx rfl ?_ (oneL [r]) (by unfold maxLen; omega) (by omega) hbase ?_
  · intro j u hj
    match j, hj with
    | 0, hj => simp [cellsL] at hj; subst hj; simpa [Addr.add] using hu.1
    | 1, hj => simp [cellsL] at hj; subst hj; simpa [Addr.add] using hu.2.1
    | 2, hj => simp [cellsL] at hj; subst hj; simpa [Addr.add] using hu.2.2
    | j + 3, hj => simp [cellsL] at hj
  intro v' w' h1 h2 _
  refine h v' w' ?_ h2
  unfold Lt
  rw [List.length_append, cellsL_app]
  exact h1
/-- The same, in a region that draws its order. -/
theorem step_line {P : Program} {T S : TypeId} (hP : LineT P T S) {w : World} {ops : Array Oper} {o : Oper} {a : Act} {K : Act → World → Prop} {Q : Exit → Act → World → Prop} {E : Prop} (hgd : o.guard = none) (s x : Operand)
    (ho : o.op = .call { callee := .builtin .append, args := #[s, x], argTypes := #[S, S] })
    (base G : Nat) (v : Value) (l : List Tr) (r : Tr) (hs : a.eval s = v) (hx : a.eval x = .slice (some ⟨G, 0, none⟩) 1 1) (hv : Lt T w base v l) (hu : w.cell? ⟨G, 0, none⟩ = some (.int .i64 r.a) ∧ w.cell? ⟨G, 1, none⟩ = some (.int .i64 r.b) ∧ w.cell? ⟨G, 2, none⟩ = some (.int .i64 r.c)) (hn : l.length ≤ 1000000) (hbase : base ≤ w.heap.size)
    (h : ∀ v' w', Lt T w' base v' (l ++ [r]) → w.grownBy w' v.ownBlock → K (a.put o.dst v') w') : if Region.wanted o (yielded ops a.tmps) = true then Oper.wp P o a w K Q else E := by
  have hw : Region.wanted o (yielded ops a.tmps) = true := by simp [Region.wanted, hgd]
  rw [if_pos hw]
  obtain ⟨i0, hi, hz0, hz1, hz2⟩ := info_parts hP.info
  obtain ⟨v', w', hr, h2, h3, _⟩ := run_append_own (P := P) w base S o.type T i0 (.agg #[.int .i64 0, .int .i64 0, .int .i64 0]) 3 24 hP.under hi hz0 hz1 hz2 rfl (by decide) v l.length (cellsL l) hv ⟨G, 0, none⟩ 1 1 (cellsL [r]) rfl (by
    intro j u hj
    match j, hj with
    | 0, hj => simp [cellsL] at hj; subst hj; simpa [Addr.add] using hu.1
    | 1, hj => simp [cellsL] at hj; subst hj; simpa [Addr.add] using hu.2.1
    | 2, hj => simp [cellsL] at hj; subst hj; simpa [Addr.add] using hu.2.2
    | j + 3, hj => simp [cellsL] at hj) (oneL [r]) (by unfold maxLen; omega) (by omega) hbase
  unfold Oper.wp execOp
  simp only [ho, resolve, invoke, builtin, Sem.run_bind, Sem.run_pure, Result.andThen_ok, List.map_toArray, List.map_cons, List.map_nil, hs, hx, hr]
  refine h v' w' ?_ h3
  unfold Lt
  rw [List.length_append, cellsL_app]
  exact h2

end Go.Proofs.YtlicdeppfhmfjaaGreatDoor.tar

/- What the four of the tariffs give back. -/
namespace Go.Proofs.YtlicdeppfhmfjaaGreatDoor.tar
open Go.RowKit

def ErrPost (w : World) (R : Int → Prop) (e : Ending) (w' : World) : Prop := ∃ f, e = .returned (.int .i64 f) ∧ R f ∧ Below w.heap.size w w'
def ValPost (w : World) (z : Int) (e : Ending) (w' : World) : Prop := e = .returned (.int .i64 z) ∧ Below w.heap.size w w'
def TwoPost (w : World) (R : Int → Int → Prop) (e : Ending) (w' : World) : Prop := ∃ p f, e = .returned (.tuple #[.int .i64 p, .int .i64 f]) ∧ R p f ∧ Below w.heap.size w w'
def BillPost (T : TypeId) (w : World) (ls : List Du) (x n : Int) (e : Ending) (w' : World) : Prop := ∃ v z f, e = .returned (.tuple #[v, .int .i64 f]) ∧ BillIs ls x n z f ∧ Lt T w' w.heap.size v z ∧ Below w.heap.size w w'
def ThreePost (w : World) (R : Int → Int → Int → Prop) (e : Ending) (w' : World) : Prop := ∃ u p f, e = .returned (.tuple #[.int .i64 u, .int .i64 p, .int .i64 f]) ∧ R u p f ∧ Below w.heap.size w w'
/-- A slice of pairs that came in. -/
structure Came (w : World) (a : Option Addr) (len cap : Nat) (ls : List Du) : Prop where
  row : RowD w a len ls
  nil : a = none → cap = 0
  room : len ≤ cap
  bytes : len * 16 ≤ 140737488351232
  wf : ∀ x ∈ ls, (Lit.int .i64 x.a).wf = true ∧ (Lit.int .i64 x.b).wf = true
theorem Came.below {w w' : World} {a : Option Addr} {len cap : Nat} {ls : List Du} (h : Came w a len cap ls) (hb : Below w.heap.size w w') : Came w' a len cap ls := ⟨h.row.below hb, h.nil, h.room, h.bytes, h.wf⟩
theorem Came.most {w : World} {a : Option Addr} {len cap : Nat} {ls : List Du} (h : Came w a len cap ls) : len ≤ maxLen := by have := h.bytes; unfold maxLen; omega
theorem Ld.came {T : TypeId} {w : World} {base : Nat} {v : Value} {l : List Du} (h : Ld T w base v l) (hl : l.length * 16 ≤ 140737488351232) (hw : ∀ x ∈ l, (Lit.int .i64 x.a).wf = true ∧ (Lit.int .i64 x.b).wf = true) : ∃ a cap, v = .slice a l.length cap ∧ Came w a l.length cap l := by
  obtain ⟨a, cap, hv, hr, hn, hc, _⟩ := h.row
  exact ⟨a, cap, hv, hr, hn, hc, hl, hw⟩
/-- Pairs were given back that nobody else holds. -/
def GaveD (T : TypeId) (w : World) (zs : List Du) (e : Ending) (w' : World) : Prop := ∃ v, e = .returned v ∧ Ld T w' w.heap.size v zs ∧ Below w.heap.size w w'
theorem GaveD.mk {T : TypeId} {w w' : World} {zs : List Du} {v : Value} (h1 : Ld T w' w.heap.size v zs) (h2 : Below w.heap.size w w') : GaveD T w zs (.returned v) w' := ⟨v, rfl, h1, h2⟩

end Go.Proofs.YtlicdeppfhmfjaaGreatDoor.tar

/- Tariffs that are right, and what they answer. -/
namespace Go.Proofs.YtlicdeppfhmfjaaGreatDoor.tar
open Go.RowKit
set_option maxRecDepth 100000
set_option linter.unusedVariables false
set_option linter.unusedSimpArgs false

theorem wf_mid {z : Int} (h0 : 0 ≤ z) (h1 : z ≤ 4000000000000) : (Lit.int .i64 z).wf = true := by
  have h1 : IntKind.i64.min ≤ z := by have e : IntKind.i64.min = -9223372036854775808 := by decide
                                      omega
  have h2 : z ≤ IntKind.i64.max := by have e : IntKind.i64.max = 9223372036854775807 := by decide
                                      omega
  show (decide (IntKind.i64.min ≤ z) && decide (z ≤ IntKind.i64.max)) = true
  rw [Bool.and_eq_true]
  exact ⟨decide_eq_true h1, decide_eq_true h2⟩
theorem Right.wf {l : List Du} (h : Right l) : ∀ x ∈ l, (Lit.int .i64 x.a).wf = true ∧ (Lit.int .i64 x.b).wf = true := by
  intro x hx
  obtain ⟨i, hi, rfl⟩ := List.getElem_of_mem hx
  have e : l.getD i du0 = l[i] := by simp [List.getD, List.getElem?_eq_getElem hi]
  have h1 := h.upto i hi
  have h2 := h.price i hi
  rw [e] at h1 h2
  exact ⟨wf_mid (by omega) (by omega), wf_mid (by omega) (by omega)⟩
theorem Ld.right {T : TypeId} {w : World} {base : Nat} {v : Value} {l : List Du} (h : Ld T w base v l) (hR : Right l) : ∃ a cap, v = .slice a l.length cap ∧ Came w a l.length cap l := h.came (by have := hR.1.2; omega) hR.wf
theorem PriceIs.got {l : List Du} {x n p e : Int} (h : PriceIs l x n p e) (hR : Right l) (hM : Mays x n) : p = cost l x (x + n) ∧ e = 0 := by
  have h0 : e = 0 := h.1.ok.2 ⟨hR, hM⟩
  rcases h.2 with ⟨_, hp⟩ | ⟨hn, _⟩
  · exact ⟨hp, h0⟩
  · exact absurd h0 hn
theorem BillIs.got {l : List Du} {x n e : Int} {z : List Tr} (h : BillIs l x n z e) (hR : Right l) (hM : Mays x n) : z = billK l x (x + n) l.length ∧ e = 0 := by
  have h0 : e = 0 := h.1.ok.2 ⟨hR, hM⟩
  rcases h.2 with ⟨_, hp⟩ | ⟨hn, _⟩
  · exact ⟨hp, h0⟩
  · exact absurd h0 hn
theorem MostIs.got {l : List Du} {x m u p e : Int} (h : MostIs l x m u p e) (hR : Right l) (hM : MayMost x m) : e = 0 ∧ MostOf l x m u ∧ p = cost l x (x + u) := by
  rcases h with ⟨a, _⟩ | ⟨_, b, _⟩ | ⟨_, _, c, d⟩
  · exact absurd hR a
  · exact absurd hM b
  · exact ⟨c, d⟩

end Go.Proofs.YtlicdeppfhmfjaaGreatDoor.tar

/- Right receipts, and such as are turned. -/
namespace Go.Proofs.YtlicdeppfhmfjaaGreatDoor.rcp
open Go.RowKit
set_option maxRecDepth 100000
set_option linter.unusedVariables false
set_option linter.unusedSimpArgs false

theorem right_w {r : Rc} (h : Right r) : wf8 r := by
  obtain ⟨⟨m0, m1⟩, ⟨⟨⟨t0, t1⟩, ⟨d0, d1⟩, ⟨f0, f1⟩, p0, p1⟩, ⟨c0, c1⟩, ⟨i0, i1⟩, u0, u1⟩, _⟩ := h
  exact ⟨⟨tar.wf_mid m0 (by omega), tar.wf_mid (by omega) (by omega), tar.wf_mid t0 (by omega), tar.wf_mid d0 (by omega)⟩, tar.wf_mid f0 (by omega), tar.wf_mid p0 (by omega), tar.wf_mid c0 (by omega), tar.wf_mid u0 (by omega)⟩
theorem line_len (n v : List UInt8) : (line n v).length = n.length + v.length + 2 := by unfold line; simp; omega
theorem show_len {n : Int} (h0 : 0 ≤ n) (h1 : n ≤ 100000000) : (cents.showT n).length ≤ 22 := by
  unfold cents.showT
  rw [if_neg (by omega)]
  unfold cents.showP
  have a := (dec_len7 (n / 100).toNat (by omega)).2
  have b := (dec_len7 (n / 10 % 10).toNat (by omega)).2
  have c := (dec_len7 (n % 10).toNat (by omega)).2
  simp only [List.length_append, List.length_cons, List.length_nil]
  omega
theorem paper_len {r : Rc} (h : Right r) : ¬ 400 < (paper r).length := by
  obtain ⟨⟨m0, m1⟩, ⟨⟨⟨t0, t1⟩, ⟨d0, d1⟩, ⟨f0, f1⟩, p0, p1⟩, ⟨c0, c1⟩, ⟨i0, i1⟩, u0, u1⟩, _, hp, _⟩ := h
  have a := (num_all r.me.toNat (by omega)).1
  have b := (dec_len7 r.id.toNat (by omega)).2
  have c := (dec_len7 r.un.toNat (by omega)).2
  have d := show_len t0 t1
  have e := show_len d0 d1
  have f := show_len f0 f1
  have g := show_len p0 p1
  have i := show_len c0 c1
  have j := four_len (parse_len hp).1
  unfold paper
  simp only [List.length_append, line_len, nMETER, nNUMBER, nTENDER, nDEBT, nFEE, nPRICE, nCHANGE, nUNITS, nTOKEN, List.length_cons, List.length_nil]
  omega
theorem back_one {r s : Rc} {f : Int} (h : Right r) (hr : ReadIs (paper r) s f) : s = r ∧ f = 0 := hr.one (.inr (.inr ⟨paper_len h, h, rfl, rfl⟩))
theorem show_one {r : Rc} {l : List UInt8} {f : Int} (h : Right r) (hs : ShowIs r l f) : l = paper r ∧ f = 0 := by
  have e0 : f = 0 := hs.1.ok.2 h
  subst e0
  rcases hs.2 with ⟨_, rfl⟩ | ⟨h, _⟩
  · exact ⟨rfl, rfl⟩
  · exact absurd rfl h
/-- The receipt, with other amounts. -/
def turn (r : Rc) (t d f p c : Int) : Rc := ⟨r.me, r.id, t, d, f, p, c, r.un, r.tk⟩
theorem turn_w {r : Rc} (h : Right r) {t d f p c : Int} (ht : Ten t) (hd : Ten d) (hf : Ten f) (hp : Ten p) (hc : Ten c) : wf8 (turn r t d f p c) := by
  obtain ⟨⟨m0, m1⟩, ⟨_, _, ⟨i0, i1⟩, u0, u1⟩, _⟩ := h
  have := ht.2; have := hd.2; have := hf.2; have := hp.2; have := hc.2
  exact ⟨⟨tar.wf_mid m0 (by show r.me ≤ _; omega), tar.wf_mid (by show 0 ≤ r.id; omega) (by show r.id ≤ _; omega), tar.wf_mid ht.1 (by show t ≤ _; omega), tar.wf_mid hd.1 (by show d ≤ _; omega)⟩, tar.wf_mid hf.1 (by show f ≤ _; omega), tar.wf_mid hp.1 (by show p ≤ _; omega), tar.wf_mid hc.1 (by show c ≤ _; omega), tar.wf_mid u0 (by show r.un ≤ _; omega)⟩
theorem turn_bad {r : Rc} (h : Right r) {t d f p c : Int} (ht : Ten t) (hd : Ten d) (hf : Ten f) (hp : Ten p) (hc : Ten c) (hs : t - d - f - p - c ≠ 0) {e : Int} (he : FaultIs (turn r t d f p c) e) : e = 19 :=
  he.one (.inr (.inr (.inl ⟨h.1, ⟨⟨ht, hd, hf, hp⟩, hc, h.2.1.2.2⟩, hs, rfl⟩)))
theorem turn_show {r : Rc} (h : Right r) {t d f p c : Int} (ht : Ten t) (hd : Ten d) (hf : Ten f) (hp : Ten p) (hc : Ten c) (hs : t - d - f - p - c ≠ 0) {l : List UInt8} {e : Int} (he : ShowIs (turn r t d f p c) l e) : l = [] ∧ e = 19 := by
  have e0 := turn_bad h ht hd hf hp hc hs he.1
  rcases he.2 with ⟨a, _⟩ | ⟨_, b⟩
  · exact absurd (e0.symm.trans a) (by decide)
  · exact ⟨b, e0⟩

end Go.Proofs.YtlicdeppfhmfjaaGreatDoor.rcp

/- The statement ReceiptBack. -/
namespace Go.Proofs.YtlicdeppfhmfjaaGreatDoor.rcp
open Go.RowKit
set_option maxRecDepth 100000
set_option linter.unusedVariables false
set_option linter.unusedSimpArgs false

set_option maxHeartbeats 4000000 in
theorem ReceiptBack_walk (xm x1 x2 x3 x4 xd xf xp xc : Int) (w : World) (hw : wf9 xm x1 x2 x3 x4 xd xf xp xc) (KF : ∀ (k : token.Tok) W, Below w.heap.size w W → k.ok → Calls Tryz.prog 23 #[k.v] W fun e w' => e = .returned (.tuple #[.string (token.fmtB (97 * k.num)), .int .i64 0]) ∧ Below W.heap.size W w') (KC : KrCheck w) (KS : KrShow w) (KR : KrRead w) :
    Calls Tryz.prog 5 #[.agg #[.int .i64 xm, .int .i64 x1, .int .i64 x2, .int .i64 x3, .int .i64 x4, .int .i64 xd, .int .i64 xf, .int .i64 xp, .int .i64 xc]] w fun e w' => e = .returned (.bool true) ∧ Below w.heap.size w w' := by
  have HSL : Hid (∀ W, Below w.heap.size w W → Calls Tryz.prog 10 #[.agg #[.int .i64 xm, .int .i64 x1, .int .i64 x2, .int .i64 x3, .int .i64 x4, .int .i64 xd, .int .i64 xf, .int .i64 xp, .int .i64 xc]] W fun e w' => ∃ r, e = .returned (.tuple #[Rc.v r, .bool true]) ∧ Good r ∧ Below W.heap.size W w') := fun W hW => slip_any xm x1 x2 x3 x4 xd xf xp xc W hw (fun k V hV hk => KF k V (hW.trans (hV.mono hW.size)) hk)
  have HX0 : Hid (Blk (w.alloc (.cells #[.int .i64 xm, .int .i64 x1, .int .i64 x2, .int .i64 x3, .int .i64 x4, .int .i64 xd, .int .i64 xf, .int .i64 xp, .int .i64 xc] 36)) w.heap.size #[.int .i64 xm, .int .i64 x1, .int .i64 x2, .int .i64 x3, .int .i64 x4, .int .i64 xd, .int .i64 xf, .int .i64 xp, .int .i64 xc] 36) := Blk.new w _ _
  have HB0 : Hid (Below w.heap.size w (w.alloc (.cells #[.int .i64 xm, .int .i64 x1, .int .i64 x2, .int .i64 x3, .int .i64 x4, .int .i64 xd, .int .i64 xf, .int .i64 xp, .int .i64 xc] 36))) := (Below.refl _ _).alloc (Nat.le_refl _) _
  clear KF hw
  generalize hWW : (w.alloc (.cells #[.int .i64 xm, .int .i64 x1, .int .i64 x2, .int .i64 x3, .int .i64 x4, .int .i64 xd, .int .i64 xf, .int .i64 xp, .int .i64 xc] 36)) = W0 at *
  have HWW : Hid ((w.alloc (.cells #[.int .i64 xm, .int .i64 x1, .int .i64 x2, .int .i64 x3, .int .i64 x4, .int .i64 xd, .int .i64 xf, .int .i64 xp, .int .i64 xc] 36)) = W0) := hWW
  clear hWW
  go_enter Tryz.func5, Tryz.ntmps5
  go_upto_region 1 with fail
  rw [HWW.out]
  clear HWW
  go_wp2_with (first | (refine wp_whole rfl 36 _ rfl (w.heap.size) rfl 36 #[.int .i64 xm, .int .i64 x1, .int .i64 x2, .int .i64 x3, .int .i64 x4, .int .i64 xd, .int .i64 xf, .int .i64 xp, .int .i64 xc] _ HX0.out Tryz.underlying36 rfl (by kernel_rfl) ?_) | fail)
  refine (HSL.out _ HB0.out).mono ?_
  rintro e w1 ⟨r, rfl, hg, hb1⟩
  unfold Rc.v Rc.cs
  have HBA : Hid (∀ o, Below w.heap.size w (w1.alloc o)) := fun o => (HB0.out.trans (hb1.mono HB0.out.size)).alloc (Nat.le_trans HB0.out.size hb1.size) o
  clear HX0 HSL hb1 HB0
  have HC : Hid (∀ W, Below w.heap.size w W → Calls Tryz.prog 11 #[.agg r.cs] W fun e w' => e = .returned (.int .i64 0) ∧ Below W.heap.size W w') := fun W hW => (KC W r hW (right_w hg.right)).mono (by rintro e w9 ⟨f, rfl, h, hb⟩; obtain rfl : f = 0 := h.ok.2 hg.right; exact ⟨rfl, hb⟩)
  have HSH : Hid (∀ W, Below w.heap.size w W → Calls Tryz.prog 6 #[.agg r.cs] W fun e w' => e = .returned (.tuple #[.string ⟨(paper r).toArray⟩, .int .i64 0]) ∧ Below W.heap.size W w') := fun W hW => (KS W r hW (right_w hg.right)).mono (by rintro e w9 ⟨l, f, rfl, h, hb⟩; obtain ⟨rfl, rfl⟩ := show_one hg.right h; exact ⟨rfl, hb⟩)
  have HRD : Hid (∀ W, Below w.heap.size w W → Calls Tryz.prog 8 #[.string ⟨(paper r).toArray⟩] W fun e w' => e = .returned (.tuple #[.agg r.cs, .int .i64 0]) ∧ Below W.heap.size W w') := fun W hW => (KR W ⟨(paper r).toArray⟩ hW).mono (by rintro e w9 ⟨s, f, rfl, h, hb⟩; obtain ⟨rfl, rfl⟩ := back_one hg.right h; exact ⟨rfl, hb⟩)
  unfold Rc.cs at HC HSH HRD
  generalize (⟨(paper r).toArray⟩ : ByteArray) = PP at *
  generalize (⟨r.tk.toArray⟩ : ByteArray) = S at *
  have HX1 : Hid (Blk (w1.alloc (.cells #[.int .i64 r.me, .int .i64 r.id, .int .i64 r.te, .int .i64 r.de, .int .i64 r.fe, .int .i64 r.pr, .int .i64 r.ch, .int .i64 r.un, .string S] 25)) w1.heap.size #[.int .i64 r.me, .int .i64 r.id, .int .i64 r.te, .int .i64 r.de, .int .i64 r.fe, .int .i64 r.pr, .int .i64 r.ch, .int .i64 r.un, .string S] 25) := Blk.new w1 _ _
  have HB1 : Hid (Below w.heap.size w (w1.alloc (.cells #[.int .i64 r.me, .int .i64 r.id, .int .i64 r.te, .int .i64 r.de, .int .i64 r.fe, .int .i64 r.pr, .int .i64 r.ch, .int .i64 r.un, .string S] 25))) := HBA.out _
  clear hg HBA KC KS KR
  go_upto_region 2 with fail
  generalize (w1.alloc (.cells #[.int .i64 r.me, .int .i64 r.id, .int .i64 r.te, .int .i64 r.de, .int .i64 r.fe, .int .i64 r.pr, .int .i64 r.ch, .int .i64 r.un, .string S] 25)) = W1 at *
  generalize w1.heap.size = ga at *
  go_wp2_with (first | (refine wp_whole rfl 25 _ rfl (ga) rfl 25 #[.int .i64 r.me, .int .i64 r.id, .int .i64 r.te, .int .i64 r.de, .int .i64 r.fe, .int .i64 r.pr, .int .i64 r.ch, .int .i64 r.un, .string S] _ HX1.out Tryz.underlying25 rfl (by kernel_rfl) ?_) | fail)
  refine (HC.out _ HB1.out).mono ?_
  rintro e w2 ⟨rfl, hb2⟩
  have HX2 : Hid (Blk w2 ga #[.int .i64 r.me, .int .i64 r.id, .int .i64 r.te, .int .i64 r.de, .int .i64 r.fe, .int .i64 r.pr, .int .i64 r.ch, .int .i64 r.un, .string S] 25) := HX1.out.next hb2
  have HB2 : Hid (Below w.heap.size w w2) := HB1.out.trans (hb2.mono HB1.out.size)
  clear hb2 HX1 HB1 HC
  go_wp2_with (first | (refine wp_whole rfl 25 _ rfl (ga) rfl 25 #[.int .i64 r.me, .int .i64 r.id, .int .i64 r.te, .int .i64 r.de, .int .i64 r.fe, .int .i64 r.pr, .int .i64 r.ch, .int .i64 r.un, .string S] _ HX2.out Tryz.underlying25 rfl (by kernel_rfl) ?_) | fail)
  refine (HSH.out _ HB2.out).mono ?_
  rintro e w3 ⟨rfl, hb3⟩
  have HX3 : Hid (Blk w3 ga #[.int .i64 r.me, .int .i64 r.id, .int .i64 r.te, .int .i64 r.de, .int .i64 r.fe, .int .i64 r.pr, .int .i64 r.ch, .int .i64 r.un, .string S] 25) := HX2.out.next hb3
  have HB3 : Hid (Below w.heap.size w w3) := HB2.out.trans (hb3.mono HB2.out.size)
  clear hb3 HX2 HB2 HSH
  go_wp2_with fail
  refine (HRD.out _ HB3.out).mono ?_
  rintro e w4 ⟨rfl, hb4⟩
  have HX4 : Hid (Blk (w4.alloc (.cells #[.int .i64 r.me, .int .i64 r.id, .int .i64 r.te, .int .i64 r.de, .int .i64 r.fe, .int .i64 r.pr, .int .i64 r.ch, .int .i64 r.un, .string S] 25)) ga #[.int .i64 r.me, .int .i64 r.id, .int .i64 r.te, .int .i64 r.de, .int .i64 r.fe, .int .i64 r.pr, .int .i64 r.ch, .int .i64 r.un, .string S] 25) := (HX3.out.next hb4).alloc _
  have HY4 : Hid (Blk (w4.alloc (.cells #[.int .i64 r.me, .int .i64 r.id, .int .i64 r.te, .int .i64 r.de, .int .i64 r.fe, .int .i64 r.pr, .int .i64 r.ch, .int .i64 r.un, .string S] 25)) w4.heap.size #[.int .i64 r.me, .int .i64 r.id, .int .i64 r.te, .int .i64 r.de, .int .i64 r.fe, .int .i64 r.pr, .int .i64 r.ch, .int .i64 r.un, .string S] 25) := Blk.new w4 _ _
  have HB4 : Hid (Below w.heap.size w (w4.alloc (.cells #[.int .i64 r.me, .int .i64 r.id, .int .i64 r.te, .int .i64 r.de, .int .i64 r.fe, .int .i64 r.pr, .int .i64 r.ch, .int .i64 r.un, .string S] 25))) := (HB3.out.trans (hb4.mono HB3.out.size)).alloc (Nat.le_trans HB3.out.size hb4.size) _
  clear hb4 HX3 HB3 HRD
  go_upto_region 5 with fail
  generalize (w4.alloc (.cells #[.int .i64 r.me, .int .i64 r.id, .int .i64 r.te, .int .i64 r.de, .int .i64 r.fe, .int .i64 r.pr, .int .i64 r.ch, .int .i64 r.un, .string S] 25)) = W4 at *
  generalize w4.heap.size = gb at *
  have eb : ∀ wz : World, (Op.equalIn 10000 25 (.agg #[.int .i64 r.me, .int .i64 r.id, .int .i64 r.te, .int .i64 r.de, .int .i64 r.fe, .int .i64 r.pr, .int .i64 r.ch, .int .i64 r.un, .string S]) (.agg #[.int .i64 r.me, .int .i64 r.id, .int .i64 r.te, .int .i64 r.de, .int .i64 r.fe, .int .i64 r.pr, .int .i64 r.ch, .int .i64 r.un, .string S])).run Tryz.prog wz = .ok true wz := fun wz => eqRc _ _ _ _ _ _ _ _ _ wz
  go_wp2_with (first | (refine wp_wholeG (by rfl) 25 _ rfl (gb) rfl 25 #[.int .i64 r.me, .int .i64 r.id, .int .i64 r.te, .int .i64 r.de, .int .i64 r.fe, .int .i64 r.pr, .int .i64 r.ch, .int .i64 r.un, .string S] _ HY4.out Tryz.underlying25 rfl (by kernel_rfl) ?_) | (refine wp_wholeG (by rfl) 25 _ rfl (ga) rfl 25 #[.int .i64 r.me, .int .i64 r.id, .int .i64 r.te, .int .i64 r.de, .int .i64 r.fe, .int .i64 r.pr, .int .i64 r.ch, .int .i64 r.un, .string S] _ HX4.out Tryz.underlying25 rfl (by kernel_rfl) ?_) | fail)
  go_ret
  exact ⟨rfl, HB4.out⟩

end Go.Proofs.YtlicdeppfhmfjaaGreatDoor.rcp

/- What the small functions of package cents, and of the document's answer to it, give back: one contract a function. -/
namespace Go.Proofs.YtlicdeppfhmfjaaGreatDoor.cents
open Go.RowKit

/-- The slice a, len, cap reads as the numbers zs: its elements alone. -/
def Row (w : World) (a : Option Addr) (len : Nat) (zs : List Int) : Prop :=
  zs.length = len ∧ (len = 0 ∨ ∃ b off, a = some ⟨b, off, none⟩ ∧ ∀ i, i < len → w.cell? ⟨b, off + i, none⟩ = some (.int .i64 (zs.getD i 0)))

def okAll (lo hi : Int) (l : List Int) : Bool := l.all fun n => decide (lo ≤ n) && decide (n ≤ hi)

theorem okAll_step (lo hi : Int) (zs : List Int) (k : Nat) (hk : k < zs.length) (h : okAll lo hi (zs.take k) = true) (h1 : lo ≤ zs.getD k 0) (h2 : zs.getD k 0 ≤ hi) : okAll lo hi (zs.take (k + 1)) = true := by
  unfold okAll at *
  rw [List.take_add_one, List.all_append, h]
  simp only [List.getD, List.getElem?_eq_getElem hk, Option.getD] at h1 h2 ⊢
  simp [h1, h2]

theorem okAll_no (lo hi : Int) (zs : List Int) (k : Nat) (hk : k < zs.length) (h : zs.getD k 0 < lo ∨ hi < zs.getD k 0) : okAll lo hi zs = false := by
  unfold okAll
  rw [List.all_eq_false]
  refine ⟨zs[k], List.getElem_mem hk, ?_⟩
  simp only [List.getD, List.getElem?_eq_getElem hk, Option.getD] at h
  simp; omega

theorem ret_bool {a b : Bool} (h : a = b) : Ending.returned (.bool a) = .returned (.bool b) := by rw [h]

set_option maxHeartbeats 400000 in
theorem within_any (lo hi : Int) (a : Option Addr) (len cap : Nat) (zs : List Int) (w : World) (hr : Row w a len zs) (hl : len ≤ maxLen) :
    Calls Tryz.prog 58 #[.int .i64 lo, .int .i64 hi, .slice a len cap] w fun e w' => e = .returned (.bool (okAll lo hi zs)) ∧ w' = w := by
  unfold maxLen at hl
  obtain ⟨hz, hr⟩ := hr
  go_enter Tryz.func58, Tryz.ntmps58
  go_wp2
  go_loop [11] (fun i => ∃ k : Nat, k ≤ len ∧ i = .int .i64 k ∧ okAll lo hi (zs.take k) = true) (fun i => len - (intOf i).toNat)
  case atStart => exact ⟨0, Nat.zero_le _, rfl, rfl⟩
  case round =>
    obtain ⟨k, hk, rfl, hok⟩ := hrel
    have HK : Hid (okAll lo hi (zs.take k) = true) := hok
    clear hok
    by_cases hlt : k < len
    · rcases hr with h0 | ⟨b, off, rfl, hc⟩
      · omega
      have hcell := hc k hlt
      clear hc
      generalize hzk : zs.getD k 0 = z at hcell
      have HZ : Hid (zs.getD k 0 = z) := hzk
      clear hzk
      by_cases h1 : z < lo
      · go_wp2
        go_ret
        exact ⟨ret_bool (okAll_no lo hi zs k (by omega) (.inl (by rw [HZ.out]; exact h1))).symm, rfl⟩
      · by_cases h2 : hi < z
        · go_wp2
          go_ret
          exact ⟨ret_bool (okAll_no lo hi zs k (by omega) (.inr (by rw [HZ.out]; exact h2))).symm, rfl⟩
        · go_wp2
          go_round
          case rel => exact ⟨k + 1, by omega, by go_num, okAll_step lo hi zs k (by omega) HK.out (by rw [HZ.out]; omega) (by rw [HZ.out]; omega)⟩
          case measure => simp [intOf]; omega
    · go_wp2
      go_ret
      refine ⟨ret_bool ?_, rfl⟩
      have := HK.out
      rw [List.take_of_length_le (by omega)] at this
      exact this.symm

end Go.Proofs.YtlicdeppfhmfjaaGreatDoor.cents

/- What comes back, by its number. -/
namespace Go.Proofs.YtlicdeppfhmfjaaGreatDoor.cents
open Go.RowKit
theorem ret_int {k : IntKind} {a b : Int} (h : a = b) : Ending.returned (.int k a) = .returned (.int k b) := by rw [h]
end Go.Proofs.YtlicdeppfhmfjaaGreatDoor.cents

/- Digits: whether a text is made of them alone, and the number that they make. -/
namespace Go.Proofs.YtlicdeppfhmfjaaGreatDoor.cents
open Go.RowKit

theorem iter_below (w : World) (s : ByteArray) (k : Nat) : Below w.heap.size w (w.iter s k) := (Below.refl _ _).alloc (Nat.le_refl _) _

set_option maxHeartbeats 400000 in
theorem allDigits_any (s : ByteArray) (w : World) :
    Calls Tryz.prog 77 #[.string s] w fun e w' => e = .returned (.bool (allD s.data.toList)) ∧ Below w.heap.size w w' := by
  go_enter Tryz.func77, Tryz.ntmps77
  go_wp2
  go_loopw [] (fun wr => ∃ k : Nat, k ≤ s.size ∧ wr = w.iter s k ∧ allD (s.data.toList.take k) = true) (fun wr => s.size - wr.iterPos w.heap.size)
  case atStart => exact ⟨0, Nat.zero_le _, rfl, rfl⟩
  case round =>
    obtain ⟨k, hk, rfl, hok⟩ := hrel
    have HK : Hid (allD (s.data.toList.take k) = true) := hok
    clear hok
    by_cases hp : k < s.size
    · by_cases ha : (s[k]'hp).toNat < 128
      · have hnx : ∀ ty, (Instr.next (.pointer (some ⟨w.heap.size, 0, none⟩)) true ty).run Tryz.prog (w.iter s k) = _ := fun ty => run_next_ascii w s k ty hp ha
        have HT : Hid (s.data.toList.take (k + 1) = s.data.toList.take k ++ [s[k]]) := take_snoc s k hp
        have HN : Hid (isD s[k] = false → allD s.data.toList = false) := allD_take_no s k hp
        have HY : Hid (48 ≤ ((s[k].toNat : Nat) : Int) → ((s[k].toNat : Nat) : Int) ≤ 57 → isD s[k] = true) := fun a b => isD_yes a b
        have HL : Hid (((s[k].toNat : Nat) : Int) < 48 → isD s[k] = false) := fun a => isD_lo a
        have HH : Hid (57 < ((s[k].toNat : Nat) : Int) → isD s[k] = false) := fun a => isD_hi a
        clear ha
        generalize s[k] = c at *
        generalize hcc : ((c.toNat : Nat) : Int) = z at *
        clear hcc
        by_cases h1 : z < 48
        · go_wp2
          go_ret
          exact ⟨ret_bool (HN.out (HL.out h1)).symm, iter_below _ _ _⟩
        · by_cases h2 : 57 < z
          · go_wp2
            go_ret
            exact ⟨ret_bool (HN.out (HH.out h2)).symm, iter_below _ _ _⟩
          · go_wp2
            go_roundw
            case rel => exact ⟨k + 1, by omega, rfl, by rw [HT.out, allD_append, HK.out]; simp [allD, HY.out (by omega) (by omega)]⟩
            case measure => simp; omega
      · have hd := (decode_high s k hp (by omega)).1
        have hnx : ∀ ty, (Instr.next (.pointer (some ⟨w.heap.size, 0, none⟩)) true ty).run Tryz.prog (w.iter s k) = _ := fun ty => run_next_any w s k ty hp
        have HN : Hid (allD s.data.toList = false) := allD_take_no s k hp (isD_hi (by omega))
        clear ha
        have hd2 := decode_le s k
        generalize (Utf8.decode s k).1 = r at *
        generalize (Utf8.decode s k).2 = n at *
        go_wp2
        go_ret
        exact ⟨ret_bool HN.out.symm, iter_below _ _ _⟩
    · have hnx : ∀ ty, (Instr.next (.pointer (some ⟨w.heap.size, 0, none⟩)) true ty).run Tryz.prog (w.iter s k) = _ := fun ty => run_next_end w s k ty hp
      go_wp2
      go_ret
      refine ⟨ret_bool ?_, iter_below _ _ _⟩
      have := HK.out
      rw [List.take_of_length_le (by simp; omega)] at this
      exact this.symm

set_option maxHeartbeats 400000 in
theorem value_any (s : ByteArray) (w : World) (hd : allD s.data.toList = true) :
    Calls Tryz.prog 78 #[.string s] w fun e w' => e = .returned (.int .i64 (cval s.data.toList)) ∧ Below w.heap.size w w' := by
  have HD : Hid (allD s.data.toList = true) := hd
  clear hd
  go_enter Tryz.func78, Tryz.ntmps78
  go_wp2
  go_loopw [3] (fun v wr => ∃ k : Nat, k ≤ s.size ∧ wr = w.iter s k ∧ v = .int .i64 (cval (s.data.toList.take k))) (fun _ wr => s.size - wr.iterPos w.heap.size)
  case atStart => exact ⟨0, Nat.zero_le _, rfl, rfl⟩
  case round =>
    obtain ⟨k, hk, rfl, rfl⟩ := hrel
    by_cases hp : k < s.size
    · have hdk : allD (s.data.toList.take k) = true ∧ isD s[k] = true := by
        have h := HD.out
        have e : s.data.toList = s.data.toList.take k ++ [s[k]] ++ s.data.toList.drop (k + 1) := by rw [← take_snoc s k hp, List.take_append_drop]
        rw [e, allD_append, allD_append] at h
        simp [allD] at h ⊢
        exact h.1
      have hb := cval_eq _ hdk.1
      have hcb := isD_bd hdk.2
      have ha : (s[k]'hp).toNat < 128 := by omega
      have hnx : ∀ ty, (Instr.next (.pointer (some ⟨w.heap.size, 0, none⟩)) true ty).run Tryz.prog (w.iter s k) = _ := fun ty => run_next_ascii w s k ty hp ha
      have HT : Hid (cval (s.data.toList.take (k + 1)) = if cval (s.data.toList.take k) ≤ 1000000000000 then cval (s.data.toList.take k) * 10 + (((s[k].toNat : Nat) : Int) - 48) else cval (s.data.toList.take k)) := by
        show _ = _
        rw [take_snoc s k hp, cval_snoc]
      obtain ⟨_, b1, b2, _, _⟩ := hb
      clear hdk ha
      generalize cval (s.data.toList.take k) = v at *
      generalize s[k] = c at *
      generalize hcc : ((c.toNat : Nat) : Int) = z at *
      clear hcc
      obtain ⟨z1, z2⟩ := hcb
      by_cases h1 : v ≤ 1000000000000
      · go_wp2
        go_roundw
        case rel => exact ⟨k + 1, by omega, rfl, by rw [HT.out, if_pos h1]⟩
        case measure => simp; omega
      · go_wp2
        go_roundw
        case rel => exact ⟨k + 1, by omega, rfl, by rw [HT.out, if_neg h1]⟩
        case measure => simp; omega
    · have hnx : ∀ ty, (Instr.next (.pointer (some ⟨w.heap.size, 0, none⟩)) true ty).run Tryz.prog (w.iter s k) = _ := fun ty => run_next_end w s k ty hp
      go_wp2
      go_ret
      exact ⟨ret_int (by rw [List.take_of_length_le (by simp; omega)]), iter_below _ _ _⟩

end Go.Proofs.YtlicdeppfhmfjaaGreatDoor.cents

/- A text cut: its sign ahead, and at the first dot; whether the units are a whole number. -/
namespace Go.Proofs.YtlicdeppfhmfjaaGreatDoor.cents
open Go.RowKit
set_option maxRecDepth 100000

theorem indexByte_any (s : ByteArray) (c : Int) (w : World) :
    Calls Tryz.prog 171 #[.string s, .int .u8 c] w fun e w' => e = .returned (.int .i64 (Lib.indexByte s.data.toList c.toNat.toUInt8)) ∧ w' = w := by
  go_enter Tryz.func171, Tryz.ntmps171
  go_wp2
  rw [run_callFunc_extern Tryz.func179 (by kernel_rfl) (by kernel_rfl) (by kernel_rfl) (e := Extern.BytealgIndexByte.indexByte) (by kernel_rfl), Lib.run_indexByteString]
  simp only [Result.andThen]
  rw [Oper.upon_value]
  go_wp2
  go_ret
  exact ⟨rfl, rfl⟩

set_option maxHeartbeats 400000 in
theorem index_dot (s : ByteArray) (w : World) :
    Calls Tryz.prog 155 #[.string s, .string ⟨#[46]⟩] w fun e w' => e = .returned (.int .i64 (Lib.indexByte s.data.toList 46)) ∧ w' = w := by
  cases h : ([46] == s.toList)
  · go_enter Tryz.func155, Tryz.ntmps155
    go_wp2_with fail
    refine (indexByte_any _ _ _).mono ?_
    rintro e w' ⟨rfl, rfl⟩
    go_wp2
    go_ret
    exact ⟨rfl, rfl⟩
  · have e : s.data.toList = [46] := by rw [← ByteArray.toList_eq]; exact (by simpa using h : [46] = s.toList).symm
    rw [e, ix_self]
    go_enter Tryz.func155, Tryz.ntmps155
    go_wp2
    go_ret
    exact ⟨rfl, rfl⟩

set_option maxHeartbeats 400000 in
theorem cutLite_yes (s : ByteArray) (i : Nat) (w : World) (hs : s.size ≤ 140737488351232) (h : Lib.indexByte s.data.toList 46 = i) :
    Calls Tryz.prog 111 #[.string s, .string ⟨#[46]⟩] w fun e w' => e = .returned (.tuple #[.string (s.extract 0 i), .string (s.extract (i + 1) s.size), .bool true]) ∧ Below w.heap.size w w' := by
  have hi := ix_bd h
  have HI : Hid (Lib.indexByte s.data.toList 46 = i) := h
  clear h
  go_enter Tryz.func111, Tryz.ntmps111
  go_wp2_with fail
  refine (index_dot _ _).mono ?_
  rintro e w' ⟨rfl, rfl⟩
  rw [HI.out]
  have h0 : (0 : Int) ≤ (i : Int) := by omega
  go_wp2
  go_region
  all_goals go_wp2
  go_ret3
  exact ⟨rfl, (Below.refl _ _).drew⟩

set_option maxHeartbeats 400000 in
theorem cutLite_no (s : ByteArray) (w : World) (h : Lib.indexByte s.data.toList 46 = -1) :
    Calls Tryz.prog 111 #[.string s, .string ⟨#[46]⟩] w fun e w' => e = .returned (.tuple #[.string s, .string ⟨#[]⟩, .bool false]) ∧ Below w.heap.size w w' := by
  have HI : Hid (Lib.indexByte s.data.toList 46 = -1) := h
  clear h
  go_enter Tryz.func111, Tryz.ntmps111
  go_wp2_with fail
  refine (index_dot _ _).mono ?_
  rintro e w' ⟨rfl, rfl⟩
  rw [HI.out]
  go_wp2
  go_ret3
  exact ⟨rfl, Below.refl _ _⟩

theorem cut_yes (s : ByteArray) (i : Nat) (w : World) (hs : s.size ≤ 140737488351232) (h : Lib.indexByte s.data.toList 46 = i) :
    Calls Tryz.prog 74 #[.string s, .string ⟨#[46]⟩] w fun e w' => e = .returned (.tuple #[.string (s.extract 0 i), .string (s.extract (i + 1) s.size), .bool true]) ∧ Below w.heap.size w w' := by
  have H := cutLite_yes s i w hs h
  clear h
  go_enter Tryz.func74, Tryz.ntmps74
  go_wp2_with fail
  refine H.mono ?_
  rintro e w' ⟨rfl, hb⟩
  clear H
  go_wp2
  go_ret3
  exact ⟨rfl, hb⟩

theorem cut_no (s : ByteArray) (w : World) (h : Lib.indexByte s.data.toList 46 = -1) :
    Calls Tryz.prog 74 #[.string s, .string ⟨#[46]⟩] w fun e w' => e = .returned (.tuple #[.string s, .string ⟨#[]⟩, .bool false]) ∧ Below w.heap.size w w' := by
  have H := cutLite_no s w h
  clear h
  go_enter Tryz.func74, Tryz.ntmps74
  go_wp2_with fail
  refine H.mono ?_
  rintro e w' ⟨rfl, hb⟩
  clear H
  go_wp2
  go_ret3
  exact ⟨rfl, hb⟩

set_option maxHeartbeats 400000 in
theorem cutPrefix_yes (s : ByteArray) (w : World) (h : neg s.data.toList = true) :
    Calls Tryz.prog 75 #[.string s, .string ⟨#[45]⟩] w fun e w' => e = .returned (.tuple #[.string (s.extract 1 s.size), .bool true]) ∧ w' = w := by
  have h0 := neg_size h
  have ht := neg_take h0
  rw [h] at ht
  clear h
  have h1 : (1 : Int) ≤ (s.size : Int) := by omega
  go_enter Tryz.func75, Tryz.ntmps75
  go_wp2
  go_ret2
  exact ⟨rfl, rfl⟩

set_option maxHeartbeats 400000 in
theorem cutPrefix_no (s : ByteArray) (w : World) (h : neg s.data.toList = false) :
    Calls Tryz.prog 75 #[.string s, .string ⟨#[45]⟩] w fun e w' => e = .returned (.tuple #[.string s, .bool false]) ∧ w' = w := by
  by_cases h0 : 0 < s.size
  · have ht := neg_take h0
    rw [h] at ht
    clear h
    have h1 : (1 : Int) ≤ (s.size : Int) := by omega
    go_enter Tryz.func75, Tryz.ntmps75
    go_wp2
    go_ret2
    exact ⟨rfl, rfl⟩
  · have h1 : ¬ (1 : Int) ≤ (s.size : Int) := by omega
    clear h
    go_enter Tryz.func75, Tryz.ntmps75
    go_wp2
    go_ret2
    exact ⟨rfl, rfl⟩

set_option maxHeartbeats 400000 in
theorem isWhole_any (s : ByteArray) (w : World) :
    Calls Tryz.prog 76 #[.string s] w fun e w' => e = .returned (.bool (whole s.data.toList)) ∧ Below w.heap.size w w' := by
  have el := ByteArray.toList_eq s
  by_cases h1 : s.data.toList = [48]
  · have e : whole s.data.toList = true := by rw [h1]; rfl
    rw [e]
    have h2 : (s.toList == [48]) = true := by rw [el, h1]; rfl
    clear el h1 e
    go_enter Tryz.func76, Tryz.ntmps76
    go_wp2
    go_ret
    exact ⟨rfl, Below.refl _ _⟩
  · have h1' : (s.toList == [48]) = false := by rw [el]; simpa using h1
    by_cases h2 : s.data.toList = []
    · have e : whole s.data.toList = false := by rw [h2]; rfl
      rw [e]
      have h3 : (s.toList == []) = true := by rw [el, h2]; rfl
      have h4 : (s.toList != []) = false := by rw [el, h2]; rfl
      clear el h1 h2 e
      go_enter Tryz.func76, Tryz.ntmps76
      go_wp2
      go_ret
      exact ⟨rfl, Below.refl _ _⟩
    · have hsz : 0 < s.size := by
        by_cases h0 : 0 < s.size
        · exact h0
        · exact absurd (List.eq_nil_of_length_eq_zero (by rw [len_eq]; omega)) h2
      have h3 : (s.toList == []) = false := by rw [el]; simpa using h2
      have h4 : (s.toList != []) = true := by rw [el]; simpa using h2
      have hd : s.data.toList.head? = some s[0] := by
        rw [List.head?_eq_getElem?, List.getElem?_eq_getElem (by simpa using hsz)]; rfl
      by_cases h5 : s[0].toNat = 48
      · have e : whole s.data.toList = false := by
          unfold whole
          have : s[0] = 48 := UInt8.toNat_inj.1 h5
          rw [hd, this]
          simp [h1]
        rw [e]
        have h6 : (((s[0].toNat : Nat) : Int) != 48) = false := by simp; omega
        clear el h1 h2 e hd h5
        go_enter Tryz.func76, Tryz.ntmps76
        go_wp2
        go_ret
        exact ⟨rfl, Below.refl _ _⟩
      · have e : whole s.data.toList = allD s.data.toList := by
          unfold whole
          have : ¬ s[0] = 48 := fun h => h5 (by rw [h]; rfl)
          rw [hd]
          have e1 : (s.data.toList == [48]) = false := by simpa using h1
          have e2 : (s.data.toList != []) = true := by simpa using h2
          have e3 : (some s[0] != some 48) = true := by simpa using this
          rw [e1, e2, e3, Bool.false_or, Bool.true_and, Bool.true_and]
        rw [e]
        have h6 : (((s[0].toNat : Nat) : Int) != 48) = true := by simp; omega
        clear el h1 h2 e hd h5
        go_enter Tryz.func76, Tryz.ntmps76
        go_wp2_with fail
        refine (allDigits_any _ _).mono ?_
        rintro e w' ⟨rfl, hb⟩
        go_wp2
        go_ret
        exact ⟨rfl, hb⟩

end Go.Proofs.YtlicdeppfhmfjaaGreatDoor.cents

/- What cents.Read gives back. -/
namespace Go.Proofs.YtlicdeppfhmfjaaGreatDoor.cents
open Go.RowKit

theorem cutPrefix_any (s : ByteArray) (w : World) :
    Calls Tryz.prog 75 #[.string s, .string ⟨#[45]⟩] w fun e w' => e = .returned (.tuple #[.string (cutT s), .bool (neg s.data.toList)]) ∧ w' = w := by
  cases h : neg s.data.toList
  · have e : cutT s = s := by unfold cutT; rw [h]; rfl
    rw [e]; exact cutPrefix_no s w h
  · have e : cutT s = s.extract 1 s.size := by unfold cutT; rw [h]; rfl
    rw [e]; exact cutPrefix_yes s w h

set_option maxHeartbeats 1000000 in
theorem read_any (s : ByteArray) (w : World) :
    Calls Tryz.prog 42 #[.string s] w fun e w' => e = .returned (.tuple #[.int .i64 (readR s.data.toList).1, .int .i64 (readR s.data.toList).2]) ∧ Below w.heap.size w w' := by
  have hlen := len_eq s
  by_cases h20 : 20 < s.size
  · have e : readR s.data.toList = (0, 1) := by unfold readR; rw [if_pos (by omega)]
    rw [e]
    have h21 : (20 : Int) < (s.size : Int) := by omega
    clear e hlen
    go_enter Tryz.func42, Tryz.ntmps42
    go_wp2
    go_ret2
    exact ⟨rfl, Below.refl _ _⟩
  · have hl20 : ¬ 20 < s.data.toList.length := by omega
    have ht := cutT_size s
    have HT : Hid ((cutT s).data.toList = body s.data.toList) := cutT_list s
    have HL : Hid (¬ 20 < s.data.toList.length) := hl20
    clear hlen hl20
    have hcp := cutPrefix_any s w
    rcases ix_lt (cutT s).data.toList 46 with hix | hix
    · have E : Hid (readR s.data.toList = (0, 3)) := readR_form HL.out (by rw [← HT.out]; exact form_no hix)
      have hc := cut_no (cutT s) w hix
      clear hix HT
      generalize cutT s = t at *
      go_enter Tryz.func42, Tryz.ntmps42
      go_wp2_with fail
      refine hcp.mono ?_
      rintro e w' ⟨rfl, rfl⟩
      clear hcp
      go_wp2_with fail
      refine hc.mono ?_
      rintro e w1 ⟨rfl, hb⟩
      clear hc
      go_wp2
      go_ret2
      exact ⟨ret_err E.out, hb⟩
    · obtain ⟨i, hi⟩ := Int.eq_ofNat_of_zero_le hix.1
      have hc := cut_yes (cutT s) i w (by omega) hi
      have hb := ix_bd hi
      have HF : Hid (form (body s.data.toList) = (whole ((cutT s).extract 0 i).data.toList && (((cutT s).extract (i + 1) (cutT s).size).data.toList.length == 2 && allD ((cutT s).extract (i + 1) (cutT s).size).data.toList))) := by
        show _ = _
        rw [← HT.out, form_eq hi, Lib.extract_data, Lib.extract_to_end]; rfl
      have HU : Hid (units (body s.data.toList) = ((cutT s).extract 0 i).data.toList) := by
        show _ = _
        rw [← HT.out, Lib.extract_data]; unfold units; rw [hi]; rfl
      have HR : Hid (rests (body s.data.toList) = ((cutT s).extract (i + 1) (cutT s).size).data.toList) := by
        show _ = _
        rw [← HT.out, Lib.extract_to_end]; unfold rests; rw [hi]; rfl
      have hu : ((cutT s).extract 0 i).size ≤ 20 := by rw [← len_eq, Lib.extract_data]; simp; omega
      have hr : ((cutT s).extract (i + 1) (cutT s).size).size ≤ 20 := by rw [← len_eq, Lib.extract_to_end, List.length_drop, len_eq]; omega
      clear hi hix HT ht hb
      generalize (cutT s).extract 0 i = u at *
      generalize (cutT s).extract (i + 1) (cutT s).size = r at *
      generalize cutT s = t at *
      have hrl := len_eq r
      generalize hbn : neg s.data.toList = b at hcp
      have HB : Hid (neg s.data.toList = b) := hbn
      have HS : Hid (s.toList = s.data.toList) := ByteArray.toList_eq s
      clear hbn
      go_enter Tryz.func42, Tryz.ntmps42
      go_wp2_with fail
      refine hcp.mono ?_
      rintro e w' ⟨rfl, rfl⟩
      clear hcp
      go_wp2_with fail
      refine hc.mono ?_
      rintro e w1 ⟨rfl, hb1⟩
      clear hc
      go_wp2_with fail
      refine (isWhole_any _ _).mono ?_
      rintro e w2 ⟨rfl, hb2⟩
      have hb := hb1.trans (hb2.mono hb1.size)
      clear hb1 hb2
      cases hw : whole u.data.toList
      · have E : Hid (readR s.data.toList = (0, 3)) := readR_form HL.out (by rw [HF.out, hw]; rfl)
        clear hw
        go_wp2
        go_ret2
        exact ⟨ret_err E.out, hb⟩
      have HW : Hid (whole u.data.toList = true) := hw
      clear hw
      by_cases h2 : r.size = 2
      · have hne : ((r.size : Int) != 2) = false := by simp; omega
        go_wp2_with fail
        refine (allDigits_any _ _).mono ?_
        rintro e w3 ⟨rfl, hb3⟩
        have hb' := hb.trans (hb3.mono hb.size)
        clear hb hb3
        cases hd : allD r.data.toList
        · have E : Hid (readR s.data.toList = (0, 3)) := readR_form HL.out (by rw [HF.out, HW.out, hd]; simp)
          clear hd
          go_wp2
          go_ret2
          exact ⟨ret_err E.out, hb'⟩
        have HD : Hid (allD r.data.toList = true) := hd
        clear hd
        by_cases hz : s.data.toList = [45, 48, 46, 48, 48]
        · have E : Hid (readR s.data.toList = (0, 3)) := readR_zero HL.out hz
          have hq : (s.toList == [45, 48, 46, 48, 48]) = true := by rw [HS.out, hz]; rfl
          clear hz
          go_wp2
          go_ret2
          exact ⟨ret_err E.out, hb'⟩
        · have hq : (s.toList == [45, 48, 46, 48, 48]) = false := by rw [HS.out]; simpa using hz
          have E : Hid (readR s.data.toList = _) := readR_good HL.out (by rw [HF.out, HW.out, HD.out, hrl, h2]; rfl) hz
          clear hz
          go_wp2_with fail
          have ea : (u ++ r).data.toList = u.data.toList ++ r.data.toList := by simp
          have hall : allD (u ++ r).data.toList = true := by rw [ea, allD_append, whole_D HW.out, HD.out]; rfl
          have hv := cval_eq _ hall
          have E2 : Hid (readR s.data.toList = if 1000000000000 < dval (u ++ r).data.toList then (0, 2) else (if b then -dval (u ++ r).data.toList else dval (u ++ r).data.toList, 0)) := by
            show _ = _
            rw [E.out, HU.out, HR.out, ← ea, HB.out]
          have hvd := value_any (u ++ r)
          clear ea E HU HR HF
          refine (hvd _ hall).mono ?_
          rintro e w4 ⟨rfl, hb4⟩
          have hb5 := hb'.trans (hb4.mono hb'.size)
          clear hvd hall hb4 hb'
          obtain ⟨v1, v2, v3, v4, v5⟩ := hv
          generalize dval (u ++ r).data.toList = dv at *
          generalize cval (u ++ r).data.toList = cv at *
          by_cases hM : 1000000000000 < dv
          · have hcv := v5 hM
            have E3 : Hid (readR s.data.toList = (0, 2)) := by show _ = _; rw [E2.out, if_pos hM]
            clear v4 v5
            go_wp2
            go_ret2
            exact ⟨ret_err E3.out, hb5⟩
          · have hcv := v4 (by omega)
            subst hcv
            clear v4 v5
            cases b
            · have E3 : Hid (readR s.data.toList = (cv, 0)) := by show _ = _; rw [E2.out, if_neg hM]; rfl
              go_wp2
              go_ret2
              exact ⟨ret_pair' E3.out, hb5⟩
            · have E3 : Hid (readR s.data.toList = (-cv, 0)) := by show _ = _; rw [E2.out, if_neg hM]; rfl
              go_wp2
              go_ret2
              exact ⟨ret_pair' E3.out, hb5⟩
      · have hne : ((r.size : Int) != 2) = true := by simp; omega
        have E : Hid (readR s.data.toList = (0, 3)) := readR_form HL.out (by rw [HF.out, hrl]; simp [h2])
        go_wp2
        go_ret2
        exact ⟨ret_err E.out, hb⟩

end Go.Proofs.YtlicdeppfhmfjaaGreatDoor.cents

/- Numbers of meters, and numbers in decimal: plain facts. -/
namespace Go.Proofs.YtlicdeppfhmfjaaGreatDoor.rcp
open Go.Proofs.YtlicdeppfhmfjaaGreatDoor.check (digitR goodR flawR allD)
open Go.Proofs.YtlicdeppfhmfjaaGreatDoor.token (dv dv_inj dv_lt dv_snoc)
set_option linter.unusedVariables false
set_option linter.unusedSimpArgs false

theorem allD_same (l : List UInt8) : cents.allD l = allD l := rfl
/-- What Atoi gives back, whatever the text. -/
def atoiV (l : List UInt8) : Int := match Lib.atoiAll l with
  | .ok v => v
  | .range => Lib.atoiSat l
  | _ => 0
theorem parse_digits : ∀ (l : List UInt8) (acc : Nat), allD l = true → (acc + 1) * 10 ^ l.length ≤ 1000000000000000000 → Lib.parseUint10 acc l = .ok (l.foldl (fun n c => n * 10 + (c.toNat - 48)) acc) := by
  intro l
  induction l with
  | nil => intro acc _ _; rfl
  | cons c r ih =>
    intro acc hd hb
    have hd' : check.isD c = true ∧ allD r = true := by simpa [allD] using hd
    have hc : 48 ≤ c.toNat ∧ c.toNat ≤ 57 := by simpa [check.isD] using hd'.1
    have hp : 0 < 10 ^ r.length := Nat.pow_pos (by decide)
    have hb' : (acc * 10 + 10) * 10 ^ r.length ≤ 1000000000000000000 := by
      rw [List.length_cons, Nat.pow_succ, Nat.mul_comm (10 ^ r.length) 10, ← Nat.mul_assoc] at hb
      rw [show acc * 10 + 10 = (acc + 1) * 10 by omega]
      exact hb
    have h1 : acc * 10 + 10 ≤ 1000000000000000000 := Nat.le_trans (Nat.le_mul_of_pos_right _ hp) hb'
    unfold Lib.parseUint10
    rw [if_pos hc, if_neg (by omega), if_neg (by omega), List.foldl_cons]
    refine ih _ hd'.2 (Nat.le_trans (Nat.mul_le_mul_right _ ?_) hb')
    omega
theorem atoi_of {c : UInt8} {r : List UInt8} {u : Nat} (h1 : ¬ (c.toNat = 43 ∨ c.toNat = 45)) (hm : Lib.parseMag (c :: r) = .ok u) (hu : u < 9223372036854775808) : Lib.atoiAll (c :: r) = .ok (u : Int) := by
  unfold Lib.atoiAll
  dsimp only
  rw [if_neg h1]
  generalize Lib.parseMag (c :: r) = x at hm ⊢
  subst hm
  dsimp only
  rw [if_neg (by omega), if_neg (by omega), if_neg (by omega)]
theorem atoi_digits {l : List UInt8} (h : allD l = true) (h0 : l ≠ []) (h1 : l.length ≤ 18) : Lib.atoiAll l = .ok ((dv l : Nat) : Int) := by
  have hp := parse_digits l 0 h (by
    have := Nat.pow_le_pow_right (n := 10) (by decide) h1
    simpa using this)
  have hlt := dv_lt l h
  have h18 : dv l < 1000000000000000000 := Nat.lt_of_lt_of_le hlt (by simpa using Nat.pow_le_pow_right (n := 10) (by decide) h1)
  cases l with
  | nil => exact absurd rfl h0
  | cons c r =>
    have hd' : check.isD c = true ∧ allD r = true := by simpa [allD] using h
    have hc : 48 ≤ c.toNat ∧ c.toNat ≤ 57 := by simpa [check.isD] using hd'.1
    have hm : Lib.parseMag (c :: r) = .ok (dv (c :: r)) := by
      unfold Lib.parseMag
      rw [if_neg (by simp)]
      exact hp
    exact atoi_of (by omega) hm (by omega)
theorem atoiV_bounds (l : List UInt8) : -9223372036854775808 ≤ atoiV l ∧ atoiV l ≤ 9223372036854775807 := by
  unfold atoiV
  cases h : Lib.atoiAll l with
  | ok v =>
    cases l with
    | nil => cases h
    | cons c r =>
      unfold Lib.atoiAll at h
      simp only at h
      split at h
      · cases h
      · cases h
      · split at h
        · cases h
        · split at h
          · cases h
          · injection h with h
            subst h
            dsimp only
            split <;> omega
  | range => dsimp only; unfold Lib.atoiSat; split <;> omega
  | _ => dsimp only; omega
theorem pad_facts : ∀ k, k < 50 → (pad k 10).length = 10 ∧ allD (pad k 10) = true ∧ dv (pad k 10) = k := by decide +kernel
theorem last_one : ∀ k, k < 50 → ∀ d, d < 10 → goodR (pad k 10 ++ [(48 + d).toUInt8]) = true → pad k 10 ++ [(48 + d).toUInt8] = numL k := by decide +kernel
theorem named_of {l : List UInt8} (h : l.length = 11) (hd : allD l = true) (hg : goodR l = true) (hk : dv (l.take 10) < 50) : Named l (dv (l.take 10)) := by
  refine ⟨hk, ?_⟩
  have hdt : allD (l.take 10) = true := List.all_eq_true.2 fun c hc => List.all_eq_true.1 hd c (List.mem_of_mem_take hc)
  have hlt : (l.take 10).length = 10 := by rw [List.length_take]; omega
  generalize hkk : dv (l.take 10) = k at hk ⊢
  obtain ⟨p1, p2, p3⟩ := pad_facts k hk
  have e : l.take 10 = pad k 10 := dv_inj 10 _ _ hlt p1 hdt p2 (by rw [hkk, p3])
  have hl10 : 10 < l.length := by omega
  have e2 : l = l.take 10 ++ [l[10]] := by
    have := List.take_succ_eq_append_getElem hl10
    rw [List.take_of_length_le (by omega)] at this
    exact this
  have hc : check.isD l[10] = true := List.all_eq_true.1 hd _ (List.getElem_mem hl10)
  have hc' : 48 ≤ l[10].toNat ∧ l[10].toNat ≤ 57 := by simpa [check.isD] using hc
  obtain ⟨d, hd10, hdd⟩ : ∃ d, d < 10 ∧ l[10] = (48 + d).toUInt8 := ⟨l[10].toNat - 48, by omega, by rw [show 48 + (l[10].toNat - 48) = l[10].toNat by omega]; simp⟩
  rw [e2, e, hdd] at hg
  rw [← last_one k hk d hd10 hg, ← hdd, ← e, ← e2]
theorem named_val {l : List UInt8} {k : Nat} (h : Named l k) : dv (l.take 10) = k := by
  rw [← h.2]; exact (num_all k h.1).2.2.2.1

end Go.Proofs.YtlicdeppfhmfjaaGreatDoor.rcp

/- Contracts of the library, laid at this dump in plain words: strconv_Atoi_ok, strconv_Atoi_syntax_var, strconv_Atoi_range_var. -/
namespace Go.Proofs
open Go.Shelf
def Tryz.laysC172_ren : Go.Shelf.Ren := ⟨fun | 172 => 44 | 244 => 79 | 245 => 80 | 247 => 113 | 279 => 114 | 280 => 115 | 281 => 116 | 282 => 117 | 287 => 156 | 316 => 157 | 171 => 33 | 205 => 158 | 321 => 175 | 322 => 176 | 243 => 62 | 246 => 100 | 283 => 139 | 284 => 140 | 285 => 141 | 286 => 142 | 129 => 167 | 317 => 166 | 318 => 168 | 319 => 169 | 320 => 170 | 337 => 177 | 338 => 178 | n => n, fun | 9 => 9 | 3 => 3 | 75 => 77 | 76 => 78 | 4 => 4 | 5 => 5 | 167 => 155 | 37 => 61 | 0 => 0 | 85 => 156 | 2 => 2 | 168 => 158 | 53 => 129 | 175 => 196 | 46 => 111 | 210 => 199 | 127 => 100 | 145 => 212 | 143 => 210 | 21 => 21 | 171 => 183 | 173 => 186 | 212 => 206 | 51 => 83 | 20 => 20 | 213 => 207 | 232 => 220 | 233 => 221 | 80 => 69 | n => n, fun | 15 => 2 | 16 => 3 | 17 => 4 | 18 => 9 | 19 => 10 | n => n⟩
theorem Tryz.laysC172 : Go.Proofs.LaysC.n172 Tryz.prog Tryz.laysC172_ren := {
  mixed := by kernel_rfl
  f129 := Tryz.func167.trans (congrArg some (by kernel_rfl))
  f171 := Tryz.func33.trans (congrArg some (by kernel_rfl))
  f172 := Tryz.func44.trans (congrArg some (by kernel_rfl))
  f205 := Tryz.func158.trans (congrArg some (by kernel_rfl))
  f243 := Tryz.func62.trans (congrArg some (by kernel_rfl))
  f244 := Tryz.func79.trans (congrArg some (by kernel_rfl))
  f245 := Tryz.func80.trans (congrArg some (by kernel_rfl))
  f246 := Tryz.func100.trans (congrArg some (by kernel_rfl))
  f247 := Tryz.func113.trans (congrArg some (by kernel_rfl))
  f279 := Tryz.func114.trans (congrArg some (by kernel_rfl))
  f280 := Tryz.func115.trans (congrArg some (by kernel_rfl))
  f281 := Tryz.func116.trans (congrArg some (by kernel_rfl))
  f282 := Tryz.func117.trans (congrArg some (by kernel_rfl))
  f283 := Tryz.func139.trans (congrArg some (by kernel_rfl))
  f284 := Tryz.func140.trans (congrArg some (by kernel_rfl))
  f285 := Tryz.func141.trans (congrArg some (by kernel_rfl))
  f286 := Tryz.func142.trans (congrArg some (by kernel_rfl))
  f287 := Tryz.func156.trans (congrArg some (by kernel_rfl))
  f316 := Tryz.func157.trans (congrArg some (by kernel_rfl))
  f317 := Tryz.func166.trans (congrArg some (by kernel_rfl))
  f318 := Tryz.func168.trans (congrArg some (by kernel_rfl))
  f319 := Tryz.func169.trans (congrArg some (by kernel_rfl))
  f320 := Tryz.func170.trans (congrArg some (by kernel_rfl))
  f321 := Tryz.func175.trans (congrArg some (by kernel_rfl))
  f322 := Tryz.func176.trans (congrArg some (by kernel_rfl))
  f337 := Tryz.func177.trans (congrArg some (by kernel_rfl))
  f338 := Tryz.func178.trans (congrArg some (by kernel_rfl))
  t0 := Tryz.underlying0
  a0 := Tryz.isAgg0
  z0 := Tryz.sizeOf0
  v0 := Tryz.zeroValue0
  t2 := Tryz.underlying2
  a2 := Tryz.isAgg2
  z2 := Tryz.sizeOf2
  v2 := Tryz.zeroValue2
  t3 := Tryz.underlying3
  a3 := Tryz.isAgg3
  z3 := Tryz.sizeOf3
  v3 := Tryz.zeroValue3
  t4 := Tryz.underlying4
  a4 := Tryz.isAgg4
  z4 := Tryz.sizeOf4
  v4 := Tryz.zeroValue4
  t5 := Tryz.underlying5
  a5 := Tryz.isAgg5
  z5 := Tryz.sizeOf5
  v5 := Tryz.zeroValue5
  t9 := Tryz.underlying9
  a9 := Tryz.isAgg9
  z9 := Tryz.sizeOf9
  v9 := Tryz.zeroValue9
  t20 := Tryz.underlying20
  a20 := Tryz.isAgg20
  z20 := Tryz.sizeOf20
  v20 := Tryz.zeroValue20
  t21 := Tryz.underlying21
  a21 := Tryz.isAgg21
  z21 := Tryz.sizeOf21
  v21 := Tryz.zeroValue21
  t37 := Tryz.underlying61
  a37 := Tryz.isAgg61
  z37 := Tryz.sizeOf61
  v37 := Tryz.zeroValue61
  t46 := Tryz.underlying111
  a46 := Tryz.isAgg111
  z46 := Tryz.sizeOf111
  v46 := Tryz.zeroValue111
  t51 := Tryz.underlying83
  a51 := Tryz.isAgg83
  z51 := Tryz.sizeOf83
  v51 := Tryz.zeroValue83
  t53 := Tryz.underlying129
  a53 := Tryz.isAgg129
  z53 := Tryz.sizeOf129
  v53 := Tryz.zeroValue129
  t75 := Tryz.underlying77
  a75 := Tryz.isAgg77
  z75 := Tryz.sizeOf77
  v75 := Tryz.zeroValue77
  t76 := Tryz.underlying78
  a76 := Tryz.isAgg78
  z76 := Tryz.sizeOf78
  v76 := Tryz.zeroValue78
  t85 := Tryz.underlying156
  a85 := Tryz.isAgg156
  z85 := Tryz.sizeOf156
  v85 := Tryz.zeroValue156
  t127 := Tryz.underlying100
  a127 := Tryz.isAgg100
  z127 := Tryz.sizeOf100
  v127 := Tryz.zeroValue100
  t143 := Tryz.underlying210
  a143 := Tryz.isAgg210
  z143 := Tryz.sizeOf210
  v143 := Tryz.zeroValue210
  t145 := Tryz.underlying212
  a145 := Tryz.isAgg212
  z145 := Tryz.sizeOf212
  v145 := Tryz.zeroValue212
  t167 := Tryz.underlying155
  a167 := Tryz.isAgg155
  z167 := Tryz.sizeOf155
  v167 := Tryz.zeroValue155
  t168 := Tryz.underlying158
  a168 := Tryz.isAgg158
  z168 := Tryz.sizeOf158
  v168 := Tryz.zeroValue158
  t171 := Tryz.underlying183
  a171 := Tryz.isAgg183
  z171 := Tryz.sizeOf183
  v171 := Tryz.zeroValue183
  t173 := Tryz.underlying186
  a173 := Tryz.isAgg186
  z173 := Tryz.sizeOf186
  v173 := Tryz.zeroValue186
  t175 := Tryz.underlying196
  a175 := Tryz.isAgg196
  z175 := Tryz.sizeOf196
  v175 := Tryz.zeroValue196
  t210 := Tryz.underlying199
  a210 := Tryz.isAgg199
  z210 := Tryz.sizeOf199
  v210 := Tryz.zeroValue199
  t212 := Tryz.underlying206
  a212 := Tryz.isAgg206
  z212 := Tryz.sizeOf206
  v212 := Tryz.zeroValue206
  t213 := Tryz.underlying207
  a213 := Tryz.isAgg207
  z213 := Tryz.sizeOf207
  t232 := Tryz.underlying220
  a232 := Tryz.isAgg220
  z232 := Tryz.sizeOf220
  v232 := Tryz.zeroValue220
  t233 := Tryz.underlying221
  a233 := Tryz.isAgg221
  z233 := Tryz.sizeOf221
  v233 := Tryz.zeroValue221
  g15 := by kernel_rfl
  g16 := by kernel_rfl
  g17 := by kernel_rfl
  g18 := by kernel_rfl
  g19 := by kernel_rfl
  t80 := Tryz.underlying69
  a80 := Tryz.isAgg69
  z80 := Tryz.sizeOf69
  v80 := Tryz.zeroValue69
  i0 := by kernel_rfl
  i2 := by kernel_rfl
  i3 := by kernel_rfl
  i4 := by kernel_rfl
  i5 := by kernel_rfl
  i9 := by kernel_rfl
  i20 := by kernel_rfl
  i21 := by kernel_rfl
  i37 := by kernel_rfl
  i46 := by kernel_rfl
  i51 := by kernel_rfl
  i53 := by kernel_rfl
  i75 := by kernel_rfl
  i76 := by kernel_rfl
  i80 := by kernel_rfl
  i85 := by kernel_rfl
  i127 := by kernel_rfl
  i143 := by kernel_rfl
  i145 := by kernel_rfl
  i167 := by kernel_rfl
  i168 := by kernel_rfl
  i171 := by kernel_rfl
  i173 := by kernel_rfl
  i175 := by kernel_rfl
  i210 := by kernel_rfl
  i212 := by kernel_rfl
  i232 := by kernel_rfl
  i233 := by kernel_rfl
  m15 := by kernel_rfl
  m16 := by kernel_rfl
  m17 := by kernel_rfl
  m18 := by kernel_rfl
  m19 := by kernel_rfl
  c0 := by kernel_rfl
  c2 := by kernel_rfl
  c3 := by kernel_rfl
  c4 := by kernel_rfl
  c5 := by kernel_rfl
  c9 := by kernel_rfl
  c20 := by kernel_rfl
  c21 := by kernel_rfl
  c37 := by kernel_rfl
  c46 := by kernel_rfl
  c51 := by kernel_rfl
  c53 := by kernel_rfl
  c75 := by kernel_rfl
  c76 := by kernel_rfl
  c80 := by kernel_rfl
  c85 := by kernel_rfl
  c127 := by kernel_rfl
  c143 := by kernel_rfl
  c145 := by kernel_rfl
  c167 := by kernel_rfl
  c168 := by kernel_rfl
  c171 := by kernel_rfl
  c173 := by kernel_rfl
  c175 := by kernel_rfl
  c210 := by kernel_rfl
  c212 := by kernel_rfl
  c213 := by kernel_rfl
  c232 := by kernel_rfl
  c233 := by kernel_rfl }
open Go.RowKit in
theorem Tryz.strconv_Atoi_ok (s : ByteArray) (hmax : s.size ≤ 9223372036854775806) (v : Int) (h : Lib.atoiAll s.data.toList = .ok v) (w : World) :
    Calls Tryz.prog 44 #[.string s] w fun e w' => e = .returned (.tuple #[.int .i64 v, .nilIface]) ∧ (w' = w ∨ ∃ t, w' = Lib.bytesWorld w 5 t) := Any.strconv_Atoi_ok Tryz.laysC172 s hmax v h w
open Go.RowKit in
theorem Tryz.strconv_Atoi_syntax_var (s : ByteArray) (hlim : s.size ≤ 281474976710656) (h : Lib.atoiAll s.data.toList = Lib.atoiAll []) (tp : TypeId) (p : Value) (w : World) (hvar : w.var? Tryz.prog "strconv.ErrSyntax" = some #[.iface tp p]) :
    Calls Tryz.prog 44 #[.string s] w fun e w' => ∃ N, e = .returned (.tuple #[.int .i64 0, .iface 158 (.pointer (some ⟨N, 0, none⟩))]) ∧ w.heap.size ≤ N ∧ w'.heap[N]? = some (.cells #[.string ⟨#[65, 116, 111, 105]⟩, .string s, .iface tp p] 199 (0, 0)) ∧ Below w.heap.size w w' := Any.strconv_Atoi_syntax_var Tryz.laysC172 s hlim h tp p w hvar
open Go.RowKit in
theorem Tryz.strconv_Atoi_range_var (s : ByteArray) (hlim : s.size ≤ 281474976710656) (h : Lib.atoiAll s.data.toList = .range) (tp : TypeId) (p : Value) (w : World) (hvar : w.var? Tryz.prog "strconv.ErrRange" = some #[.iface tp p]) :
    Calls Tryz.prog 44 #[.string s] w fun e w' => ∃ N, e = .returned (.tuple #[.int .i64 (Lib.atoiSat s.data.toList), .iface 158 (.pointer (some ⟨N, 0, none⟩))]) ∧ w.heap.size ≤ N ∧ w'.heap[N]? = some (.cells #[.string ⟨#[65, 116, 111, 105]⟩, .string s, .iface tp p] 199 (0, 0)) ∧ Below w.heap.size w w' := Any.strconv_Atoi_range_var Tryz.laysC172 s hlim h tp p w hvar
end Go.Proofs

/- strconv.Atoi, whatever the text. -/
namespace Go.Proofs.YtlicdeppfhmfjaaGreatDoor.rcg
open Go.Proofs.YtlicdeppfhmfjaaGreatDoor.rcp (atoiV)
open Go.RowKit

theorem var_below {P : Program} {n : String} {cs : Array Value} {w w' : World} (h : w.var? P n = some cs) (hb : Below w.heap.size w w') : w'.var? P n = some cs := by
  unfold World.var? at h ⊢
  cases hg : P.globalNamed n with
  | none => simp [hg] at h
  | some g =>
    simp only [hg, Option.bind_some] at h ⊢
    have hlt : g < w.heap.size := by
      rcases Nat.lt_or_ge g w.heap.size with h' | h'
      · exact h'
      · simp [Array.getElem?_eq_none h'] at h
    rw [hb.block g hlt]
    exact h
/-- The library's two errors are there. -/
structure Errs (w : World) : Prop where
  s : ∃ tp p, w.var? Tryz.prog "strconv.ErrSyntax" = some #[.iface tp p]
  r : ∃ tp p, w.var? Tryz.prog "strconv.ErrRange" = some #[.iface tp p]
theorem Errs.below {w w' : World} (h : Errs w) (hb : Below w.heap.size w w') : Errs w' := by
  obtain ⟨⟨a, x, hx⟩, ⟨b, y, hy⟩⟩ := h
  exact ⟨⟨a, x, var_below hx hb⟩, ⟨b, y, var_below hy hb⟩⟩
theorem atoi_any (s : ByteArray) (w : World) (hs : s.size ≤ 1000) (he : Errs w) :
    Calls Tryz.prog 44 #[.string s] w fun e w' => ∃ x, e = .returned (.tuple #[.int .i64 (atoiV s.data.toList), x]) ∧ Below w.heap.size w w' := by
  unfold atoiV
  cases h : Lib.atoiAll s.data.toList with
  | ok v =>
    refine (Tryz.strconv_Atoi_ok s (by omega) v h w).mono ?_
    rintro e w' ⟨rfl, hw⟩
    refine ⟨_, rfl, ?_⟩
    rcases hw with rfl | ⟨t, rfl⟩
    · exact Below.refl _ _
    · exact Lib.bytesWorld_below _ _ _
  | range =>
    obtain ⟨tp, p, hv⟩ := he.r
    refine (Tryz.strconv_Atoi_range_var s (by omega) h tp p w hv).mono ?_
    rintro e w' ⟨N, rfl, _, _, hb⟩
    exact ⟨_, rfl, hb⟩
  | _ =>
    obtain ⟨tp, p, hv⟩ := he.s
    refine (Tryz.strconv_Atoi_syntax_var s (by omega) h tp p w hv).mono ?_
    rintro e w' ⟨N, rfl, _, _, hb⟩
    exact ⟨_, rfl, hb⟩

end Go.Proofs.YtlicdeppfhmfjaaGreatDoor.rcg

/- The lines of a paper, told by their names: plain facts. -/
namespace Go.Proofs.YtlicdeppfhmfjaaGreatDoor.rcp
open Go.Proofs.YtlicdeppfhmfjaaGreatDoor.cents (showT readR read_shown)
open Go.Proofs.YtlicdeppfhmfjaaGreatDoor.token (dv)
set_option linter.unusedVariables false
set_option linter.unusedSimpArgs false

/-- A byte is not there. -/
def Not (c : UInt8) (l : List UInt8) : Prop := ∀ x ∈ l, x ≠ c
theorem Not.of_all {c : UInt8} {l : List UInt8} (h : l.all (fun x => x != c) = true) : Not c l := fun x hx => by
  have := List.all_eq_true.1 h x hx
  simpa using this
theorem Not.app {c : UInt8} {l m : List UInt8} (h : Not c l) (h' : Not c m) : Not c (l ++ m) := fun x hx => (List.mem_append.1 hx).elim (h x) (h' x)
theorem idx_app (c : UInt8) (n t : List UInt8) (h : Not c n) : Lib.index (n ++ c :: t) [c] = (n.length : Int) := by
  induction n with
  | nil => show Lib.index (c :: t) [c] = 0; unfold Lib.index; simp
  | cons x n ih =>
    have hx : x ≠ c := h x (by simp)
    have hn := ih (fun y hy => h y (by simp [hy]))
    show Lib.index (x :: (n ++ c :: t)) [c] = _
    unfold Lib.index
    have hp : ([c] : List UInt8).isPrefixOf (x :: (n ++ c :: t)) = false := by simp [List.isPrefixOf]; intro e; exact absurd e.symm hx
    rw [hp, hn]
    simp
theorem idx_none (c : UInt8) (l : List UInt8) (h : Not c l) : Lib.index l [c] = -1 := by
  induction l with
  | nil => rfl
  | cons x l ih =>
    have hx : x ≠ c := h x (by simp)
    have hn := ih (fun y hy => h y (by simp [hy]))
    unfold Lib.index
    have hp : ([c] : List UInt8).isPrefixOf (x :: l) = false := by simp [List.isPrefixOf]; intro e; exact absurd e.symm hx
    rw [hp, hn]
    rfl
theorem split_line (c : UInt8) (k : Nat) (n t : List UInt8) (h : Not c n) : Lib.splitK [c] 0 (k + 1) (n ++ c :: t) = n :: Lib.splitK [c] 0 k t := by
  rw [Lib.splitK, idx_app c n t h]
  have e : ((n.length : Int) == -1) = false := by simp
  rw [e]
  simp
theorem cut_line (c : UInt8) (n t : List UInt8) (h : Not c n) : (Lib.cut (n ++ c :: t) [c]).1 = n ∧ (Lib.cut (n ++ c :: t) [c]).2.1 = t := by
  unfold Lib.cut
  rw [idx_app c n t h, if_pos (by omega)]
  simp
theorem rep_line (k : Nat) (n t : List UInt8) (h : Not 32 n) : Lib.replaceK [32] [] (k + 1) (n ++ 32 :: t) = n ++ Lib.replaceK [32] [] k t := by
  rw [Lib.replaceK_hit [32] [] k _ n.length (idx_app 32 n t h)]
  simp
/-- One line more: what stands behind its first blank, by what stands ahead of it. -/
def putL (F : List UInt8 → List UInt8) (l : List UInt8) : List UInt8 → List UInt8 := fun k => if k = (Lib.cut l [32]).1 then (Lib.cut l [32]).2.1 else F k
def foldL (ls : List (List UInt8)) : List UInt8 → List UInt8 := ls.foldl putL (fun _ => [])
theorem fold_snoc (ls : List (List UInt8)) (l : List UInt8) : foldL (ls ++ [l]) = putL (foldL ls) l := by unfold foldL; rw [List.foldl_append]; rfl
/-- The texts of a paper by their names. -/
def found (l : List UInt8) : List UInt8 → List UInt8 := foldL (Lib.splitK [10] 0 (Lib.count l [10]) l)
theorem cut_len (l : List UInt8) : (Lib.cut l [32]).2.1.length ≤ l.length := by
  unfold Lib.cut
  split
  · simp
  · simp
/-- The lines of a receipt, without their line feeds, and what is behind the last. -/
def nl (n v : List UInt8) : List UInt8 := n ++ 32 :: v
theorem line_nl (n v t : List UInt8) : line n v ++ t = nl n v ++ 10 :: t := by unfold line nl; simp
theorem not_nl {n v : List UInt8} (hn : n.all (fun c => c != 10) = true) (hv : v.all (fun c => c != 10) = true) : Not 10 (nl n v) := by
  refine (Not.of_all hn).app fun x hx => ?_
  rcases List.mem_cons.1 hx with rfl | hx
  · decide
  · exact Not.of_all hv x hx
theorem put_nl (F : List UInt8 → List UInt8) (n v : List UInt8) (h : Not 32 n) (k : List UInt8) : putL F (nl n v) k = if k = n then v else F k := by
  unfold putL nl
  obtain ⟨a, b⟩ := cut_line 32 n v h
  rw [a, b]
theorem count_line (n v t : List UInt8) (hn : n.all (fun c => c != 10) = true) (hv : v.all (fun c => c != 10) = true) : (line n v ++ t).count 10 = 1 + t.count 10 := by
  have z : ∀ l : List UInt8, l.all (fun c => c != 10) = true → l.count 10 = 0 := fun l hl => List.count_eq_zero.2 fun hm => Not.of_all hl 10 hm rfl
  unfold line
  rw [List.count_append, List.count_append, z n hn, List.count_cons, List.count_append, z v hv]
  simp
theorem lines9 {r : Rc} (h : Right r) : Lib.splitK [10] 0 (Lib.count (paper r) [10]) (paper r) = [nl nMETER (numL r.me.toNat), nl nNUMBER (Lib.decDigits r.id.toNat), nl nTENDER (showT r.te), nl nDEBT (showT r.de), nl nFEE (showT r.fe), nl nPRICE (showT r.pr), nl nCHANGE (showT r.ch), nl nUNITS (Lib.decDigits r.un.toNat), nl nTOKEN (four r.tk), []] := by
  obtain ⟨⟨m0, m1⟩, ⟨⟨⟨t0, _⟩, ⟨d0, _⟩, ⟨f0, _⟩, p0, _⟩, ⟨c0, _⟩, _⟩, _, hp, _⟩ := h
  have hn := (num_all r.me.toNat (by omega)).2.2.2.2
  have hk := four_no10 (parse_len hp).2
  have hcount : Lib.count (paper r) [10] = 9 := by
    rw [Lib.count_one]
    unfold paper
    rw [count_line _ _ _ (by decide) hn, count_line _ _ _ (by decide) (dec_no10 _), count_line _ _ _ (by decide) (show_no10 _ t0), count_line _ _ _ (by decide) (show_no10 _ d0), count_line _ _ _ (by decide) (show_no10 _ f0), count_line _ _ _ (by decide) (show_no10 _ p0), count_line _ _ _ (by decide) (show_no10 _ c0), count_line _ _ _ (by decide) (dec_no10 _)]
    have e := count_line nTOKEN (four r.tk) [] (by decide) hk
    rw [List.append_nil] at e
    rw [e]
    rfl
  rw [hcount]
  unfold paper
  rw [line_nl, split_line 10 8 _ _ (not_nl (by decide) hn), line_nl, split_line 10 7 _ _ (not_nl (by decide) (dec_no10 _)), line_nl, split_line 10 6 _ _ (not_nl (by decide) (show_no10 _ t0)), line_nl, split_line 10 5 _ _ (not_nl (by decide) (show_no10 _ d0)), line_nl, split_line 10 4 _ _ (not_nl (by decide) (show_no10 _ f0)), line_nl, split_line 10 3 _ _ (not_nl (by decide) (show_no10 _ p0)), line_nl, split_line 10 2 _ _ (not_nl (by decide) (show_no10 _ c0)), line_nl, split_line 10 1 _ _ (not_nl (by decide) (dec_no10 _))]
  have e := line_nl nTOKEN (four r.tk) []
  rw [List.append_nil] at e
  rw [e, split_line 10 0 _ _ (not_nl (by decide) hk)]
  rfl
theorem found_paper {r : Rc} (h : Right r) : found (paper r) nMETER = numL r.me.toNat ∧ found (paper r) nNUMBER = Lib.decDigits r.id.toNat ∧ found (paper r) nTENDER = showT r.te ∧ found (paper r) nDEBT = showT r.de ∧ found (paper r) nFEE = showT r.fe ∧ found (paper r) nPRICE = showT r.pr ∧ found (paper r) nCHANGE = showT r.ch ∧ found (paper r) nUNITS = Lib.decDigits r.un.toNat ∧ found (paper r) nTOKEN = four r.tk := by
  have q : ∀ n : List UInt8, n.all (fun x => x != 32) = true → Not 32 n := fun n hn => Not.of_all hn
  unfold found
  rw [lines9 h]
  unfold foldL
  simp only [List.foldl_cons, List.foldl_nil]
  have e0 : ∀ (F : List UInt8 → List UInt8) (k : List UInt8), k ≠ [] → putL F [] k = F k := fun F k hk => by
    unfold putL
    rw [if_neg (by simpa [Lib.cut, idx_none 32 [] (fun x hx => by simp at hx)] using hk)]
  refine ⟨?_, ?_, ?_, ?_, ?_, ?_, ?_, ?_, ?_⟩ <;> rw [e0 _ _ (by decide)] <;> simp only [put_nl _ nMETER _ (q _ (by decide)), put_nl _ nNUMBER _ (q _ (by decide)), put_nl _ nTENDER _ (q _ (by decide)), put_nl _ nDEBT _ (q _ (by decide)), put_nl _ nFEE _ (q _ (by decide)), put_nl _ nPRICE _ (q _ (by decide)), put_nl _ nCHANGE _ (q _ (by decide)), put_nl _ nUNITS _ (q _ (by decide)), put_nl _ nTOKEN _ (q _ (by decide))] <;> rfl
theorem dval_dv (l : List UInt8) (h : check.allD l = true) : cents.dval l = ((dv l : Nat) : Int) := by
  induction l using cents.snoc_ind with
  | h0 => rfl
  | h1 l c ih =>
    have h' : check.allD l = true ∧ check.isD c = true := by simpa [check.allD] using h
    have hc : 48 ≤ c.toNat := by have := h'.2; simp [check.isD] at this; exact this.1
    rw [cents.dval_snoc, token.dv_snoc, ih h'.1]
    omega
theorem atoi_dec {u : Nat} (h : u ≤ 2097151) : atoiV (Lib.decDigits u) = (u : Int) := by
  have h1 := dec_len7 u h
  have h2 := cents.dec_facts u u (Nat.le_refl _)
  have hd : check.allD (Lib.decDigits u) = true := h2.1
  have e := dval_dv _ hd
  rw [h2.2.1] at e
  unfold atoiV
  rw [atoi_digits hd h2.2.2.1 (by omega)]
  exact e.symm
theorem rep_four {k : List UInt8} (h : k.length = 20) (hd : check.allD k = true) : Lib.replaceAll (four k) [32] [] = k := by
  have hk : ∀ l : List UInt8, (∀ c ∈ l, c ∈ k) → Not 32 l := fun l hl c hc => by
    have := List.all_eq_true.1 hd c (hl c hc)
    simp [check.isD] at this
    rintro rfl
    exact absurd this.1 (by decide)
  have n1 := hk (k.take 4) (fun c hc => List.mem_of_mem_take hc)
  have n2 := hk ((k.drop 4).take 4) (fun c hc => List.mem_of_mem_drop (List.mem_of_mem_take hc))
  have n3 := hk ((k.drop 8).take 4) (fun c hc => List.mem_of_mem_drop (List.mem_of_mem_take hc))
  have n4 := hk ((k.drop 12).take 4) (fun c hc => List.mem_of_mem_drop (List.mem_of_mem_take hc))
  have n5 := hk ((k.drop 16).take 4) (fun c hc => List.mem_of_mem_drop (List.mem_of_mem_take hc))
  have z : ∀ l : List UInt8, Not 32 l → l.count 32 = 0 := fun l hl => List.count_eq_zero.2 fun hm => hl 32 hm rfl
  have hc : Lib.count (four k) [32] = 4 := by
    rw [Lib.count_one]
    unfold four
    simp only [List.count_append, List.count_cons, z _ n1, z _ n2, z _ n3, z _ n4, z _ n5]
    rfl
  unfold Lib.replaceAll Lib.replace Lib.replaceNum
  rw [if_neg (by decide), if_pos (Or.inl (by decide)), hc]
  unfold four
  rw [rep_line 3 _ _ n1, rep_line 2 _ _ n2, rep_line 1 _ _ n3, rep_line 0 _ _ n4]
  match k, h with
  | [a, b, c, d, e, f, g, i, j, l, m, n, o, p, q, r, s, t, u, v], _ => rfl
/-- The receipt that is guessed. -/
def gs (l : List UInt8) (me : Int) : Rc := ⟨me, atoiV (found l nNUMBER), (readR (found l nTENDER)).1, (readR (found l nDEBT)).1, (readR (found l nFEE)).1, (readR (found l nPRICE)).1, (readR (found l nCHANGE)).1, atoiV (found l nUNITS), Lib.replaceAll (found l nTOKEN) [32] []⟩
theorem gs_right {r : Rc} (h : Right r) {me e : Int} (hm : MeterIs (found (paper r) nMETER) me e) : gs (paper r) me = r := by
  obtain ⟨f0, f1, f2, f3, f4, f5, f6, f7, f8⟩ := found_paper h
  obtain ⟨⟨m0, m1⟩, ⟨⟨⟨t0, t1⟩, ⟨d0, d1⟩, ⟨g0, g1⟩, p0, p1⟩, ⟨c0, c1⟩, ⟨i0, i1⟩, u0, u1⟩, _, hp, _⟩ := h
  rw [f0] at hm
  have hme := (meter_back (by omega) hm).1
  unfold gs
  rw [f1, f2, f3, f4, f5, f6, f7, f8, atoi_dec (by omega), atoi_dec (by omega), read_shown _ (by omega) (by omega), read_shown _ (by omega) (by omega), read_shown _ (by omega) (by omega), read_shown _ (by omega) (by omega), read_shown _ (by omega) (by omega), rep_four (parse_len hp).1 (parse_len hp).2, hme]
  obtain ⟨me', id, te, de, fe, pr, ch, un, tk⟩ := r
  simp only at *
  rw [Int.toNat_of_nonneg (by omega), Int.toNat_of_nonneg (by omega), Int.toNat_of_nonneg (by omega)]
theorem whole_allD {l : List UInt8} (h : cents.whole l = true) : cents.allD l = true := by
  unfold cents.whole at h
  rw [Bool.or_eq_true] at h
  rcases h with h | h
  · rw [eq_of_beq h]; rfl
  · simp only [Bool.and_eq_true] at h
    exact h.2
theorem readR_bd (l : List UInt8) : -1000000000000 ≤ (readR l).1 ∧ (readR l).1 ≤ 1000000000000 := by
  unfold readR
  split
  · exact ⟨by decide, by decide⟩
  · split
    · exact ⟨by decide, by decide⟩
    · rename_i h2
      split
      · exact ⟨by decide, by decide⟩
      · have h0 : 0 ≤ cents.dval (cents.units (cents.body l) ++ cents.rests (cents.body l)) := by
          by_cases hd : cents.allD (cents.units (cents.body l) ++ cents.rests (cents.body l)) = true
          · exact (cents.cval_eq _ hd).1
          · exfalso
            apply hd
            have hf : cents.form (cents.body l) = true := by
              cases hx : cents.form (cents.body l) with
              | true => rfl
              | false => exact absurd (Or.inl hx) h2
            unfold cents.form at hf
            simp only [Bool.and_eq_true] at hf
            rw [cents.allD_append, hf.2.2.2, Bool.and_true]
            exact whole_allD hf.2.1
        dsimp only
        split <;> omega

end Go.Proofs.YtlicdeppfhmfjaaGreatDoor.rcp

/- Contracts of the library, laid at this dump in plain words: strings_Cut, strings_Split, strings_ReplaceAll. -/
namespace Go.Proofs
open Go.Shelf
def Tryz.lays145_ren : Go.Shelf.Ren := ⟨fun | 145 => 74 | 220 => 111 | 219 => 155 | 217 => 171 | 225 => 172 | 224 => 173 | 267 => 174 | 266 => 179 | 314 => 180 | n => n, fun | 9 => 9 | 4 => 4 | 59 => 114 | 3 => 3 | 5 => 5 | 46 => 111 | 146 => 167 | 51 => 83 | n => n, fun | 1 => 5 | n => n⟩
theorem Tryz.lays145 : Go.Proofs.Lays.n145 Tryz.prog Tryz.lays145_ren := {
  mixed := by kernel_rfl
  f145 := Tryz.func74.trans (congrArg some (by kernel_rfl))
  f217 := Tryz.func171.trans (congrArg some (by kernel_rfl))
  f219 := Tryz.func155.trans (congrArg some (by kernel_rfl))
  f220 := Tryz.func111.trans (congrArg some (by kernel_rfl))
  f224 := Tryz.func173.trans (congrArg some (by kernel_rfl))
  f225 := Tryz.func172.trans (congrArg some (by kernel_rfl))
  f266 := Tryz.func179.trans (congrArg some (by kernel_rfl))
  f267 := Tryz.func174.trans (congrArg some (by kernel_rfl))
  f314 := Tryz.func180.trans (congrArg some (by kernel_rfl))
  t3 := Tryz.underlying3
  a3 := Tryz.isAgg3
  z3 := Tryz.sizeOf3
  v3 := Tryz.zeroValue3
  t4 := Tryz.underlying4
  a4 := Tryz.isAgg4
  z4 := Tryz.sizeOf4
  v4 := Tryz.zeroValue4
  t5 := Tryz.underlying5
  a5 := Tryz.isAgg5
  z5 := Tryz.sizeOf5
  v5 := Tryz.zeroValue5
  t9 := Tryz.underlying9
  a9 := Tryz.isAgg9
  z9 := Tryz.sizeOf9
  v9 := Tryz.zeroValue9
  t46 := Tryz.underlying111
  a46 := Tryz.isAgg111
  z46 := Tryz.sizeOf111
  v46 := Tryz.zeroValue111
  t51 := Tryz.underlying83
  a51 := Tryz.isAgg83
  z51 := Tryz.sizeOf83
  v51 := Tryz.zeroValue83
  t59 := Tryz.underlying114
  a59 := Tryz.isAgg114
  z59 := Tryz.sizeOf114
  v59 := Tryz.zeroValue114
  t146 := Tryz.underlying167
  a146 := Tryz.isAgg167
  z146 := Tryz.sizeOf167
  v146 := Tryz.zeroValue167
  g1 := by kernel_rfl }
open Go.RowKit Go.Lib in
theorem Tryz.strings_Cut (s sep : ByteArray) (m : Int) (w : World) (hs : s.size < 4294967281) (hm : w.cell? ⟨5, 0, none⟩ = some (.int .i64 m)) :
    Calls Tryz.prog 74 #[.string s, .string sep] w fun e w' => e = .returned (.tuple #[.string ⟨(Lib.cut s.data.toList sep.data.toList).1.toArray⟩, .string ⟨(Lib.cut s.data.toList sep.data.toList).2.1.toArray⟩, .bool (Lib.cut s.data.toList sep.data.toList).2.2]) ∧ ∃ n, w' = w.drewN n := Any.strings_Cut Tryz.lays145 s sep m w hs hm
def Tryz.lays146_ren : Go.Shelf.Ren := ⟨fun | 146 => 73 | 221 => 110 | 268 => 154 | 138 => 118 | 143 => 119 | 195 => 159 | 197 => 120 | 218 => 160 | 219 => 155 | 260 => 161 | 217 => 171 | 225 => 172 | 224 => 173 | 267 => 174 | 266 => 179 | 314 => 180 | n => n, fun | 9 => 9 | 31 => 45 | 3 => 3 | 4 => 4 | 0 => 0 | 105 => 162 | 21 => 21 | 5 => 5 | 46 => 111 | 119 => 213 | 139 => 216 | 138 => 215 | 146 => 167 | 51 => 83 | n => n, fun | 1 => 5 | 3 => 6 | 4 => 7 | n => n⟩
theorem Tryz.lays146 : Go.Proofs.Lays.n146 Tryz.prog Tryz.lays146_ren := {
  mixed := by kernel_rfl
  f138 := Tryz.func118.trans (congrArg some (by kernel_rfl))
  f143 := Tryz.func119.trans (congrArg some (by kernel_rfl))
  f146 := Tryz.func73.trans (congrArg some (by kernel_rfl))
  f195 := Tryz.func159.trans (congrArg some (by kernel_rfl))
  f197 := Tryz.func120.trans (congrArg some (by kernel_rfl))
  f217 := Tryz.func171.trans (congrArg some (by kernel_rfl))
  f218 := Tryz.func160.trans (congrArg some (by kernel_rfl))
  f219 := Tryz.func155.trans (congrArg some (by kernel_rfl))
  f221 := Tryz.func110.trans (congrArg some (by kernel_rfl))
  f224 := Tryz.func173.trans (congrArg some (by kernel_rfl))
  f225 := Tryz.func172.trans (congrArg some (by kernel_rfl))
  f260 := Tryz.func161.trans (congrArg some (by kernel_rfl))
  f266 := Tryz.func179.trans (congrArg some (by kernel_rfl))
  f267 := Tryz.func174.trans (congrArg some (by kernel_rfl))
  f268 := Tryz.func154.trans (congrArg some (by kernel_rfl))
  f314 := Tryz.func180.trans (congrArg some (by kernel_rfl))
  t0 := Tryz.underlying0
  a0 := Tryz.isAgg0
  z0 := Tryz.sizeOf0
  v0 := Tryz.zeroValue0
  t3 := Tryz.underlying3
  a3 := Tryz.isAgg3
  z3 := Tryz.sizeOf3
  v3 := Tryz.zeroValue3
  t4 := Tryz.underlying4
  a4 := Tryz.isAgg4
  z4 := Tryz.sizeOf4
  v4 := Tryz.zeroValue4
  t5 := Tryz.underlying5
  a5 := Tryz.isAgg5
  z5 := Tryz.sizeOf5
  v5 := Tryz.zeroValue5
  t9 := Tryz.underlying9
  a9 := Tryz.isAgg9
  z9 := Tryz.sizeOf9
  v9 := Tryz.zeroValue9
  t21 := Tryz.underlying21
  a21 := Tryz.isAgg21
  z21 := Tryz.sizeOf21
  v21 := Tryz.zeroValue21
  t31 := Tryz.underlying45
  a31 := Tryz.isAgg45
  z31 := Tryz.sizeOf45
  v31 := Tryz.zeroValue45
  t46 := Tryz.underlying111
  a46 := Tryz.isAgg111
  z46 := Tryz.sizeOf111
  v46 := Tryz.zeroValue111
  t51 := Tryz.underlying83
  a51 := Tryz.isAgg83
  z51 := Tryz.sizeOf83
  v51 := Tryz.zeroValue83
  t105 := Tryz.underlying162
  a105 := Tryz.isAgg162
  z105 := Tryz.sizeOf162
  v105 := Tryz.zeroValue162
  t119 := Tryz.underlying213
  a119 := Tryz.isAgg213
  z119 := Tryz.sizeOf213
  t138 := Tryz.underlying215
  a138 := Tryz.isAgg215
  z138 := Tryz.sizeOf215
  v138 := Tryz.zeroValue215
  t139 := Tryz.underlying216
  a139 := Tryz.isAgg216
  z139 := Tryz.sizeOf216
  v139 := Tryz.zeroValue216
  t146 := Tryz.underlying167
  a146 := Tryz.isAgg167
  z146 := Tryz.sizeOf167
  v146 := Tryz.zeroValue167
  g1 := by kernel_rfl
  g3 := by kernel_rfl
  g4 := by kernel_rfl }
open Go.RowKit Go.Lib in
theorem Tryz.strings_Split (s sep : ByteArray) (m : Int) (w : World) (hs : s.size < 4294967281) (hm : w.cell? ⟨5, 0, none⟩ = some (.int .i64 m)) (h1 : 1 ≤ sep.size) :
    Calls Tryz.prog 73 #[.string s, .string sep] w fun e w' =>
      e = .returned (.slice (some ⟨w.heap.size, 0, none⟩) (Lib.countB s sep + 1) (Lib.countB s sep + 1)) ∧ w' = w.alloc (.cells ((Lib.splitB sep 0 (Lib.countB s sep) s).map Value.string).toArray 9) := Any.strings_Split Tryz.lays146 (by kernel_rfl) s sep m w hs hm h1
def Tryz.lays155_ren : Go.Shelf.Ren := ⟨fun | 155 => 46 | 154 => 83 | 138 => 118 | 165 => 88 | 143 => 119 | 166 => 59 | 197 => 120 | 169 => 35 | 195 => 159 | 218 => 160 | 240 => 96 | 241 => 128 | 219 => 155 | 260 => 161 | 276 => 134 | 277 => 163 | 217 => 171 | 225 => 172 | 224 => 173 | 267 => 174 | 266 => 179 | 314 => 180 | n => n, fun | 9 => 9 | 3 => 3 | 4 => 4 | 72 => 63 | 0 => 0 | 76 => 78 | 105 => 162 | 21 => 21 | 5 => 5 | 70 => 60 | 20 => 20 | 37 => 61 | 75 => 77 | 127 => 100 | 164 => 175 | 46 => 111 | 119 => 213 | 139 => 216 | 138 => 215 | 146 => 167 | 51 => 83 | 80 => 69 | n => n, fun | 1 => 5 | 3 => 6 | 4 => 7 | n => n⟩
theorem Tryz.lays155 : Go.Proofs.Lays.n155 Tryz.prog Tryz.lays155_ren := {
  mixed := by kernel_rfl
  f138 := Tryz.func118.trans (congrArg some (by kernel_rfl))
  f143 := Tryz.func119.trans (congrArg some (by kernel_rfl))
  f154 := Tryz.func83.trans (congrArg some (by kernel_rfl))
  f155 := Tryz.func46.trans (congrArg some (by kernel_rfl))
  f165 := Tryz.func88.trans (congrArg some (by kernel_rfl))
  f166 := Tryz.func59.trans (congrArg some (by kernel_rfl))
  f169 := Tryz.func35.trans (congrArg some (by kernel_rfl))
  f195 := Tryz.func159.trans (congrArg some (by kernel_rfl))
  f197 := Tryz.func120.trans (congrArg some (by kernel_rfl))
  f217 := Tryz.func171.trans (congrArg some (by kernel_rfl))
  f218 := Tryz.func160.trans (congrArg some (by kernel_rfl))
  f219 := Tryz.func155.trans (congrArg some (by kernel_rfl))
  f224 := Tryz.func173.trans (congrArg some (by kernel_rfl))
  f225 := Tryz.func172.trans (congrArg some (by kernel_rfl))
  f240 := Tryz.func96.trans (congrArg some (by kernel_rfl))
  f241 := Tryz.func128.trans (congrArg some (by kernel_rfl))
  f260 := Tryz.func161.trans (congrArg some (by kernel_rfl))
  f266 := Tryz.func179.trans (congrArg some (by kernel_rfl))
  f267 := Tryz.func174.trans (congrArg some (by kernel_rfl))
  f276 := Tryz.func134.trans (congrArg some (by kernel_rfl))
  f277 := Tryz.func163.trans (congrArg some (by kernel_rfl))
  f314 := Tryz.func180.trans (congrArg some (by kernel_rfl))
  t0 := Tryz.underlying0
  a0 := Tryz.isAgg0
  z0 := Tryz.sizeOf0
  v0 := Tryz.zeroValue0
  t3 := Tryz.underlying3
  a3 := Tryz.isAgg3
  z3 := Tryz.sizeOf3
  v3 := Tryz.zeroValue3
  t4 := Tryz.underlying4
  a4 := Tryz.isAgg4
  z4 := Tryz.sizeOf4
  v4 := Tryz.zeroValue4
  t5 := Tryz.underlying5
  a5 := Tryz.isAgg5
  z5 := Tryz.sizeOf5
  v5 := Tryz.zeroValue5
  t9 := Tryz.underlying9
  a9 := Tryz.isAgg9
  z9 := Tryz.sizeOf9
  v9 := Tryz.zeroValue9
  t20 := Tryz.underlying20
  a20 := Tryz.isAgg20
  z20 := Tryz.sizeOf20
  v20 := Tryz.zeroValue20
  t21 := Tryz.underlying21
  a21 := Tryz.isAgg21
  z21 := Tryz.sizeOf21
  v21 := Tryz.zeroValue21
  t37 := Tryz.underlying61
  a37 := Tryz.isAgg61
  z37 := Tryz.sizeOf61
  v37 := Tryz.zeroValue61
  t46 := Tryz.underlying111
  a46 := Tryz.isAgg111
  z46 := Tryz.sizeOf111
  v46 := Tryz.zeroValue111
  t51 := Tryz.underlying83
  a51 := Tryz.isAgg83
  z51 := Tryz.sizeOf83
  v51 := Tryz.zeroValue83
  t70 := Tryz.underlying60
  a70 := Tryz.isAgg60
  z70 := Tryz.sizeOf60
  v70 := Tryz.zeroValue60
  t72 := Tryz.underlying63
  a72 := Tryz.isAgg63
  z72 := Tryz.sizeOf63
  v72 := Tryz.zeroValue63
  t75 := Tryz.underlying77
  a75 := Tryz.isAgg77
  z75 := Tryz.sizeOf77
  v75 := Tryz.zeroValue77
  t76 := Tryz.underlying78
  a76 := Tryz.isAgg78
  z76 := Tryz.sizeOf78
  v76 := Tryz.zeroValue78
  t105 := Tryz.underlying162
  a105 := Tryz.isAgg162
  z105 := Tryz.sizeOf162
  v105 := Tryz.zeroValue162
  t119 := Tryz.underlying213
  a119 := Tryz.isAgg213
  z119 := Tryz.sizeOf213
  t127 := Tryz.underlying100
  a127 := Tryz.isAgg100
  z127 := Tryz.sizeOf100
  v127 := Tryz.zeroValue100
  t138 := Tryz.underlying215
  a138 := Tryz.isAgg215
  z138 := Tryz.sizeOf215
  v138 := Tryz.zeroValue215
  t139 := Tryz.underlying216
  a139 := Tryz.isAgg216
  z139 := Tryz.sizeOf216
  v139 := Tryz.zeroValue216
  t146 := Tryz.underlying167
  a146 := Tryz.isAgg167
  z146 := Tryz.sizeOf167
  v146 := Tryz.zeroValue167
  t164 := Tryz.underlying175
  a164 := Tryz.isAgg175
  z164 := Tryz.sizeOf175
  v164 := Tryz.zeroValue175
  g1 := by kernel_rfl
  g3 := by kernel_rfl
  g4 := by kernel_rfl }
theorem Tryz.Builder_Extra_155 : Builder.Extra Tryz.prog Tryz.lays155_ren := {
  sizeBuilder := by kernel_rfl
  liesBuilder := by kernel_rfl
  t5 := Tryz.underlying5
  a5 := Tryz.isAgg5
  z5 := Tryz.sizeOf5
  v5 := Tryz.zeroValue5
  infoByte := by kernel_rfl
  cellsByte := by kernel_rfl
  sizeByte := by kernel_rfl
  neB5 := by decide }
open Go.RowKit Go.Lib in
theorem Tryz.strings_ReplaceAll (s old new : ByteArray) (m : Int) (w : World) (hs : s.size < 4294967281) (hm : w.cell? ⟨5, 0, none⟩ = some (.int .i64 m)) (h1 : 1 ≤ old.size) (hlen : s.size + Lib.countB s old * new.size ≤ 140737488355328) :
    Calls Tryz.prog 46 #[.string s, .string old, .string new] w fun e w' =>
      e = .returned (.string ⟨(Lib.replaceAll s.data.toList old.data.toList new.data.toList).toArray⟩) ∧ Below w.heap.size w w' := Any.strings_ReplaceAll Tryz.lays155 Tryz.Builder_Extra_155 s old new m w hs hm h1 hlen
end Go.Proofs

/- The lines of a text, told by their names, in the program. -/
namespace Go.Proofs.YtlicdeppfhmfjaaGreatDoor.rcg
open Go.Proofs.YtlicdeppfhmfjaaGreatDoor.rcp (putL foldL fold_snoc found cut_len)
open Go.RowKit
open Go.Maps (Keyed IsMap)
open Go.WideMaps (keyOf_string_mk)
set_option maxRecDepth 100000
set_option linter.unusedVariables false
set_option linter.unusedSimpArgs false

/-- How an element reads: a struct with one text. -/
def RE (v : Value) : Option (DataW Unit × List MemPlace) := match v with
  | .agg cs => match cs.toList with
    | [.string s] => some (.lit (.string s.data.toList), [])
    | _ => none
  | _ => none
theorem RE_mk (s : ByteArray) : RE (.agg #[.string s]) = some (.lit (.string s.data.toList), []) := rfl
theorem RE_inv {v : Value} {d : DataW Unit} {ps : List MemPlace} (h : RE v = some (d, ps)) : ∃ s : ByteArray, v = .agg #[.string s] ∧ d = .lit (.string s.data.toList) := by
  cases v with
  | agg cs =>
    cases cs with
    | mk l =>
      match l, h with
      | [.string s], h =>
        have h' : (DataW.lit (.string s.data.toList), ([] : List MemPlace)) = (d, ps) := Option.some.inj h
        injection h' with h1 h2
        exact ⟨s, rfl, h1.symm⟩
  | _ => cases h
/-- The map in block b: what it tells of each name. -/
def Fd (w : World) (b c : Nat) (F : List UInt8 → List UInt8) : Prop :=
  ∃ D, w.ownsMap Tryz.prog 9 RE b c D ∧ IsMap D ∧ (∀ k, D.atKey (.string k) (.lit (.string [])) = .lit (.string (F k)))
theorem keyS : Keyed Tryz.prog 9 := Maps.string_keyed Tryz.underlying9
theorem own_next {w w' : World} {b n : Nat} {D : DataW Unit} (h : w.ownsMap Tryz.prog 9 RE b n D) (hb : Below w.heap.size w w') : w'.ownsMap Tryz.prog 9 RE b n D := by
  have hl := h.lt
  obtain ⟨es, c, h1, h2, h3, h4⟩ := h
  exact ⟨es, c, by rw [hb.block b hl]; exact h1, h2, h3, h4⟩
theorem Fd.next {w w' : World} {b c : Nat} {F : List UInt8 → List UInt8} (h : Fd w b c F) (hb : Below w.heap.size w w') : Fd w' b c F := by
  obtain ⟨D, h2, h3, h4⟩ := h
  exact ⟨D, own_next h2 hb, h3, h4⟩
theorem Fd.lt {w : World} {b c : Nat} {F : List UInt8 → List UInt8} (h : Fd w b c F) : b < w.heap.size := by
  obtain ⟨D, h2, h3, h4⟩ := h
  exact h2.lt
theorem zeroB (w : World) : (zeroValue 75).run Tryz.prog w = .ok (.agg #[.string ByteArray.empty]) w := by kernel_rfl
/-- A name is looked up. -/
theorem Fd.look {w : World} {b c : Nat} {F : List UInt8 → List UInt8} (h : Fd w b c F) (k : ByteArray) (hk : k.size ≤ 1000) :
    (Instr.lookup 72 (.map (some b)) (.string k) false).run Tryz.prog w = .ok (.agg #[.string ⟨(F k.data.toList).toArray⟩]) w := by
  obtain ⟨D, h2, h3, h4⟩ := h
  obtain ⟨v, ps, hrun, hv⟩ := h2.lookup keyS Tryz.underlying72 (zeroB w) (RE_mk _) (keyOf_string_mk Tryz.underlying9 (s := k) (by unfold maxLen; omega))
  have e : D.atKey (.string k.data.toList) (.lit (.string ByteArray.empty.data.toList)) = .lit (.string (F k.data.toList)) := h4 _
  rw [e] at hv
  obtain ⟨s, rfl, hs⟩ := RE_inv hv
  injection hs with hs
  injection hs with hs
  rw [hrun, hs]
/-- The length of the library's greatest text for a quick look: whatever it is. -/
def XL (w : World) : Prop := ∃ m, w.cell? ⟨5, 0, none⟩ = some (.int .i64 m)
theorem XL.below {w w' : World} (h : XL w) (hb : Below w.heap.size w w') : XL w' := by
  obtain ⟨m, hm⟩ := h
  exact ⟨m, by rw [hb.cell (World.block_lt_of_cell? w _ hm)]; exact hm⟩
theorem Fd.new (w : World) : Fd (w.alloc (.map #[] 0)) w.heap.size 0 (fun _ => []) :=
  ⟨.map [], World.ownsMap_made w _ _ _, Maps.isMap_empty, fun k => rfl⟩
theorem Fd.put {w' : World} {b c : Nat} {F : List UInt8 → List UInt8} {D : DataW Unit} {K T : List UInt8} (hD : IsMap D) (hF : ∀ k, D.atKey (.string k) (.lit (.string [])) = .lit (.string (F k)))
    (h : w'.ownsMap Tryz.prog 9 RE b c (D.put (.string K) (.lit (.string T)))) : Fd w' b c (fun k => if k = K then T else F k) := by
  refine ⟨_, h, hD.put _ _, fun k => ?_⟩
  by_cases hk : k = K
  · subst hk
    rw [Maps.atKey_put_same hD (by first | trivial | simp [WideAt.IsKeyLit] | exact ⟨_, rfl⟩)]; dsimp only; rw [if_pos rfl]
  · rw [Maps.atKey_put_other (fun e => hk (by injection e)), hF]; dsimp only; rw [if_neg hk]
theorem run_mk (w : World) : (Instr.makeMap 72 none).run Tryz.prog w = .ok (.map (some w.heap.size)) (w.alloc (.map #[] 0)) := by kernel_rfl
/-- The lines of a text. -/
def pcs (s : ByteArray) : List ByteArray := Lib.splitB ⟨#[10]⟩ 0 (Lib.countB s ⟨#[10]⟩) s
theorem pcs_list (s : ByteArray) : (pcs s).map (·.data.toList) = Lib.splitK [10] 0 (Lib.count s.data.toList [10]) s.data.toList := Lib.splitB_data _ _ _ _
theorem pcs_len (s : ByteArray) : (pcs s).length = Lib.countB s ⟨#[10]⟩ + 1 := Lib.splitB_all _ (by decide) 0 _ s rfl
theorem splitB_small (sep : ByteArray) : ∀ (k : Nat) (s x : ByteArray), x ∈ Lib.splitB sep 0 k s → x.size ≤ s.size
  | 0, s, x, h => by
    have : x = s := by simpa [Lib.splitB] using h
    rw [this]; exact Nat.le_refl _
  | k + 1, s, x, h => by
    unfold Lib.splitB at h
    split at h
    · have : x = s := by simpa using h
      rw [this]; exact Nat.le_refl _
    · rcases List.mem_cons.1 h with rfl | h
      · rw [ByteArray.size_extract]; omega
      · have := splitB_small sep k _ x h
        rw [ByteArray.size_extract] at this
        omega
theorem pcs_small (s x : ByteArray) (h : x ∈ pcs s) : x.size ≤ s.size := splitB_small _ _ s x h
def pfx (s : ByteArray) (i : Nat) : List UInt8 → List UInt8 := foldL (((pcs s).take i).map (·.data.toList))
theorem pfx_next (s : ByteArray) (i : Nat) (h : i < (pcs s).length) : pfx s (i + 1) = putL (pfx s i) ((pcs s).getD i ByteArray.empty).data.toList := by
  unfold pfx
  rw [List.take_succ_eq_append_getElem h, List.map_append, List.map_singleton, fold_snoc]
  simp [List.getD, h]
theorem pfx_all (s : ByteArray) : pfx s (pcs s).length = found s.data.toList := by
  unfold pfx found
  rw [List.take_of_length_le (Nat.le_refl _), pcs_list]

theorem fold_small (M : Nat) : ∀ (ls : List (List UInt8)), (∀ l ∈ ls, l.length ≤ M) → ∀ (F : List UInt8 → List UInt8), (∀ k, (F k).length ≤ M) → ∀ k, (ls.foldl putL F k).length ≤ M
  | [], _, F, hF, k => hF k
  | l :: ls, hl, F, hF, k => by
    rw [List.foldl_cons]
    refine fold_small M ls (fun x hx => hl x (List.mem_cons_of_mem _ hx)) _ (fun k => ?_) k
    unfold putL
    split
    · exact Nat.le_trans (cut_len l) (hl l (by simp))
    · exact hF k
theorem found_small (s : ByteArray) (k : List UInt8) : (found s.data.toList k).length ≤ s.size := by
  rw [← pfx_all]
  unfold pfx foldL
  refine fold_small s.size _ (fun l hl => ?_) _ (fun _ => Nat.zero_le _) k
  obtain ⟨x, hx, rfl⟩ := List.mem_map.1 hl
  have := pcs_small s x (List.mem_of_mem_take hx)
  rw [Array.length_toList]
  exact this

set_option maxHeartbeats 2000000 in
theorem named_any (s : ByteArray) (w : World) (hs : s.size ≤ 400) (hx : XL w) :
    Calls Tryz.prog 40 #[.string s] w fun e w' => ∃ b c, e = .returned (.map (some b)) ∧ Fd w' b c (found s.data.toList) ∧ w.heap.size ≤ b ∧ Below w.heap.size w w' := by
  have hcb := Lib.countB_le ⟨#[10]⟩ (by decide) s.size s (Nat.le_refl _)
  have hpl := pcs_len s
  have hn400 : (pcs s).length ≤ 401 := by omega
  have HXL : Hid (∀ w', Below w.heap.size w w' → XL w') := fun w' hb => hx.below hb
  have HW1 : Hid (Below w.heap.size w (w.alloc (.map #[] 0))) := (Below.refl _ _).alloc (Nat.le_refl _) _
  obtain ⟨m1, hm1⟩ := HXL.out _ HW1.out
  have HSP := Tryz.strings_Split s ⟨#[10]⟩ m1 (w.alloc (.map #[] 0)) (by omega) hm1 (by decide)
  rw [show Lib.splitB ⟨#[10]⟩ 0 (Lib.countB s ⟨#[10]⟩) s = pcs s from rfl, ← hpl] at HSP
  have hmk := run_mk
  have HF1 : Hid (Fd (w.alloc (.map #[] 0)) w.heap.size 0 (fun _ => [])) := Fd.new w
  clear hx hm1 hcb
  go_enter Tryz.func40, Tryz.ntmps40
  go_upto_region 2 with fail
  clear hmk
  have hgs : (w.alloc (.map #[] 0)).heap.size = w.heap.size + 1 := by simp
  generalize w.alloc (.map #[] 0) = W1 at *
  go_wp2_with fail
  refine HSP.mono ?_
  rintro e W2 ⟨rfl, rfl⟩
  have HBC : Hid (Blk (W1.alloc (.cells ((pcs s).map Value.string).toArray 9)) W1.heap.size ((pcs s).map Value.string).toArray 9) := Blk.new _ _ _
  have HF2 : Hid (Fd (W1.alloc (.cells ((pcs s).map Value.string).toArray 9)) w.heap.size 0 (pfx s 0)) := HF1.out.next ((Below.refl _ _).alloc (Nat.le_refl _) _)
  have HB2 : Hid (Below w.heap.size w (W1.alloc (.cells ((pcs s).map Value.string).toArray 9))) := HW1.out.alloc HW1.out.size _
  have HNE : Hid (W1.heap.size ≠ w.heap.size) := by show _ ≠ _; omega
  clear HSP HF1 HW1 hpl hgs
  generalize hW2 : W1.alloc (.cells ((pcs s).map Value.string).toArray 9) = W2 at *
  clear hW2
  generalize W1.heap.size = gs at *
  have HPS : Hid (∀ i, i < (pcs s).length → ((pcs s).getD i ByteArray.empty).size ≤ 400) := fun i hi => by
    have e : (pcs s).getD i ByteArray.empty = (pcs s)[i] := by simp [List.getD, hi]
    rw [e]
    exact Nat.le_trans (pcs_small s _ (List.getElem_mem hi)) hs
  generalize hN : (pcs s).length = N at *
  have HN : Hid ((pcs s).length = N) := hN
  clear hN hs
  go_wp2_with fail
  go_loopw [13] (fun v13 wr => ∃ i : Nat, i ≤ N ∧ v13 = .int .i64 (i : Int) ∧ Fd wr w.heap.size i (pfx s i) ∧ Blk wr gs ((pcs s).map Value.string).toArray 9 ∧ Below w.heap.size w wr) (fun z _ => N - (intOf z).toNat)
  case atStart => exact ⟨0, Nat.zero_le _, rfl, HF2.out, HBC.out, HB2.out⟩
  case round =>
    obtain ⟨i, hi, rfl, hf, hbc, hbl⟩ := hrel
    have HF : Hid (Fd wr w.heap.size i (pfx s i)) := hf
    have HC : Hid (Blk wr gs ((pcs s).map Value.string).toArray 9) := hbc
    have HB : Hid (Below w.heap.size w wr) := hbl
    clear hf hbc hbl HF2 HBC HB2
    by_cases hlt : i < N
    · have hcell : wr.cell? ⟨gs, i, none⟩ = some (.string ((pcs s).getD i ByteArray.empty)) := by
        rw [HC.out.cell i]
        have hi' : i < (pcs s).length := by have := HN.out; omega
        simp [List.getD, hi']
      have HNX : Hid (pfx s (i + 1) = putL (pfx s i) ((pcs s).getD i ByteArray.empty).data.toList) := pfx_next s i (by have := HN.out; omega)
      have hL4 := HPS.out i (by have := HN.out; omega)
      generalize (pcs s).getD i ByteArray.empty = L at *
      obtain ⟨m, hm⟩ := HXL.out wr HB.out
      have HCU := Tryz.strings_Cut L ⟨#[32]⟩ m wr (by omega) hm
      have hb1 : ((⟨(Lib.cut L.data.toList [32]).1.toArray⟩ : ByteArray)).size ≤ 1000 := by
        show (Lib.cut L.data.toList [32]).1.length ≤ 1000
        have hl : L.data.toList.length = L.size := Array.length_toList
        unfold Lib.cut
        split
        · simp; omega
        · simp; omega
      clear hm
      have HP : Hid (pfx s (i + 1) = fun k => if k = (⟨(Lib.cut L.data.toList [32]).1.toArray⟩ : ByteArray).data.toList then (⟨(Lib.cut L.data.toList [32]).2.1.toArray⟩ : ByteArray).data.toList else pfx s i k) := HNX.out
      have e32 : (⟨#[32]⟩ : ByteArray).data.toList = [32] := rfl
      rw [e32] at HCU
      generalize (⟨(Lib.cut L.data.toList [32]).1.toArray⟩ : ByteArray) = K at *
      generalize (⟨(Lib.cut L.data.toList [32]).2.1.toArray⟩ : ByteArray) = T at *
      generalize (Lib.cut L.data.toList [32]).2.2 = fnd at *
      clear HNX e32 hL4
      have hkey : keyOf Tryz.prog 9 (.string K) = some (.string K.data.toList) := keyOf_string_mk Tryz.underlying9 (s := K) (by unfold maxLen; omega)
      go_wp2_with fail
      refine HCU.mono ?_
      rintro e w1 ⟨rfl, q, rfl⟩
      clear HCU
      obtain ⟨D, hown, hD, hF⟩ := HF.out
      have HD : Hid (IsMap D) := hD
      have HFK : Hid (∀ k, D.atKey (.string k) (.lit (.string [])) = .lit (.string (pfx s i k))) := hF
      have hown1 : (wr.drewN q).ownsMap Tryz.prog 9 RE w.heap.size i D := hown
      have HC1 : Hid (Blk (wr.drewN q) gs ((pcs s).map Value.string).toArray 9) := HC.out
      have HB1 : Hid (Below w.heap.size w (wr.drewN q)) := bel_drew HB.out q
      clear hD hF hown HF HC HB hcell
      generalize wr.drewN q = wq at *
      go_wp2_with (first | (at_mapUpdate; refine wpList_mapUpdate_own _ rfl _ _ _ 72 rfl 9 75 keyS Tryz.underlying72 RE w.heap.size i D rfl hown1 (by unfold maxLen; omega) _ _ (.string K.data.toList) rfl rfl hkey (.lit (.string T.data.toList)) [] (RE_mk T) ?_; intro w2 hown2 hg2; have HF2 : Hid (Fd w2 w.heap.size (i + 1) (pfx s (i + 1))) := (by show Fd _ _ _ _; rw [HP.out]; exact Fd.put HD.out HFK.out hown2); have HC2 : Hid (Blk w2 gs ((pcs s).map Value.string).toArray 9) := ((hg2.block gs HC1.out.lt (fun e => HNE.out (by injection e))).trans HC1.out); have HB2 : Hid (Below w.heap.size w w2) := HB1.out.grown hg2 HB1.out.size (fun k hk => by injection hk with hk; omega); clear hown1 hown2 hg2 HP HC1 HB1) | fail)
      go_roundw
      case rel => exact ⟨i + 1, by omega, by go_num, HF2.out, HC2.out, HB2.out⟩
      case measure => simp [intOf]; omega
    · have HFF : Hid (Fd wr w.heap.size i (found s.data.toList)) := by
        have e : i = (pcs s).length := by have := HN.out; omega
        show Fd _ _ _ _
        rw [← pfx_all, ← e]
        exact HF.out
      clear HF
      go_wp2_with fail
      go_ret
      exact ⟨_, _, rfl, HFF.out, Nat.le_refl _, HB.out⟩

end Go.Proofs.YtlicdeppfhmfjaaGreatDoor.rcg

/- Texts of digits: what flaw gives back. -/
namespace Go.Proofs.YtlicdeppfhmfjaaGreatDoor.check
open Go.RowKit

set_option maxHeartbeats 400000 in
theorem flaw_any (s : ByteArray) (w : World) :
    Calls Tryz.prog 97 #[.string s] w fun e w' => e = .returned (.int .i64 (flawR s.data.toList)) ∧ Below w.heap.size w w' := by
  have el := ByteArray.toList_eq s
  have ln := len_eq s
  by_cases h0 : s.size = 0
  · rw [flawR_size (.inl (by omega))]
    have e : (s.toList == []) = true := by rw [el, List.eq_nil_of_length_eq_zero (by omega : s.data.toList.length = 0)]; rfl
    clear el ln
    go_enter Tryz.func97, Tryz.ntmps97
    go_wp2
    go_ret
    exact ⟨rfl, Below.refl _ _⟩
  · have e : (s.toList == []) = false := by
      rw [el]; cases hl : s.data.toList with
      | nil => rw [hl] at ln; simp at ln; omega
      | cons a r => rfl
    by_cases h2 : 200 < s.size
    · rw [flawR_size (.inr (by omega))]
      have h3 : (200 : Int) < (s.size : Int) := by omega
      clear el ln
      go_enter Tryz.func97, Tryz.ntmps97
      go_wp2
      go_ret
      exact ⟨rfl, Below.refl _ _⟩
    · have h3 : ¬ (200 : Int) < (s.size : Int) := by omega
      have HS : Hid (¬ (s.data.toList.length = 0 ∨ 200 < s.data.toList.length)) := by intro h; omega
      clear el ln
      go_enter Tryz.func97, Tryz.ntmps97
      go_wp2
      go_loopw [] (fun wr => ∃ k : Nat, k ≤ s.size ∧ wr = w.iter s k ∧ allD (s.data.toList.take k) = true) (fun wr => s.size - wr.iterPos w.heap.size)
      case atStart => exact ⟨0, Nat.zero_le _, rfl, rfl⟩
      case round =>
        obtain ⟨k, hk, rfl, hok⟩ := hrel
        have HK : Hid (allD (s.data.toList.take k) = true) := hok
        clear hok
        by_cases hp : k < s.size
        · by_cases ha : (s[k]'hp).toNat < 128
          · have hnx : ∀ ty, (Instr.next (.pointer (some ⟨w.heap.size, 0, none⟩)) true ty).run Tryz.prog (w.iter s k) = _ := fun ty => run_next_ascii w s k ty hp ha
            have HT : Hid (s.data.toList.take (k + 1) = s.data.toList.take k ++ [s[k]]) := take_snoc s k hp
            have HN : Hid (isD s[k] = false → allD s.data.toList = false) := allD_take_no s k hp
            have HY : Hid (48 ≤ ((s[k].toNat : Nat) : Int) → ((s[k].toNat : Nat) : Int) ≤ 57 → isD s[k] = true) := fun a b => isD_yes a b
            have HL : Hid (((s[k].toNat : Nat) : Int) < 48 → isD s[k] = false) := fun a => isD_lo a
            have HH : Hid (57 < ((s[k].toNat : Nat) : Int) → isD s[k] = false) := fun a => isD_hi a
            clear ha
            generalize s[k] = c at *
            generalize hcc : ((c.toNat : Nat) : Int) = z at *
            clear hcc
            by_cases h1 : z < 48
            · go_wp2
              go_ret
              exact ⟨ret_int (flawR_no HS.out (HN.out (HL.out h1))).symm, iter_below _ _ _⟩
            · by_cases h2 : 57 < z
              · go_wp2
                go_ret
                exact ⟨ret_int (flawR_no HS.out (HN.out (HH.out h2))).symm, iter_below _ _ _⟩
              · go_wp2
                go_roundw
                case rel => exact ⟨k + 1, by omega, rfl, by rw [HT.out, allD_append, HK.out]; simp [allD, HY.out (by omega) (by omega)]⟩
                case measure => simp; omega
          · have hd := (decode_high s k hp (by omega)).1
            have hnx : ∀ ty, (Instr.next (.pointer (some ⟨w.heap.size, 0, none⟩)) true ty).run Tryz.prog (w.iter s k) = _ := fun ty => run_next_any w s k ty hp
            have HN : Hid (allD s.data.toList = false) := allD_take_no s k hp (isD_hi (by omega))
            clear ha
            have hd2 := decode_le s k
            generalize (Utf8.decode s k).1 = r at *
            generalize (Utf8.decode s k).2 = n at *
            go_wp2
            go_ret
            exact ⟨ret_int (flawR_no HS.out HN.out).symm, iter_below _ _ _⟩
        · have hnx : ∀ ty, (Instr.next (.pointer (some ⟨w.heap.size, 0, none⟩)) true ty).run Tryz.prog (w.iter s k) = _ := fun ty => run_next_end w s k ty hp
          go_wp2
          go_ret
          refine ⟨ret_int ?_, iter_below _ _ _⟩
          have := HK.out
          rw [List.take_of_length_le (by simp; omega)] at this
          exact (flawR_ok HS.out this).symm

theorem value_any (z : Int) (w : World) (h1 : 48 ≤ z) (h2 : z ≤ 57) :
    Calls Tryz.prog 165 #[.int .i32 z] w fun e w' => e = .returned (.int .i64 (z - 48)) ∧ w' = w := by
  go_enter Tryz.func165, Tryz.ntmps165
  go_wp2
  go_ret
  exact ⟨rfl, rfl⟩

end Go.Proofs.YtlicdeppfhmfjaaGreatDoor.check

/- The motions of a pentagon: what Mul and Inv give back. -/
namespace Go.Proofs.YtlicdeppfhmfjaaGreatDoor.check
open Go.RowKit

theorem flips_yes (n : Int) (w : World) (h : 5 ≤ n) :
    Calls Tryz.prog 138 #[.int .i64 n] w fun e w' => e = .returned (.bool true) ∧ w' = w := by
  go_enter Tryz.func138, Tryz.ntmps138
  go_wp2
  go_ret
  exact ⟨rfl, rfl⟩
theorem flips_no (n : Int) (w : World) (h : n < 5) :
    Calls Tryz.prog 138 #[.int .i64 n] w fun e w' => e = .returned (.bool false) ∧ w' = w := by
  have h1 : decide (5 ≤ n) = false := by simp; omega
  go_enter Tryz.func138, Tryz.ntmps138
  go_wp2
  go_ret
  exact ⟨rfl, rfl⟩

theorem mul_form (a b : Nat) (ha : a < 10) (hb : b < 10) : ((mulN a b : Nat) : Int) =
    if (a : Int) < 5 then (if (b : Int) < 5 then ((a : Int) + b) % 5 else 5 + ((a : Int) + b) % 5)
    else (if (b : Int) < 5 then 5 + ((a : Int) - (b : Int)) % 5 else ((a : Int) % 5 - (b : Int) % 5 + 5) % 5) := by
  unfold mulN
  split <;> split <;> (first | omega | (rw [if_pos (by omega), if_pos (by omega)]; omega) | (rw [if_pos (by omega), if_neg (by omega)]; omega) | (rw [if_neg (by omega), if_pos (by omega)]; omega) | (rw [if_neg (by omega), if_neg (by omega)]; omega))

set_option maxHeartbeats 400000 in
theorem then_ll (x y : Int) (w : World) (x0 : 0 ≤ x) (x1 : x < 5) (y0 : 0 ≤ y) (y1 : y < 5) :
    Calls Tryz.prog 137 #[.int .i64 x, .int .i64 y] w fun e w' => e = .returned (.int .i64 ((x + y) % 5)) ∧ w' = w := by
  go_enter Tryz.func137, Tryz.ntmps137
  go_wp2
  go_ret
  exact ⟨rfl, rfl⟩
set_option maxHeartbeats 400000 in
theorem then_lh (x y : Int) (w : World) (x0 : 0 ≤ x) (x1 : x < 5) (y0 : 5 ≤ y) (y1 : y < 10) :
    Calls Tryz.prog 137 #[.int .i64 x, .int .i64 y] w fun e w' => e = .returned (.int .i64 (5 + (x + y) % 5)) ∧ w' = w := by
  go_enter Tryz.func137, Tryz.ntmps137
  go_wp2
  go_ret
  exact ⟨rfl, rfl⟩
set_option maxHeartbeats 400000 in
theorem then_hl (x y : Int) (w : World) (x0 : 5 ≤ x) (x1 : x < 10) (y0 : 0 ≤ y) (y1 : y < 5) :
    Calls Tryz.prog 137 #[.int .i64 x, .int .i64 y] w fun e w' => e = .returned (.int .i64 (5 + (x - y) % 5)) ∧ w' = w := by
  have hd : decide (5 ≤ y) = false := by simp; omega
  go_enter Tryz.func137, Tryz.ntmps137
  go_wp2
  go_ret
  exact ⟨rfl, rfl⟩
set_option maxHeartbeats 400000 in
theorem then_hh (x y : Int) (w : World) (x0 : 5 ≤ x) (x1 : x < 10) (y0 : 5 ≤ y) (y1 : y < 10) :
    Calls Tryz.prog 137 #[.int .i64 x, .int .i64 y] w fun e w' => e = .returned (.int .i64 ((x % 5 - y % 5 + 5) % 5)) ∧ w' = w := by
  go_enter Tryz.func137, Tryz.ntmps137
  go_wp2
  go_ret
  exact ⟨rfl, rfl⟩

theorem then_any (a b : Nat) (w : World) (ha : a < 10) (hb : b < 10) :
    Calls Tryz.prog 137 #[.int .i64 (a : Int), .int .i64 (b : Int)] w fun e w' => e = .returned (.int .i64 ((mulN a b : Nat) : Int)) ∧ w' = w := by
  rw [mul_form a b ha hb]
  by_cases h1 : (a : Int) < 5
  · by_cases h2 : (b : Int) < 5
    · rw [if_pos h1, if_pos h2]; exact then_ll _ _ w (by omega) h1 (by omega) h2
    · rw [if_pos h1, if_neg h2]; exact then_lh _ _ w (by omega) h1 (by omega) (by omega)
  · by_cases h2 : (b : Int) < 5
    · rw [if_neg h1, if_pos h2]; exact then_hl _ _ w (by omega) (by omega) (by omega) h2
    · rw [if_neg h1, if_neg h2]; exact then_hh _ _ w (by omega) (by omega) (by omega) (by omega)

theorem undo_any (a : Nat) (w : World) (ha : a < 10) :
    Calls Tryz.prog 99 #[.int .i64 (a : Int)] w fun e w' => e = .returned (.int .i64 ((invN a : Nat) : Int)) ∧ w' = w := by
  by_cases h : a < 5
  · have e : ((invN a : Nat) : Int) = (5 - (a : Int)) % 5 := by unfold invN; rw [if_pos h]; omega
    rw [e]
    have x0 : (0 : Int) ≤ a := by omega
    have x1 : (a : Int) < 5 := by omega
    clear e h ha
    generalize (a : Int) = x at *
    go_enter Tryz.func99, Tryz.ntmps99
    go_wp2
    go_ret
    exact ⟨rfl, rfl⟩
  · have e : ((invN a : Nat) : Int) = (a : Int) := by unfold invN; rw [if_neg h]
    rw [e]
    have x1 : 5 ≤ (a : Int) := by omega
    clear e h ha
    generalize (a : Int) = x at *
    go_enter Tryz.func99, Tryz.ntmps99
    go_wp2
    go_ret
    exact ⟨rfl, rfl⟩

end Go.Proofs.YtlicdeppfhmfjaaGreatDoor.check

/- Where a digit comes to, and the motions of a text. -/
namespace Go.Proofs.YtlicdeppfhmfjaaGreatDoor.check
open Go.RowKit

/-- The table of the moves, in memory. -/
def MTab (w : World) : Prop := ∀ d, d < 10 → w.cell? ⟨8, d, none⟩ = some (.int .i64 ((mv1 d : Nat) : Int))
theorem MTab.below {w w' : World} (h : MTab w) (hb : Below w.heap.size w w') : MTab w' := fun d hd => by
  have h1 := h d hd
  rw [hb.cell (World.block_lt_of_cell? w _ h1)]; exact h1
theorem mtab_of {w : World} {name : String} (hg : Tryz.prog.globalNamed name = some 8) (h : Lib.TabIs Tryz.prog w name .i64 [1, 5, 7, 6, 2, 8, 3, 0, 9, 4]) : MTab w := by
  unfold Lib.TabIs World.var? at h
  rw [hg] at h
  simp only [Option.bind_some] at h
  intro d hd
  split at h
  · rename_i cs t fr hc
    have hcs := Option.some.inj h
    simp only [World.cell?, hc]
    rw [hcs]
    have : ∀ d, d < 10 → (List.map (fun z => Value.int .i64 z) [1, 5, 7, 6, 2, 8, 3, 0, 9, 4]).toArray[d]? = some (Value.int .i64 ((mv1 d : Nat) : Int)) := by
      intro d hd
      match d, hd with
      | 0, _ | 1, _ | 2, _ | 3, _ | 4, _ | 5, _ | 6, _ | 7, _ | 8, _ | 9, _ => rfl
    simpa using this d hd
  · cases h

set_option maxHeartbeats 400000 in
theorem moved_any (d place : Nat) (w : World) (hd : d < 10) (hp : place ≤ 1000) (ht : MTab w) :
    Calls Tryz.prog 164 #[.int .i64 (d : Int), .int .i64 (place : Int)] w fun e w' => e = .returned (.int .i64 ((mvN (place % 8) d : Nat) : Int)) ∧ w' = w := by
  have e8 : ((place : Nat) : Int) % 8 = ((place % 8 : Nat) : Int) := by omega
  have hm : place % 8 < 8 := Nat.mod_lt _ (by decide)
  have HT : Hid (MTab w) := ht
  clear ht
  generalize hq : place % 8 = q at *
  clear hq
  go_enter Tryz.func164, Tryz.ntmps164
  go_wp2_with fail
  go_loop [0, 7] (fun v i => ∃ k : Nat, k ≤ q ∧ i = .int .i64 (k : Int) ∧ v = .int .i64 ((mvN k d : Nat) : Int)) (fun _ i => q - (intOf i).toNat)
  case atStart => exact ⟨0, Nat.zero_le _, rfl, rfl⟩
  case round =>
    obtain ⟨k, hk, rfl, rfl⟩ := hrel
    have hx := mvN_lt k d hd
    have HS : Hid (mvN (k + 1) d = mv1 (mvN k d)) := rfl
    by_cases hlt : k < q
    · have hcell := HT.out (mvN k d) hx
      generalize mvN k d = x at *
      generalize mv1 x = y at *
      go_wp2_with fail
      go_round
      case rel => exact ⟨k + 1, by omega, by go_num, by rw [HS.out]⟩
      case measure => simp [intOf]; omega
    · have hkq : k = q := by omega
      rw [hkq]
      generalize hgx : mvN q d = x at *
      have HG : Hid (mvN q d = x) := hgx
      clear hkq hgx
      go_wp2_with fail
      go_ret
      exact ⟨by rw [HG.out]; rfl, rfl⟩

/-- Block g holds the n motions f. -/
def RowM (w : World) (g n : Nat) (f : Nat → Nat) : Prop := w.heap[g]? = some (.cells ((List.range n).map fun i => Value.int .i64 ((f i : Nat) : Int)).toArray 141 (0, 0))
variable {w w' : World} {g n : Nat} {f : Nat → Nat}
theorem RowM.cell (h : RowM w g n f) {i : Nat} (hi : i < n) : w.cell? ⟨g, i, none⟩ = some (.int .i64 ((f i : Nat) : Int)) := by unfold RowM at h; simp [World.cell?, h, hi]
theorem RowM.free (h : RowM w g n f) (i : Nat) : w.frozen? ⟨g, i, none⟩ = false := by unfold RowM at h; simp [World.frozen?, h]
def updM (f : Nat → Nat) (i v : Nat) : Nat → Nat := fun k => if k = i then v else f k
theorem RowM.set (h : RowM w g n f) (i v : Nat) : RowM (w.setCell ⟨g, i, none⟩ (.int .i64 ((v : Nat) : Int))) g n (updM f i v) := by
  unfold RowM at *
  simp only [World.setCell, Array.getElem?_modify, h, if_true, Option.map_some]
  congr 2
  simp only [Option.isSome_none, Bool.false_eq_true, if_false]
  apply Array.ext'
  simp only [Array.toList_setIfInBounds]
  apply List.ext_getElem?
  intro k
  by_cases hk : k < n
  · by_cases e : k = i
    · subst e; simp [updM, hk]
    · rw [List.getElem?_set_ne (by omega)]; simp [updM, hk, e]
  · rw [List.getElem?_eq_none (by simp; omega), List.getElem?_eq_none (by simp; omega)]
theorem rowM_made {w1 : World} {n g base : Nat} (h : w1.ownsRow base 141 1 (.slice (some ⟨g, 0, none⟩) n n) n (madeCells #[Value.int .i64 0] n).toList) : RowM w1 g n (fun _ => 0) := by
  rcases h.2 with ⟨h1, _⟩ | ⟨g', cap, cur, h1, _, h2, _, _, h3, h4⟩
  · cases h1
  · simp only [Value.slice.injEq, Option.some.injEq, Addr.mk.injEq] at h1
    obtain ⟨⟨rfl, -⟩, -, rfl⟩ := h1
    unfold RowM
    rw [h2]
    congr 2
    apply Array.ext'
    have e1 : cur.toList = (madeCells #[Value.int .i64 0] n).toList := by
      rw [← h4, List.take_of_length_le (by simp; omega)]
    rw [e1, toList_madeCells_one]
    apply List.ext_getElem?
    intro k
    by_cases hk : k < n
    · simp [hk]
    · rw [List.getElem?_eq_none (by simp; omega), List.getElem?_eq_none (by simp; omega)]
theorem info_motion : (Tryz.prog.info? 141).map (fun i => (i.zero, i.size, i.bytes)) = some (some (.int .i64 0), 1, 8) := by kernel_rfl

/-- What motions make, one behind the other. -/
def foldM (f : Nat → Nat) : Nat → Nat
  | 0 => 0
  | k + 1 => mulN (foldM f k) (f k)
theorem foldM_lt (f : Nat → Nat) (k : Nat) (h : ∀ j, j < k → f j < 10) : foldM f k < 10 := by
  induction k with
  | zero => exact (by decide : 0 < 10)
  | succ k ih => exact mul_lt _ (ih fun j hj => h j (by omega)) _ (h k (by omega))
theorem foldM_congr {f f' : Nat → Nat} (k : Nat) (h : ∀ j, j < k → f j = f' j) : foldM f k = foldM f' k := by
  induction k with
  | zero => rfl
  | succ k ih => simp only [foldM]; rw [ih fun j hj => h j (by omega), h k (by omega)]
/-- The motion of the digit at a place. -/
def motN (last : Nat) (l : List Nat) (j : Nat) : Nat := mvN ((last + j) % 8) (l.getD j 0)
theorem foldM_fold (last : Nat) (l : List Nat) : foldM (motN last l) l.length = foldN last 0 l := by
  induction l using list_snoc_ind with
  | h0 => rfl
  | h1 l d ih =>
    rw [foldN_append, List.length_append, List.length_singleton, foldM]
    have e1 : foldM (motN last (l ++ [d])) l.length = foldM (motN last l) l.length := foldM_congr _ fun j hj => by
      unfold motN; congr 1; simp [List.getD, List.getElem?_append_left hj]
    rw [e1, ih]
    show mulN _ (motN last (l ++ [d]) l.length) = mulN _ _
    congr 1
    unfold motN; congr 1; simp [List.getD]

set_option maxHeartbeats 400000 in
theorem follow_any (g n : Nat) (f : Nat → Nat) (w : World) (hr : RowM w g n f) (hf : ∀ j, j < n → f j < 10) (hn : n ≤ 200) :
    Calls Tryz.prog 135 #[.slice (some ⟨g, 0, none⟩) n n, .func (.func 137) #[] #[]] w fun e w' => e = .returned (.int .i64 ((foldM f n : Nat) : Int)) ∧ w' = w := by
  have HR : Hid (RowM w g n f ∧ ∀ j, j < n → f j < 10) := ⟨hr, hf⟩
  clear hr hf
  go_enter Tryz.func135, Tryz.ntmps135
  go_wp2_with fail
  go_loop [5, 10] (fun v i => ∃ k : Nat, k ≤ n ∧ i = .int .i64 (k : Int) ∧ v = .int .i64 ((foldM f k : Nat) : Int)) (fun _ i => n - (intOf i).toNat)
  case atStart => exact ⟨0, Nat.zero_le _, rfl, rfl⟩
  case round =>
    obtain ⟨k, hk, rfl, rfl⟩ := hrel
    have hx := foldM_lt f k fun j hj => HR.out.2 j (by omega)
    have HS : Hid (foldM f (k + 1) = mulN (foldM f k) (f k)) := rfl
    by_cases hlt : k < n
    · have hcell := HR.out.1.cell hlt
      have hy := HR.out.2 k hlt
      have HC := then_any (foldM f k) (f k) w hx hy
      generalize foldM f k = x at *
      generalize f k = y at *
      generalize mulN x y = z at *
      go_wp2_with fail
      refine HC.mono ?_
      rintro e w1 ⟨rfl, rfl⟩
      go_wp2_with fail
      go_round
      case rel => exact ⟨k + 1, by omega, by go_num, by rw [HS.out]⟩
      case measure => simp [intOf]; omega
    · have hkq : k = n := by omega
      rw [hkq]
      generalize hgx : foldM f n = x at *
      have HG : Hid (foldM f n = x) := hgx
      clear hkq hgx
      go_wp2_with fail
      go_ret
      exact ⟨by rw [HG.out]; rfl, rfl⟩

end Go.Proofs.YtlicdeppfhmfjaaGreatDoor.check

/- The motions of a text, and its sum. -/
namespace Go.Proofs.YtlicdeppfhmfjaaGreatDoor.check
open Go.RowKit

theorem below_set {B : Nat} {w w' : World} (h : Below B w w') (G i : Nat) (u : Value) (hG : B ≤ G) : Below B w (w'.setCell ⟨G, i, none⟩ u) := by
  refine ⟨h.os, h.tape, h.output, by simp [World.setCell]; exact h.size, fun k hk => ?_⟩
  rw [← h.block k hk]
  simp only [World.setCell, Array.getElem?_modify]
  rw [if_neg (by omega)]
theorem it_set {w : World} {I G : Nat} {o : Obj} (h : w.heap[I]? = some o) (i : Nat) (u : Value) (hne : G ≠ I) : (w.setCell ⟨G, i, none⟩ u).heap[I]? = some o := by
  simp only [World.setCell, Array.getElem?_modify]; rw [if_neg hne]; exact h
theorem iterPos_of {w : World} {I p : Nat} {s : ByteArray} (h : w.heap[I]? = some (.stringIter s p)) : w.iterPos I = p := by simp [World.iterPos, h]
theorem RowM.iter {w : World} {g n I : Nat} {f : Nat → Nat} {s : ByteArray} {k : Nat} (h : RowM w g n f) (hne : g ≠ I) : RowM (w.iterAt I s k) g n f := by
  unfold RowM at *
  rw [Lib.iterAt_other _ _ _ _ _ hne]; exact h
theorem RowM.alloc {w : World} {g n : Nat} {f : Nat → Nat} (h : RowM w g n f) (o : Obj) : RowM (w.alloc o) g n f := by
  unfold RowM at *
  have hlt : g < w.heap.size := by
    by_cases hh : g < w.heap.size
    · exact hh
    · rw [Array.getElem?_eq_none (by omega)] at h; cases h
  show (w.heap.push o)[g]? = _
  rw [Array.getElem?_push, if_neg (by omega)]; exact h

theorem rev_getD (s : ByteArray) (k j : Nat) (h : k < s.size) (hj : j + 1 + k = s.size) : (digs s.data.toList).reverse.getD j 0 = s[k].toNat - 48 := by
  have hl : (digs s.data.toList).length = s.size := by rw [digs_len, len_eq]
  rw [List.getD, List.getElem?_reverse (by omega), hl, show s.size - 1 - j = k by omega]
  simp only [digs, List.getElem?_map]
  rw [List.getElem?_eq_getElem (by simpa using h)]
  rfl

/-- What holds of the world while motions are laid: k digits are. -/
structure Lay (w wr : World) (s : ByteArray) (last I k : Nat) (f : Nat → Nat) : Prop where
  below : Below w.heap.size w wr
  row : RowM wr w.heap.size s.size f
  it : wr.heap[I]? = some (.stringIter s k)
  done : ∀ j, j < s.size → s.size ≤ j + k → f j = motN last (digs s.data.toList).reverse j

/-- The motions were given back, in a new row. -/
def MotPost (w : World) (s : ByteArray) (last : Nat) (e : Ending) (w' : World) : Prop :=
  ∃ f, e = .returned (.slice (some ⟨w.heap.size, 0, none⟩) s.size s.size) ∧ RowM w' w.heap.size s.size f ∧ (∀ j, j < s.size → f j = motN last (digs s.data.toList).reverse j) ∧ Below w.heap.size w w'

set_option maxHeartbeats 2000000 in
theorem motions_any (s : ByteArray) (last : Nat) (w : World) (h1 : 1 ≤ s.size) (h2 : s.size ≤ 200) (hd : allD s.data.toList = true) (hlast : last ≤ 1) (ht : MTab w) :
    Calls Tryz.prog 136 #[.string s, .int .i64 (last : Int)] w fun e w' => MotPost w s last e w' := by
  obtain ⟨i0, hi, hz0, hz1, hz2⟩ := info_parts info_motion
  have HD : Hid (allD s.data.toList = true) := hd
  have HT : Hid (MTab w) := ht
  clear hd ht
  go_enter Tryz.func136, Tryz.ntmps136
  go_wp2_with (first
    | (at_make; refine wpList_make_full _ rfl _ _ 178 rfl w.heap.size 141 i0 (.int .i64 0) 1 Tryz.underlying178 hi hz0 hz1 _ _ _ _ s.size rfl rfl ?c0 ?c1 ?c2 ?c3 ?c4 ?_))
  try (case c0 => first | rfl | (congr 1; omega))
  try (case c1 => first | rfl | (congr 1; omega))
  case c2 => first | omega | (rw [hz2]; omega)
  case c3 => unfold maxLen; omega
  try (case c4 => simp)
  intro w1 hown hgr
  have HR1 : Hid (RowM w1 w.heap.size s.size (fun _ => 0)) := rowM_made hown
  have HB1 : Hid (Below w.heap.size w w1) := (Below.refl _ _).grown hgr (Nat.le_refl _) (fun k hk => by cases hk)
  clear hown hgr hi hz0 hz1 hz2
  have hw1 : w.heap.size < w1.heap.size := by
    have h := HR1.out
    unfold RowM at h
    by_cases hh : w.heap.size < w1.heap.size
    · exact hh
    · rw [Array.getElem?_eq_none (by omega)] at h; cases h
  have HL0 : Hid (Lay w (w1.iter s 0) s last w1.heap.size 0 (fun _ => 0)) := ⟨HB1.out.alloc HB1.out.size _, HR1.out.alloc _, World.iter_heap w1 s 0, fun j h1 h2 => by omega⟩
  generalize hI : w1.heap.size = I at *
  have HI : Hid (w1.heap.size = I) := hI
  clear hI HR1 HB1
  go_wp2_with fail
  rw [HI.out]
  go_loopw [] (fun wr => ∃ (k : Nat) (f : Nat → Nat), k ≤ s.size ∧ Lay w wr s last I k f) (fun wr => s.size - wr.iterPos I)
  case atStart => exact ⟨0, _, Nat.zero_le _, HL0.out⟩
  case round =>
    obtain ⟨k, f, hk, hl⟩ := hrel
    have HP0 : Hid (wr.iterPos I = k) := iterPos_of hl.it
    by_cases hp : k < s.size
    · obtain ⟨hk1, hk2, hk3⟩ := take_parts s k hp HD.out
      have hcb := isD_bd hk2
      have ha : (s[k]'hp).toNat < 128 := by omega
      have hnx : ∀ ty, (Instr.next (.pointer (some ⟨I, 0, none⟩)) true ty).run Tryz.prog wr = _ := fun ty => Lib.run_next_ascii_at wr I s k ty hl.it hp ha
      obtain ⟨j, hj⟩ : ∃ j, j + 1 + k = s.size := ⟨s.size - 1 - k, by omega⟩
      have BN := Lib.below_iterAt hl.below (k := I) (by omega) s (k + 1)
      have IT := Lib.iterAt_heap wr I s k (k + 1) hl.it
      have RN := hl.row.iter (I := I) (s := s) (k := k + 1) (by omega)
      have HM : Hid (motN last (digs s.data.toList).reverse j = mvN ((last + j) % 8) (s[k].toNat - 48)) := by
        show _ = _
        unfold motN; rw [rev_getD s k j hp hj]
      have HDN : Hid (∀ i, i < s.size → s.size ≤ i + k → f i = motN last (digs s.data.toList).reverse i) := hl.done
      clear hk1 hk2 hk3 ha hl
      generalize hwn : wr.iterAt I s (k + 1) = wn at *
      clear hwn
      have r0 := RN.cell (i := j) (by omega)
      have f0 := RN.free j
      have hcz : ((s[k].toNat - 48 : Nat) : Int) = ((s[k].toNat : Nat) : Int) - 48 := by omega
      have HMV := moved_any (s[k].toNat - 48) (last + j) wn (by omega) (by omega) (HT.out.below BN)
      rw [hcz, Int.natCast_add] at HMV
      have HMV' : Hid (Calls Tryz.prog 164 #[.int .i64 (((s[k].toNat : Nat) : Int) - 48), .int .i64 ((last : Int) + (j : Int))] wn fun e w' => e = .returned (.int .i64 ((mvN ((last + j) % 8) (s[k].toNat - 48) : Nat) : Int)) ∧ w' = wn) := HMV
      have HLN : Hid (Lay w (wn.setCell ⟨w.heap.size, j, none⟩ (.int .i64 ((mvN ((last + j) % 8) (s[k].toNat - 48) : Nat) : Int))) s last I (k + 1) (updM f j (mvN ((last + j) % 8) (s[k].toNat - 48)))) := by
        refine ⟨below_set BN _ _ _ (Nat.le_refl _), RN.set _ _, it_set IT _ _ (by omega), fun i h1 h2 => ?_⟩
        unfold updM
        by_cases e : i = j
        · rw [if_pos e, e, HM.out]
        · rw [if_neg e]; exact HDN.out i h1 (by omega)
      clear BN IT RN HM HDN HMV hcz
      have ej : ((s.size : Int) - 1 - (k : Int)) = (j : Int) := by omega
      generalize ((mvN ((last + j) % 8) (s[k].toNat - 48) : Nat) : Int) = mv at *
      generalize ((f j : Nat) : Int) = old at *
      generalize updM f j (mvN ((last + j) % 8) (s[k].toNat - 48)) = f' at *
      generalize s[k] = c at *
      generalize hcc : ((c.toNat : Nat) : Int) = z at *
      clear hcc
      obtain ⟨z1, z2⟩ := hcb
      have hjs : (j : Int) < (s.size : Int) := by omega
      clear hj
      go_wp2_with fail
      refine (value_any _ _ z1 z2).mono ?_
      rintro e w' ⟨rfl, rfl⟩
      go_wp2_with fail
      refine HMV'.out.mono ?_
      rintro e w' ⟨rfl, rfl⟩
      go_wp2_with fail
      go_roundw
      case rel => exact ⟨k + 1, f', by omega, HLN.out⟩
      case measure =>
        rw [HP0.out, iterPos_of HLN.out.it]
        omega
    · have hnx : ∀ ty, (Instr.next (.pointer (some ⟨I, 0, none⟩)) true ty).run Tryz.prog wr = _ := fun ty => Lib.run_next_end_at wr I s k ty hl.it hp
      have HP : Hid (MotPost w s last (.returned (.slice (some ⟨w.heap.size, 0, none⟩) s.size s.size)) wr) := ⟨f, rfl, hl.row, fun j hj => hl.done j hj (by omega), hl.below⟩
      clear hl
      go_wp2_with fail
      go_ret
      exact HP.out

theorem motN_lt {last : Nat} {l : List Nat} (h : AllD l) {j : Nat} (hj : j < l.length) : motN last l j < 10 := by
  unfold motN
  exact mvN_lt _ _ (h _ (by simp [List.getD, List.getElem?_eq_getElem hj]))
set_option maxHeartbeats 400000 in
theorem sum_any (s : ByteArray) (last : Nat) (w : World) (h1 : 1 ≤ s.size) (h2 : s.size ≤ 200) (hd : allD s.data.toList = true) (hlast : last ≤ 1) (ht : MTab w) :
    Calls Tryz.prog 98 #[.string s, .int .i64 (last : Int)] w fun e w' => e = .returned (.int .i64 ((foldN last 0 (digs s.data.toList).reverse : Nat) : Int)) ∧ Below w.heap.size w w' := by
  have HM : Hid (Calls Tryz.prog 136 #[.string s, .int .i64 (last : Int)] w fun e w' => MotPost w s last e w') := motions_any s last w h1 h2 hd hlast ht
  have hL : (digs s.data.toList).reverse.length = s.size := by rw [List.length_reverse, digs_len, len_eq]
  have HK : Hid (∀ f, (∀ j, j < s.size → f j = motN last (digs s.data.toList).reverse j) → (∀ j, j < s.size → f j < 10) ∧ foldM f s.size = foldN last 0 (digs s.data.toList).reverse) := fun f hf => by
    refine ⟨fun j hj => by rw [hf j hj]; exact motN_lt (digs_ok hd).rev (by omega), ?_⟩
    rw [← foldM_fold, hL]
    exact foldM_congr _ hf
  clear hd ht hL
  go_enter Tryz.func98, Tryz.ntmps98
  go_wp2_with fail
  refine HM.out.mono ?_
  rintro e w1 ⟨f, rfl, hrow, hf, hb⟩
  obtain ⟨k1, k2⟩ := HK.out f hf
  have HF := follow_any w.heap.size s.size f w1 hrow k1 h2
  rw [k2] at HF
  have HFF : Hid (Calls Tryz.prog 135 #[.slice (some ⟨w.heap.size, 0, none⟩) s.size s.size, .func (.func 137) #[] #[]] w1 fun e w' => e = .returned (.int .i64 ((foldN last 0 (digs s.data.toList).reverse : Nat) : Int)) ∧ w' = w1) := HF
  have HB : Hid (Below w.heap.size w w1) := hb
  clear HF hrow hf hb k1 k2 HK HM
  go_wp2_with fail
  refine HFF.out.mono ?_
  rintro e w2 ⟨rfl, rfl⟩
  go_wp2_with fail
  go_ret
  exact ⟨rfl, HB.out⟩

end Go.Proofs.YtlicdeppfhmfjaaGreatDoor.check

/- What check.Digit and check.Good give back. -/
namespace Go.Proofs.YtlicdeppfhmfjaaGreatDoor.check
open Go.RowKit

set_option maxHeartbeats 400000 in
theorem digit_any (s : ByteArray) (w : World) (ht : MTab w) :
    Calls Tryz.prog 61 #[.string s] w fun e w' => e = .returned (.tuple #[.int .i64 (digitR s.data.toList), .int .i64 (flawR s.data.toList)]) ∧ Below w.heap.size w w' := by
  have HF := flaw_any s w
  by_cases h0 : flawR s.data.toList = 0
  · have e : digitR s.data.toList = ((invN (sumR s.data.toList 1) : Nat) : Int) := by unfold digitR; rw [if_pos h0]
    rw [e, h0]
    rw [h0] at HF
    obtain ⟨⟨l1, l2⟩, hd⟩ := flawR_zero h0
    rw [len_eq] at l1 l2
    have HU : Hid (∀ w, Calls Tryz.prog 99 #[.int .i64 ((sumR s.data.toList 1 : Nat) : Int)] w fun e w' => e = .returned (.int .i64 ((invN (sumR s.data.toList 1) : Nat) : Int)) ∧ w' = w) := fun w => undo_any _ w (sumR_lt hd 1)
    have HS : Hid (∀ w', Below w.heap.size w w' → Calls Tryz.prog 98 #[.string s, .int .i64 1] w' fun e w'' => e = .returned (.int .i64 ((sumR s.data.toList 1 : Nat) : Int)) ∧ Below w'.heap.size w' w'') := fun w' hb => sum_any s 1 w' l1 l2 hd (by omega) (ht.below hb)
    clear e h0 hd ht
    generalize ((invN (sumR s.data.toList 1) : Nat) : Int) = y at *
    generalize ((sumR s.data.toList 1 : Nat) : Int) = x at *
    go_enter Tryz.func61, Tryz.ntmps61
    go_wp2_with fail
    refine HF.mono ?_
    rintro e w1 ⟨rfl, hb⟩
    have HB : Hid (Below w.heap.size w w1) := hb
    clear hb HF
    go_wp2_with fail
    refine (HS.out _ HB.out).mono ?_
    rintro e w2 ⟨rfl, hb2⟩
    have HB2 : Hid (Below w.heap.size w w2) := HB.out.trans (hb2.mono HB.out.size)
    clear hb2
    go_wp2_with fail
    refine (HU.out _).mono ?_
    rintro e w3 ⟨rfl, rfl⟩
    go_wp2_with fail
    go_ret2
    exact ⟨rfl, HB2.out⟩
  · have e : digitR s.data.toList = 0 := by unfold digitR; rw [if_neg h0]
    rw [e]
    have hne : (flawR s.data.toList != 0) = true := by simpa using h0
    clear e h0 ht
    generalize flawR s.data.toList = f at *
    go_enter Tryz.func61, Tryz.ntmps61
    go_wp2_with fail
    refine HF.mono ?_
    rintro e w1 ⟨rfl, hb⟩
    clear HF
    go_wp2_with fail
    go_ret2
    exact ⟨rfl, hb⟩

set_option maxHeartbeats 400000 in
theorem good_any (s : ByteArray) (w : World) (ht : MTab w) :
    Calls Tryz.prog 82 #[.string s] w fun e w' => e = .returned (.bool (goodR s.data.toList)) ∧ Below w.heap.size w w' := by
  have HF := flaw_any s w
  by_cases h2 : 2 ≤ s.size
  · have h2' : (2 : Int) ≤ (s.size : Int) := by omega
    by_cases h0 : flawR s.data.toList = 0
    · have e : goodR s.data.toList = (sumR s.data.toList 0 == 0) := by unfold goodR; rw [len_eq, h0]; simp [h2]
      rw [e]
      rw [h0] at HF
      obtain ⟨⟨l1, l2⟩, hd⟩ := flawR_zero h0
      rw [len_eq] at l1 l2
      have HS : Hid (∀ w', Below w.heap.size w w' → Calls Tryz.prog 98 #[.string s, .int .i64 0] w' fun e w'' => e = .returned (.int .i64 ((sumR s.data.toList 0 : Nat) : Int)) ∧ Below w'.heap.size w' w'') := fun w' hb => sum_any s 0 w' l1 l2 hd (by omega) (ht.below hb)
      have e2 : (sumR s.data.toList 0 == 0) = (((sumR s.data.toList 0 : Nat) : Int) == 0) := by
        by_cases h : sumR s.data.toList 0 = 0
        · rw [h]; rfl
        · rw [beq_eq_false_iff_ne.2 h, beq_eq_false_iff_ne.2 (by omega)]
      rw [e2]
      clear e h0 hd ht e2
      generalize ((sumR s.data.toList 0 : Nat) : Int) = x at *
      go_enter Tryz.func82, Tryz.ntmps82
      go_wp2_with fail
      refine HF.mono ?_
      rintro e w1 ⟨rfl, hb⟩
      have HB : Hid (Below w.heap.size w w1) := hb
      clear hb HF
      go_wp2_with fail
      refine (HS.out _ HB.out).mono ?_
      rintro e w2 ⟨rfl, hb2⟩
      have HB2 : Hid (Below w.heap.size w w2) := HB.out.trans (hb2.mono HB.out.size)
      clear hb2
      go_wp2_with fail
      go_ret
      exact ⟨rfl, HB2.out⟩
    · have e : goodR s.data.toList = false := by unfold goodR; rw [beq_eq_false_iff_ne.2 h0]; simp
      rw [e]
      have hne : (flawR s.data.toList == 0) = false := by simpa using h0
      clear e h0 ht
      generalize flawR s.data.toList = f at *
      go_enter Tryz.func82, Tryz.ntmps82
      go_wp2_with fail
      refine HF.mono ?_
      rintro e w1 ⟨rfl, hb⟩
      clear HF
      go_wp2_with fail
      go_ret
      exact ⟨rfl, hb⟩
  · have e : goodR s.data.toList = false := by unfold goodR; rw [len_eq]; simp [h2]
    rw [e]
    have h2' : decide ((2 : Int) ≤ (s.size : Int)) = false := by simp; omega
    clear e HF ht
    go_enter Tryz.func82, Tryz.ntmps82
    go_wp2_with fail
    go_ret
    exact ⟨rfl, Below.refl _ _⟩

end Go.Proofs.YtlicdeppfhmfjaaGreatDoor.check

/- receipt.Meter: what is asked of it. -/
namespace Go.Proofs.YtlicdeppfhmfjaaGreatDoor.rcp
open Go.RowKit

def KrMeter (w0 : World) : Prop := ∀ (W : World) (s : ByteArray), Below w0.heap.size w0 W →  Calls Tryz.prog 45 #[.string s] W fun e w' => MeterPost W s.data.toList e w'

end Go.Proofs.YtlicdeppfhmfjaaGreatDoor.rcp

/- Is there nothing but digits, in the program. -/
namespace Go.Proofs.YtlicdeppfhmfjaaGreatDoor.rca
open Go.Proofs.YtlicdeppfhmfjaaGreatDoor.cents
open Go.RowKit
theorem ret_bool {a b : Bool} (h : a = b) : Ending.returned (.bool a) = .returned (.bool b) := by rw [h]
theorem iter_below (w : World) (s : ByteArray) (k : Nat) : Below w.heap.size w (w.iter s k) := (Below.refl _ _).alloc (Nat.le_refl _) _

set_option maxHeartbeats 400000 in
theorem allDigits_any (s : ByteArray) (w : World) :
    Calls Tryz.prog 81 #[.string s] w fun e w' => e = .returned (.bool (allD s.data.toList)) ∧ Below w.heap.size w w' := by
  go_enter Tryz.func81, Tryz.ntmps81
  go_wp2
  go_loopw [] (fun wr => ∃ k : Nat, k ≤ s.size ∧ wr = w.iter s k ∧ allD (s.data.toList.take k) = true) (fun wr => s.size - wr.iterPos w.heap.size)
  case atStart => exact ⟨0, Nat.zero_le _, rfl, rfl⟩
  case round =>
    obtain ⟨k, hk, rfl, hok⟩ := hrel
    have HK : Hid (allD (s.data.toList.take k) = true) := hok
    clear hok
    by_cases hp : k < s.size
    · by_cases ha : (s[k]'hp).toNat < 128
      · have hnx : ∀ ty, (Instr.next (.pointer (some ⟨w.heap.size, 0, none⟩)) true ty).run Tryz.prog (w.iter s k) = _ := fun ty => run_next_ascii w s k ty hp ha
        have HT : Hid (s.data.toList.take (k + 1) = s.data.toList.take k ++ [s[k]]) := take_snoc s k hp
        have HN : Hid (isD s[k] = false → allD s.data.toList = false) := allD_take_no s k hp
        have HY : Hid (48 ≤ ((s[k].toNat : Nat) : Int) → ((s[k].toNat : Nat) : Int) ≤ 57 → isD s[k] = true) := fun a b => isD_yes a b
        have HL : Hid (((s[k].toNat : Nat) : Int) < 48 → isD s[k] = false) := fun a => isD_lo a
        have HH : Hid (57 < ((s[k].toNat : Nat) : Int) → isD s[k] = false) := fun a => isD_hi a
        clear ha
        generalize s[k] = c at *
        generalize hcc : ((c.toNat : Nat) : Int) = z at *
        clear hcc
        by_cases h1 : z < 48
        · go_wp2
          go_ret
          exact ⟨ret_bool (HN.out (HL.out h1)).symm, iter_below _ _ _⟩
        · by_cases h2 : 57 < z
          · go_wp2
            go_ret
            exact ⟨ret_bool (HN.out (HH.out h2)).symm, iter_below _ _ _⟩
          · go_wp2
            go_roundw
            case rel => exact ⟨k + 1, by omega, rfl, by rw [HT.out, allD_append, HK.out]; simp [allD, HY.out (by omega) (by omega)]⟩
            case measure => simp; omega
      · have hd := (decode_high s k hp (by omega)).1
        have hnx : ∀ ty, (Instr.next (.pointer (some ⟨w.heap.size, 0, none⟩)) true ty).run Tryz.prog (w.iter s k) = _ := fun ty => run_next_any w s k ty hp
        have HN : Hid (allD s.data.toList = false) := allD_take_no s k hp (isD_hi (by omega))
        clear ha
        have hd2 := decode_le s k
        generalize (Utf8.decode s k).1 = r at *
        generalize (Utf8.decode s k).2 = n at *
        go_wp2
        go_ret
        exact ⟨ret_bool HN.out.symm, iter_below _ _ _⟩
    · have hnx : ∀ ty, (Instr.next (.pointer (some ⟨w.heap.size, 0, none⟩)) true ty).run Tryz.prog (w.iter s k) = _ := fun ty => run_next_end w s k ty hp
      go_wp2
      go_ret
      refine ⟨ret_bool ?_, iter_below _ _ _⟩
      have := HK.out
      rw [List.take_of_length_le (by simp; omega)] at this
      exact this.symm

end Go.Proofs.YtlicdeppfhmfjaaGreatDoor.rca

/- Lie numbers within their bounds, in the program. -/
namespace Go.Proofs.YtlicdeppfhmfjaaGreatDoor.rci
open Go.RowKit

/-- The slice a, len, cap reads as the numbers zs: its elements alone. -/
def Row (w : World) (a : Option Addr) (len : Nat) (zs : List Int) : Prop :=
  zs.length = len ∧ (len = 0 ∨ ∃ b off, a = some ⟨b, off, none⟩ ∧ ∀ i, i < len → w.cell? ⟨b, off + i, none⟩ = some (.int .i64 (zs.getD i 0)))

def okAll (lo hi : Int) (l : List Int) : Bool := l.all fun n => decide (lo ≤ n) && decide (n ≤ hi)

theorem okAll_step (lo hi : Int) (zs : List Int) (k : Nat) (hk : k < zs.length) (h : okAll lo hi (zs.take k) = true) (h1 : lo ≤ zs.getD k 0) (h2 : zs.getD k 0 ≤ hi) : okAll lo hi (zs.take (k + 1)) = true := by
  unfold okAll at *
  rw [List.take_add_one, List.all_append, h]
  simp only [List.getD, List.getElem?_eq_getElem hk, Option.getD] at h1 h2 ⊢
  simp [h1, h2]

theorem okAll_no (lo hi : Int) (zs : List Int) (k : Nat) (hk : k < zs.length) (h : zs.getD k 0 < lo ∨ hi < zs.getD k 0) : okAll lo hi zs = false := by
  unfold okAll
  rw [List.all_eq_false]
  refine ⟨zs[k], List.getElem_mem hk, ?_⟩
  simp only [List.getD, List.getElem?_eq_getElem hk, Option.getD] at h
  simp; omega

theorem ret_bool {a b : Bool} (h : a = b) : Ending.returned (.bool a) = .returned (.bool b) := by rw [h]

set_option maxHeartbeats 400000 in
theorem within_any (lo hi : Int) (a : Option Addr) (len cap : Nat) (zs : List Int) (w : World) (hr : Row w a len zs) (hl : len ≤ maxLen) :
    Calls Tryz.prog 26 #[.int .i64 lo, .int .i64 hi, .slice a len cap] w fun e w' => e = .returned (.bool (okAll lo hi zs)) ∧ w' = w := by
  unfold maxLen at hl
  obtain ⟨hz, hr⟩ := hr
  go_enter Tryz.func26, Tryz.ntmps26
  go_wp2
  go_loop [11] (fun i => ∃ k : Nat, k ≤ len ∧ i = .int .i64 k ∧ okAll lo hi (zs.take k) = true) (fun i => len - (intOf i).toNat)
  case atStart => exact ⟨0, Nat.zero_le _, rfl, rfl⟩
  case round =>
    obtain ⟨k, hk, rfl, hok⟩ := hrel
    have HK : Hid (okAll lo hi (zs.take k) = true) := hok
    clear hok
    by_cases hlt : k < len
    · rcases hr with h0 | ⟨b, off, rfl, hc⟩
      · omega
      have hcell := hc k hlt
      clear hc
      generalize hzk : zs.getD k 0 = z at hcell
      have HZ : Hid (zs.getD k 0 = z) := hzk
      clear hzk
      by_cases h1 : z < lo
      · go_wp2
        go_ret
        exact ⟨ret_bool (okAll_no lo hi zs k (by omega) (.inl (by rw [HZ.out]; exact h1))).symm, rfl⟩
      · by_cases h2 : hi < z
        · go_wp2
          go_ret
          exact ⟨ret_bool (okAll_no lo hi zs k (by omega) (.inr (by rw [HZ.out]; exact h2))).symm, rfl⟩
        · go_wp2
          go_round
          case rel => exact ⟨k + 1, by omega, by go_num, okAll_step lo hi zs k (by omega) HK.out (by rw [HZ.out]; omega) (by rw [HZ.out]; omega)⟩
          case measure => simp [intOf]; omega
    · go_wp2
      go_ret
      refine ⟨ret_bool ?_, rfl⟩
      have := HK.out
      rw [List.take_of_length_le (by omega)] at this
      exact this.symm

theorem row_one (w : World) (z : Int) (t : TypeId) : Row (w.alloc (.cells #[.int .i64 z] t)) (some ⟨w.heap.size, 0, none⟩) 1 [z] := by
  refine ⟨rfl, .inr ⟨_, _, rfl, fun i hi => ?_⟩⟩
  obtain rfl : i = 0 := by omega
  simp

theorem okAll_yes {lo hi z : Int} (h1 : lo ≤ z) (h2 : z ≤ hi) : okAll lo hi [z] = true := by simp [okAll, h1, h2]
theorem okAll_not {lo hi z : Int} (h : z < lo ∨ hi < z) : okAll lo hi [z] = false := by simp [okAll]; omega

/-- One number alone, laid in a new block: it lies within the bounds. -/
theorem within_one_yes (lo hi z : Int) (w : World) (b : Nat) (hb : b = w.heap.size) (h1 : lo ≤ z) (h2 : z ≤ hi) :
    Calls Tryz.prog 26 #[.int .i64 lo, .int .i64 hi, .slice (some ⟨b, 0, none⟩) 1 1] (w.alloc (.cells #[.int .i64 z] 3)) fun e w' => e = .returned (.bool true) ∧ w' = w.alloc (.cells #[.int .i64 z] 3) := by
  have h := within_any lo hi _ 1 1 [z] _ (row_one w z 3) (by decide)
  rw [okAll_yes h1 h2] at h
  rw [hb]
  exact h

theorem within_one_no (lo hi z : Int) (w : World) (b : Nat) (hb : b = w.heap.size) (h0 : z < lo ∨ hi < z) :
    Calls Tryz.prog 26 #[.int .i64 lo, .int .i64 hi, .slice (some ⟨b, 0, none⟩) 1 1] (w.alloc (.cells #[.int .i64 z] 3)) fun e w' => e = .returned (.bool false) ∧ w' = w.alloc (.cells #[.int .i64 z] 3) := by
  have h := within_any lo hi _ 1 1 [z] _ (row_one w z 3) (by decide)
  rw [okAll_not h0] at h
  rw [hb]
  exact h

theorem bel1 (w : World) (o : Obj) : Below w.heap.size w (w.alloc o) := (Below.refl _ _).alloc (Nat.le_refl _) _
theorem bel2 (w : World) (o o' : Obj) : Below w.heap.size w ((w.alloc o).alloc o') := (bel1 w o).alloc (by simp) _

theorem row_five (w : World) (a b c d e : Int) (t : TypeId) : Row (w.alloc (.cells #[.int .i64 a, .int .i64 b, .int .i64 c, .int .i64 d, .int .i64 e] t)) (some ⟨w.heap.size, 0, none⟩) 5 [a, b, c, d, e] := by
  refine ⟨rfl, .inr ⟨_, _, rfl, fun i hi => ?_⟩⟩
  match i, hi with
  | 0, _ => simp
  | 1, _ => simp
  | 2, _ => simp
  | 3, _ => simp
  | 4, _ => simp
/-- One number alone. -/
theorem within_one (lo hi z : Int) (w : World) (b : Nat) (hb : b = w.heap.size) :
    Calls Tryz.prog 26 #[.int .i64 lo, .int .i64 hi, .slice (some ⟨b, 0, none⟩) 1 1] (w.alloc (.cells #[.int .i64 z] 3)) fun e w' => e = .returned (.bool (decide (lo ≤ z ∧ z ≤ hi))) ∧ w' = w.alloc (.cells #[.int .i64 z] 3) := by
  have h := within_any lo hi _ 1 1 [z] _ (row_one w z 3) (by decide)
  have e : okAll lo hi [z] = decide (lo ≤ z ∧ z ≤ hi) := by simp [okAll]
  rw [e] at h
  rw [hb]
  exact h
theorem isMeter_any (z : Int) (w : World) :
    Calls Tryz.prog 25 #[.int .i64 z] w fun e w' => e = .returned (.bool (decide (0 ≤ z ∧ z ≤ 49))) ∧ Below w.heap.size w w' := by
  have HW : Hid (∀ (w : World) (b : Nat), b = w.heap.size → Calls Tryz.prog 26 #[.int .i64 0, .int .i64 49, .slice (some ⟨b, 0, none⟩) 1 1] (w.alloc (.cells #[.int .i64 z] 3)) fun e w' => e = .returned (.bool (decide (0 ≤ z ∧ z ≤ 49))) ∧ w' = w.alloc (.cells #[.int .i64 z] 3)) := fun w b hb => within_one 0 49 z w b hb
  generalize decide (0 ≤ z ∧ z ≤ 49) = d at *
  go_enter Tryz.func25, Tryz.ntmps25
  go_wp2_with fail
  refine (HW.out _ _ rfl).mono ?_
  rintro e w' ⟨rfl, rfl⟩
  go_wp2_with fail
  go_ret
  exact ⟨rfl, bel1 _ _⟩

end Go.Proofs.YtlicdeppfhmfjaaGreatDoor.rci

/- The meter of a number, in the program. -/
namespace Go.Proofs.YtlicdeppfhmfjaaGreatDoor.rcp
open Go.Proofs.YtlicdeppfhmfjaaGreatDoor.check (goodR MTab good_any flawR allD)
open Go.Proofs.YtlicdeppfhmfjaaGreatDoor.token (dv)
open Go.RowKit
set_option maxRecDepth 100000
set_option linter.unusedVariables false

theorem flaw_11 {l : List UInt8} (h : l.length = 11) : flawR l = if allD l then 0 else 7 := by unfold flawR; rw [if_neg (by omega)]
theorem atoi_ok (s : ByteArray) (v : Int) (w : World) (hs : s.size ≤ 1000) (h : Lib.atoiAll s.data.toList = .ok v) :
    Calls Tryz.prog 44 #[.string s] w fun e w' => ∃ x, e = .returned (.tuple #[.int .i64 v, x]) ∧ Below w.heap.size w w' := by
  refine (Tryz.strconv_Atoi_ok s (by omega) v h w).mono ?_
  rintro e w' ⟨rfl, hw⟩
  refine ⟨_, rfl, ?_⟩
  rcases hw with rfl | ⟨t, rfl⟩
  · exact Below.refl _ _
  · exact Lib.bytesWorld_below _ _ _

set_option maxHeartbeats 1000000 in
theorem meter_len (s : ByteArray) (w : World) (h : s.size ≠ 11) : Calls Tryz.prog 45 #[.string s] w fun e w' => e = .returned (.tuple #[.int .i64 0, .int .i64 6]) ∧ Below w.heap.size w w' := by
  have hq : ((s.size : Int) != 11) = true := by simp; omega
  go_enter Tryz.func45, Tryz.ntmps45
  go_wp2_with fail
  go_ret2
  exact ⟨rfl, Below.refl _ _⟩
set_option maxHeartbeats 1000000 in
theorem meter_abs (s : ByteArray) (dg gd mt : Bool) (v : Int) (w : World) (h : s.size = 11) (hv : 0 ≤ v ∧ v ≤ 9999999999)
    (hD : Calls Tryz.prog 81 #[.string s] w fun e w' => e = .returned (.bool dg) ∧ Below w.heap.size w w')
    (hG : ∀ w', Below w.heap.size w w' → Calls Tryz.prog 82 #[.string s] w' fun e w'' => e = .returned (.bool gd) ∧ Below w'.heap.size w' w'')
    (hA : dg = true → ∀ w', Calls Tryz.prog 44 #[.string (s.extract 0 10)] w' fun e w'' => ∃ x, e = .returned (.tuple #[.int .i64 v, x]) ∧ Below w'.heap.size w' w'')
    (hM : ∀ w', Calls Tryz.prog 25 #[.int .i64 v] w' fun e w'' => e = .returned (.bool mt) ∧ Below w'.heap.size w' w'') :
    Calls Tryz.prog 45 #[.string s] w fun e w' => e = .returned (if dg = false then .tuple #[.int .i64 0, .int .i64 7] else if gd = false then .tuple #[.int .i64 0, .int .i64 8] else if mt = false then .tuple #[.int .i64 0, .int .i64 18] else .tuple #[.int .i64 v, .int .i64 0]) ∧ Below w.heap.size w w' := by
  have hq : ((s.size : Int) != 11) = false := by simp; omega
  have hsz : 10 ≤ s.size := by omega
  have HG : Hid (∀ w', Below w.heap.size w w' → Calls Tryz.prog 82 #[.string s] w' fun e w'' => e = .returned (.bool gd) ∧ Below w'.heap.size w' w'') := hG
  have HA : Hid (dg = true → ∀ w', Calls Tryz.prog 44 #[.string (s.extract 0 10)] w' fun e w'' => ∃ x, e = .returned (.tuple #[.int .i64 v, x]) ∧ Below w'.heap.size w' w'') := hA
  have HM : Hid (∀ w', Calls Tryz.prog 25 #[.int .i64 v] w' fun e w'' => e = .returned (.bool mt) ∧ Below w'.heap.size w' w'') := hM
  obtain ⟨v0, v1⟩ := hv
  clear hG hA hM h
  go_enter Tryz.func45, Tryz.ntmps45
  go_wp2_with fail
  refine hD.mono ?_
  rintro e w1 ⟨rfl, hb⟩
  have HB1 : Hid (Below w.heap.size w w1) := hb
  clear hb hD
  cases dg with
  | false =>
    go_wp2_with fail
    go_ret2
    exact ⟨rfl, HB1.out⟩
  | true =>
    go_wp2_with fail
    refine (HG.out _ HB1.out).mono ?_
    rintro e w2 ⟨rfl, hb⟩
    have HB2 : Hid (Below w.heap.size w w2) := HB1.out.trans (hb.mono HB1.out.size)
    clear hb HG HB1
    cases gd with
    | false =>
      go_wp2_with fail
      go_ret2
      exact ⟨rfl, HB2.out⟩
    | true =>
      go_wp2_with fail
      refine (HA.out (by first | rfl | trivial) _).mono ?_
      rintro e w3 ⟨x, rfl, hb⟩
      have HB3 : Hid (Below w.heap.size w w3) := HB2.out.trans (hb.mono HB2.out.size)
      clear hb HA HB2
      go_wp2_with fail
      refine (HM.out _).mono ?_
      rintro e w4 ⟨rfl, hb⟩
      have HB4 : Hid (Below w.heap.size w w4) := HB3.out.trans (hb.mono HB3.out.size)
      clear hb HM HB3
      cases mt with
      | false =>
        go_wp2_with fail
        go_ret2
        exact ⟨rfl, HB4.out⟩
      | true =>
        go_wp2_with fail
        go_ret2
        exact ⟨rfl, HB4.out⟩

theorem pmeter_any (s : ByteArray) (w : World) (ht : MTab w) : Calls Tryz.prog 45 #[.string s] w fun e w' => MeterPost w s.data.toList e w' := by
  have hl : s.data.toList.length = s.size := Array.length_toList
  by_cases h : s.size = 11
  · have e10 : (s.extract 0 10).data.toList = s.data.toList.take 10 := by simp [ByteArray.data_extract]
    have hdt : allD s.data.toList = true → allD (s.data.toList.take 10) = true := fun hd => List.all_eq_true.2 fun c hc => List.all_eq_true.1 hd c (List.mem_of_mem_take hc)
    have hv : ((if allD s.data.toList = true then dv (s.data.toList.take 10) else 0 : Nat) : Int) ≤ 9999999999 := by
      split
      · rename_i hd
        have := token.dv_lt _ (hdt hd)
        have h10 : (s.data.toList.take 10).length = 10 := by rw [List.length_take]; omega
        rw [h10] at this
        omega
      · omega
    refine (meter_abs s (allD s.data.toList) (goodR s.data.toList) (decide (0 ≤ ((if allD s.data.toList = true then dv (s.data.toList.take 10) else 0 : Nat) : Int) ∧ ((if allD s.data.toList = true then dv (s.data.toList.take 10) else 0 : Nat) : Int) ≤ 49)) ((if allD s.data.toList = true then dv (s.data.toList.take 10) else 0 : Nat) : Int) w h ⟨by omega, hv⟩ (rca.allDigits_any s w) (fun w' hb => good_any s w' (ht.below hb)) (fun hd w' => ?_) (fun w' => rci.isMeter_any _ w')).mono ?_
    · rw [if_pos hd]
      refine atoi_ok _ _ w' (by rw [ByteArray.size_extract]; omega) ?_
      rw [e10]
      refine atoi_digits (hdt hd) ?_ ?_
      · intro h0
        have h2 : (s.data.toList.take 10).length = 10 := by rw [List.length_take]; omega
        rw [h0] at h2
        exact absurd h2 (by decide)
      · rw [List.length_take]; omega
    · rintro e w' ⟨rfl, hb⟩
      have hf := flaw_11 (l := s.data.toList) (by omega)
      cases hd : allD s.data.toList with
      | false =>
        rw [hd] at hf
        exact ⟨0, 7, rfl, .inr (.inl ⟨by omega, by rw [hf]; decide, rfl, by rw [hf]; rfl⟩), hb⟩
      | true =>
        rw [hd] at hf
        have hf0 : flawR s.data.toList = 0 := hf
        cases hg : goodR s.data.toList with
        | false => exact ⟨0, 8, rfl, .inr (.inr (.inl ⟨by omega, hf0, hg, rfl, rfl⟩)), hb⟩
        | true =>
          by_cases hk : dv (s.data.toList.take 10) < 50
          · have hk' : decide (0 ≤ ((if true = true then dv (s.data.toList.take 10) else 0 : Nat) : Int) ∧ ((if true = true then dv (s.data.toList.take 10) else 0 : Nat) : Int) ≤ 49) = true := by rw [if_pos rfl]; exact decide_eq_true ⟨by omega, by omega⟩
            refine ⟨((dv (s.data.toList.take 10) : Nat) : Int), 0, ?_, .inr (.inr (.inr (.inr ⟨by omega, hf0, hg, _, named_of (by omega) hd hg hk, rfl, rfl⟩))), hb⟩
            rw [hk']
            rfl
          · have hk' : decide (0 ≤ ((if true = true then dv (s.data.toList.take 10) else 0 : Nat) : Int) ∧ ((if true = true then dv (s.data.toList.take 10) else 0 : Nat) : Int) ≤ 49) = false := by rw [if_pos rfl]; exact decide_eq_false (by omega)
            refine ⟨0, 18, ?_, .inr (.inr (.inr (.inl ⟨by omega, hf0, hg, fun k hn => hk (by rw [named_val hn]; exact hn.1), rfl, rfl⟩))), hb⟩
            rw [hk']
            rfl
  · refine (meter_len s w h).mono ?_
    rintro e w' ⟨rfl, hb⟩
    exact ⟨0, 6, rfl, .inl ⟨by omega, rfl, rfl⟩, hb⟩
theorem kmeter {w : World} (ht : MTab w) : KrMeter w := fun W s hb => pmeter_any s W (ht.below hb)

end Go.Proofs.YtlicdeppfhmfjaaGreatDoor.rcp
