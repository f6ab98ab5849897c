import Derived.Test.YtlicdeppfhmfjabDoorBack
import Derived.Test.YtlicdeppfhmfjabDoorCkGdN
import Derived.Test.YtlicdeppfhmfjabDoorCkDgN
import Derived.Test.YtlicdeppfhmfjabDoorTkN
import Derived.Test.YtlicdeppfhmfjabDoorBlk
import Derived.WalkKit
import Derived.Test.YtlicdeppfhmfjabDoorProg
import Derived.Laws.IdiomCopy
import Derived.Laws.Rows
import Derived.Laws.Tables
import Derived.Deep.MidRow
import Derived.Deep.RegionHeld
import Derived.Test.YtlicdeppfhmfjabDoorTkMade
import Derived.Test.YtlicdeppfhmfjabDoorCkPick
import Derived.Deep.DeepCutAuto
import Derived.Laws.OwnMore
import Derived.Laws.AppendOwnNone
import Derived.OwnWalk
import Derived.BigRegion
import Derived.BigQuiet
import Derived.WalkSpells
import Derived.WalkLawsBesides
import Derived.Below
import Derived.Test.YtlicdeppfhmfjabDoorTkParse
import Derived.Lib.Builder
import Derived.Lib.AppendStr
import Derived.Lib.UnsafeStr
import Derived.Laws.Externs
import Derived.Shelf.Strings.OnBuilder
import Derived.Shelf.LaysM
import Derived.Shelf.LaysC
import Derived.Test.YtlicdeppfhmfjabDoorCkTxt
import Derived.Test.YtlicdeppfhmfjabDoorChk
import Derived.DataReads
import Derived.Lib.LaidTab
import Derived.Test.YtlicdeppfhmfjabDoorCkRv
import Derived.Lib.OthersKept
import Derived.Shelf.Strconv.Itoa3
import Derived.Shelf.Strings.Repeat

/- Receipts: plain facts. -/
namespace Go.Proofs.YtlicdeppfhmfjabDoor.rcp
open Go.Proofs.YtlicdeppfhmfjabDoor.cents (showT readR read_shown)
open Go.Proofs.YtlicdeppfhmfjabDoor.check (digitR goodR flawR)
open Go.Proofs.YtlicdeppfhmfjabDoor.token (parseE tokOf dv)
set_option linter.unusedVariables false

/-- Decimal digits, with noughts ahead. -/
def pad (n : Nat) (k : Nat) : List UInt8 := List.replicate (k - (Lib.decDigits n).length) 48 ++ Lib.decDigits n
/-- A meter's number on paper. -/
def numL (m : Nat) : List UInt8 := pad m 10 ++ Lib.decDigits (digitR (pad m 10)).toNat
def MMay (m : Int) : Prop := 0 ≤ m ∧ m ≤ 49
def NumIs (m : Int) (l : List UInt8) (e : Int) : Prop := (MMay m ∧ l = numL m.toNat ∧ e = 0) ∨ (¬ MMay m ∧ l = [] ∧ e = 18)
theorem NumIs.one {m e e' : Int} {l l' : List UInt8} (h : NumIs m l e) (h' : NumIs m l' e') : l = l' ∧ e = e' := by
  rcases h with ⟨a, rfl, rfl⟩ | ⟨a, rfl, rfl⟩ <;> rcases h' with ⟨a', rfl, rfl⟩ | ⟨a', rfl, rfl⟩ <;> first | exact ⟨rfl, rfl⟩ | contradiction
theorem num_all : ∀ m, m < 50 → (numL m).length = 11 ∧ flawR (numL m) = 0 ∧ goodR (numL m) = true ∧ dv ((numL m).take 10) = m ∧ (numL m).all (fun c => c != 10) = true := by decide +kernel
/-- The meter of a number. -/
def Named (l : List UInt8) (m : Nat) : Prop := m < 50 ∧ numL m = l
theorem Named.one {l : List UInt8} {m k : Nat} (h : Named l m) (h' : Named l k) : m = k := by
  have a := (num_all m h.1).2.2.2.1
  have b := (num_all k h'.1).2.2.2.1
  rw [h.2] at a
  rw [h'.2] at b
  omega
def MeterIs (l : List UInt8) (m e : Int) : Prop :=
  (l.length ≠ 11 ∧ m = 0 ∧ e = 6) ∨ (l.length = 11 ∧ flawR l ≠ 0 ∧ m = 0 ∧ e = flawR l) ∨ (l.length = 11 ∧ flawR l = 0 ∧ goodR l = false ∧ m = 0 ∧ e = 8) ∨
  (l.length = 11 ∧ flawR l = 0 ∧ goodR l = true ∧ (∀ k, ¬ Named l k) ∧ m = 0 ∧ e = 18) ∨ (l.length = 11 ∧ flawR l = 0 ∧ goodR l = true ∧ ∃ k : Nat, Named l k ∧ m = (k : Int) ∧ e = 0)
theorem MeterIs.one {l : List UInt8} {m e m' e' : Int} (h : MeterIs l m e) (h' : MeterIs l m' e') : m = m' ∧ e = e' := by
  rcases h with ⟨a, rfl, rfl⟩ | ⟨a, b, rfl, rfl⟩ | ⟨a, b, c, rfl, rfl⟩ | ⟨a, b, c, d, rfl, rfl⟩ | ⟨a, b, c, k, d, rfl, rfl⟩ <;> rcases h' with ⟨a', rfl, rfl⟩ | ⟨a', b', rfl, rfl⟩ | ⟨a', b', c', rfl, rfl⟩ | ⟨a', b', c', d', rfl, rfl⟩ | ⟨a', b', c', k', d', rfl, rfl⟩ <;> first | exact ⟨rfl, rfl⟩ | contradiction | (rw [c] at c'; exact absurd c' (by decide)) | exact absurd d' (d _) | exact absurd d (d' _) | (obtain rfl := d.one d'; exact ⟨rfl, rfl⟩)
theorem meter_back {k : Nat} (hk : k < 50) {m e : Int} (h : MeterIs (numL k) m e) : m = (k : Int) ∧ e = 0 := by
  obtain ⟨a, b, c, _⟩ := num_all k hk
  exact h.one (.inr (.inr (.inr (.inr ⟨a, b, c, k, ⟨hk, rfl⟩, rfl, rfl⟩))))
/-- A receipt. -/
structure Rc where
  me : Int
  id : Int
  te : Int
  de : Int
  fe : Int
  pr : Int
  ch : Int
  un : Int
  tk : List UInt8
def rc0 : Rc := ⟨0, 0, 0, 0, 0, 0, 0, 0, []⟩
def Ten (z : Int) : Prop := 0 ≤ z ∧ z ≤ 100000000
def RRange (r : Rc) : Prop := (Ten r.te ∧ Ten r.de ∧ Ten r.fe ∧ Ten r.pr) ∧ Ten r.ch ∧ (1 ≤ r.id ∧ r.id ≤ 1048575) ∧ 0 ≤ r.un ∧ r.un ≤ 2097151
def RSum (r : Rc) : Prop := r.te - r.de - r.fe - r.pr - r.ch = 0
def tokR (r : Rc) : token.Tok := tokOf (dv r.tk / 97)
def RTok (r : Rc) : Prop := ((tokR r).i : Int) = r.id ∧ ((tokR r).c = 0 → ((tokR r).a : Int) = r.un) ∧ ((tokR r).c ≠ 0 → r.un = 0)
/-- What is wrong with a receipt. -/
def FaultIs (r : Rc) (e : Int) : Prop :=
  (¬ MMay r.me ∧ e = 18) ∨ (MMay r.me ∧ ¬ RRange r ∧ e = 2) ∨ (MMay r.me ∧ RRange r ∧ ¬ RSum r ∧ e = 19) ∨ (MMay r.me ∧ RRange r ∧ RSum r ∧ parseE r.tk ≠ 0 ∧ e = parseE r.tk) ∨
  (MMay r.me ∧ RRange r ∧ RSum r ∧ parseE r.tk = 0 ∧ ¬ RTok r ∧ e = 8) ∨ (MMay r.me ∧ RRange r ∧ RSum r ∧ parseE r.tk = 0 ∧ RTok r ∧ e = 0)
theorem FaultIs.one {r : Rc} {e f : Int} (h : FaultIs r e) (h' : FaultIs r f) : e = f := by
  rcases h with ⟨a, rfl⟩ | ⟨a, b, rfl⟩ | ⟨a, b, c, rfl⟩ | ⟨a, b, c, d, rfl⟩ | ⟨a, b, c, d, g, rfl⟩ | ⟨a, b, c, d, g, rfl⟩ <;> rcases h' with ⟨a', rfl⟩ | ⟨a', b', rfl⟩ | ⟨a', b', c', rfl⟩ | ⟨a', b', c', d', rfl⟩ | ⟨a', b', c', d', g', rfl⟩ | ⟨a', b', c', d', g', rfl⟩ <;> first | rfl | contradiction
def Right (r : Rc) : Prop := MMay r.me ∧ RRange r ∧ RSum r ∧ parseE r.tk = 0 ∧ RTok r
theorem FaultIs.ok {r : Rc} {e : Int} (h : FaultIs r e) : e = 0 ↔ Right r := by
  rcases h with ⟨a, rfl⟩ | ⟨a, b, rfl⟩ | ⟨a, b, c, rfl⟩ | ⟨a, b, c, d, rfl⟩ | ⟨a, b, c, d, g, rfl⟩ | ⟨a, b, c, d, g, rfl⟩
  · exact ⟨fun h => absurd h (by decide), fun h => absurd h.1 a⟩
  · exact ⟨fun h => absurd h (by decide), fun h => absurd h.2.1 b⟩
  · exact ⟨fun h => absurd h (by decide), fun h => absurd h.2.2.1 c⟩
  · exact ⟨fun h => absurd h d, fun h => absurd h.2.2.2.1 d⟩
  · exact ⟨fun h => absurd h (by decide), fun h => absurd h.2.2.2.2 g⟩
  · exact ⟨fun _ => ⟨a, b, c, d, g⟩, fun _ => rfl⟩
theorem parse_len {l : List UInt8} (h : parseE l = 0) : l.length = 20 ∧ check.allD l = true := by
  unfold parseE at h
  by_cases a : l.length = 20
  · refine ⟨a, ?_⟩
    rw [if_neg (by omega)] at h
    by_cases b : check.allD l = false
    · rw [if_pos b] at h; exact absurd h (by decide)
    · simpa using b
  · rw [if_pos a] at h; exact absurd h (by decide)
/-- A line: a name, a blank, a text, a line feed. -/
def line (n v : List UInt8) : List UInt8 := n ++ 32 :: (v ++ [10])
def nMETER : List UInt8 := [77, 69, 84, 69, 82]
def nNUMBER : List UInt8 := [78, 85, 77, 66, 69, 82]
def nTENDER : List UInt8 := [84, 69, 78, 68, 69, 82]
def nDEBT : List UInt8 := [68, 69, 66, 84]
def nFEE : List UInt8 := [70, 69, 69]
def nPRICE : List UInt8 := [80, 82, 73, 67, 69]
def nCHANGE : List UInt8 := [67, 72, 65, 78, 71, 69]
def nUNITS : List UInt8 := [85, 78, 73, 84, 83]
def nTOKEN : List UInt8 := [84, 79, 75, 69, 78]
/-- Twenty digits, four by four. -/
def four (k : List UInt8) : List UInt8 := k.take 4 ++ 32 :: ((k.drop 4).take 4 ++ 32 :: ((k.drop 8).take 4 ++ 32 :: ((k.drop 12).take 4 ++ 32 :: (k.drop 16).take 4)))
/-- What stands behind the first blank of each line. -/
def vals (r : Rc) : List (List UInt8) := [numL r.me.toNat, Lib.decDigits r.id.toNat, showT r.te, showT r.de, showT r.fe, showT r.pr, showT r.ch, Lib.decDigits r.un.toNat, four r.tk]
def paper (r : Rc) : List UInt8 :=
  line nMETER (numL r.me.toNat) ++ (line nNUMBER (Lib.decDigits r.id.toNat) ++ (line nTENDER (showT r.te) ++ (line nDEBT (showT r.de) ++ (line nFEE (showT r.fe) ++ (line nPRICE (showT r.pr) ++ (line nCHANGE (showT r.ch) ++ (line nUNITS (Lib.decDigits r.un.toNat) ++ line nTOKEN (four r.tk))))))))
/-- The values of a text, byte by byte: those that are whole; whether a line begins; what has come behind the blank. -/
def valG : List UInt8 → List (List UInt8) → Bool → Option (List UInt8) → List (List UInt8) × Bool
  | [], out, b, _ => (out, decide (out.length = 9) && b)
  | c :: t, out, b, cur =>
    if c = 10 then match cur with
      | none => ([], false)
      | some v => valG t (out ++ [v]) true none
    else valG t out false (match cur with
      | none => if c = 32 then some [] else none
      | some v => some (v ++ [c]))
def valsOf (l : List UInt8) : List (List UInt8) × Bool := valG l [] true none
theorem valG_skip {c : UInt8} (h : c ≠ 10) (t : List UInt8) (out : List (List UInt8)) (b : Bool) (cur : Option (List UInt8)) : valG (c :: t) out b cur = valG t out false (match cur with
      | none => if c = 32 then some [] else none
      | some v => some (v ++ [c])) := by
  conv => lhs; unfold valG
  rw [if_neg h]
theorem val_name (n t : List UInt8) (out : List (List UInt8)) (b : Bool) (h : n.all (fun c => c != 10 && c != 32) = true) : valG (n ++ 32 :: t) out b none = valG t out false (some []) := by
  induction n generalizing b with
  | nil => rfl
  | cons c n ih =>
    rw [List.all_cons, Bool.and_eq_true] at h
    obtain ⟨h1, h2⟩ := h
    rw [Bool.and_eq_true] at h1
    have c1 : c ≠ 10 := by simpa using h1.1
    have c2 : c ≠ 32 := by simpa using h1.2
    show valG (c :: (n ++ 32 :: t)) out b none = _
    rw [valG_skip c1]
    dsimp only
    rw [if_neg c2]
    exact ih false h2
theorem val_text (v u t : List UInt8) (out : List (List UInt8)) (h : v.all (fun c => c != 10) = true) : valG (v ++ 10 :: t) out false (some u) = valG t (out ++ [u ++ v]) true none := by
  induction v generalizing u with
  | nil => rw [List.append_nil]; rfl
  | cons c v ih =>
    rw [List.all_cons, Bool.and_eq_true] at h
    have c1 : c ≠ 10 := by simpa using h.1
    show valG (c :: (v ++ 10 :: t)) out false (some u) = _
    rw [valG_skip c1]
    dsimp only
    rw [ih (u ++ [c]) h.2, List.append_assoc]
    rfl
theorem val_line (n v t : List UInt8) (out : List (List UInt8)) (b : Bool) (hn : n.all (fun c => c != 10 && c != 32) = true) (hv : v.all (fun c => c != 10) = true) : valG (line n v ++ t) out b none = valG t (out ++ [v]) true none := by
  unfold line
  rw [List.append_assoc, List.cons_append, val_name n _ out b hn, List.append_assoc]
  exact val_text v [] t out hv
theorem dec_no10 (u : Nat) : (Lib.decDigits u).all (fun c => c != 10) = true := by
  have h := (cents.dec_facts u u (Nat.le_refl _)).1
  refine List.all_eq_true.2 fun c hc => ?_
  have := List.all_eq_true.1 h c hc
  simp [cents.isD] at this
  simp
  intro e
  subst e
  exact absurd this.1 (by decide)
theorem all_app (l m : List UInt8) (f : UInt8 → Bool) : (l ++ m).all f = (l.all f && m.all f) := List.all_append
theorem show_no10 (n : Int) (h : 0 ≤ n) : (showT n).all (fun c => c != 10) = true := by
  unfold showT
  rw [if_neg (by omega)]
  unfold cents.showP
  rw [all_app, all_app, all_app, dec_no10, dec_no10, dec_no10]
  decide
theorem four_no10 {k : List UInt8} (h : check.allD k = true) : (four k).all (fun c => c != 10) = true := by
  have hk : ∀ c ∈ k, (c != 10) = true := fun c hc => by
    have := List.all_eq_true.1 h c hc
    simp [check.isD] at this
    simp
    intro e
    subst e
    exact absurd this.1 (by decide)
  have ht : ∀ (l : List UInt8), (∀ c ∈ l, c ∈ k) → l.all (fun c => c != 10) = true := fun l hl => List.all_eq_true.2 fun c hc => hk c (hl c hc)
  have e : ((32 : UInt8) != 10) = true := by decide
  unfold four
  simp only [all_app, List.all_cons, Bool.and_eq_true, e]
  exact ⟨ht _ fun c hc => List.mem_of_mem_take hc, trivial, ht _ fun c hc => List.mem_of_mem_drop (List.mem_of_mem_take hc), trivial, ht _ fun c hc => List.mem_of_mem_drop (List.mem_of_mem_take hc), trivial, ht _ fun c hc => List.mem_of_mem_drop (List.mem_of_mem_take hc), trivial, ht _ fun c hc => List.mem_of_mem_drop (List.mem_of_mem_take hc)⟩
/-- The lines of a receipt that is right are read off its paper. -/
theorem vals_paper {r : Rc} (h : Right r) : valsOf (paper r) = (vals r, true) := by
  obtain ⟨⟨m0, m1⟩, ⟨⟨⟨t0, _⟩, ⟨d0, _⟩, ⟨f0, _⟩, p0, _⟩, ⟨c0, _⟩, _⟩, _, hp, _⟩ := h
  have hn := (num_all r.me.toNat (by omega)).2.2.2.2
  unfold valsOf paper
  rw [val_line _ _ _ _ _ (by decide) hn, val_line _ _ _ _ _ (by decide) (dec_no10 _), val_line _ _ _ _ _ (by decide) (show_no10 _ t0), val_line _ _ _ _ _ (by decide) (show_no10 _ d0), val_line _ _ _ _ _ (by decide) (show_no10 _ f0), val_line _ _ _ _ _ (by decide) (show_no10 _ p0), val_line _ _ _ _ _ (by decide) (show_no10 _ c0), val_line _ _ _ _ _ (by decide) (dec_no10 _)]
  have e := val_line nTOKEN (four r.tk) [] ([] ++ [numL r.me.toNat] ++ [Lib.decDigits r.id.toNat] ++ [showT r.te] ++ [showT r.de] ++ [showT r.fe] ++ [showT r.pr] ++ [showT r.ch] ++ [Lib.decDigits r.un.toNat]) true (by decide) (four_no10 (parse_len hp).2)
  rw [List.append_nil] at e
  rw [e]
  rfl
/-- A whole number of at most seven digits. -/
def wholeR (l : List UInt8) : Int := if l.length < 1 ∨ 7 < l.length then -1 else if cents.allD l = true then cents.dval l else -1
theorem dec_len7 (u : Nat) (h : u ≤ 2097151) : 1 ≤ (Lib.decDigits u).length ∧ (Lib.decDigits u).length ≤ 7 := by
  have hne := (cents.dec_facts u u (Nat.le_refl _)).2.2.1
  refine ⟨by cases e : Lib.decDigits u with
    | nil => exact absurd e hne
    | cons a l => simp, ?_⟩
  have step : ∀ v : Nat, ∀ k : Nat, v < 10 ^ (k + 1) → (Lib.decDigits v).length ≤ k + 1 := fun v k => by
    induction k generalizing v with
    | zero =>
      intro hv
      have : ∀ x, x < 10 → (Lib.decDigits x).length ≤ 0 + 1 := by decide +kernel
      exact this v (by omega)
    | succ k ih =>
      intro hv
      by_cases h10 : v < 10
      · have : ∀ x, x < 10 → (Lib.decDigits x).length ≤ 1 := by decide +kernel
        have := this v h10
        omega
      · rw [cents.dec_step h10, List.length_append]
        have := ih (v / 10) (by rw [Nat.pow_succ] at hv; omega)
        simp
        omega
  have := step u 6 (by omega)
  omega
theorem whole_dec {u : Nat} (h : u ≤ 2097151) : wholeR (Lib.decDigits u) = (u : Int) := by
  have h1 := dec_len7 u h
  have h2 := cents.dec_facts u u (Nat.le_refl _)
  unfold wholeR
  rw [if_neg (by omega), if_pos h2.1, h2.2.1]
/-- The twenty digits out of their line. -/
def unfour (t : List UInt8) : List UInt8 := t.take 4 ++ ((t.drop 5).take 4 ++ ((t.drop 10).take 4 ++ ((t.drop 15).take 4 ++ (t.drop 20).take 4)))
theorem four_len {k : List UInt8} (h : k.length = 20) : (four k).length = 24 := by
  unfold four
  simp only [List.length_append, List.length_cons, List.length_take, List.length_drop]
  omega
theorem un_four {k : List UInt8} (h : k.length = 20) : unfour (four k) = k := by
  match k, h with
  | [a, b, c, d, e, f, g, i, j, l, m, n, o, p, q, r, s, t, u, v], _ => rfl
/-- The receipt that the lines tell of. -/
def MeterV (l : List UInt8) (m : Int) : Prop := ∃ e, MeterIs l m e
def Cand (l : List (List UInt8)) (r : Rc) : Prop := MeterV (l.getD 0 []) r.me ∧ r = ⟨r.me, wholeR (l.getD 1 []), (readR (l.getD 2 [])).1, (readR (l.getD 3 [])).1, (readR (l.getD 4 [])).1, (readR (l.getD 5 [])).1, (readR (l.getD 6 [])).1, wholeR (l.getD 7 []), unfour (l.getD 8 [])⟩
theorem Cand.one {l : List (List UInt8)} {r s : Rc} (h : Cand l r) (h' : Cand l s) : r = s := by
  obtain ⟨⟨e, a⟩, b⟩ := h
  obtain ⟨⟨e', a'⟩, b'⟩ := h'
  rw [b, b', (a.one a').1]
theorem cand_right {r : Rc} (h : Right r) : Cand (vals r) r := by
  obtain ⟨⟨m0, m1⟩, ⟨⟨⟨t0, t1⟩, ⟨d0, d1⟩, ⟨f0, f1⟩, p0, p1⟩, ⟨c0, c1⟩, ⟨i0, i1⟩, u0, u1⟩, _, hp, _⟩ := h
  obtain ⟨na, nb, nc, _⟩ := num_all r.me.toNat (by omega)
  refine ⟨⟨0, .inr (.inr (.inr (.inr ⟨na, nb, nc, r.me.toNat, ⟨by omega, rfl⟩, by omega, rfl⟩)))⟩, ?_⟩
  show r = ⟨r.me, wholeR (Lib.decDigits r.id.toNat), (readR (showT r.te)).1, (readR (showT r.de)).1, (readR (showT r.fe)).1, (readR (showT r.pr)).1, (readR (showT r.ch)).1, wholeR (Lib.decDigits r.un.toNat), unfour (four r.tk)⟩
  rw [whole_dec (by omega), whole_dec (by omega), read_shown _ (by omega) (by omega), read_shown _ (by omega) (by omega), read_shown _ (by omega) (by omega), read_shown _ (by omega) (by omega), read_shown _ (by omega) (by omega), un_four (parse_len hp).1]
  rw [Int.toNat_of_nonneg (by omega), Int.toNat_of_nonneg (by omega)]
theorem paper_inj {r s : Rc} (hr : Right r) (hs : Right s) (h : paper r = paper s) : r = s := by
  have a := vals_paper hr
  rw [h, vals_paper hs] at a
  have b : vals s = vals r := congrArg Prod.fst a
  have c := cand_right hr
  rw [← b] at c
  exact c.one (cand_right hs)
def ShowIs (r : Rc) (l : List UInt8) (e : Int) : Prop := FaultIs r e ∧ ((e = 0 ∧ l = paper r) ∨ (e ≠ 0 ∧ l = []))
theorem ShowIs.one {r : Rc} {l l' : List UInt8} {e e' : Int} (h : ShowIs r l e) (h' : ShowIs r l' e') : l = l' ∧ e = e' := by
  obtain ⟨a, b⟩ := h
  obtain ⟨a', b'⟩ := h'
  obtain rfl := a.one a'
  rcases b with ⟨_, rfl⟩ | ⟨c, rfl⟩ <;> rcases b' with ⟨_, rfl⟩ | ⟨c', rfl⟩ <;> first | exact ⟨rfl, rfl⟩ | contradiction
def ReadIs (l : List UInt8) (r : Rc) (e : Int) : Prop :=
  (400 < l.length ∧ r = rc0 ∧ e = 1) ∨ (¬ 400 < l.length ∧ (∀ s, Right s → paper s ≠ l) ∧ r = rc0 ∧ e = 3) ∨ (¬ 400 < l.length ∧ Right r ∧ paper r = l ∧ e = 0)
theorem ReadIs.one {l : List UInt8} {r s : Rc} {e f : Int} (h : ReadIs l r e) (h' : ReadIs l s f) : r = s ∧ e = f := by
  rcases h with ⟨a, rfl, rfl⟩ | ⟨a, b, rfl, rfl⟩ | ⟨a, b, c, rfl⟩ <;> rcases h' with ⟨a', rfl, rfl⟩ | ⟨a', b', rfl, rfl⟩ | ⟨a', b', c', rfl⟩ <;> first | exact ⟨rfl, rfl⟩ | contradiction | exact absurd c' (b _ b') | exact absurd c (b' _ ‹_›) | exact ⟨paper_inj b b' (c.trans c'.symm), rfl⟩

end Go.Proofs.YtlicdeppfhmfjabDoor.rcp

/- What the five of the receipts give back. -/
namespace Go.Proofs.YtlicdeppfhmfjabDoor.rcp
open Go.RowKit

/-- A text. -/
def tx (l : List UInt8) : Value := .string ⟨l.toArray⟩
def Rc.cs (r : Rc) : Array Value := #[.int .i64 r.me, .int .i64 r.id, .int .i64 r.te, .int .i64 r.de, .int .i64 r.fe, .int .i64 r.pr, .int .i64 r.ch, .int .i64 r.un, .string ⟨r.tk.toArray⟩]
def wf8 (r : Rc) : Prop := ((Lit.int .i64 r.me).wf = true ∧ (Lit.int .i64 r.id).wf = true ∧ (Lit.int .i64 r.te).wf = true ∧ (Lit.int .i64 r.de).wf = true) ∧ (Lit.int .i64 r.fe).wf = true ∧ (Lit.int .i64 r.pr).wf = true ∧ (Lit.int .i64 r.ch).wf = true ∧ (Lit.int .i64 r.un).wf = true
def Rc.v (r : Rc) : Value := .agg r.cs
def NumPost (w : World) (m : Int) (e : Ending) (w' : World) : Prop := ∃ l f, e = .returned (.tuple #[.string ⟨l.toArray⟩, .int .i64 f]) ∧ NumIs m l f ∧ Below w.heap.size w w'
def MeterPost (w : World) (l : List UInt8) (e : Ending) (w' : World) : Prop := ∃ m f, e = .returned (.tuple #[.int .i64 m, .int .i64 f]) ∧ MeterIs l m f ∧ Below w.heap.size w w'
def FaultPost (w : World) (r : Rc) (e : Ending) (w' : World) : Prop := ∃ f, e = .returned (.int .i64 f) ∧ FaultIs r f ∧ Below w.heap.size w w'
def ShowPost (w : World) (r : Rc) (e : Ending) (w' : World) : Prop := ∃ l f, e = .returned (.tuple #[.string ⟨l.toArray⟩, .int .i64 f]) ∧ ShowIs r l f ∧ Below w.heap.size w w'
def ReadPost (w : World) (l : List UInt8) (e : Ending) (w' : World) : Prop := ∃ r f, e = .returned (.tuple #[Rc.v r, .int .i64 f]) ∧ ReadIs l r f ∧ Below w.heap.size w w'

end Go.Proofs.YtlicdeppfhmfjabDoor.rcp

/- receipt.Check: what is asked of it. -/
namespace Go.Proofs.YtlicdeppfhmfjabDoor.rcp
open Go.RowKit

def KrCheck (w0 : World) : Prop := ∀ (W : World) (r : Rc), Below w0.heap.size w0 W → wf8 r → Calls Tryd.prog 7 #[r.v] W fun e w' => FaultPost W r e w'

end Go.Proofs.YtlicdeppfhmfjabDoor.rcp

/- receipt.Show: what is asked of it. -/
namespace Go.Proofs.YtlicdeppfhmfjabDoor.rcp
open Go.RowKit

def KrShow (w0 : World) : Prop := ∀ (W : World) (r : Rc), Below w0.heap.size w0 W → wf8 r → Calls Tryd.prog 8 #[r.v] W fun e w' => ShowPost W r e w'

end Go.Proofs.YtlicdeppfhmfjabDoor.rcp

/- A store behind which the world is a letter: what it changed, and that nothing else did. -/
namespace Go.Proofs.YtlicdeppfhmfjabDoor
open Go.RowKit

/-- The cells with these ones from a place on. -/
def putAll (cs : Array Value) : Nat → List Value → Array Value
  | _, [] => cs
  | o, v :: r => putAll (cs.setIfInBounds o v) (o + 1) r
/-- The block g holds these cells now; nothing else is changed. -/
structure Upd (w W : World) (g : Nat) (cs : Array Value) (t : TypeId) : Prop where
  blk : Blk W g cs t
  oth : ∀ G, G ≠ g → W.heap[G]? = w.heap[G]?
  bel : ∀ B w0, B ≤ g → Below B w0 w → Below B w0 W
  size : W.heap.size = w.heap.size
theorem Upd.keep {w W : World} {g G : Nat} {cs cs' : Array Value} {t t' : TypeId} (h : Upd w W g cs t) (hb : Blk w G cs' t') (hne : G ≠ g) : Blk W G cs' t' := by
  unfold Blk at *; rw [h.oth G hne]; exact hb
theorem Upd.cell {w W : World} {g : Nat} {cs : Array Value} {t : TypeId} (h : Upd w W g cs t) (x : Addr) (hne : x.block ≠ g) (hs : x.spot = none) : W.cell? x = w.cell? x := by
  obtain ⟨b, o, s⟩ := x
  simp only at hs hne
  subst hs
  simp only [World.cell?, h.oth b hne]
theorem upd_cells (g : Nat) (t : TypeId) : ∀ (vs : List Value) (o : Nat) (w : World) (cs : Array Value), Blk w g cs t → Upd w (w.setCells g o vs) g (putAll cs o vs) t
  | [], o, w, cs, h => ⟨h, fun _ _ => rfl, fun _ _ _ hb => hb, rfl⟩
  | v :: r, o, w, cs, h => by
    have ih := upd_cells g t r (o + 1) (w.setCell ⟨g, o, none⟩ v) (cs.setIfInBounds o v) (h.set o v)
    refine ⟨ih.blk, fun G hG => ?_, fun B w0 hB hb => ih.bel B w0 hB (bel_set hb g o v hB), ?_⟩
    · show ((w.setCell ⟨g, o, none⟩ v).setCells g (o + 1) r).heap[G]? = _
      rw [ih.oth G hG]
      simp only [World.setCell, Array.getElem?_modify]
      rw [if_neg (fun e => hG e.symm)]
    · show ((w.setCell ⟨g, o, none⟩ v).setCells g (o + 1) r).heap.size = _
      rw [ih.size]; simp [World.setCell]
theorem run_storeVar_let {P : Program} {w : World} {g off : Nat} {ty t : TypeId} {v : Value} {cells cs : Array Value} (hv : v.cells = cells) (hi : (P.info? ty).map (·.size) = some cells.size) (h1 : cells.all (·.oneCell') = true)
    (hB : Blk w g cs t) (hin : off + cells.size ≤ cs.size) : (storeVar ty ⟨g, off, none⟩ v).run P w = .ok () (w.setCells g off cells.toList) := by
  have := run_storeCells_cells (P := P) g off cells.toList 0 w (fun j hj => by
      have hj' : j < cells.size := by simpa using hj
      rw [Nat.add_zero, hB.cell (off + j), Array.getElem?_eq_getElem (by omega)]; rfl)
    (fun j hj => hB.free _) (fun v hv => (Array.all_eq_true_iff_forall_mem.1 h1) v (by simpa using hv))
  cases hq : P.info? ty with
  | none => simp [hq] at hi
  | some i =>
    have hs : cells.size = i.size := by simp [hq] at hi; omega
    simp only [Nat.add_zero] at this
    simp [storeVar, sizeOf, typeInfo, hq, hv, hs, this]
/-- THE STORE. -/
theorem wp_let {P : Program} {ops : Array Oper} {rest : List Oper} {o : Oper} {a : Act} {w : World} {Q : Exit → Act → World → Prop} (hgd : o.guard = none) (ty : TypeId) (x y : Operand) (ho : o.op = .store ty x y)
    (g off : Nat) (hx : a.eval x = .pointer (some ⟨g, off, none⟩)) (v : Value) (hy : a.eval y = v) (cells : Array Value) (hv : v.cells = cells) (hi : (P.info? ty).map (·.size) = some cells.size) (h1 : cells.all (·.oneCell') = true)
    (cs : Array Value) (t : TypeId) (hB : Blk w g cs t) (hin : off + cells.size ≤ cs.size) (new : Array Value) (hnew : putAll cs off cells.toList = new)
    (h : ∀ W, Upd w W g new t → wpList P ops Q rest (a.put o.dst undef) W) : wpList P ops Q (o :: rest) a w :=
  wpList_plain hgd fun _ hK => by
    unfold Oper.wp execOp
    simp only [ho, hx, hy, Instr.storeAt, Instr.sureAddr, Sem.run_bind, Sem.run_pure, Result.andThen_ok, run_storeVar_let hv hi h1 hB hin]
    refine hK _ _ (h _ ?_)
    rw [← hnew]
    exact upd_cells g t cells.toList off w cs hB
theorem putAll_all : ∀ (vs : List Value) (o : Nat) (cs : Array Value), o + vs.length = cs.size → (putAll cs o vs).toList = cs.toList.take o ++ vs
  | [], o, cs, h => by simp [putAll]; rw [List.take_of_length_le (by simpa using (by simp at h; omega))]
  | v :: r, o, cs, h => by
    rw [putAll, putAll_all r (o + 1) (cs.setIfInBounds o v) (by simp at h ⊢; omega)]
    have ho : o < cs.toList.length := by simp at h ⊢; omega
    rw [Array.toList_setIfInBounds, List.take_set, List.take_succ_eq_append_getElem ho]
    have ho' : o < cs.size := by simpa using ho
    have hm : min o cs.size = o := by omega
    simp [hm]
/-- The whole block is stored. -/
theorem wp_letAll {P : Program} {ops : Array Oper} {rest : List Oper} {o : Oper} {a : Act} {w : World} {Q : Exit → Act → World → Prop} (hgd : o.guard = none) (ty : TypeId) (x y : Operand) (ho : o.op = .store ty x y)
    (g : Nat) (hx : a.eval x = .pointer (some ⟨g, 0, none⟩)) (cells : Array Value) (hy : a.eval y = .agg cells) (hi : (P.info? ty).map (·.size) = some cells.size) (h1 : cells.all (·.oneCell') = true)
    (cs : Array Value) (t : TypeId) (hB : Blk w g cs t) (hin : cells.size = cs.size)
    (h : ∀ W, Upd w W g cells t → wpList P ops Q rest (a.put o.dst undef) W) : wpList P ops Q (o :: rest) a w :=
  wp_let hgd ty x y ho g 0 hx _ hy cells rfl hi h1 cs t hB (by omega) cells (by
    have := putAll_all cells.toList 0 cs (by simpa using hin)
    rw [List.take_zero, List.nil_append] at this
    rw [← Array.toList_inj]; exact this) h
/-- One cell is stored. -/
theorem wp_let1 {P : Program} {ops : Array Oper} {rest : List Oper} {o : Oper} {a : Act} {w : World} {Q : Exit → Act → World → Prop} (hgd : o.guard = none) (ty : TypeId) (x y : Operand) (ho : o.op = .store ty x y)
    (g off : Nat) (hx : a.eval x = .pointer (some ⟨g, off, none⟩)) (k : IntKind) (n : Int) (hy : a.eval y = .int k n) (hi : (P.info? ty).map (·.size) = some 1)
    (cs : Array Value) (t : TypeId) (hB : Blk w g cs t) (hin : off < cs.size)
    (h : ∀ W, Upd w W g (cs.setIfInBounds off (.int k n)) t → wpList P ops Q rest (a.put o.dst undef) W) : wpList P ops Q (o :: rest) a w :=
  wp_let hgd ty x y ho g off hx _ hy #[.int k n] rfl hi (by simp [Value.oneCell']) cs t hB (by simp; omega) _ rfl h
/-- THE LOAD of a whole block. -/
theorem wp_whole {P : Program} {ops : Array Oper} {rest : List Oper} {o : Oper} {a : Act} {w : World} {Q : Exit → Act → World → Prop} (hgd : o.guard = none) (ty : TypeId) (x : Operand) (ho : o.op = .load ty x)
    (g : Nat) (hx : a.eval x = .pointer (some ⟨g, 0, none⟩)) (t : TypeId) (cs : Array Value) (d : TypeDesc) (hB : Blk w g cs t)
    (hu : P.underlying ty = some d) (hd : (match d with | .struct _ | .array _ _ => true | _ => false) = true) (hi : (P.info? ty).map (·.size) = some cs.size)
    (h : wpList P ops Q rest (a.put o.dst (.agg cs)) w) : wpList P ops Q (o :: rest) a w := wpList_load_row hgd ty x ho g hx t cs (0, 0) d hB hu hd hi h

/-- A store and a load as what they run to, where the order is open. -/
theorem store_let {P : Program} {w : World} {g : Nat} {ty t : TypeId} {cells cs : Array Value} (hi : (P.info? ty).map (·.size) = some cells.size) (h1 : cells.all (·.oneCell') = true)
    (hB : Blk w g cs t) (hin : cells.size = cs.size) : ∃ W, (Instr.storeAt ty (.pointer (some ⟨g, 0, none⟩)) (.agg cells)).run P w = .ok () W ∧ Upd w W g cells t := by
  refine ⟨w.setCells g 0 cells.toList, ?_, ?_⟩
  · have hs := run_storeVar_let (P := P) (v := .agg cells) (cells := cells) (off := 0) rfl hi h1 hB (by omega)
    simp only [Instr.storeAt, Instr.sureAddr, Sem.run_bind, Sem.run_pure, Result.andThen_ok, hs]
  · have h := upd_cells g t cells.toList 0 w cs hB
    have := putAll_all cells.toList 0 cs (by simpa using hin)
    rw [List.take_zero, List.nil_append] at this
    rw [show putAll cs 0 cells.toList = cells by rw [← Array.toList_inj]; exact this] at h
    exact h
theorem load_let {P : Program} {w : World} {g : Nat} {ty t : TypeId} {cs : Array Value} {d : TypeDesc} (hB : Blk w g cs t) (hu : P.underlying ty = some d) (hd : d.isRow = true) (hi : (P.info? ty).map (·.size) = some cs.size) :
    (Instr.loadAt ty (.pointer (some ⟨g, 0, none⟩))).run P w = .ok (.agg cs) w := by
  have := run_loadAt_mid (P := P) w g 0 ty cs.toList d (fun j v hv => by rw [Nat.zero_add, hB.cell j]; simpa using hv) hu hd (by simpa using hi)
  simpa using this
/-- A whole block is read, whatever comes ahead. -/
theorem yieldsIf_whole {P : Program} {ops : Array Oper} {S : World → Prop} {op : Oper} {a : Act} (hw : Region.wanted op (yielded ops a.tmps) = true) (ty : TypeId) (x : Operand) (ho : op.op = .load ty x)
    (g : Nat) (hx : a.eval x = .pointer (some ⟨g, 0, none⟩)) (t : TypeId) (cs : Array Value) (d : TypeDesc) (hS : ∀ w, S w → Blk w g cs t)
    (hu : P.underlying ty = some d) (hd : d.isRow = true) (hi : (P.info? ty).map (·.size) = some cs.size) : YieldsIf P ops S op (.agg cs) a := by
  have := yieldsIf_load_mid (P := P) (S := S) hw ty x ho g 0 hx cs.toList d (fun w hSw j v hv => by rw [Nat.zero_add, (hS w hSw).cell j]; simpa using hv) hu hd (by simpa using hi)
  simpa using this
/-- An operation is taken first: where its answer goes is said. -/
theorem take_at {P : Program} {ops : Array Oper} {Q : Exit → Act → World → Prop} {md : Region.Mode} {S : World → Prop} {fuel : Nat} {listed : Array Bool} {a : Act} {w : World} (i d : Nat) (v : Value) (oi : Oper) (hi : ops[i]? = some oi) (hd : oi.dst = some d)
    (hs : Region.noSelect ops = true) (hf : Region.free md ops listed i = true) (hr : (Region.ready md ops listed).contains i = true)
    (hQ : ∀ c a w, Q (.panic c) (a.put oi.dst v) w → Q (.panic c) a w) (hy : YieldsIf P ops S oi v a) (hS : S w)
    (h : wpAnyH P md ops Q S fuel (listed.setIfInBounds i true) (a.put (some d) v) w) : wpAnyH P md ops Q S (fuel + 1) listed a w :=
  wpAnyH_take hi hs hf hr hQ hy hS (by rw [hd]; exact h)
/-- A whole block is stored, where the order is open. -/
theorem wp_letOp {P : Program} {o : Oper} {a : Act} {w : World} {K : Act → World → Prop} {Q : Exit → Act → World → Prop} (ty : TypeId) (x y : Operand) (ho : o.op = .store ty x y)
    (g : Nat) (hx : a.eval x = .pointer (some ⟨g, 0, none⟩)) (cells : Array Value) (hy : a.eval y = .agg cells) (hi : (P.info? ty).map (·.size) = some cells.size) (h1 : cells.all (·.oneCell') = true)
    (cs : Array Value) (t : TypeId) (hB : Blk w g cs t) (hin : cells.size = cs.size) (hd : o.dst = none)
    (h : ∀ W, Upd w W g cells t → K a W) : o.wp P a w K Q := by
  obtain ⟨W, hst, hU⟩ := store_let (P := P) (ty := ty) hi h1 hB hin
  unfold Oper.wp execOp
  simp only [ho, hx, hy, Sem.run_bind, hst, Result.andThen_ok]
  have := h W hU
  have e : a.put o.dst undef = a := by rw [hd]; rfl
  rw [← e] at this
  exact this
theorem Upd.drew {w W : World} {g : Nat} {cs : Array Value} {t : TypeId} (h : Upd w W g cs t) (q : Nat) : Upd w (W.drewN q) g cs t := ⟨h.blk, h.oth, fun B w0 hB hb => bel_drew (h.bel B w0 hB hb) q, h.size⟩

end Go.Proofs.YtlicdeppfhmfjabDoor

/- The load of a whole block, under a test that came out so. -/
namespace Go.Proofs.YtlicdeppfhmfjabDoor
open Go.RowKit

theorem wp_wholeG {P : Program} {ops : Array Oper} {rest : List Oper} {o : Oper} {a : Act} {w : World} {Q : Exit → Act → World → Prop} (hw : Region.wanted o (yielded ops a.tmps) = true) (ty : TypeId) (x : Operand) (ho : o.op = .load ty x)
    (g : Nat) (hx : a.eval x = .pointer (some ⟨g, 0, none⟩)) (t : TypeId) (cs : Array Value) (d : TypeDesc) (hB : Blk w g cs t)
    (hu : P.underlying ty = some d) (hd : d.isRow = true) (hi : (P.info? ty).map (·.size) = some cs.size)
    (h : wpList P ops Q rest (a.put o.dst (.agg cs)) w) : wpList P ops Q (o :: rest) a w :=
  wpList_step fun K hK => by
    rw [if_pos hw]
    exact wp_load_mid (P := P) (op := o) (a := a) (w := w) (K := K) (Q := Q) ty x ho g 0 hx cs.toList d (fun j v hv => by rw [Nat.zero_add, hB.cell j]; simpa using hv) hu hd (by simpa using hi) (by simpa using hK _ _ h)

end Go.Proofs.YtlicdeppfhmfjabDoor

/- Where the order is open: a call that changes nothing may be thought of as coming up first. -/
namespace Go.Proofs.YtlicdeppfhmfjabDoor
open Go.RowKit

section
variable {P : Program} {ops : Array Oper} {Q : Exit → Act → World → Prop} {md : Region.Mode} {S : World → Prop}
/-- In the state a, in every world of S, the operation is a call of f with these arguments. -/
structure EntersIf (P : Program) (ops : Array Oper) (S : World → Prop) (o : Oper) (f : FuncId) (args : Array Value) (a : Act) : Prop where
  want : Region.wanted o (yielded ops a.tmps) = true
  run : ∀ w, S w → (execOp a.eval o).run P w = .ok (.enter f args) w
/-- And the call gives v, and leaves the world as it is. -/
def Gives (P : Program) (S : World → Prop) (f : FuncId) (args : Array Value) (v : Value) : Prop := ∀ w, S w → Calls P f args w fun e w' => e = .returned v ∧ w' = w
theorem EntersIf.now {o : Oper} {f : FuncId} {args : Array Value} {a : Act} {v : Value} {i : Nat} (h : EntersIf P ops S o f args a) (hg : Gives P S f args v) (hi : ops[i]? = some o) {K : Act → World → Prop} {w : World} (hS : S w) (hk : K (a.put o.dst v) w) : wpOp P ops Q i K a w := by
  unfold wpOp
  simp only [hi, h.want, if_true]
  left
  unfold Oper.wp
  rw [h.run w hS, Oper.upon_enter]
  refine (hg w hS).mono fun e w' he => ?_
  obtain ⟨rfl, rfl⟩ := he
  exact hk
/-- Another operation, apart from it, neither sees it nor is seen. -/
theorem EntersIf.apart {o p : Oper} {f : FuncId} {args : Array Value} {v : Value} {j : Nat} (hj : ops[j]? = some p) (hap : o.apart ops p = true) (hso : ∀ cs b, o.op ≠ .select cs b) (hsp : ∀ cs b, p.op ≠ .select cs b)
    (hQ : ∀ c a w, Q (.panic c) (a.put o.dst v) w → Q (.panic c) a w) {K : Act → World → Prop} {a : Act} {w : World} (he : EntersIf P ops S o f args a) (h : wpOp P ops Q j K (a.put o.dst v) w) :
    wpOp P ops Q j (fun a' w' => EntersIf P ops S o f args a' ∧ K (a'.put o.dst v) w') a w := by
  obtain ⟨n1, n2, n3⟩ := Oper.apart_spec hap
  have stay : ∀ b : Act, EntersIf P ops S o f args b → ∀ u, EntersIf P ops S o f args (b.put p.dst u) := fun b hb u => ⟨by rw [wanted_put o b p.dst u n3]; exact hb.want, fun w hw => by rw [execOp_put o hso b p.dst u n3]; exact hb.run w hw⟩
  have both : ∀ (b : Act) (u : Value) (w' : World), EntersIf P ops S o f args b → K ((b.put o.dst v).put p.dst u) w' → EntersIf P ops S o f args (b.put p.dst u) ∧ K ((b.put p.dst u).put o.dst v) w' := fun b u w' hb hk => ⟨stay b hb u, by rw [← Act.put_comm b v u n2]; exact hk⟩
  unfold wpOp at h ⊢
  simp only [hj] at h ⊢
  rw [wanted_put p a o.dst v n1] at h
  by_cases hw : Region.wanted p (yielded ops a.tmps) = true
  · rw [if_pos hw] at h ⊢
    rcases h with h | ⟨h, hl⟩
    · left
      unfold Oper.wp at h ⊢
      rw [execOp_put p hsp a o.dst v n1] at h
      cases hr : (execOp a.eval p).run P w with
      | halt x w' =>
        rw [hr] at h
        cases x <;> simp only [Oper.upon] at h ⊢
        exact hQ _ _ _ h
      | ok n w' =>
        rw [hr] at h
        cases n with
        | value u => exact both a u w' he h
        | skip => exact both a undef w' he h
        | defer d =>
          simp only [Oper.upon] at h ⊢
          rw [Act.put_defers] at h
          exact both _ _ _ ⟨he.want, he.run⟩ h
        | enter g xs =>
          simp only [Oper.upon] at h ⊢
          refine Calls.mono h fun e w'' hx => ?_
          cases e with
          | returned u => exact both a u w'' he hx
          | panicked c => exact hQ _ _ _ hx
          | outgrown => exact hx
        | row r xs =>
          simp only [Oper.upon] at h ⊢
          exact Rows.mono h fun u w'' hx => both a u w'' he hx
        | _ => exact False.elim h
    · right
      unfold Oper.asks at h ⊢
      rw [execOp_put p hsp a o.dst v n1] at h
      exact ⟨h, hl⟩
  · rw [if_neg hw] at h ⊢
    exact both a undef w he h
/-- THE CALL FIRST. -/
theorem call_first {i : Nat} {o : Oper} {f : FuncId} {args : Array Value} {v : Value} (hi : ops[i]? = some o) (hsel : ∀ (j : Nat) (o : Oper) cs b, ops[j]? = some o → o.op ≠ .select cs b)
    (hQ : ∀ c a w, Q (.panic c) (a.put o.dst v) w → Q (.panic c) a w) (hg : Gives P S f args v) (fuel : Nat) : ∀ (listed : Array Bool) (a : Act) (w : World),
      (∀ j p, ops[j]? = some p → j ≠ i → listed.getD j true = false → (∀ e ∈ p.after, Region.binds md e = true → e.on ≠ i) → o.apart ops p = true) →
      i ∈ Region.ready md ops listed → EntersIf P ops S o f args a → S w →
      wpAnyH P md ops Q S fuel (listed.setIfInBounds i true) (a.put o.dst v) w → wpAnyH P md ops Q S (fuel + 1) listed a w := by
  induction fuel with
  | zero =>
    intro listed a w _ hr he hS H
    refine ⟨fun h => absurd hr (by rw [h]; exact List.not_mem_nil), fun j hj => ?_⟩
    by_cases e : j = i
    · rw [e]; exact he.now hg hi hS ⟨hS, H⟩
    · have := ready_mono hj e
      rw [H.1] at this
      exact absurd this List.not_mem_nil
  | succ fuel ih =>
    intro listed a w hfree hr he hS H
    refine ⟨fun h => absurd hr (by rw [h]; exact List.not_mem_nil), fun j hj => ?_⟩
    by_cases e : j = i
    · rw [e]; exact he.now hg hi hS ⟨hS, H⟩
    · obtain ⟨hun, p, hp, hall⟩ := mem_ready.1 hj
      have hno : ∀ x ∈ p.after, Region.binds md x = true → x.on ≠ i := fun x hx hb hxi => by
        have h1 := hall x hx hb
        have h0 := (mem_ready.1 hr).1
        rw [hxi] at h1
        by_cases hlt : i < listed.size
        · simp [hlt] at h0 h1
          rw [h0] at h1; cases h1
        · simp [hlt] at h1
      have h2 := EntersIf.apart hp (hfree j p hp e hun hno) (fun cs b => hsel i o cs b hi) (fun cs b => hsel j p cs b hp) hQ he (H.2 j (ready_mono hj e))
      refine wpOp_mono (fun a' w' h3 => ⟨h3.2.1, ih (listed.setIfInBounds j true) a' w' (fun k q hq hki hku hkn => hfree k q hq hki ?_ hkn) (ready_mono hr (Ne.symm e)) h3.1 h3.2.1 ?_⟩) h2
      · by_cases hjk : j = k
        · rw [← hjk]; exact hun
        · rw [getD_set_ne true hjk] at hku; exact hku
      · rw [Array.setIfInBounds_comm _ _ e]; exact h3.2.2
theorem call_at {fuel : Nat} {listed : Array Bool} {a : Act} {w : World} (i d : Nat) (v : Value) (o : Oper) (hi : ops[i]? = some o) (hd : o.dst = some d)
    (hs : Region.noSelect ops = true) (hf : Region.free md ops listed i = true) (hr : (Region.ready md ops listed).contains i = true)
    (hQ : ∀ c a w, Q (.panic c) (a.put o.dst v) w → Q (.panic c) a w) (f : FuncId) (args : Array Value) (he : EntersIf P ops S o f args a) (hg : Gives P S f args v) (hS : S w)
    (h : wpAnyH P md ops Q S fuel (listed.setIfInBounds i true) (a.put (some d) v) w) : wpAnyH P md ops Q S (fuel + 1) listed a w :=
  call_first hi (Region.noSelect_spec hs) hQ hg fuel listed a w (Region.free_spec hi hf) (by simpa using hr) he hS (by rw [hd]; exact h)
end

end Go.Proofs.YtlicdeppfhmfjabDoor

/- Operations one by one, where the order is open. -/
namespace Go.Proofs.YtlicdeppfhmfjabDoor
open Go.RowKit

/-- An operation that gives a value, where the order is open. -/
theorem wp_runOp {P : Program} {o : Oper} {a : Act} {w w' : World} {v : Value} {K : Act → World → Prop} {Q : Exit → Act → World → Prop} (d : Nat) (hd : o.dst = some d) (hrun : (execOp a.eval o).run P w = .ok (.value v) w') (h : K (a.put (some d) v) w') : o.wp P a w K Q := by
  rw [← hd] at h
  unfold Oper.wp
  rw [hrun, Oper.upon_value]
  exact h
/-- A call by its contract, where the order is open. -/
theorem wp_callOp {P : Program} {o : Oper} {a : Act} {w : World} {f : FuncId} {args : Array Value} {R : Ending → World → Prop} {K : Act → World → Prop} {Q : Exit → Act → World → Prop} (d : Nat) (hd : o.dst = some d) (hrun : (execOp a.eval o).run P w = .ok (.enter f args) w) (hc : Calls P f args w R)
    (h : ∀ e w', R e w' → ∃ v, e = .returned v ∧ K (a.put (some d) v) w') : o.wp P a w K Q := by
  rw [← hd] at h
  unfold Oper.wp
  rw [hrun, Oper.upon_enter]
  refine hc.mono fun e w' hr => ?_
  obtain ⟨v, rfl, hk⟩ := h e w' hr
  exact hk

end Go.Proofs.YtlicdeppfhmfjabDoor

/- A receipt that is right, of raw numbers. -/
namespace Go.Proofs.YtlicdeppfhmfjabDoor.rcp
open Go.RowKit
set_option maxRecDepth 100000
set_option linter.unusedVariables false
set_option linter.unusedSimpArgs false

/-- The numbers of a slip are numbers. -/
def wf9 (xm x1 x2 x3 x4 xd xf xp xc : Int) : Prop := ((Lit.int .i64 xm).wf = true ∧ token.wf4 x1 x2 x3 x4) ∧ (Lit.int .i64 xd).wf = true ∧ (Lit.int .i64 xf).wf = true ∧ (Lit.int .i64 xp).wf = true ∧ (Lit.int .i64 xc).wf = true
/-- A receipt that is right, its amounts small. -/
structure Good (r : Rc) : Prop where
  right : Right r
  te : r.te ≤ 80000000
  de : r.de ≤ 20000000
  fe : r.fe ≤ 20000000
  pr : r.pr ≤ 20000000
  ch : r.ch ≤ 20000000
theorem tok_back {k : token.Tok} (h : k.ok) : token.tokOf (token.dv (token.fmtL (97 * k.num)) / 97) = k := by
  rw [token.fmt_dv, show 97 * k.num / 97 = k.num by omega]
  exact token.tokOf_num h
theorem slip_right {k : token.Tok} (h : k.ok) (zm zd zf zp zc u : Int) (hm : 0 ≤ zm ∧ zm < 50) (hd : 0 ≤ zd ∧ zd < 20000000) (hf : 0 ≤ zf ∧ zf < 20000000) (hp : 0 ≤ zp ∧ zp < 20000000) (hc : 0 ≤ zc ∧ zc < 20000000) (hu : (k.c = 0 → u = (k.a : Int)) ∧ (k.c ≠ 0 → u = 0)) : Good ⟨zm, (k.i : Int), zd + zf + zp + zc, zd, zf, zp, zc, u, token.fmtL (97 * k.num)⟩ := by
  have hi1 := h.i1
  have hi2 := h.i2
  have ha := h.a2
  have hub : 0 ≤ u ∧ u ≤ 2097151 := by
    by_cases e : k.c = 0
    · have := hu.1 e; omega
    · have := hu.2 e; omega
  refine ⟨⟨⟨hm.1, by show zm ≤ 49; omega⟩, ⟨⟨⟨by show 0 ≤ zd + zf + zp + zc; omega, by show zd + zf + zp + zc ≤ 100000000; omega⟩, ⟨hd.1, by show zd ≤ 100000000; omega⟩, ⟨hf.1, by show zf ≤ 100000000; omega⟩, ⟨hp.1, by show zp ≤ 100000000; omega⟩⟩, ⟨hc.1, by show zc ≤ 100000000; omega⟩, ⟨by show 1 ≤ (k.i : Int); omega, by show (k.i : Int) ≤ 1048575; omega⟩, hub⟩, by show zd + zf + zp + zc - zd - zf - zp - zc = 0; omega, (token.parse_fmt h).1, ?_⟩, by show zd + zf + zp + zc ≤ 80000000; omega, by show zd ≤ 20000000; omega, by show zf ≤ 20000000; omega, by show zp ≤ 20000000; omega, by show zc ≤ 20000000; omega⟩
  have e : tokR ⟨zm, (k.i : Int), zd + zf + zp + zc, zd, zf, zp, zc, u, token.fmtL (97 * k.num)⟩ = k := tok_back h
  unfold RTok
  rw [e]
  exact ⟨rfl, fun a => (hu.1 a).symm, fun a => hu.2 a⟩
set_option maxHeartbeats 8000000 in
theorem slip_any (xm x1 x2 x3 x4 xd xf xp xc : Int) (w : World) (hw : wf9 xm x1 x2 x3 x4 xd xf xp xc) (KF : ∀ (k : token.Tok) W, Below w.heap.size w W → k.ok → Calls Tryd.prog 14 #[k.v] W fun e w' => e = .returned (.tuple #[.string (token.fmtB (97 * k.num)), .int .i64 0]) ∧ Below W.heap.size W w') :
    Calls Tryd.prog 5 #[.agg #[.int .i64 xm, .int .i64 x1, .int .i64 x2, .int .i64 x3, .int .i64 x4, .int .i64 xd, .int .i64 xf, .int .i64 xp, .int .i64 xc]] w fun e w' => ∃ r, e = .returned (.tuple #[Rc.v r, .bool true]) ∧ Good r ∧ Below w.heap.size w w' := by
  have HMD : Hid (∀ W, Calls Tryd.prog 13 #[.agg #[.int .i64 x1, .int .i64 x2, .int .i64 x3, .int .i64 x4]] W fun e w' => e = .returned (token.madeT x1 x2 x3 x4).v ∧ Below W.heap.size W w') := fun W => token.made_any x1 x2 x3 x4 W hw.1.2
  have hok := token.made_ok x1 x2 x3 x4
  generalize token.madeT x1 x2 x3 x4 = k at *
  have HOK : Hid k.ok := hok
  have HFM : Hid (∀ W, Below w.heap.size w W → Calls Tryd.prog 14 #[.agg #[.int .i64 (k.c : Int), .int .i64 (k.i : Int), .int .i64 (k.a : Int), .int .i64 (k.t : Int)]] W fun e w' => e = .returned (.tuple #[.string (token.fmtB (97 * k.num)), .int .i64 0]) ∧ Below W.heap.size W w') := fun W hW => KF k W hW hok
  have HFL : Hid (token.fmtB (97 * k.num) = ⟨(token.fmtL (97 * k.num)).toArray⟩) := rfl
  obtain ⟨S, hS⟩ : ∃ S, token.fmtB (97 * k.num) = S := ⟨_, rfl⟩
  rw [hS] at HFM HFL
  clear hS
  have HPzm : Hid (∀ W, Calls Tryd.prog 6 #[.int .i64 xm, .int .i64 50] W fun e w' => e = .returned (.int .i64 (check.pick xm 50)) ∧ w' = W) := fun W => check.picked_any xm 50 W hw.1.1 (by decide) (by decide)
  have zm0 := check.pick_nonneg xm 50 (by decide)
  have zm1 := check.pick_lt xm 50 (by decide)
  generalize check.pick xm 50 = zm at *
  have HPzd : Hid (∀ W, Calls Tryd.prog 6 #[.int .i64 xd, .int .i64 20000000] W fun e w' => e = .returned (.int .i64 (check.pick xd 20000000)) ∧ w' = W) := fun W => check.picked_any xd 20000000 W hw.2.1 (by decide) (by decide)
  have zd0 := check.pick_nonneg xd 20000000 (by decide)
  have zd1 := check.pick_lt xd 20000000 (by decide)
  generalize check.pick xd 20000000 = zd at *
  have HPzf : Hid (∀ W, Calls Tryd.prog 6 #[.int .i64 xf, .int .i64 20000000] W fun e w' => e = .returned (.int .i64 (check.pick xf 20000000)) ∧ w' = W) := fun W => check.picked_any xf 20000000 W hw.2.2.1 (by decide) (by decide)
  have zf0 := check.pick_nonneg xf 20000000 (by decide)
  have zf1 := check.pick_lt xf 20000000 (by decide)
  generalize check.pick xf 20000000 = zf at *
  have HPzp : Hid (∀ W, Calls Tryd.prog 6 #[.int .i64 xp, .int .i64 20000000] W fun e w' => e = .returned (.int .i64 (check.pick xp 20000000)) ∧ w' = W) := fun W => check.picked_any xp 20000000 W hw.2.2.2.1 (by decide) (by decide)
  have zp0 := check.pick_nonneg xp 20000000 (by decide)
  have zp1 := check.pick_lt xp 20000000 (by decide)
  generalize check.pick xp 20000000 = zp at *
  have HPzc : Hid (∀ W, Calls Tryd.prog 6 #[.int .i64 xc, .int .i64 20000000] W fun e w' => e = .returned (.int .i64 (check.pick xc 20000000)) ∧ w' = W) := fun W => check.picked_any xc 20000000 W hw.2.2.2.2 (by decide) (by decide)
  have zc0 := check.pick_nonneg xc 20000000 (by decide)
  have zc1 := check.pick_lt xc 20000000 (by decide)
  generalize check.pick xc 20000000 = zc at *
  clear hw hok KF
  have HX0 : Hid (Blk ((w.alloc (.cells #[.int .i64 xm, .int .i64 x1, .int .i64 x2, .int .i64 x3, .int .i64 x4, .int .i64 xd, .int .i64 xf, .int .i64 xp, .int .i64 xc] 25)).alloc (.cells #[.int .i64 0, .int .i64 0, .int .i64 0, .int .i64 0, .int .i64 0, .int .i64 0, .int .i64 0, .int .i64 0, .string ⟨#[]⟩] 29)) w.heap.size #[.int .i64 xm, .int .i64 x1, .int .i64 x2, .int .i64 x3, .int .i64 x4, .int .i64 xd, .int .i64 xf, .int .i64 xp, .int .i64 xc] 25) := (Blk.new w _ _).alloc _
  have HR0 : Hid (Blk ((w.alloc (.cells #[.int .i64 xm, .int .i64 x1, .int .i64 x2, .int .i64 x3, .int .i64 x4, .int .i64 xd, .int .i64 xf, .int .i64 xp, .int .i64 xc] 25)).alloc (.cells #[.int .i64 0, .int .i64 0, .int .i64 0, .int .i64 0, .int .i64 0, .int .i64 0, .int .i64 0, .int .i64 0, .string ⟨#[]⟩] 29)) (w.heap.size + 1) #[.int .i64 0, .int .i64 0, .int .i64 0, .int .i64 0, .int .i64 0, .int .i64 0, .int .i64 0, .int .i64 0, .string ⟨#[]⟩] 29) := Blk.new1 w _ _ _
  have HB0 : Hid (Below w.heap.size w ((w.alloc (.cells #[.int .i64 xm, .int .i64 x1, .int .i64 x2, .int .i64 x3, .int .i64 x4, .int .i64 xd, .int .i64 xf, .int .i64 xp, .int .i64 xc] 25)).alloc (.cells #[.int .i64 0, .int .i64 0, .int .i64 0, .int .i64 0, .int .i64 0, .int .i64 0, .int .i64 0, .int .i64 0, .string ⟨#[]⟩] 29))) := ((Below.refl _ _).alloc (Nat.le_refl _) _).alloc (by simp) _
  have hs0 : w.heap.size + 1 < ((w.alloc (.cells #[.int .i64 xm, .int .i64 x1, .int .i64 x2, .int .i64 x3, .int .i64 x4, .int .i64 xd, .int .i64 xf, .int .i64 xp, .int .i64 xc] 25)).alloc (.cells #[.int .i64 0, .int .i64 0, .int .i64 0, .int .i64 0, .int .i64 0, .int .i64 0, .int .i64 0, .int .i64 0, .string ⟨#[]⟩] 29)).heap.size := HR0.out.lt
  have k1 : ((w.alloc (.cells #[.int .i64 xm, .int .i64 x1, .int .i64 x2, .int .i64 x3, .int .i64 x4, .int .i64 xd, .int .i64 xf, .int .i64 xp, .int .i64 xc] 25)).alloc (.cells #[.int .i64 0, .int .i64 0, .int .i64 0, .int .i64 0, .int .i64 0, .int .i64 0, .int .i64 0, .int .i64 0, .string ⟨#[]⟩] 29)).cell? ⟨w.heap.size, 1, none⟩ = some (.int .i64 x1) := HX0.out.cell 1
  have k2 : ((w.alloc (.cells #[.int .i64 xm, .int .i64 x1, .int .i64 x2, .int .i64 x3, .int .i64 x4, .int .i64 xd, .int .i64 xf, .int .i64 xp, .int .i64 xc] 25)).alloc (.cells #[.int .i64 0, .int .i64 0, .int .i64 0, .int .i64 0, .int .i64 0, .int .i64 0, .int .i64 0, .int .i64 0, .string ⟨#[]⟩] 29)).cell? ⟨w.heap.size, 2, none⟩ = some (.int .i64 x2) := HX0.out.cell 2
  have k3 : ((w.alloc (.cells #[.int .i64 xm, .int .i64 x1, .int .i64 x2, .int .i64 x3, .int .i64 x4, .int .i64 xd, .int .i64 xf, .int .i64 xp, .int .i64 xc] 25)).alloc (.cells #[.int .i64 0, .int .i64 0, .int .i64 0, .int .i64 0, .int .i64 0, .int .i64 0, .int .i64 0, .int .i64 0, .string ⟨#[]⟩] 29)).cell? ⟨w.heap.size, 3, none⟩ = some (.int .i64 x3) := HX0.out.cell 3
  have k4 : ((w.alloc (.cells #[.int .i64 xm, .int .i64 x1, .int .i64 x2, .int .i64 x3, .int .i64 x4, .int .i64 xd, .int .i64 xf, .int .i64 xp, .int .i64 xc] 25)).alloc (.cells #[.int .i64 0, .int .i64 0, .int .i64 0, .int .i64 0, .int .i64 0, .int .i64 0, .int .i64 0, .int .i64 0, .string ⟨#[]⟩] 29)).cell? ⟨w.heap.size, 4, none⟩ = some (.int .i64 x4) := HX0.out.cell 4
  generalize hWW : ((w.alloc (.cells #[.int .i64 xm, .int .i64 x1, .int .i64 x2, .int .i64 x3, .int .i64 x4, .int .i64 xd, .int .i64 xf, .int .i64 xp, .int .i64 xc] 25)).alloc (.cells #[.int .i64 0, .int .i64 0, .int .i64 0, .int .i64 0, .int .i64 0, .int .i64 0, .int .i64 0, .int .i64 0, .string ⟨#[]⟩] 29)) = W0 at *
  have HWW : Hid (((w.alloc (.cells #[.int .i64 xm, .int .i64 x1, .int .i64 x2, .int .i64 x3, .int .i64 x4, .int .i64 xd, .int .i64 xf, .int .i64 xp, .int .i64 xc] 25)).alloc (.cells #[.int .i64 0, .int .i64 0, .int .i64 0, .int .i64 0, .int .i64 0, .int .i64 0, .int .i64 0, .int .i64 0, .string ⟨#[]⟩] 29)) = W0) := hWW
  clear hWW
  go_enter Tryd.func5, Tryd.ntmps5
  go_upto_region 1 with fail
  rw [HWW.out]
  clear HWW
  go_wp2_with fail
  refine (HMD.out _).mono ?_
  rintro e w1 ⟨rfl, hb1⟩
  unfold token.Tok.v
  have HT1 : Hid (Blk (w1.alloc (.cells #[.int .i64 (k.c : Int), .int .i64 (k.i : Int), .int .i64 (k.a : Int), .int .i64 (k.t : Int)] 43)) w1.heap.size #[.int .i64 (k.c : Int), .int .i64 (k.i : Int), .int .i64 (k.a : Int), .int .i64 (k.t : Int)] 43) := Blk.new w1 _ _
  have HX1 : Hid (Blk (w1.alloc (.cells #[.int .i64 (k.c : Int), .int .i64 (k.i : Int), .int .i64 (k.a : Int), .int .i64 (k.t : Int)] 43)) w.heap.size #[.int .i64 xm, .int .i64 x1, .int .i64 x2, .int .i64 x3, .int .i64 x4, .int .i64 xd, .int .i64 xf, .int .i64 xp, .int .i64 xc] 25) := (HX0.out.next hb1).alloc _
  have HR1 : Hid (Blk (w1.alloc (.cells #[.int .i64 (k.c : Int), .int .i64 (k.i : Int), .int .i64 (k.a : Int), .int .i64 (k.t : Int)] 43)) (w.heap.size + 1) #[.int .i64 0, .int .i64 0, .int .i64 0, .int .i64 0, .int .i64 0, .int .i64 0, .int .i64 0, .int .i64 0, .string ⟨#[]⟩] 29) := (HR0.out.next hb1).alloc _
  have HB1 : Hid (Below w.heap.size w (w1.alloc (.cells #[.int .i64 (k.c : Int), .int .i64 (k.i : Int), .int .i64 (k.a : Int), .int .i64 (k.t : Int)] 43))) := (HB0.out.trans (hb1.mono HB0.out.size)).alloc (Nat.le_trans HB0.out.size hb1.size) _
  have hs1 : w.heap.size + 1 < w1.heap.size := by have := hb1.size; omega
  have hs2 : w1.heap.size < (w1.alloc (.cells #[.int .i64 (k.c : Int), .int .i64 (k.i : Int), .int .i64 (k.a : Int), .int .i64 (k.t : Int)] 43)).heap.size := HT1.out.lt
  clear hb1 HX0 HR0 HB0 k1 k2 k3 k4 HMD
  go_upto_region 2 with fail
  generalize hgt : w1.heap.size = gt at *
  generalize (w1.alloc (.cells #[.int .i64 (k.c : Int), .int .i64 (k.i : Int), .int .i64 (k.a : Int), .int .i64 (k.t : Int)] 43)) = W1 at *
  clear hgt
  go_wp2_with (first | (refine wp_whole rfl 43 _ rfl (gt) rfl 43 #[.int .i64 (k.c : Int), .int .i64 (k.i : Int), .int .i64 (k.a : Int), .int .i64 (k.t : Int)] _ HT1.out Tryd.underlying43 rfl (by kernel_rfl) ?_) | fail)
  refine (HFM.out _ HB1.out).mono ?_
  rintro e w2 ⟨rfl, hb2⟩
  have HT2 : Hid (Blk w2 (gt) #[.int .i64 (k.c : Int), .int .i64 (k.i : Int), .int .i64 (k.a : Int), .int .i64 (k.t : Int)] 43) := HT1.out.next hb2
  have HX2 : Hid (Blk w2 (w.heap.size) #[.int .i64 xm, .int .i64 x1, .int .i64 x2, .int .i64 x3, .int .i64 x4, .int .i64 xd, .int .i64 xf, .int .i64 xp, .int .i64 xc] 25) := HX1.out.next hb2
  have HR2 : Hid (Blk w2 (w.heap.size + 1) #[.int .i64 0, .int .i64 0, .int .i64 0, .int .i64 0, .int .i64 0, .int .i64 0, .int .i64 0, .int .i64 0, .string ⟨#[]⟩] 29) := HR1.out.next hb2
  have HB2 : Hid (Below w.heap.size w w2) := HB1.out.trans (hb2.mono HB1.out.size)
  have hs3 : W1.heap.size ≤ w2.heap.size := hb2.size
  clear hb2 HT1 HX1 HR1 HB1 HFM
  go_wp2_with fail
  refine wp_region_held_drew (S := fun v => Blk v w.heap.size #[.int .i64 xm, .int .i64 x1, .int .i64 x2, .int .i64 x3, .int .i64 x4, .int .i64 xd, .int .i64 xf, .int .i64 xp, .int .i64 xc] 25 ∧ Blk v gt #[.int .i64 (k.c : Int), .int .i64 (k.i : Int), .int .i64 (k.a : Int), .int .i64 (k.t : Int)] 43) (by kernel_rfl) ⟨Blk.drew HX2.out 1, Blk.drew HT2.out 1⟩ (fun hHeld => ?_)
  refine take_at 0 16 (.pointer (some ⟨gt, 1, none⟩)) _ rfl rfl (by kernel_rfl) (by kernel_rfl) (by kernel_rfl) (fun _ _ _ h => h) (Or.inl ⟨by rfl, fun v hv => by skip; clear hv; go_simp⟩) hHeld ?_
  simp only [Act.put, List.setIfInBounds_toArray, List.set_cons_zero, List.set_cons_succ]
  refine take_at 1 17 (.int .i64 (k.i : Int)) _ rfl rfl (by kernel_rfl) (by kernel_rfl) (by kernel_rfl) (fun _ _ _ h => h) (Or.inl ⟨by rfl, fun v hv => by have h2 := hv.2.cell 1; simp at h2; clear hv; go_simp⟩) hHeld ?_
  simp only [Act.put, List.setIfInBounds_toArray, List.set_cons_zero, List.set_cons_succ]
  refine take_at 2 18 (.pointer (some ⟨w.heap.size, 5, none⟩)) _ rfl rfl (by kernel_rfl) (by kernel_rfl) (by kernel_rfl) (fun _ _ _ h => h) (Or.inl ⟨by rfl, fun v hv => by skip; clear hv; go_simp⟩) hHeld ?_
  simp only [Act.put, List.setIfInBounds_toArray, List.set_cons_zero, List.set_cons_succ]
  refine take_at 3 19 (.int .i64 xd) _ rfl rfl (by kernel_rfl) (by kernel_rfl) (by kernel_rfl) (fun _ _ _ h => h) (Or.inl ⟨by rfl, fun v hv => by have h2 := hv.1.cell 5; simp at h2; clear hv; go_simp⟩) hHeld ?_
  simp only [Act.put, List.setIfInBounds_toArray, List.set_cons_zero, List.set_cons_succ]
  refine call_at 4 20 (.int .i64 zd) _ rfl rfl (by kernel_rfl) (by kernel_rfl) (by kernel_rfl) (fun _ _ _ h => h) 6 #[.int .i64 xd, .int .i64 20000000] ⟨by rfl, fun v hv => by clear hv; go_simp⟩ (fun v _ => HPzd.out v) hHeld ?_
  simp only [Act.put, List.setIfInBounds_toArray, List.set_cons_zero, List.set_cons_succ]
  refine take_at 5 21 (.pointer (some ⟨w.heap.size, 6, none⟩)) _ rfl rfl (by kernel_rfl) (by kernel_rfl) (by kernel_rfl) (fun _ _ _ h => h) (Or.inl ⟨by rfl, fun v hv => by skip; clear hv; go_simp⟩) hHeld ?_
  simp only [Act.put, List.setIfInBounds_toArray, List.set_cons_zero, List.set_cons_succ]
  refine take_at 6 22 (.int .i64 xf) _ rfl rfl (by kernel_rfl) (by kernel_rfl) (by kernel_rfl) (fun _ _ _ h => h) (Or.inl ⟨by rfl, fun v hv => by have h2 := hv.1.cell 6; simp at h2; clear hv; go_simp⟩) hHeld ?_
  simp only [Act.put, List.setIfInBounds_toArray, List.set_cons_zero, List.set_cons_succ]
  refine call_at 7 23 (.int .i64 zf) _ rfl rfl (by kernel_rfl) (by kernel_rfl) (by kernel_rfl) (fun _ _ _ h => h) 6 #[.int .i64 xf, .int .i64 20000000] ⟨by rfl, fun v hv => by clear hv; go_simp⟩ (fun v _ => HPzf.out v) hHeld ?_
  simp only [Act.put, List.setIfInBounds_toArray, List.set_cons_zero, List.set_cons_succ]
  refine take_at 8 24 (.pointer (some ⟨w.heap.size, 7, none⟩)) _ rfl rfl (by kernel_rfl) (by kernel_rfl) (by kernel_rfl) (fun _ _ _ h => h) (Or.inl ⟨by rfl, fun v hv => by skip; clear hv; go_simp⟩) hHeld ?_
  simp only [Act.put, List.setIfInBounds_toArray, List.set_cons_zero, List.set_cons_succ]
  refine take_at 9 25 (.int .i64 xp) _ rfl rfl (by kernel_rfl) (by kernel_rfl) (by kernel_rfl) (fun _ _ _ h => h) (Or.inl ⟨by rfl, fun v hv => by have h2 := hv.1.cell 7; simp at h2; clear hv; go_simp⟩) hHeld ?_
  simp only [Act.put, List.setIfInBounds_toArray, List.set_cons_zero, List.set_cons_succ]
  refine call_at 10 26 (.int .i64 zp) _ rfl rfl (by kernel_rfl) (by kernel_rfl) (by kernel_rfl) (fun _ _ _ h => h) 6 #[.int .i64 xp, .int .i64 20000000] ⟨by rfl, fun v hv => by clear hv; go_simp⟩ (fun v _ => HPzp.out v) hHeld ?_
  simp only [Act.put, List.setIfInBounds_toArray, List.set_cons_zero, List.set_cons_succ]
  refine take_at 11 27 (.pointer (some ⟨w.heap.size, 8, none⟩)) _ rfl rfl (by kernel_rfl) (by kernel_rfl) (by kernel_rfl) (fun _ _ _ h => h) (Or.inl ⟨by rfl, fun v hv => by skip; clear hv; go_simp⟩) hHeld ?_
  simp only [Act.put, List.setIfInBounds_toArray, List.set_cons_zero, List.set_cons_succ]
  refine take_at 12 28 (.int .i64 xc) _ rfl rfl (by kernel_rfl) (by kernel_rfl) (by kernel_rfl) (fun _ _ _ h => h) (Or.inl ⟨by rfl, fun v hv => by have h2 := hv.1.cell 8; simp at h2; clear hv; go_simp⟩) hHeld ?_
  simp only [Act.put, List.setIfInBounds_toArray, List.set_cons_zero, List.set_cons_succ]
  refine call_at 13 29 (.int .i64 zc) _ rfl rfl (by kernel_rfl) (by kernel_rfl) (by kernel_rfl) (fun _ _ _ h => h) 6 #[.int .i64 xc, .int .i64 20000000] ⟨by rfl, fun v hv => by clear hv; go_simp⟩ (fun v _ => HPzc.out v) hHeld ?_
  simp only [Act.put, List.setIfInBounds_toArray, List.set_cons_zero, List.set_cons_succ]
  refine take_at 14 30 (.agg #[.int .i64 (k.i : Int), .int .i64 0, .int .i64 zd, .int .i64 zf, .int .i64 zp, .int .i64 zc, .int .i64 0]) _ rfl rfl (by kernel_rfl) (by kernel_rfl) (by kernel_rfl) (fun _ _ _ h => h) (Or.inl ⟨by rfl, fun v hv => by skip; clear hv; go_simp⟩) hHeld ?_
  simp only [Act.put, List.setIfInBounds_toArray, List.set_cons_zero, List.set_cons_succ]
  have HT3 : Hid (Blk w2.drew (gt) #[.int .i64 (k.c : Int), .int .i64 (k.i : Int), .int .i64 (k.a : Int), .int .i64 (k.t : Int)] 43) := Blk.drew HT2.out 1
  have HX3 : Hid (Blk w2.drew (w.heap.size) #[.int .i64 xm, .int .i64 x1, .int .i64 x2, .int .i64 x3, .int .i64 x4, .int .i64 xd, .int .i64 xf, .int .i64 xp, .int .i64 xc] 25) := Blk.drew HX2.out 1
  have HR3 : Hid (Blk w2.drew (w.heap.size + 1) #[.int .i64 0, .int .i64 0, .int .i64 0, .int .i64 0, .int .i64 0, .int .i64 0, .int .i64 0, .int .i64 0, .string ⟨#[]⟩] 29) := Blk.drew HR2.out 1
  have HB3 : Hid (Below w.heap.size w w2.drew) := HB2.out.drew
  have hs4 : W1.heap.size ≤ w2.drew.heap.size := hs3
  clear HT2 HX2 HR2 HB2 hs3
  generalize w2.drew = U0 at *
  refine wpAnyH_ready (rs := [15]) (by kernel_rfl) (by simp) (AllReadyH.cons rfl (fun K hK => ?_) AllReadyH.nil)
  rw [if_pos (by rfl)]
  have HT4 : Hid (Blk (U0.alloc (.cells #[.int .i64 0, .int .i64 0, .int .i64 0, .int .i64 0, .int .i64 0, .int .i64 0, .int .i64 0] 27)) (gt) #[.int .i64 (k.c : Int), .int .i64 (k.i : Int), .int .i64 (k.a : Int), .int .i64 (k.t : Int)] 43) := HT3.out.alloc _
  have HX4 : Hid (Blk (U0.alloc (.cells #[.int .i64 0, .int .i64 0, .int .i64 0, .int .i64 0, .int .i64 0, .int .i64 0, .int .i64 0] 27)) (w.heap.size) #[.int .i64 xm, .int .i64 x1, .int .i64 x2, .int .i64 x3, .int .i64 x4, .int .i64 xd, .int .i64 xf, .int .i64 xp, .int .i64 xc] 25) := HX3.out.alloc _
  have HR4 : Hid (Blk (U0.alloc (.cells #[.int .i64 0, .int .i64 0, .int .i64 0, .int .i64 0, .int .i64 0, .int .i64 0, .int .i64 0] 27)) (w.heap.size + 1) #[.int .i64 0, .int .i64 0, .int .i64 0, .int .i64 0, .int .i64 0, .int .i64 0, .int .i64 0, .int .i64 0, .string ⟨#[]⟩] 29) := HR3.out.alloc _
  have HV4 : Hid (Blk (U0.alloc (.cells #[.int .i64 0, .int .i64 0, .int .i64 0, .int .i64 0, .int .i64 0, .int .i64 0, .int .i64 0] 27)) U0.heap.size #[.int .i64 0, .int .i64 0, .int .i64 0, .int .i64 0, .int .i64 0, .int .i64 0, .int .i64 0] 27) := Blk.new _ _ _
  have HB4 : Hid (Below w.heap.size w (U0.alloc (.cells #[.int .i64 0, .int .i64 0, .int .i64 0, .int .i64 0, .int .i64 0, .int .i64 0, .int .i64 0] 27))) := HB3.out.alloc HB3.out.size _
  refine wp_runOp (v := .pointer (some ⟨U0.heap.size, 0, none⟩)) (w' := (U0.alloc (.cells #[.int .i64 0, .int .i64 0, .int .i64 0, .int .i64 0, .int .i64 0, .int .i64 0, .int .i64 0] 27))) 7 rfl (by clear hK; go_simp) ?_
  refine hK.out _ _ ⟨HX4.out, HT4.out⟩ (fun hHeld => ?_)
  clear hK HT3 HX3 HR3 HB3
  simp only [Act.put, List.setIfInBounds_toArray, List.set_cons_zero, List.set_cons_succ]
  generalize hgv : U0.heap.size = gv at *
  generalize U0.alloc _ = U1 at *
  refine wpAnyH_ready (rs := [16]) (by kernel_rfl) (by simp) (AllReadyH.cons rfl (fun K hK => ?_) AllReadyH.nil)
  rw [if_pos (by rfl)]
  refine wp_letOp 27 _ _ rfl gv rfl #[.int .i64 (k.i : Int), .int .i64 0, .int .i64 zd, .int .i64 zf, .int .i64 zp, .int .i64 zc, .int .i64 0] rfl (by kernel_rfl) (by simp [Value.oneCell']) #[.int .i64 0, .int .i64 0, .int .i64 0, .int .i64 0, .int .i64 0, .int .i64 0, .int .i64 0] 27 HV4.out rfl rfl ?_
  intro U2 hU
  have HT5 : Hid (Blk U2 (gt) #[.int .i64 (k.c : Int), .int .i64 (k.i : Int), .int .i64 (k.a : Int), .int .i64 (k.t : Int)] 43) := hU.keep HT4.out (by omega)
  have HX5 : Hid (Blk U2 (w.heap.size) #[.int .i64 xm, .int .i64 x1, .int .i64 x2, .int .i64 x3, .int .i64 x4, .int .i64 xd, .int .i64 xf, .int .i64 xp, .int .i64 xc] 25) := hU.keep HX4.out (by omega)
  have HR5 : Hid (Blk U2 (w.heap.size + 1) #[.int .i64 0, .int .i64 0, .int .i64 0, .int .i64 0, .int .i64 0, .int .i64 0, .int .i64 0, .int .i64 0, .string ⟨#[]⟩] 29) := hU.keep HR4.out (by omega)
  have HV5 : Hid (Blk U2 gv #[.int .i64 (k.i : Int), .int .i64 0, .int .i64 zd, .int .i64 zf, .int .i64 zp, .int .i64 zc, .int .i64 0] 27) := hU.blk
  have HB5 : Hid (Below w.heap.size w U2) := hU.bel _ _ (by omega) HB4.out
  refine hK.out _ _ ⟨HX5.out, HT5.out⟩ (fun hHeld => ?_)
  clear hK K hU HT4 HX4 HR4 HV4 HB4
  refine wpAnyH_done (by kernel_rfl) ?_ _
  clear hHeld
  have b2 : U2.cell? ⟨gv, 2, none⟩ = some (.int .i64 zd) := HV5.out.cell 2
  have b3 : U2.cell? ⟨gv, 3, none⟩ = some (.int .i64 zf) := HV5.out.cell 3
  have b4 : U2.cell? ⟨gv, 4, none⟩ = some (.int .i64 zp) := HV5.out.cell 4
  have b5 : U2.cell? ⟨gv, 5, none⟩ = some (.int .i64 zc) := HV5.out.cell 5
  go_wp2_with (first | (refine wp_let1 rfl 3 _ _ rfl (gv) 1 rfl .i64 (zd + zf + zp + zc) rfl (by kernel_rfl) #[.int .i64 (k.i : Int), .int .i64 0, .int .i64 zd, .int .i64 zf, .int .i64 zp, .int .i64 zc, .int .i64 0] 27 HV5.out (by simp) ?_) | fail)
  intro U3 hU
  have HT6 : Hid (Blk U3 (gt) #[.int .i64 (k.c : Int), .int .i64 (k.i : Int), .int .i64 (k.a : Int), .int .i64 (k.t : Int)] 43) := hU.keep HT5.out (by omega)
  have HX6 : Hid (Blk U3 (w.heap.size) #[.int .i64 xm, .int .i64 x1, .int .i64 x2, .int .i64 x3, .int .i64 x4, .int .i64 xd, .int .i64 xf, .int .i64 xp, .int .i64 xc] 25) := hU.keep HX5.out (by omega)
  have HR6 : Hid (Blk U3 (w.heap.size + 1) #[.int .i64 0, .int .i64 0, .int .i64 0, .int .i64 0, .int .i64 0, .int .i64 0, .int .i64 0, .int .i64 0, .string ⟨#[]⟩] 29) := hU.keep HR5.out (by omega)
  have HV6 : Hid (Blk U3 gv #[.int .i64 (k.i : Int), .int .i64 (zd + zf + zp + zc), .int .i64 zd, .int .i64 zf, .int .i64 zp, .int .i64 zc, .int .i64 0] 27) := hU.blk
  have HB6 : Hid (Below w.heap.size w U3) := hU.bel _ _ (by omega) HB5.out
  clear hU HT5 HX5 HR5 HV5 HB5 b2 b3 b4 b5
  have t0 : U3.cell? ⟨gt, 0, none⟩ = some (.int .i64 (k.c : Int)) := HT6.out.cell 0
  have t2 : U3.cell? ⟨gt, 2, none⟩ = some (.int .i64 (k.a : Int)) := HT6.out.cell 2
  by_cases hc : k.c = 0
  · have n0 : ((k.c : Int) == 0) = true := by rw [hc]; rfl
    have HCC : Hid (k.c = 0) := hc
    clear hc
    go_wp2_with (first | (refine wp_let1 rfl 3 _ _ rfl (gv) 6 rfl .i64 (k.a : Int) rfl (by kernel_rfl) #[.int .i64 (k.i : Int), .int .i64 (zd + zf + zp + zc), .int .i64 zd, .int .i64 zf, .int .i64 zp, .int .i64 zc, .int .i64 0] 27 HV6.out (by simp) ?_) | fail)
    intro U4 hU
    have HT7 : Hid (Blk U4 (gt) #[.int .i64 (k.c : Int), .int .i64 (k.i : Int), .int .i64 (k.a : Int), .int .i64 (k.t : Int)] 43) := hU.keep HT6.out (by omega)
    have HX7 : Hid (Blk U4 (w.heap.size) #[.int .i64 xm, .int .i64 x1, .int .i64 x2, .int .i64 x3, .int .i64 x4, .int .i64 xd, .int .i64 xf, .int .i64 xp, .int .i64 xc] 25) := hU.keep HX6.out (by omega)
    have HR7 : Hid (Blk U4 (w.heap.size + 1) #[.int .i64 0, .int .i64 0, .int .i64 0, .int .i64 0, .int .i64 0, .int .i64 0, .int .i64 0, .int .i64 0, .string ⟨#[]⟩] 29) := hU.keep HR6.out (by omega)
    have HV7 : Hid (Blk U4 gv #[.int .i64 (k.i : Int), .int .i64 (zd + zf + zp + zc), .int .i64 zd, .int .i64 zf, .int .i64 zp, .int .i64 zc, .int .i64 (k.a : Int)] 27) := hU.blk
    have HB7 : Hid (Below w.heap.size w U4) := hU.bel _ _ (by omega) HB6.out
    clear hU HT6 HX6 HR6 HV6 HB6 t0 t2
    go_wp2_with fail
    refine wp_region_held_drew (S := fun v => Blk v w.heap.size #[.int .i64 xm, .int .i64 x1, .int .i64 x2, .int .i64 x3, .int .i64 x4, .int .i64 xd, .int .i64 xf, .int .i64 xp, .int .i64 xc] 25 ∧ Blk v gv #[.int .i64 (k.i : Int), .int .i64 (zd + zf + zp + zc), .int .i64 zd, .int .i64 zf, .int .i64 zp, .int .i64 zc, .int .i64 (k.a : Int)] 27) (by kernel_rfl) ⟨Blk.drew HX7.out 1, Blk.drew HV7.out 1⟩ (fun hHeld => ?_)
    refine take_at 0 49 (.pointer (some ⟨w.heap.size, 0, none⟩)) _ rfl rfl (by kernel_rfl) (by kernel_rfl) (by kernel_rfl) (fun _ _ _ h => h) (Or.inl ⟨by rfl, fun v hv => by skip; clear hv; go_simp⟩) hHeld ?_
    simp only [Act.put, List.setIfInBounds_toArray, List.set_cons_zero, List.set_cons_succ]
    refine take_at 1 50 (.int .i64 xm) _ rfl rfl (by kernel_rfl) (by kernel_rfl) (by kernel_rfl) (fun _ _ _ h => h) (Or.inl ⟨by rfl, fun v hv => by have h2 := hv.1.cell 0; simp at h2; clear hv; go_simp⟩) hHeld ?_
    simp only [Act.put, List.setIfInBounds_toArray, List.set_cons_zero, List.set_cons_succ]
    refine call_at 2 51 (.int .i64 zm) _ rfl rfl (by kernel_rfl) (by kernel_rfl) (by kernel_rfl) (fun _ _ _ h => h) 6 #[.int .i64 xm, .int .i64 50] ⟨by rfl, fun v hv => by clear hv; go_simp⟩ (fun v _ => HPzm.out v) hHeld ?_
    simp only [Act.put, List.setIfInBounds_toArray, List.set_cons_zero, List.set_cons_succ]
    refine take_at 3 52 (.agg #[.int .i64 (k.i : Int), .int .i64 (zd + zf + zp + zc), .int .i64 zd, .int .i64 zf, .int .i64 zp, .int .i64 zc, .int .i64 (k.a : Int)]) _ rfl rfl (by kernel_rfl) (by kernel_rfl) (by kernel_rfl) (fun _ _ _ h => h) (yieldsIf_whole (by rfl) 27 _ rfl (gv) rfl 27 #[.int .i64 (k.i : Int), .int .i64 (zd + zf + zp + zc), .int .i64 zd, .int .i64 zf, .int .i64 zp, .int .i64 zc, .int .i64 (k.a : Int)] _ (fun v hv => hv.2) Tryd.underlying27 rfl (by kernel_rfl)) hHeld ?_
    simp only [Act.put, List.setIfInBounds_toArray, List.set_cons_zero, List.set_cons_succ]
    refine take_at 4 53 (.string S) _ rfl rfl (by kernel_rfl) (by kernel_rfl) (by kernel_rfl) (fun _ _ _ h => h) (Or.inl ⟨by rfl, fun v hv => by skip; clear hv; go_simp⟩) hHeld ?_
    simp only [Act.put, List.setIfInBounds_toArray, List.set_cons_zero, List.set_cons_succ]
    refine take_at 5 54 (.agg #[.int .i64 zm, .int .i64 (k.i : Int), .int .i64 (zd + zf + zp + zc), .int .i64 zd, .int .i64 zf, .int .i64 zp, .int .i64 zc, .int .i64 (k.a : Int), .string S]) _ rfl rfl (by kernel_rfl) (by kernel_rfl) (by kernel_rfl) (fun _ _ _ h => h) (Or.inl ⟨by rfl, fun v hv => by skip; clear hv; go_simp⟩) hHeld ?_
    simp only [Act.put, List.setIfInBounds_toArray, List.set_cons_zero, List.set_cons_succ]
    refine take_at 6 55 (.int .i64 0) _ rfl rfl (by kernel_rfl) (by kernel_rfl) (by kernel_rfl) (fun _ _ _ h => h) (Or.inl ⟨by rfl, fun v hv => by skip; clear hv; go_simp⟩) hHeld ?_
    simp only [Act.put, List.setIfInBounds_toArray, List.set_cons_zero, List.set_cons_succ]
    refine take_at 7 56 (.bool true) _ rfl rfl (by kernel_rfl) (by kernel_rfl) (by kernel_rfl) (fun _ _ _ h => h) (Or.inl ⟨by rfl, fun v hv => by skip; clear hv; go_simp⟩) hHeld ?_
    simp only [Act.put, List.setIfInBounds_toArray, List.set_cons_zero, List.set_cons_succ]
    refine wpAnyH_ready (rs := [8]) (by kernel_rfl) (by simp) (AllReadyH.cons rfl (fun K hK => ?_) AllReadyH.nil)
    rw [if_pos (by rfl)]
    refine wp_letOp 29 _ _ rfl (w.heap.size + 1) rfl #[.int .i64 zm, .int .i64 (k.i : Int), .int .i64 (zd + zf + zp + zc), .int .i64 zd, .int .i64 zf, .int .i64 zp, .int .i64 zc, .int .i64 (k.a : Int), .string S] rfl (by kernel_rfl) (by simp [Value.oneCell']) #[.int .i64 0, .int .i64 0, .int .i64 0, .int .i64 0, .int .i64 0, .int .i64 0, .int .i64 0, .int .i64 0, .string ⟨#[]⟩] 29 (Blk.drew HR7.out 1) rfl rfl ?_
    intro UZ hU
    have HXZ : Hid (Blk UZ w.heap.size #[.int .i64 xm, .int .i64 x1, .int .i64 x2, .int .i64 x3, .int .i64 x4, .int .i64 xd, .int .i64 xf, .int .i64 xp, .int .i64 xc] 25) := hU.keep (Blk.drew HX7.out 1) (by omega)
    have HVZ : Hid (Blk UZ gv #[.int .i64 (k.i : Int), .int .i64 (zd + zf + zp + zc), .int .i64 zd, .int .i64 zf, .int .i64 zp, .int .i64 zc, .int .i64 (k.a : Int)] 27) := hU.keep (Blk.drew HV7.out 1) (by omega)
    have HRZ : Hid (Blk UZ (w.heap.size + 1) #[.int .i64 zm, .int .i64 (k.i : Int), .int .i64 (zd + zf + zp + zc), .int .i64 zd, .int .i64 zf, .int .i64 zp, .int .i64 zc, .int .i64 (k.a : Int), .string S] 29) := hU.blk
    have HBZ : Hid (Below w.heap.size w UZ) := hU.bel _ _ (by omega) HB7.out.drew
    refine hK.out _ _ ⟨HXZ.out, HVZ.out⟩ (fun hHeld => ?_)
    clear hK K hU
    refine take_at 9 3 (.bool true) _ rfl rfl (by kernel_rfl) (by kernel_rfl) (by kernel_rfl) (fun _ _ _ h => h) (Or.inl ⟨by rfl, fun v hv => by skip; clear hv; go_simp⟩) hHeld ?_
    simp only [Act.put, List.setIfInBounds_toArray, List.set_cons_zero, List.set_cons_succ]
    refine wpAnyH_done (by kernel_rfl) ?_ _
    clear hHeld
    have R0 : Hid (UZ.cell? ⟨w.heap.size + 1, 0, none⟩ = some (.int .i64 zm)) := HRZ.out.cell 0
    have R1 : Hid (UZ.cell? ⟨w.heap.size + 1, 1, none⟩ = some (.int .i64 (k.i : Int))) := HRZ.out.cell 1
    have R2 : Hid (UZ.cell? ⟨w.heap.size + 1, 2, none⟩ = some (.int .i64 (zd + zf + zp + zc))) := HRZ.out.cell 2
    have R3 : Hid (UZ.cell? ⟨w.heap.size + 1, 3, none⟩ = some (.int .i64 zd)) := HRZ.out.cell 3
    have R4 : Hid (UZ.cell? ⟨w.heap.size + 1, 4, none⟩ = some (.int .i64 zf)) := HRZ.out.cell 4
    have R5 : Hid (UZ.cell? ⟨w.heap.size + 1, 5, none⟩ = some (.int .i64 zp)) := HRZ.out.cell 5
    have R6 : Hid (UZ.cell? ⟨w.heap.size + 1, 6, none⟩ = some (.int .i64 zc)) := HRZ.out.cell 6
    have R7 : Hid (UZ.cell? ⟨w.heap.size + 1, 7, none⟩ = some (.int .i64 (k.a : Int))) := HRZ.out.cell 7
    have R8 : Hid (UZ.cell? ⟨w.heap.size + 1, 8, none⟩ = some (.string S)) := HRZ.out.cell 8
    have HGD : Hid (Good ⟨zm, (k.i : Int), zd + zf + zp + zc, zd, zf, zp, zc, (k.a : Int), token.fmtL (97 * k.num)⟩) := slip_right HOK.out zm zd zf zp zc (k.a : Int) ⟨zm0, zm1⟩ ⟨zd0, zd1⟩ ⟨zf0, zf1⟩ ⟨zp0, zp1⟩ ⟨zc0, zc1⟩ ⟨fun _ => rfl, fun h => absurd HCC.out h⟩
    have HVV : Hid (Ending.returned (.tuple #[.agg #[.int .i64 zm, .int .i64 (k.i : Int), .int .i64 (zd + zf + zp + zc), .int .i64 zd, .int .i64 zf, .int .i64 zp, .int .i64 zc, .int .i64 (k.a : Int), .string S], .bool true]) = .returned (.tuple #[Rc.v ⟨zm, (k.i : Int), zd + zf + zp + zc, zd, zf, zp, zc, (k.a : Int), token.fmtL (97 * k.num)⟩, .bool true])) := by show _ = _; unfold Rc.v Rc.cs; rw [HFL.out]
    go_wp2_with fail
    exact bodyPost_ret (v := .tuple #[.agg #[.int .i64 zm, .int .i64 (k.i : Int), .int .i64 (zd + zf + zp + zc), .int .i64 zd, .int .i64 zf, .int .i64 zp, .int .i64 zc, .int .i64 (k.a : Int), .string S], .bool true]) (by simp [results, Tryd.results5, R0.out, R1.out, R2.out, R3.out, R4.out, R5.out, R6.out, R7.out, R8.out, go_sem]) rfl ⟨_, HVV.out, HGD.out, HBZ.out⟩
  · have n0 : ((k.c : Int) == 0) = false := by simp; omega
    have HCC : Hid (k.c ≠ 0) := hc
    clear hc
    go_wp2_with fail
    refine wp_region_held_drew (S := fun v => Blk v w.heap.size #[.int .i64 xm, .int .i64 x1, .int .i64 x2, .int .i64 x3, .int .i64 x4, .int .i64 xd, .int .i64 xf, .int .i64 xp, .int .i64 xc] 25 ∧ Blk v gv #[.int .i64 (k.i : Int), .int .i64 (zd + zf + zp + zc), .int .i64 zd, .int .i64 zf, .int .i64 zp, .int .i64 zc, .int .i64 0] 27) (by kernel_rfl) ⟨Blk.drew HX6.out 1, Blk.drew HV6.out 1⟩ (fun hHeld => ?_)
    refine take_at 0 49 (.pointer (some ⟨w.heap.size, 0, none⟩)) _ rfl rfl (by kernel_rfl) (by kernel_rfl) (by kernel_rfl) (fun _ _ _ h => h) (Or.inl ⟨by rfl, fun v hv => by skip; clear hv; go_simp⟩) hHeld ?_
    simp only [Act.put, List.setIfInBounds_toArray, List.set_cons_zero, List.set_cons_succ]
    refine take_at 1 50 (.int .i64 xm) _ rfl rfl (by kernel_rfl) (by kernel_rfl) (by kernel_rfl) (fun _ _ _ h => h) (Or.inl ⟨by rfl, fun v hv => by have h2 := hv.1.cell 0; simp at h2; clear hv; go_simp⟩) hHeld ?_
    simp only [Act.put, List.setIfInBounds_toArray, List.set_cons_zero, List.set_cons_succ]
    refine call_at 2 51 (.int .i64 zm) _ rfl rfl (by kernel_rfl) (by kernel_rfl) (by kernel_rfl) (fun _ _ _ h => h) 6 #[.int .i64 xm, .int .i64 50] ⟨by rfl, fun v hv => by clear hv; go_simp⟩ (fun v _ => HPzm.out v) hHeld ?_
    simp only [Act.put, List.setIfInBounds_toArray, List.set_cons_zero, List.set_cons_succ]
    refine take_at 3 52 (.agg #[.int .i64 (k.i : Int), .int .i64 (zd + zf + zp + zc), .int .i64 zd, .int .i64 zf, .int .i64 zp, .int .i64 zc, .int .i64 0]) _ rfl rfl (by kernel_rfl) (by kernel_rfl) (by kernel_rfl) (fun _ _ _ h => h) (yieldsIf_whole (by rfl) 27 _ rfl (gv) rfl 27 #[.int .i64 (k.i : Int), .int .i64 (zd + zf + zp + zc), .int .i64 zd, .int .i64 zf, .int .i64 zp, .int .i64 zc, .int .i64 0] _ (fun v hv => hv.2) Tryd.underlying27 rfl (by kernel_rfl)) hHeld ?_
    simp only [Act.put, List.setIfInBounds_toArray, List.set_cons_zero, List.set_cons_succ]
    refine take_at 4 53 (.string S) _ rfl rfl (by kernel_rfl) (by kernel_rfl) (by kernel_rfl) (fun _ _ _ h => h) (Or.inl ⟨by rfl, fun v hv => by skip; clear hv; go_simp⟩) hHeld ?_
    simp only [Act.put, List.setIfInBounds_toArray, List.set_cons_zero, List.set_cons_succ]
    refine take_at 5 54 (.agg #[.int .i64 zm, .int .i64 (k.i : Int), .int .i64 (zd + zf + zp + zc), .int .i64 zd, .int .i64 zf, .int .i64 zp, .int .i64 zc, .int .i64 0, .string S]) _ rfl rfl (by kernel_rfl) (by kernel_rfl) (by kernel_rfl) (fun _ _ _ h => h) (Or.inl ⟨by rfl, fun v hv => by skip; clear hv; go_simp⟩) hHeld ?_
    simp only [Act.put, List.setIfInBounds_toArray, List.set_cons_zero, List.set_cons_succ]
    refine take_at 6 55 (.int .i64 0) _ rfl rfl (by kernel_rfl) (by kernel_rfl) (by kernel_rfl) (fun _ _ _ h => h) (Or.inl ⟨by rfl, fun v hv => by skip; clear hv; go_simp⟩) hHeld ?_
    simp only [Act.put, List.setIfInBounds_toArray, List.set_cons_zero, List.set_cons_succ]
    refine take_at 7 56 (.bool true) _ rfl rfl (by kernel_rfl) (by kernel_rfl) (by kernel_rfl) (fun _ _ _ h => h) (Or.inl ⟨by rfl, fun v hv => by skip; clear hv; go_simp⟩) hHeld ?_
    simp only [Act.put, List.setIfInBounds_toArray, List.set_cons_zero, List.set_cons_succ]
    refine wpAnyH_ready (rs := [8]) (by kernel_rfl) (by simp) (AllReadyH.cons rfl (fun K hK => ?_) AllReadyH.nil)
    rw [if_pos (by rfl)]
    refine wp_letOp 29 _ _ rfl (w.heap.size + 1) rfl #[.int .i64 zm, .int .i64 (k.i : Int), .int .i64 (zd + zf + zp + zc), .int .i64 zd, .int .i64 zf, .int .i64 zp, .int .i64 zc, .int .i64 0, .string S] rfl (by kernel_rfl) (by simp [Value.oneCell']) #[.int .i64 0, .int .i64 0, .int .i64 0, .int .i64 0, .int .i64 0, .int .i64 0, .int .i64 0, .int .i64 0, .string ⟨#[]⟩] 29 (Blk.drew HR6.out 1) rfl rfl ?_
    intro UZ hU
    have HXZ : Hid (Blk UZ w.heap.size #[.int .i64 xm, .int .i64 x1, .int .i64 x2, .int .i64 x3, .int .i64 x4, .int .i64 xd, .int .i64 xf, .int .i64 xp, .int .i64 xc] 25) := hU.keep (Blk.drew HX6.out 1) (by omega)
    have HVZ : Hid (Blk UZ gv #[.int .i64 (k.i : Int), .int .i64 (zd + zf + zp + zc), .int .i64 zd, .int .i64 zf, .int .i64 zp, .int .i64 zc, .int .i64 0] 27) := hU.keep (Blk.drew HV6.out 1) (by omega)
    have HRZ : Hid (Blk UZ (w.heap.size + 1) #[.int .i64 zm, .int .i64 (k.i : Int), .int .i64 (zd + zf + zp + zc), .int .i64 zd, .int .i64 zf, .int .i64 zp, .int .i64 zc, .int .i64 0, .string S] 29) := hU.blk
    have HBZ : Hid (Below w.heap.size w UZ) := hU.bel _ _ (by omega) HB6.out.drew
    refine hK.out _ _ ⟨HXZ.out, HVZ.out⟩ (fun hHeld => ?_)
    clear hK K hU
    refine take_at 9 3 (.bool true) _ rfl rfl (by kernel_rfl) (by kernel_rfl) (by kernel_rfl) (fun _ _ _ h => h) (Or.inl ⟨by rfl, fun v hv => by skip; clear hv; go_simp⟩) hHeld ?_
    simp only [Act.put, List.setIfInBounds_toArray, List.set_cons_zero, List.set_cons_succ]
    refine wpAnyH_done (by kernel_rfl) ?_ _
    clear hHeld
    have R0 : Hid (UZ.cell? ⟨w.heap.size + 1, 0, none⟩ = some (.int .i64 zm)) := HRZ.out.cell 0
    have R1 : Hid (UZ.cell? ⟨w.heap.size + 1, 1, none⟩ = some (.int .i64 (k.i : Int))) := HRZ.out.cell 1
    have R2 : Hid (UZ.cell? ⟨w.heap.size + 1, 2, none⟩ = some (.int .i64 (zd + zf + zp + zc))) := HRZ.out.cell 2
    have R3 : Hid (UZ.cell? ⟨w.heap.size + 1, 3, none⟩ = some (.int .i64 zd)) := HRZ.out.cell 3
    have R4 : Hid (UZ.cell? ⟨w.heap.size + 1, 4, none⟩ = some (.int .i64 zf)) := HRZ.out.cell 4
    have R5 : Hid (UZ.cell? ⟨w.heap.size + 1, 5, none⟩ = some (.int .i64 zp)) := HRZ.out.cell 5
    have R6 : Hid (UZ.cell? ⟨w.heap.size + 1, 6, none⟩ = some (.int .i64 zc)) := HRZ.out.cell 6
    have R7 : Hid (UZ.cell? ⟨w.heap.size + 1, 7, none⟩ = some (.int .i64 0)) := HRZ.out.cell 7
    have R8 : Hid (UZ.cell? ⟨w.heap.size + 1, 8, none⟩ = some (.string S)) := HRZ.out.cell 8
    have HGD : Hid (Good ⟨zm, (k.i : Int), zd + zf + zp + zc, zd, zf, zp, zc, 0, token.fmtL (97 * k.num)⟩) := slip_right HOK.out zm zd zf zp zc 0 ⟨zm0, zm1⟩ ⟨zd0, zd1⟩ ⟨zf0, zf1⟩ ⟨zp0, zp1⟩ ⟨zc0, zc1⟩ ⟨fun h => absurd h HCC.out, fun _ => rfl⟩
    have HVV : Hid (Ending.returned (.tuple #[.agg #[.int .i64 zm, .int .i64 (k.i : Int), .int .i64 (zd + zf + zp + zc), .int .i64 zd, .int .i64 zf, .int .i64 zp, .int .i64 zc, .int .i64 0, .string S], .bool true]) = .returned (.tuple #[Rc.v ⟨zm, (k.i : Int), zd + zf + zp + zc, zd, zf, zp, zc, 0, token.fmtL (97 * k.num)⟩, .bool true])) := by show _ = _; unfold Rc.v Rc.cs; rw [HFL.out]
    go_wp2_with fail
    exact bodyPost_ret (v := .tuple #[.agg #[.int .i64 zm, .int .i64 (k.i : Int), .int .i64 (zd + zf + zp + zc), .int .i64 zd, .int .i64 zf, .int .i64 zp, .int .i64 zc, .int .i64 0, .string S], .bool true]) (by simp [results, Tryd.results5, R0.out, R1.out, R2.out, R3.out, R4.out, R5.out, R6.out, R7.out, R8.out, go_sem]) rfl ⟨_, HVV.out, HGD.out, HBZ.out⟩

end Go.Proofs.YtlicdeppfhmfjabDoor.rcp

/- Tariffs: plain facts. -/
namespace Go.Proofs.YtlicdeppfhmfjabDoor.tar
set_option linter.unusedVariables false

/-- A pair of numbers: of a step how far it goes, and its price; of a debt what is owed, and what it grows by. -/
structure Du where
  a : Int
  b : Int
def du0 : Du := ⟨0, 0⟩
/-- Three numbers: of a line its units, its price, its cost. -/
structure Tr where
  a : Int
  b : Int
  c : Int
def tr0 : Tr := ⟨0, 0, 0⟩

theorem take_one (l : List Du) (k : Nat) (h : k < l.length) : l.take (k + 1) = l.take k ++ [l.getD k du0] := by
  rw [List.take_succ_eq_append_getElem h]
  simp [List.getD, List.getElem?_eq_getElem h]
theorem drop_one (l : List Du) (k : Nat) (h : k < l.length) : l.drop k = l.getD k du0 :: l.drop (k + 1) := by
  rw [List.drop_eq_getElem_cons h]
  simp [List.getD, List.getElem?_eq_getElem h]
/-- How far the steps ahead of the place k go. -/
def low (l : List Du) (k : Nat) : Int := if k = 0 then 0 else (l.getD (k - 1) du0).a
theorem low_next (l : List Du) (k : Nat) : low l (k + 1) = (l.getD k du0).a := rfl
theorem low_zero (l : List Du) : low l 0 = 0 := rfl
/-- What is wrong with a tariff. -/
def Fits (l : List Du) : Prop := ∀ i, i < l.length → (1 ≤ (l.getD i du0).a ∧ (l.getD i du0).a ≤ 10000000) ∧ 1 ≤ (l.getD i du0).b ∧ (l.getD i du0).b ≤ 100000
def Rises (l : List Du) : Prop := ∀ i, 1 ≤ i → i < l.length → (l.getD (i - 1) du0).a < (l.getD i du0).a
def Sized (l : List Du) : Prop := 1 ≤ l.length ∧ l.length ≤ 8
def Ends (l : List Du) : Prop := (l.getD (l.length - 1) du0).a = 10000000
def Right (l : List Du) : Prop := Sized l ∧ Fits l ∧ Rises l ∧ Ends l
def FaultIs (l : List Du) (e : Int) : Prop := (¬ Sized l ∧ e = 1) ∨ (Sized l ∧ ¬ Fits l ∧ e = 2) ∨ (Sized l ∧ Fits l ∧ ¬ (Rises l ∧ Ends l) ∧ e = 3) ∨ (Right l ∧ e = 0)
theorem FaultIs.one {l : List Du} {e f : Int} (h : FaultIs l e) (h' : FaultIs l f) : e = f := by
  rcases h with ⟨a, rfl⟩ | ⟨a, b, rfl⟩ | ⟨a, b, c, rfl⟩ | ⟨⟨a, b, c⟩, rfl⟩ <;> rcases h' with ⟨a', rfl⟩ | ⟨a', b', rfl⟩ | ⟨a', b', c', rfl⟩ | ⟨⟨a', b', c'⟩, rfl⟩ <;> first | rfl | contradiction
theorem FaultIs.ok {l : List Du} {e : Int} (h : FaultIs l e) : e = 0 ↔ Right l := by
  rcases h with ⟨a, rfl⟩ | ⟨a, b, rfl⟩ | ⟨a, b, c, rfl⟩ | ⟨h, rfl⟩
  · exact ⟨fun h => absurd h (by decide), fun h => absurd h.1 a⟩
  · exact ⟨fun h => absurd h (by decide), fun h => absurd h.2.1 b⟩
  · exact ⟨fun h => absurd h (by decide), fun h => absurd h.2.2 c⟩
  · exact ⟨fun _ => h, fun _ => rfl⟩
theorem fault_is (l : List Du) : ∃ e, FaultIs l e := by
  by_cases a : Sized l
  · by_cases b : Fits l
    · by_cases c : Rises l ∧ Ends l
      · exact ⟨0, .inr (.inr (.inr ⟨⟨a, b, c⟩, rfl⟩))⟩
      · exact ⟨3, .inr (.inr (.inl ⟨a, b, c, rfl⟩))⟩
    · exact ⟨2, .inr (.inl ⟨a, b, rfl⟩)⟩
  · exact ⟨1, .inl ⟨a, rfl⟩⟩
/-- How many units from x to y lie from lo to hi. -/
def ov (lo hi x y : Int) : Int := max 0 (min hi y - max lo x)
theorem ov_pos (lo hi x y : Int) : 0 ≤ ov lo hi x y := by unfold ov; omega
/-- What the units from x to y cost, as far as the place k. -/
def costK (l : List Du) (x y : Int) : Nat → Int
  | 0 => 0
  | k + 1 => costK l x y k + ov (low l k) (l.getD k du0).a x y * (l.getD k du0).b
def cost (l : List Du) (x y : Int) : Int := costK l x y l.length
theorem costK_next (l : List Du) (x y : Int) (k : Nat) : costK l x y (k + 1) = costK l x y k + ov (low l k) (l.getD k du0).a x y * (l.getD k du0).b := rfl
/-- How many of them lie there. -/
def manyK (l : List Du) (x y : Int) : Nat → Int
  | 0 => 0
  | k + 1 => manyK l x y k + ov (low l k) (l.getD k du0).a x y
theorem Right.price {l : List Du} (h : Right l) (k : Nat) (hk : k < l.length) : 1 ≤ (l.getD k du0).b ∧ (l.getD k du0).b ≤ 100000 := (h.2.1 k hk).2
theorem Right.upto {l : List Du} (h : Right l) (k : Nat) (hk : k < l.length) : 1 ≤ (l.getD k du0).a ∧ (l.getD k du0).a ≤ 10000000 := (h.2.1 k hk).1
theorem Right.rise {l : List Du} (h : Right l) (k : Nat) (hk : k < l.length) : low l k < (l.getD k du0).a := by
  by_cases e : k = 0
  · subst e; rw [low_zero]; have := (h.upto 0 hk).1; omega
  · unfold low; rw [if_neg e]; exact h.2.2.1 k (by omega) hk
theorem Right.low_pos {l : List Du} (h : Right l) (k : Nat) (hk : k ≤ l.length) : 0 ≤ low l k := by
  unfold low
  by_cases e : k = 0
  · rw [if_pos e]; omega
  · rw [if_neg e]; have := (h.upto (k - 1) (by omega)).1; omega
theorem Right.low_end {l : List Du} (h : Right l) : low l l.length = 10000000 := by
  unfold low
  rw [if_neg (by have := h.1.1; omega)]
  exact h.2.2.2
/-- The units up to a place are those that lie ahead of it. -/
theorem many_eq {l : List Du} (h : Right l) (x y : Int) (hx : 0 ≤ x) (hxy : x ≤ y) (k : Nat) (hk : k ≤ l.length) : manyK l x y k = max 0 (min (low l k) y - x) := by
  induction k with
  | zero => unfold manyK; rw [low_zero]; omega
  | succ k ih =>
    have h1 := ih (by omega)
    have h2 := h.rise k (by omega)
    have h3 := h.low_pos k (by omega)
    unfold manyK
    rw [h1, low_next]
    unfold ov
    omega
theorem many_all {l : List Du} (h : Right l) (x y : Int) (hx : 0 ≤ x) (hxy : x ≤ y) (hy : y ≤ 10000000) : manyK l x y l.length = y - x := by
  rw [many_eq h x y hx hxy _ (Nat.le_refl _), h.low_end]; omega
theorem costK_pos {l : List Du} (h : Right l) (x y : Int) (k : Nat) (hk : k ≤ l.length) : 0 ≤ costK l x y k := by
  induction k with
  | zero => exact Int.le_refl _
  | succ k ih =>
    have h1 := ih (by omega)
    have h2 := Int.mul_nonneg (ov_pos (low l k) (l.getD k du0).a x y) (show 0 ≤ (l.getD k du0).b by have := (h.price k (by omega)).1; omega)
    unfold costK; omega
theorem cost_many {l : List Du} (h : Right l) (x y : Int) (k : Nat) (hk : k ≤ l.length) : manyK l x y k ≤ costK l x y k ∧ costK l x y k ≤ manyK l x y k * 100000 := by
  induction k with
  | zero => exact ⟨Int.le_refl _, Int.le_refl _⟩
  | succ k ih =>
    have h1 := ih (by omega)
    have h0 := ov_pos (low l k) (l.getD k du0).a x y
    have hp := h.price k (by omega)
    have h2 : ov (low l k) (l.getD k du0).a x y * 1 ≤ ov (low l k) (l.getD k du0).a x y * (l.getD k du0).b := Int.mul_le_mul_of_nonneg_left hp.1 h0
    have h3 : ov (low l k) (l.getD k du0).a x y * (l.getD k du0).b ≤ ov (low l k) (l.getD k du0).a x y * 100000 := Int.mul_le_mul_of_nonneg_left hp.2 h0
    unfold costK manyK
    rw [Int.mul_one] at h2
    constructor
    · omega
    · rw [Int.add_mul]; omega
theorem cost_bd {l : List Du} (h : Right l) (x y : Int) (hx : 0 ≤ x) (hxy : x ≤ y) (hy : y ≤ 10000000) : y - x ≤ cost l x y ∧ cost l x y ≤ (y - x) * 100000 := by
  have := cost_many h x y l.length (Nat.le_refl _)
  rw [many_all h x y hx hxy hy] at this
  exact this
theorem ov_adds (lo hi x y z : Int) (h : lo ≤ hi) (h1 : x ≤ y) (h2 : y ≤ z) : ov lo hi x z = ov lo hi x y + ov lo hi y z := by unfold ov; omega
theorem costK_adds {l : List Du} (h : Right l) (x y z : Int) (h1 : x ≤ y) (h2 : y ≤ z) (k : Nat) (hk : k ≤ l.length) : costK l x z k = costK l x y k + costK l y z k := by
  induction k with
  | zero => rfl
  | succ k ih =>
    have h3 := ih (by omega)
    have h4 := h.rise k (by omega)
    unfold costK
    rw [h3, ov_adds _ _ x y z (by omega) h1 h2, Int.add_mul]
    omega
theorem cost_adds {l : List Du} (h : Right l) (x y z : Int) (h1 : x ≤ y) (h2 : y ≤ z) : cost l x z = cost l x y + cost l y z := costK_adds h x y z h1 h2 _ (Nat.le_refl _)
theorem cost_self {l : List Du} (h : Right l) (x : Int) : cost l x x = 0 := by
  have := cost_adds h x x x (Int.le_refl _) (Int.le_refl _); omega
theorem costK_mono {l : List Du} (h : Right l) (x y : Int) (j k : Nat) (hjk : j ≤ k) (hk : k ≤ l.length) : costK l x y j ≤ costK l x y k := by
  induction k with
  | zero => have : j = 0 := by omega
            subst this; exact Int.le_refl _
  | succ k ih =>
    by_cases e : j = k + 1
    · subst e; exact Int.le_refl _
    · have h1 := ih (by omega) (by omega)
      have h2 := Int.mul_nonneg (ov_pos (low l k) (l.getD k du0).a x y) (show 0 ≤ (l.getD k du0).b by have := (h.price k (by omega)).1; omega)
      rw [costK_next]; omega
theorem low_mono {l : List Du} (h : Right l) (j k : Nat) (hjk : j ≤ k) (hk : k ≤ l.length) : low l j ≤ low l k := by
  induction k with
  | zero => have : j = 0 := by omega
            subst this; exact Int.le_refl _
  | succ k ih =>
    by_cases e : j = k + 1
    · subst e; exact Int.le_refl _
    · have h1 := ih (by omega) (by omega)
      have h2 := h.rise k (by omega)
      rw [low_next]; omega
/-- One unit costs what its step says. -/
theorem costK_none {l : List Du} (h : Right l) (n : Int) (k : Nat) (hk : k ≤ l.length) (hn : low l k ≤ n) : costK l n (n + 1) k = 0 := by
  induction k with
  | zero => rfl
  | succ k ih =>
    have h2 := h.rise k (by omega)
    rw [low_next] at hn
    have h1 := ih (by omega) (by omega)
    unfold costK
    rw [h1, show ov (low l k) (l.getD k du0).a n (n + 1) = 0 by unfold ov; omega]
    omega
theorem costK_after {l : List Du} (h : Right l) (n : Int) (j k : Nat) (hjk : j ≤ k) (hk : k ≤ l.length) (hn : n + 1 ≤ low l j) : costK l n (n + 1) k = costK l n (n + 1) j := by
  induction k with
  | zero => have : j = 0 := by omega
            subst this; rfl
  | succ k ih =>
    by_cases e : j = k + 1
    · subst e; rfl
    · have h1 := ih (by omega) (by omega)
      have h2 := low_mono h j k (by omega) (by omega)
      rw [costK_next, h1, show ov (low l k) (l.getD k du0).a n (n + 1) = 0 by unfold ov; omega]
      omega
theorem cost_unit {l : List Du} (h : Right l) (n : Int) (k : Nat) (hk : k < l.length) (h1 : low l k ≤ n) (h2 : n + 1 ≤ (l.getD k du0).a) : cost l n (n + 1) = (l.getD k du0).b := by
  have e1 := costK_after h n (k + 1) l.length (by omega) (Nat.le_refl _) (by rw [low_next]; exact h2)
  unfold cost
  rw [e1]
  unfold costK
  rw [costK_none h n k (by omega) h1, show ov (low l k) (l.getD k du0).a n (n + 1) = 1 by unfold ov; omega]
  omega
/-- What the four ask for. -/
def Mays (x n : Int) : Prop := (0 ≤ x ∧ x ≤ 10000000) ∧ (0 ≤ n ∧ n ≤ 2097151) ∧ x + n ≤ 10000000
def MayIs (l : List Du) (x n : Int) (e : Int) : Prop := (¬ Right l ∧ FaultIs l e) ∨ (Right l ∧ ¬ Mays x n ∧ e = 2) ∨ (Right l ∧ Mays x n ∧ e = 0)
theorem MayIs.one {l : List Du} {x n e f : Int} (h : MayIs l x n e) (h' : MayIs l x n f) : e = f := by
  rcases h with ⟨a, b⟩ | ⟨a, b, rfl⟩ | ⟨a, b, rfl⟩ <;> rcases h' with ⟨a', b'⟩ | ⟨a', b', rfl⟩ | ⟨a', b', rfl⟩ <;> first | rfl | exact b.one b' | contradiction
theorem MayIs.ok {l : List Du} {x n e : Int} (h : MayIs l x n e) : e = 0 ↔ Right l ∧ Mays x n := by
  rcases h with ⟨a, b⟩ | ⟨a, b, rfl⟩ | ⟨a, b, rfl⟩
  · exact ⟨fun h => absurd (b.ok.1 h) a, fun h => absurd h.1 a⟩
  · exact ⟨fun h => absurd h (by decide), fun h => absurd h.2 b⟩
  · exact ⟨fun _ => ⟨a, b⟩, fun _ => rfl⟩
def PriceIs (l : List Du) (x n : Int) (p e : Int) : Prop := MayIs l x n e ∧ ((e = 0 ∧ p = cost l x (x + n)) ∨ (e ≠ 0 ∧ p = 0))
theorem PriceIs.one {l : List Du} {x n p e q f : Int} (h : PriceIs l x n p e) (h' : PriceIs l x n q f) : p = q ∧ e = f := by
  obtain ⟨a, b⟩ := h
  obtain ⟨a', b'⟩ := h'
  obtain rfl := a.one a'
  rcases b with ⟨_, rfl⟩ | ⟨c, rfl⟩ <;> rcases b' with ⟨_, rfl⟩ | ⟨c', rfl⟩ <;> first | exact ⟨rfl, rfl⟩ | contradiction
/-- The lines, as far as the place k. -/
def billK (l : List Du) (x y : Int) : Nat → List Tr
  | 0 => []
  | k + 1 => billK l x y k ++ (if 0 < ov (low l k) (l.getD k du0).a x y then [⟨ov (low l k) (l.getD k du0).a x y, (l.getD k du0).b, ov (low l k) (l.getD k du0).a x y * (l.getD k du0).b⟩] else [])
def BillIs (l : List Du) (x n : Int) (z : List Tr) (e : Int) : Prop := MayIs l x n e ∧ ((e = 0 ∧ z = billK l x (x + n) l.length) ∨ (e ≠ 0 ∧ z = []))
theorem BillIs.one {l : List Du} {x n e f : Int} {p q : List Tr} (h : BillIs l x n p e) (h' : BillIs l x n q f) : p = q ∧ e = f := by
  obtain ⟨a, b⟩ := h
  obtain ⟨a', b'⟩ := h'
  obtain rfl := a.one a'
  rcases b with ⟨_, rfl⟩ | ⟨c, rfl⟩ <;> rcases b' with ⟨_, rfl⟩ | ⟨c', rfl⟩ <;> first | exact ⟨rfl, rfl⟩ | contradiction
theorem bill_len (l : List Du) (x y : Int) (k : Nat) : (billK l x y k).length ≤ k := by
  induction k with
  | zero => exact Nat.le_refl _
  | succ k ih => unfold billK; rw [List.length_append]; split <;> simp <;> omega
theorem BillIs.small {l : List Du} {x n e : Int} {z : List Tr} (h : BillIs l x n z e) : z.length ≤ 1000000 := by
  rcases h.2 with ⟨h0, rfl⟩ | ⟨_, rfl⟩
  · have h1 := bill_len l x (x + n) l.length
    have h2 := (h.1.ok.1 h0).1.1.2
    omega
  · exact Nat.zero_le _
/-- The lines add up. -/
def sumA : List Tr → Int
  | [] => 0
  | t :: l => t.a + sumA l
def sumC : List Tr → Int
  | [] => 0
  | t :: l => t.c + sumC l
theorem sumA_app (l m : List Tr) : sumA (l ++ m) = sumA l + sumA m := by
  induction l with
  | nil => simp [sumA]
  | cons t l ih => simp only [List.cons_append, sumA, ih]; omega
theorem sumC_app (l m : List Tr) : sumC (l ++ m) = sumC l + sumC m := by
  induction l with
  | nil => simp [sumC]
  | cons t l ih => simp only [List.cons_append, sumC, ih]; omega
theorem bill_sums (l : List Du) (x y : Int) (k : Nat) : sumA (billK l x y k) = manyK l x y k ∧ sumC (billK l x y k) = costK l x y k := by
  induction k with
  | zero => exact ⟨rfl, rfl⟩
  | succ k ih =>
    have h0 := ov_pos (low l k) (l.getD k du0).a x y
    unfold billK manyK costK
    rw [sumA_app, sumC_app, ih.1, ih.2]
    by_cases h : 0 < ov (low l k) (l.getD k du0).a x y
    · rw [if_pos h]; simp [sumA, sumC]
    · have e : ov (low l k) (l.getD k du0).a x y = 0 := by omega
      rw [if_neg h, e]; simp [sumA, sumC]
def LineOk (t : Tr) : Prop := 1 ≤ t.a ∧ t.a ≤ 10000000 ∧ 1 ≤ t.b ∧ t.b ≤ 100000 ∧ t.c = t.a * t.b
theorem bill_ok {l : List Du} (h : Right l) (x y : Int) (k : Nat) (hk : k ≤ l.length) : ∀ t ∈ billK l x y k, LineOk t := by
  induction k with
  | zero => intro t ht; cases ht
  | succ k ih =>
    intro t ht
    unfold billK at ht
    rcases List.mem_append.1 ht with ht | ht
    · exact ih (by omega) t ht
    · by_cases hp : 0 < ov (low l k) (l.getD k du0).a x y
      · rw [if_pos hp] at ht
        have e := List.mem_singleton.1 ht
        subst e
        have h1 := h.price k (by omega)
        have h2 := h.upto k (by omega)
        have h3 := h.low_pos k (by omega)
        exact ⟨by show 1 ≤ ov _ _ _ _; omega, by show ov _ _ _ _ ≤ _; unfold ov; omega, h1.1, h1.2, rfl⟩
      · rw [if_neg hp] at ht; cases ht
/-- The most that there can be. -/
def Top (x : Int) : Int := min 2097151 (10000000 - x)
def MostOf (l : List Du) (x m u : Int) : Prop := (0 ≤ u ∧ u ≤ Top x) ∧ cost l x (x + u) ≤ m ∧ (u = Top x ∨ m < cost l x (x + (u + 1)))
theorem MostOf.one {l : List Du} {x m u v : Int} (h : Right l) (hx : 0 ≤ x) (a : MostOf l x m u) (b : MostOf l x m v) : u = v := by
  obtain ⟨⟨a1, a2⟩, a3, a4⟩ := a
  obtain ⟨⟨b1, b2⟩, b3, b4⟩ := b
  rcases Int.lt_trichotomy u v with c | c | c
  · rcases a4 with a4 | a4
    · omega
    · have h1 := cost_adds h x (x + (u + 1)) (x + v) (by omega) (by omega)
      have h2 := cost_bd h (x + (u + 1)) (x + v) (by omega) (by omega) (by unfold Top at b2; omega)
      omega
  · exact c
  · rcases b4 with b4 | b4
    · omega
    · have h1 := cost_adds h x (x + (v + 1)) (x + u) (by omega) (by omega)
      have h2 := cost_bd h (x + (v + 1)) (x + u) (by omega) (by omega) (by unfold Top at a2; omega)
      omega
def MayMost (x m : Int) : Prop := (0 ≤ x ∧ x ≤ 10000000) ∧ 0 ≤ m ∧ m ≤ 1000000000000
def MostIs (l : List Du) (x m : Int) (u p e : Int) : Prop := (¬ Right l ∧ FaultIs l e ∧ u = 0 ∧ p = 0) ∨ (Right l ∧ ¬ MayMost x m ∧ e = 2 ∧ u = 0 ∧ p = 0) ∨ (Right l ∧ MayMost x m ∧ e = 0 ∧ MostOf l x m u ∧ p = cost l x (x + u))
theorem MostIs.one {l : List Du} {x m u p e u' p' e' : Int} (h : MostIs l x m u p e) (h' : MostIs l x m u' p' e') : u = u' ∧ p = p' ∧ e = e' := by
  rcases h with ⟨a, b, rfl, rfl⟩ | ⟨a, b, rfl, rfl, rfl⟩ | ⟨a, b, rfl, c, rfl⟩ <;> rcases h' with ⟨a', b', rfl, rfl⟩ | ⟨a', b', rfl, rfl, rfl⟩ | ⟨a', b', rfl, c', rfl⟩ <;> first | exact ⟨rfl, rfl, b.one b'⟩ | exact ⟨rfl, rfl, rfl⟩ | contradiction | skip
  obtain rfl := c.one a b.1.1 c'
  exact ⟨rfl, rfl, rfl⟩
theorem rise_not {l : List Du} {k : Nat} (h1 : 1 ≤ k) (hk : k < l.length) (h : (l.getD k du0).a ≤ (l.getD (k - 1) du0).a) : ¬ (Rises l ∧ Ends l) := fun hh => by
  have := hh.1 k h1 hk; omega
/-- What bounds a product. -/
theorem prod_bd {o p : Int} (h0 : 0 ≤ o) (h1 : o ≤ 10000000) (h2 : 1 ≤ p) (h3 : p ≤ 100000) : 0 ≤ o * p ∧ o * p ≤ 1000000000000 := by
  have a := Int.mul_nonneg h0 (show 0 ≤ p by omega)
  have b : o * p ≤ 10000000 * 100000 := Int.le_trans (Int.mul_le_mul_of_nonneg_left h3 h0) (Int.mul_le_mul_of_nonneg_right h1 (by decide))
  exact ⟨a, by omega⟩
theorem costK_le {l : List Du} (h : Right l) (x y : Int) (hx : 0 ≤ x) (hxy : x ≤ y) (hy : y ≤ 10000000) (k : Nat) (hk : k ≤ l.length) : costK l x y k ≤ 1000000000000 := by
  have h1 := costK_mono h x y k l.length hk (Nat.le_refl _)
  have h2 := (cost_bd h x y hx hxy hy).2
  unfold cost at h2
  omega
theorem ov_le (lo hi x y : Int) (h0 : 0 ≤ lo) (h1 : hi ≤ 10000000) : ov lo hi x y ≤ 10000000 := by unfold ov; omega
theorem billK_yes (l : List Du) (x y : Int) (k : Nat) (h : 0 < ov (low l k) (l.getD k du0).a x y) : billK l x y (k + 1) = billK l x y k ++ [⟨ov (low l k) (l.getD k du0).a x y, (l.getD k du0).b, ov (low l k) (l.getD k du0).a x y * (l.getD k du0).b⟩] := by
  unfold billK; rw [if_pos h]
  cases k <;> rfl
theorem billK_no (l : List Du) (x y : Int) (k : Nat) (h : ¬ 0 < ov (low l k) (l.getD k du0).a x y) : billK l x y (k + 1) = billK l x y k := by
  conv => lhs; unfold billK
  rw [if_neg h, List.append_nil]
theorem sums_pos (l : List Tr) (h : ∀ t ∈ l, LineOk t) : 0 ≤ sumA l ∧ 0 ≤ sumC l := by
  induction l with
  | nil => exact ⟨Int.le_refl _, Int.le_refl _⟩
  | cons t l ih =>
    have h1 := ih fun x hx => h x (List.mem_cons_of_mem _ hx)
    obtain ⟨a1, a2, a3, a4, a5⟩ := h t List.mem_cons_self
    have h2 := Int.mul_nonneg (show 0 ≤ t.a by omega) (show 0 ≤ t.b by omega)
    exact ⟨by show 0 ≤ t.a + sumA l; omega, by show 0 ≤ t.c + sumC l; omega⟩
theorem sums_take (l : List Tr) (h : ∀ t ∈ l, LineOk t) (k : Nat) : (0 ≤ sumA (l.take k) ∧ sumA (l.take k) ≤ sumA l) ∧ 0 ≤ sumC (l.take k) ∧ sumC (l.take k) ≤ sumC l := by
  have h1 := sums_pos (l.take k) fun x hx => h x (List.mem_of_mem_take hx)
  have h2 := sums_pos (l.drop k) fun x hx => h x (List.mem_of_mem_drop hx)
  have e1 := sumA_app (l.take k) (l.drop k)
  have e2 := sumC_app (l.take k) (l.drop k)
  rw [List.take_append_drop] at e1 e2
  exact ⟨⟨h1.1, by omega⟩, h1.2, by omega⟩
theorem sums_next (l : List Tr) (k : Nat) (hk : k < l.length) : sumA (l.take (k + 1)) = sumA (l.take k) + (l.getD k tr0).a ∧ sumC (l.take (k + 1)) = sumC (l.take k) + (l.getD k tr0).c := by
  rw [List.take_succ_eq_append_getElem hk, sumA_app, sumC_app]
  simp [List.getD, List.getElem?_eq_getElem hk, sumA, sumC]
theorem line_at {l : List Tr} (h : ∀ t ∈ l, LineOk t) (k : Nat) (hk : k < l.length) : LineOk (l.getD k tr0) := by
  have e : l.getD k tr0 = l[k] := by simp [List.getD, List.getElem?_eq_getElem hk]
  rw [e]; exact h _ (List.getElem_mem hk)

end Go.Proofs.YtlicdeppfhmfjabDoor.tar

/- Rows of pairs of numbers: that came in, and that a call owns. -/
namespace Go.Proofs.YtlicdeppfhmfjabDoor.tar
open Go.RowKit
set_option maxRecDepth 100000

/-- The slice a, len reads as the pairs ls. -/
def RowD (w : World) (a : Option Addr) (len : Nat) (ls : List Du) : Prop :=
  ls.length = len ∧ (len = 0 ∨ ∃ b off, a = some ⟨b, off, none⟩ ∧ ∀ i, i < len → w.cell? ⟨b, off + i * 2, none⟩ = some (.int .i64 (ls.getD i du0).a) ∧ w.cell? ⟨b, off + i * 2 + 1, none⟩ = some (.int .i64 (ls.getD i du0).b))
theorem RowD.below {w w' : World} {a : Option Addr} {n : Nat} {zs : List Du} (h : RowD w a n zs) (hb : Below w.heap.size w w') : RowD w' a n zs := by
  refine ⟨h.1, ?_⟩
  rcases h.2 with h0 | ⟨b, off, rfl, hc⟩
  · exact .inl h0
  · refine .inr ⟨b, off, rfl, fun i hi => ?_⟩
    have h1 := hc i hi
    rw [hb.cell (p := ⟨b, off + i * 2, none⟩) (World.block_lt_of_cell? w _ h1.1), hb.cell (p := ⟨b, off + i * 2 + 1, none⟩) (World.block_lt_of_cell? w _ h1.2)]
    exact h1
theorem RowD.nil (w : World) (a : Option Addr) : RowD w a 0 [] := ⟨rfl, .inl rfl⟩
theorem RowD.at {w : World} {a : Option Addr} {n : Nat} {zs : List Du} (h : RowD w a n zs) (h0 : 0 < n) : ∃ b off, a = some ⟨b, off, none⟩ ∧ b < w.heap.size ∧ ∀ i, i < n → w.cell? ⟨b, off + i * 2, none⟩ = some (.int .i64 (zs.getD i du0).a) ∧ w.cell? ⟨b, off + i * 2 + 1, none⟩ = some (.int .i64 (zs.getD i du0).b) := by
  rcases h.2 with h1 | ⟨b, off, rfl, hc⟩
  · omega
  · exact ⟨b, off, rfl, World.block_lt_of_cell? w _ (hc 0 h0).1, hc⟩
/-- What the frame hands to the walk of pairs that came in. -/
theorem rowD_of {w : World} {a : Addr} {m len : Nat} (hl : len ≤ m)
    (h : ∀ j, j < m → ∃ z0 z1, w.cell? (a.add (j * 2)) = some (.int .i64 z0) ∧ w.cell? (a.add (j * 2 + 1)) = some (.int .i64 z1) ∧ (Lit.int .i64 z0).wf = true ∧ (Lit.int .i64 z1).wf = true) :
    ∃ zs : List Du, RowD w (some a) len zs ∧ ∀ x ∈ zs, (Lit.int .i64 x.a).wf = true ∧ (Lit.int .i64 x.b).wf = true := by
  have h' : ∀ j, ∃ e : Du, j < m → w.cell? (a.add (j * 2)) = some (.int .i64 e.a) ∧ w.cell? (a.add (j * 2 + 1)) = some (.int .i64 e.b) ∧ (Lit.int .i64 e.a).wf = true ∧ (Lit.int .i64 e.b).wf = true := fun j => by
    by_cases hj : j < m
    · obtain ⟨z0, z1, hz⟩ := h j hj
      exact ⟨⟨z0, z1⟩, fun _ => hz⟩
    · exact ⟨du0, fun hh => absurd hh hj⟩
  obtain ⟨f, hf⟩ : ∃ f : Nat → Du, ∀ j, j < m → w.cell? (a.add (j * 2)) = some (.int .i64 (f j).a) ∧ w.cell? (a.add (j * 2 + 1)) = some (.int .i64 (f j).b) ∧ (Lit.int .i64 (f j).a).wf = true ∧ (Lit.int .i64 (f j).b).wf = true := ⟨fun j => Classical.choose (h' j), fun j hj => Classical.choose_spec (h' j) hj⟩
  clear h' h
  refine ⟨(List.range len).map f, ⟨by simp, ?_⟩, fun x hx => ?_⟩
  · by_cases h0 : len = 0
    · exact .inl h0
    · obtain ⟨b, off, spot⟩ := a
      have hs : spot = none := by simpa [Addr.add] using World.cell?_spot (hf 0 (by omega)).1
      subst hs
      refine .inr ⟨b, off, rfl, fun i hi => ?_⟩
      have h1 := hf i (by omega)
      rw [Addr.add_lit, Addr.add_lit, ← Nat.add_assoc] at h1
      have e : ((List.range len).map f).getD i du0 = f i := by simp [List.getD, hi]
      rw [e]
      exact ⟨h1.1, h1.2.1⟩
  · obtain ⟨j, hj, rfl⟩ := List.mem_map.1 hx
    exact (hf j (by have := List.mem_range.1 hj; omega)).2.2
def cellsD : List Du → List Value
  | [] => []
  | e :: l => .int .i64 e.a :: .int .i64 e.b :: cellsD l
theorem cellsD_len (l : List Du) : (cellsD l).length = l.length * 2 := by
  induction l with
  | nil => rfl
  | cons e l ih => simp [cellsD, ih]; omega
theorem cellsD_app (l m : List Du) : cellsD (l ++ m) = cellsD l ++ cellsD m := by
  induction l with
  | nil => rfl
  | cons e l ih => simp [cellsD, ih]
theorem oneD (l : List Du) : ∀ u ∈ cellsD l, u.oneCell' = true := by
  induction l with
  | nil => intro u hu; cases hu
  | cons e l ih =>
    intro u hu
    simp only [cellsD, List.mem_cons] at hu
    rcases hu with rfl | rfl | hu
    · rfl
    · rfl
    · exact ih u hu
theorem cellsD_at (l : List Du) (k : Nat) (hk : k < l.length) : (cellsD l)[k * 2]? = some (.int .i64 (l.getD k du0).a) ∧ (cellsD l)[k * 2 + 1]? = some (.int .i64 (l.getD k du0).b) := by
  induction l generalizing k with
  | nil => simp at hk
  | cons x l ih =>
    cases k with
    | zero => exact ⟨rfl, rfl⟩
    | succ k =>
      rw [show (k + 1) * 2 = k * 2 + 1 + 1 by omega]
      have := ih k (by simpa using hk)
      simpa [cellsD] using this
theorem cellsD_get {w : World} {b off len : Nat} {zs : List Du} (hz : zs.length = len) (hc : ∀ i, i < len → w.cell? ⟨b, off + i * 2, none⟩ = some (.int .i64 (zs.getD i du0).a) ∧ w.cell? ⟨b, off + i * 2 + 1, none⟩ = some (.int .i64 (zs.getD i du0).b)) (j : Nat) (u : Value) (hu : (cellsD zs)[j]? = some u) : w.cell? ⟨b, off + j, none⟩ = some u := by
  have hj : j < (cellsD zs).length := by
    by_cases h : j < (cellsD zs).length
    · exact h
    · rw [List.getElem?_eq_none (by omega)] at hu; cases hu
  rw [cellsD_len] at hj
  have h1 := cellsD_at zs (j / 2) (by omega)
  have h2 := hc (j / 2) (by omega)
  rcases Nat.mod_two_eq_zero_or_one j with e | e
  · have e2 : j / 2 * 2 = j := by omega
    rw [e2] at h1 h2
    rw [h1.1] at hu
    rw [h2.1]; exact hu
  · have e2 : j / 2 * 2 + 1 = j := by omega
    rw [Nat.add_assoc, e2] at h2
    rw [e2] at h1
    rw [h1.2] at hu
    rw [h2.2]; exact hu
/-- Pairs (of the kind T) that nobody else holds. -/
def Ld (T : TypeId) (w : World) (base : Nat) (v : Value) (l : List Du) : Prop := w.ownsRow base T 2 v l.length (cellsD l)
theorem Ld.zero (T : TypeId) (w : World) (base : Nat) : Ld T w base (.slice none 0 0) [] := World.ownsRow_nil _ _ _ _
theorem Ld.alloc {T : TypeId} {w : World} {base : Nat} {v : Value} {l : List Du} (h : Ld T w base v l) (o : Obj) : Ld T (w.alloc o) base v l := World.ownsRow.alloc h o
theorem Ld.next {T : TypeId} {w w' : World} {base : Nat} {v : Value} {l : List Du} (h : Ld T w base v l) (hb : Below w.heap.size w w') : Ld T w' base v l := by
  refine ⟨h.1, ?_⟩
  rcases h.2 with hn | ⟨g, cap, cur, hv, hg, hc, rest⟩
  · exact .inl hn
  · exact .inr ⟨g, cap, cur, hv, hg, Blk.next hc hb, rest⟩
theorem Ld.low {T : TypeId} {w : World} {base base' : Nat} {v : Value} {l : List Du} (h : Ld T w base v l) (hb : base' ≤ base) : Ld T w base' v l := by
  refine ⟨h.1, ?_⟩
  rcases h.2 with hn | ⟨g, cap, cur, hv, hg, rest⟩
  · exact .inl hn
  · exact .inr ⟨g, cap, cur, hv, by omega, rest⟩
theorem Ld.row {T : TypeId} {w : World} {base : Nat} {v : Value} {l : List Du} (h : Ld T w base v l) : ∃ a cap, v = .slice a l.length cap ∧ RowD w a l.length l ∧ (a = none → cap = 0) ∧ l.length ≤ cap ∧ (∀ x, a = some x → x.off = 0 ∧ x.spot = none) := by
  rcases h.2 with ⟨hv, hn⟩ | ⟨g, cap, cur, hv, _, _, h1, _⟩
  · exact ⟨none, 0, by rw [hn]; exact hv, ⟨rfl, .inl hn⟩, fun _ => rfl, by omega, fun x h => by cases h⟩
  · subst hv
    refine ⟨_, cap, rfl, ⟨rfl, .inr ⟨g, 0, rfl, fun i hi => ?_⟩⟩, (fun h => by cases h), h1, fun x h => by cases h; exact ⟨rfl, rfl⟩⟩
    have e1 := World.ownsRow.cellAt h (i * 2) (by omega)
    have e2 := World.ownsRow.cellAt h (i * 2 + 1) (by omega)
    rw [Nat.zero_add, e1, e2]
    exact cellsD_at l i hi
theorem own_far {w : World} {base n k : Nat} {t : TypeId} {v : Value} {l : List Value} (h : w.ownsRow base t n v k l) {G : Nat} (hG : G < base) : some G ≠ v.ownBlock := by
  intro e
  have := (World.ownsRow.lt h G e.symm).1
  omega
theorem own_bel {w0 w w' : World} {base B n k : Nat} {t : TypeId} {v : Value} {l : List Value} (h : w.ownsRow base t n v k l) (hg : w.grownBy w' v.ownBlock) (hb : Below B w0 w) (hB : B ≤ base) (hw : B ≤ w.heap.size) : Below B w0 w' := by
  refine ⟨hg.os.trans hb.os, hg.tape.trans hb.tape, hg.output.trans hb.output, Nat.le_trans hb.size hg.size, fun k hk => ?_⟩
  rw [← hb.block k hk]
  exact hg.block k (by omega) (own_far h (by omega))
theorem bel_drewN {B : Nat} {w w' : World} (h : Below B w w') (n : Nat) : Below B w (w'.drewN n) := ⟨h.os, h.tape, h.output, h.size, h.block⟩
/-- What is to be known of a kind T of pairs, whose slices are S. -/
structure PairT (P : Program) (T S : TypeId) : Prop where
  info : (P.info? T).map (fun i => (i.zero, i.size, i.bytes)) = some (some (.agg #[.int .i64 0, .int .i64 0]), 2, 16)
  under : P.underlying S = some (.slice T)
/-- One pair is put behind the others. -/
theorem wp_pair {P : Program} {T S : TypeId} (hP : PairT P T S) {w : World} {ops : Array Oper} {rest : List Oper} {o : Oper} {a : Act} {Q : Exit → Act → World → Prop} (hgd : o.guard = none) (s x : Operand)
    (ho : o.op = .call { callee := .builtin .append, args := #[s, x], argTypes := #[S, S] })
    (base G : Nat) (v : Value) (l : List Du) (r : Du) (hs : a.eval s = v) (hx : a.eval x = .slice (some ⟨G, 0, none⟩) 1 1) (hv : Ld T w base v l) (hu : w.cell? ⟨G, 0, none⟩ = some (.int .i64 r.a) ∧ w.cell? ⟨G, 1, none⟩ = some (.int .i64 r.b)) (hn : l.length ≤ 1000000) (hbase : base ≤ w.heap.size)
    (h : ∀ v' w', Ld T w' base v' (l ++ [r]) → w.grownBy w' v.ownBlock → wpList P ops Q rest (a.put o.dst v') w') : wpList P ops Q (o :: rest) a w := by
  obtain ⟨i0, hi, hz0, hz1, hz2⟩ := info_parts hP.info
  refine wpList_append_own w hgd s x S ho base T i0 (.agg #[.int .i64 0, .int .i64 0]) 2 16 hP.under hi hz0 hz1 hz2 rfl (by decide) v l.length (cellsD l) hs hv ⟨G, 0, none⟩ 1 1 (cellsD [r]) hx rfl ?_ (oneD [r]) (by unfold maxLen; omega) (by omega) hbase ?_
  · intro j u hj
    match j, hj with
    | 0, hj => simp [cellsD] at hj; subst hj; simpa [Addr.add] using hu.1
    | 1, hj => simp [cellsD] at hj; subst hj; simpa [Addr.add] using hu.2
    | j + 2, hj => simp [cellsD] at hj
  intro v' w' h1 h2 _
  refine h v' w' ?_ h2
  unfold Ld
  rw [List.length_append, cellsD_app]
  exact h1
/-- The same, in a region that draws its order. -/
theorem step_pair {P : Program} {T S : TypeId} (hP : PairT P T S) {w : World} {ops : Array Oper} {o : Oper} {a : Act} {K : Act → World → Prop} {Q : Exit → Act → World → Prop} {E : Prop} (hgd : o.guard = none) (s x : Operand)
    (ho : o.op = .call { callee := .builtin .append, args := #[s, x], argTypes := #[S, S] })
    (base G : Nat) (v : Value) (l : List Du) (r : Du) (hs : a.eval s = v) (hx : a.eval x = .slice (some ⟨G, 0, none⟩) 1 1) (hv : Ld T w base v l) (hu : w.cell? ⟨G, 0, none⟩ = some (.int .i64 r.a) ∧ w.cell? ⟨G, 1, none⟩ = some (.int .i64 r.b)) (hn : l.length ≤ 1000000) (hbase : base ≤ w.heap.size)
    (h : ∀ v' w', Ld T w' base v' (l ++ [r]) → w.grownBy w' v.ownBlock → K (a.put o.dst v') w') : if Region.wanted o (yielded ops a.tmps) = true then Oper.wp P o a w K Q else E := by
  have hw : Region.wanted o (yielded ops a.tmps) = true := by simp [Region.wanted, hgd]
  rw [if_pos hw]
  obtain ⟨i0, hi, hz0, hz1, hz2⟩ := info_parts hP.info
  obtain ⟨v', w', hr, h2, h3, _⟩ := run_append_own (P := P) w base S o.type T i0 (.agg #[.int .i64 0, .int .i64 0]) 2 16 hP.under hi hz0 hz1 hz2 rfl (by decide) v l.length (cellsD l) hv ⟨G, 0, none⟩ 1 1 (cellsD [r]) rfl (by
    intro j u hj
    match j, hj with
    | 0, hj => simp [cellsD] at hj; subst hj; simpa [Addr.add] using hu.1
    | 1, hj => simp [cellsD] at hj; subst hj; simpa [Addr.add] using hu.2
    | j + 2, hj => simp [cellsD] at hj) (oneD [r]) (by unfold maxLen; omega) (by omega) hbase
  unfold Oper.wp execOp
  simp only [ho, resolve, invoke, builtin, Sem.run_bind, Sem.run_pure, Result.andThen_ok, List.map_toArray, List.map_cons, List.map_nil, hs, hx, hr]
  refine h v' w' ?_ h3
  unfold Ld
  rw [List.length_append, cellsD_app]
  exact h2
/-- A copy of pairs: append(nil, l...). -/
theorem wp_pairs {P : Program} {T S : TypeId} (hP : PairT P T S) {w : World} {ops : Array Oper} {rest : List Oper} {o : Oper} {a : Act} {Q : Exit → Act → World → Prop} (hgd : o.guard = none) (s x : Operand)
    (ho : o.op = .call { callee := .builtin .append, args := #[s, x], argTypes := #[S, S] })
    (base : Nat) (A : Addr) (len cap : Nat) (zs : List Du) (hs : a.eval s = .slice none 0 0) (hx : a.eval x = .slice (some A) len cap) (hr : RowD w (some A) len zs) (hl : len * 16 ≤ 140737488351232) (hbase : base ≤ w.heap.size)
    (h : ∀ v' w', Ld T w' base v' zs → w.grownBy w' none → wpList P ops Q rest (a.put o.dst v') w') : wpList P ops Q (o :: rest) a w := by
  obtain ⟨i0, hi, hz0, hz1, hz2⟩ := info_parts hP.info
  obtain ⟨hz, hr⟩ := hr
  refine wpList_append_own w hgd s x S ho base T i0 (.agg #[.int .i64 0, .int .i64 0]) 2 16 hP.under hi hz0 hz1 hz2 rfl (by decide) _ _ _ hs (World.ownsRow_nil _ _ _ _) A len cap (cellsD zs) hx ?_ ?_ (oneD zs) (by unfold maxLen; omega) (by omega) hbase ?_
  · rw [cellsD_len, hz]
  · intro j u hu
    rcases hr with h | ⟨b, off, h, hc⟩
    · rw [List.getElem?_eq_none (by rw [cellsD_len]; omega)] at hu; cases hu
    · obtain rfl := Option.some.inj h
      rw [Addr.add_lit]
      exact cellsD_get hz hc j u hu
  · intro v' w' h1 h2 _
    refine h v' w' ?_ (by simpa [Value.ownBlock] using h2)
    show w'.ownsRow _ _ _ _ _ _
    rw [hz]; simpa using h1

end Go.Proofs.YtlicdeppfhmfjabDoor.tar

/- Rows of three numbers each: that came in, and that a call owns. -/
namespace Go.Proofs.YtlicdeppfhmfjabDoor.tar
open Go.RowKit
set_option maxRecDepth 100000

/-- The slice a, len reads as the lines ls. -/
def RowL (w : World) (a : Option Addr) (len : Nat) (ls : List Tr) : Prop :=
  ls.length = len ∧ (len = 0 ∨ ∃ b off, a = some ⟨b, off, none⟩ ∧ ∀ i, i < len → w.cell? ⟨b, off + i * 3, none⟩ = some (.int .i64 (ls.getD i tr0).a) ∧ w.cell? ⟨b, off + i * 3 + 1, none⟩ = some (.int .i64 (ls.getD i tr0).b) ∧ w.cell? ⟨b, off + i * 3 + 2, none⟩ = some (.int .i64 (ls.getD i tr0).c))
theorem RowL.below {w w' : World} {a : Option Addr} {n : Nat} {zs : List Tr} (h : RowL w a n zs) (hb : Below w.heap.size w w') : RowL w' a n zs := by
  refine ⟨h.1, ?_⟩
  rcases h.2 with h0 | ⟨b, off, rfl, hc⟩
  · exact .inl h0
  · refine .inr ⟨b, off, rfl, fun i hi => ?_⟩
    have h1 := hc i hi
    rw [hb.cell (p := ⟨b, off + i * 3, none⟩) (World.block_lt_of_cell? w _ h1.1), hb.cell (p := ⟨b, off + i * 3 + 1, none⟩) (World.block_lt_of_cell? w _ h1.2.1), hb.cell (p := ⟨b, off + i * 3 + 2, none⟩) (World.block_lt_of_cell? w _ h1.2.2)]
    exact h1
theorem RowL.nil (w : World) (a : Option Addr) : RowL w a 0 [] := ⟨rfl, .inl rfl⟩
theorem RowL.at {w : World} {a : Option Addr} {n : Nat} {zs : List Tr} (h : RowL w a n zs) (h0 : 0 < n) : ∃ b off, a = some ⟨b, off, none⟩ ∧ b < w.heap.size ∧ ∀ i, i < n → w.cell? ⟨b, off + i * 3, none⟩ = some (.int .i64 (zs.getD i tr0).a) ∧ w.cell? ⟨b, off + i * 3 + 1, none⟩ = some (.int .i64 (zs.getD i tr0).b) ∧ w.cell? ⟨b, off + i * 3 + 2, none⟩ = some (.int .i64 (zs.getD i tr0).c) := by
  rcases h.2 with h1 | ⟨b, off, rfl, hc⟩
  · omega
  · exact ⟨b, off, rfl, World.block_lt_of_cell? w _ (hc 0 h0).1, hc⟩
def cellsL : List Tr → List Value
  | [] => []
  | e :: l => .int .i64 e.a :: .int .i64 e.b :: .int .i64 e.c :: cellsL l
theorem cellsL_len (l : List Tr) : (cellsL l).length = l.length * 3 := by
  induction l with
  | nil => rfl
  | cons e l ih => simp [cellsL, ih]; omega
theorem cellsL_app (l m : List Tr) : cellsL (l ++ m) = cellsL l ++ cellsL m := by
  induction l with
  | nil => rfl
  | cons e l ih => simp [cellsL, ih]
theorem oneL (l : List Tr) : ∀ u ∈ cellsL l, u.oneCell' = true := by
  induction l with
  | nil => intro u hu; cases hu
  | cons e l ih =>
    intro u hu
    simp only [cellsL, List.mem_cons] at hu
    rcases hu with rfl | rfl | rfl | hu
    · rfl
    · rfl
    · rfl
    · exact ih u hu
theorem cellsL_at (l : List Tr) (k : Nat) (hk : k < l.length) : (cellsL l)[k * 3]? = some (.int .i64 (l.getD k tr0).a) ∧ (cellsL l)[k * 3 + 1]? = some (.int .i64 (l.getD k tr0).b) ∧ (cellsL l)[k * 3 + 2]? = some (.int .i64 (l.getD k tr0).c) := by
  induction l generalizing k with
  | nil => simp at hk
  | cons x l ih =>
    cases k with
    | zero => exact ⟨rfl, rfl, rfl⟩
    | succ k =>
      rw [show (k + 1) * 3 = k * 3 + 1 + 1 + 1 by omega]
      have := ih k (by simpa using hk)
      simpa [cellsL] using this
/-- Lines (of the kind T) that nobody else holds. -/
def Lt (T : TypeId) (w : World) (base : Nat) (v : Value) (l : List Tr) : Prop := w.ownsRow base T 3 v l.length (cellsL l)
theorem Lt.zero (T : TypeId) (w : World) (base : Nat) : Lt T w base (.slice none 0 0) [] := World.ownsRow_nil _ _ _ _
theorem Lt.alloc {T : TypeId} {w : World} {base : Nat} {v : Value} {l : List Tr} (h : Lt T w base v l) (o : Obj) : Lt T (w.alloc o) base v l := World.ownsRow.alloc h o
theorem Lt.next {T : TypeId} {w w' : World} {base : Nat} {v : Value} {l : List Tr} (h : Lt T w base v l) (hb : Below w.heap.size w w') : Lt T w' base v l := by
  refine ⟨h.1, ?_⟩
  rcases h.2 with hn | ⟨g, cap, cur, hv, hg, hc, rest⟩
  · exact .inl hn
  · exact .inr ⟨g, cap, cur, hv, hg, Blk.next hc hb, rest⟩
theorem Lt.low {T : TypeId} {w : World} {base base' : Nat} {v : Value} {l : List Tr} (h : Lt T w base v l) (hb : base' ≤ base) : Lt T w base' v l := by
  refine ⟨h.1, ?_⟩
  rcases h.2 with hn | ⟨g, cap, cur, hv, hg, rest⟩
  · exact .inl hn
  · exact .inr ⟨g, cap, cur, hv, by omega, rest⟩
theorem Lt.row {T : TypeId} {w : World} {base : Nat} {v : Value} {l : List Tr} (h : Lt T w base v l) : ∃ a cap, v = .slice a l.length cap ∧ RowL w a l.length l ∧ (a = none → cap = 0) ∧ l.length ≤ cap ∧ (∀ x, a = some x → x.off = 0 ∧ x.spot = none) := by
  rcases h.2 with ⟨hv, hn⟩ | ⟨g, cap, cur, hv, _, _, h1, _⟩
  · exact ⟨none, 0, by rw [hn]; exact hv, ⟨rfl, .inl hn⟩, fun _ => rfl, by omega, fun x h => by cases h⟩
  · subst hv
    refine ⟨_, cap, rfl, ⟨rfl, .inr ⟨g, 0, rfl, fun i hi => ?_⟩⟩, (fun h => by cases h), h1, fun x h => by cases h; exact ⟨rfl, rfl⟩⟩
    have e1 := World.ownsRow.cellAt h (i * 3) (by omega)
    have e2 := World.ownsRow.cellAt h (i * 3 + 1) (by omega)
    have e3 := World.ownsRow.cellAt h (i * 3 + 2) (by omega)
    rw [Nat.zero_add, e1, e2, e3]
    exact cellsL_at l i hi
/-- What is to be known of a kind T of lines, whose slices are S. -/
structure LineT (P : Program) (T S : TypeId) : Prop where
  info : (P.info? T).map (fun i => (i.zero, i.size, i.bytes)) = some (some (.agg #[.int .i64 0, .int .i64 0, .int .i64 0]), 3, 24)
  under : P.underlying S = some (.slice T)
/-- One line is put behind the others. -/
theorem wp_line {P : Program} {T S : TypeId} (hP : LineT P T S) {w : World} {ops : Array Oper} {rest : List Oper} {o : Oper} {a : Act} {Q : Exit → Act → World → Prop} (hgd : o.guard = none) (s x : Operand)
    (ho : o.op = .call { callee := .builtin .append, args := #[s, x], argTypes := #[S, S] })
    (base G : Nat) (v : Value) (l : List Tr) (r : Tr) (hs : a.eval s = v) (hx : a.eval x = .slice (some ⟨G, 0, none⟩) 1 1) (hv : Lt T w base v l) (hu : w.cell? ⟨G, 0, none⟩ = some (.int .i64 r.a) ∧ w.cell? ⟨G, 1, none⟩ = some (.int .i64 r.b) ∧ w.cell? ⟨G, 2, none⟩ = some (.int .i64 r.c)) (hn : l.length ≤ 1000000) (hbase : base ≤ w.heap.size)
    (h : ∀ v' w', Lt T w' base v' (l ++ [r]) → w.grownBy w' v.ownBlock → wpList P ops Q rest (a.put o.dst v') w') : wpList P ops Q (o :: rest) a w := by
  obtain ⟨i0, hi, hz0, hz1, hz2⟩ := info_parts hP.info
  refine wpList_append_own w hgd s x S ho base T i0 (.agg #[.int .i64 0, .int .i64 0, .int .i64 0]) 3 24 hP.under hi hz0 hz1 hz2 rfl (by decide) v l.length (cellsL l) hs hv ⟨G, 0, none⟩ 1 1 (cellsL [r]) hx rfl ?_ (oneL [r]) (by unfold maxLen; omega) (by omega) hbase ?_
  · intro j u hj
    match j, hj with
    | 0, hj => simp [cellsL] at hj; subst hj; simpa [Addr.add] using hu.1
    | 1, hj => simp [cellsL] at hj; subst hj; simpa [Addr.add] using hu.2.1
    | 2, hj => simp [cellsL] at hj; subst hj; simpa [Addr.add] using hu.2.2
    | j + 3, hj => simp [cellsL] at hj
  intro v' w' h1 h2 _
  refine h v' w' ?_ h2
  unfold Lt
  rw [List.length_append, cellsL_app]
  exact h1
/-- The same, in a region that draws its order. -/
theorem step_line {P : Program} {T S : TypeId} (hP : LineT P T S) {w : World} {ops : Array Oper} {o : Oper} {a : Act} {K : Act → World → Prop} {Q : Exit → Act → World → Prop} {E : Prop} (hgd : o.guard = none) (s x : Operand)
    (ho : o.op = .call { callee := .builtin .append, args := #[s, x], argTypes := #[S, S] })
    (base G : Nat) (v : Value) (l : List Tr) (r : Tr) (hs : a.eval s = v) (hx : a.eval x = .slice (some ⟨G, 0, none⟩) 1 1) (hv : Lt T w base v l) (hu : w.cell? ⟨G, 0, none⟩ = some (.int .i64 r.a) ∧ w.cell? ⟨G, 1, none⟩ = some (.int .i64 r.b) ∧ w.cell? ⟨G, 2, none⟩ = some (.int .i64 r.c)) (hn : l.length ≤ 1000000) (hbase : base ≤ w.heap.size)
    (h : ∀ v' w', Lt T w' base v' (l ++ [r]) → w.grownBy w' v.ownBlock → K (a.put o.dst v') w') : if Region.wanted o (yielded ops a.tmps) = true then Oper.wp P o a w K Q else E := by
  have hw : Region.wanted o (yielded ops a.tmps) = true := by simp [Region.wanted, hgd]
  rw [if_pos hw]
  obtain ⟨i0, hi, hz0, hz1, hz2⟩ := info_parts hP.info
  obtain ⟨v', w', hr, h2, h3, _⟩ := run_append_own (P := P) w base S o.type T i0 (.agg #[.int .i64 0, .int .i64 0, .int .i64 0]) 3 24 hP.under hi hz0 hz1 hz2 rfl (by decide) v l.length (cellsL l) hv ⟨G, 0, none⟩ 1 1 (cellsL [r]) rfl (by
    intro j u hj
    match j, hj with
    | 0, hj => simp [cellsL] at hj; subst hj; simpa [Addr.add] using hu.1
    | 1, hj => simp [cellsL] at hj; subst hj; simpa [Addr.add] using hu.2.1
    | 2, hj => simp [cellsL] at hj; subst hj; simpa [Addr.add] using hu.2.2
    | j + 3, hj => simp [cellsL] at hj) (oneL [r]) (by unfold maxLen; omega) (by omega) hbase
  unfold Oper.wp execOp
  simp only [ho, resolve, invoke, builtin, Sem.run_bind, Sem.run_pure, Result.andThen_ok, List.map_toArray, List.map_cons, List.map_nil, hs, hx, hr]
  refine h v' w' ?_ h3
  unfold Lt
  rw [List.length_append, cellsL_app]
  exact h2

end Go.Proofs.YtlicdeppfhmfjabDoor.tar

/- What the four of the tariffs give back. -/
namespace Go.Proofs.YtlicdeppfhmfjabDoor.tar
open Go.RowKit

def ErrPost (w : World) (R : Int → Prop) (e : Ending) (w' : World) : Prop := ∃ f, e = .returned (.int .i64 f) ∧ R f ∧ Below w.heap.size w w'
def ValPost (w : World) (z : Int) (e : Ending) (w' : World) : Prop := e = .returned (.int .i64 z) ∧ Below w.heap.size w w'
def TwoPost (w : World) (R : Int → Int → Prop) (e : Ending) (w' : World) : Prop := ∃ p f, e = .returned (.tuple #[.int .i64 p, .int .i64 f]) ∧ R p f ∧ Below w.heap.size w w'
def BillPost (T : TypeId) (w : World) (ls : List Du) (x n : Int) (e : Ending) (w' : World) : Prop := ∃ v z f, e = .returned (.tuple #[v, .int .i64 f]) ∧ BillIs ls x n z f ∧ Lt T w' w.heap.size v z ∧ Below w.heap.size w w'
def ThreePost (w : World) (R : Int → Int → Int → Prop) (e : Ending) (w' : World) : Prop := ∃ u p f, e = .returned (.tuple #[.int .i64 u, .int .i64 p, .int .i64 f]) ∧ R u p f ∧ Below w.heap.size w w'
/-- A slice of pairs that came in. -/
structure Came (w : World) (a : Option Addr) (len cap : Nat) (ls : List Du) : Prop where
  row : RowD w a len ls
  nil : a = none → cap = 0
  room : len ≤ cap
  bytes : len * 16 ≤ 140737488351232
  wf : ∀ x ∈ ls, (Lit.int .i64 x.a).wf = true ∧ (Lit.int .i64 x.b).wf = true
theorem Came.below {w w' : World} {a : Option Addr} {len cap : Nat} {ls : List Du} (h : Came w a len cap ls) (hb : Below w.heap.size w w') : Came w' a len cap ls := ⟨h.row.below hb, h.nil, h.room, h.bytes, h.wf⟩
theorem Came.most {w : World} {a : Option Addr} {len cap : Nat} {ls : List Du} (h : Came w a len cap ls) : len ≤ maxLen := by have := h.bytes; unfold maxLen; omega
theorem Ld.came {T : TypeId} {w : World} {base : Nat} {v : Value} {l : List Du} (h : Ld T w base v l) (hl : l.length * 16 ≤ 140737488351232) (hw : ∀ x ∈ l, (Lit.int .i64 x.a).wf = true ∧ (Lit.int .i64 x.b).wf = true) : ∃ a cap, v = .slice a l.length cap ∧ Came w a l.length cap l := by
  obtain ⟨a, cap, hv, hr, hn, hc, _⟩ := h.row
  exact ⟨a, cap, hv, hr, hn, hc, hl, hw⟩
/-- Pairs were given back that nobody else holds. -/
def GaveD (T : TypeId) (w : World) (zs : List Du) (e : Ending) (w' : World) : Prop := ∃ v, e = .returned v ∧ Ld T w' w.heap.size v zs ∧ Below w.heap.size w w'
theorem GaveD.mk {T : TypeId} {w w' : World} {zs : List Du} {v : Value} (h1 : Ld T w' w.heap.size v zs) (h2 : Below w.heap.size w w') : GaveD T w zs (.returned v) w' := ⟨v, rfl, h1, h2⟩

end Go.Proofs.YtlicdeppfhmfjabDoor.tar

/- Tariffs that are right, and what they answer. -/
namespace Go.Proofs.YtlicdeppfhmfjabDoor.tar
open Go.RowKit
set_option maxRecDepth 100000
set_option linter.unusedVariables false
set_option linter.unusedSimpArgs false

theorem wf_mid {z : Int} (h0 : 0 ≤ z) (h1 : z ≤ 4000000000000) : (Lit.int .i64 z).wf = true := by
  have h1 : IntKind.i64.min ≤ z := by have e : IntKind.i64.min = -9223372036854775808 := by decide
                                      omega
  have h2 : z ≤ IntKind.i64.max := by have e : IntKind.i64.max = 9223372036854775807 := by decide
                                      omega
  show (decide (IntKind.i64.min ≤ z) && decide (z ≤ IntKind.i64.max)) = true
  rw [Bool.and_eq_true]
  exact ⟨decide_eq_true h1, decide_eq_true h2⟩
theorem Right.wf {l : List Du} (h : Right l) : ∀ x ∈ l, (Lit.int .i64 x.a).wf = true ∧ (Lit.int .i64 x.b).wf = true := by
  intro x hx
  obtain ⟨i, hi, rfl⟩ := List.getElem_of_mem hx
  have e : l.getD i du0 = l[i] := by simp [List.getD, List.getElem?_eq_getElem hi]
  have h1 := h.upto i hi
  have h2 := h.price i hi
  rw [e] at h1 h2
  exact ⟨wf_mid (by omega) (by omega), wf_mid (by omega) (by omega)⟩
theorem Ld.right {T : TypeId} {w : World} {base : Nat} {v : Value} {l : List Du} (h : Ld T w base v l) (hR : Right l) : ∃ a cap, v = .slice a l.length cap ∧ Came w a l.length cap l := h.came (by have := hR.1.2; omega) hR.wf
theorem PriceIs.got {l : List Du} {x n p e : Int} (h : PriceIs l x n p e) (hR : Right l) (hM : Mays x n) : p = cost l x (x + n) ∧ e = 0 := by
  have h0 : e = 0 := h.1.ok.2 ⟨hR, hM⟩
  rcases h.2 with ⟨_, hp⟩ | ⟨hn, _⟩
  · exact ⟨hp, h0⟩
  · exact absurd h0 hn
theorem BillIs.got {l : List Du} {x n e : Int} {z : List Tr} (h : BillIs l x n z e) (hR : Right l) (hM : Mays x n) : z = billK l x (x + n) l.length ∧ e = 0 := by
  have h0 : e = 0 := h.1.ok.2 ⟨hR, hM⟩
  rcases h.2 with ⟨_, hp⟩ | ⟨hn, _⟩
  · exact ⟨hp, h0⟩
  · exact absurd h0 hn
theorem MostIs.got {l : List Du} {x m u p e : Int} (h : MostIs l x m u p e) (hR : Right l) (hM : MayMost x m) : e = 0 ∧ MostOf l x m u ∧ p = cost l x (x + u) := by
  rcases h with ⟨a, _⟩ | ⟨_, b, _⟩ | ⟨_, _, c, d⟩
  · exact absurd hR a
  · exact absurd hM b
  · exact ⟨c, d⟩

end Go.Proofs.YtlicdeppfhmfjabDoor.tar

/- Right receipts, and such as are turned. -/
namespace Go.Proofs.YtlicdeppfhmfjabDoor.rcp
open Go.RowKit
set_option maxRecDepth 100000
set_option linter.unusedVariables false
set_option linter.unusedSimpArgs false

theorem right_w {r : Rc} (h : Right r) : wf8 r := by
  obtain ⟨⟨m0, m1⟩, ⟨⟨⟨t0, t1⟩, ⟨d0, d1⟩, ⟨f0, f1⟩, p0, p1⟩, ⟨c0, c1⟩, ⟨i0, i1⟩, u0, u1⟩, _⟩ := h
  exact ⟨⟨tar.wf_mid m0 (by omega), tar.wf_mid (by omega) (by omega), tar.wf_mid t0 (by omega), tar.wf_mid d0 (by omega)⟩, tar.wf_mid f0 (by omega), tar.wf_mid p0 (by omega), tar.wf_mid c0 (by omega), tar.wf_mid u0 (by omega)⟩
theorem line_len (n v : List UInt8) : (line n v).length = n.length + v.length + 2 := by unfold line; simp; omega
theorem show_len {n : Int} (h0 : 0 ≤ n) (h1 : n ≤ 100000000) : (cents.showT n).length ≤ 22 := by
  unfold cents.showT
  rw [if_neg (by omega)]
  unfold cents.showP
  have a := (dec_len7 (n / 100).toNat (by omega)).2
  have b := (dec_len7 (n / 10 % 10).toNat (by omega)).2
  have c := (dec_len7 (n % 10).toNat (by omega)).2
  simp only [List.length_append, List.length_cons, List.length_nil]
  omega
theorem paper_len {r : Rc} (h : Right r) : ¬ 400 < (paper r).length := by
  obtain ⟨⟨m0, m1⟩, ⟨⟨⟨t0, t1⟩, ⟨d0, d1⟩, ⟨f0, f1⟩, p0, p1⟩, ⟨c0, c1⟩, ⟨i0, i1⟩, u0, u1⟩, _, hp, _⟩ := h
  have a := (num_all r.me.toNat (by omega)).1
  have b := (dec_len7 r.id.toNat (by omega)).2
  have c := (dec_len7 r.un.toNat (by omega)).2
  have d := show_len t0 t1
  have e := show_len d0 d1
  have f := show_len f0 f1
  have g := show_len p0 p1
  have i := show_len c0 c1
  have j := four_len (parse_len hp).1
  unfold paper
  simp only [List.length_append, line_len, nMETER, nNUMBER, nTENDER, nDEBT, nFEE, nPRICE, nCHANGE, nUNITS, nTOKEN, List.length_cons, List.length_nil]
  omega
theorem back_one {r s : Rc} {f : Int} (h : Right r) (hr : ReadIs (paper r) s f) : s = r ∧ f = 0 := hr.one (.inr (.inr ⟨paper_len h, h, rfl, rfl⟩))
theorem show_one {r : Rc} {l : List UInt8} {f : Int} (h : Right r) (hs : ShowIs r l f) : l = paper r ∧ f = 0 := by
  have e0 : f = 0 := hs.1.ok.2 h
  subst e0
  rcases hs.2 with ⟨_, rfl⟩ | ⟨h, _⟩
  · exact ⟨rfl, rfl⟩
  · exact absurd rfl h
/-- The receipt, with other amounts. -/
def turn (r : Rc) (t d f p c : Int) : Rc := ⟨r.me, r.id, t, d, f, p, c, r.un, r.tk⟩
theorem turn_w {r : Rc} (h : Right r) {t d f p c : Int} (ht : Ten t) (hd : Ten d) (hf : Ten f) (hp : Ten p) (hc : Ten c) : wf8 (turn r t d f p c) := by
  obtain ⟨⟨m0, m1⟩, ⟨_, _, ⟨i0, i1⟩, u0, u1⟩, _⟩ := h
  have := ht.2; have := hd.2; have := hf.2; have := hp.2; have := hc.2
  exact ⟨⟨tar.wf_mid m0 (by show r.me ≤ _; omega), tar.wf_mid (by show 0 ≤ r.id; omega) (by show r.id ≤ _; omega), tar.wf_mid ht.1 (by show t ≤ _; omega), tar.wf_mid hd.1 (by show d ≤ _; omega)⟩, tar.wf_mid hf.1 (by show f ≤ _; omega), tar.wf_mid hp.1 (by show p ≤ _; omega), tar.wf_mid hc.1 (by show c ≤ _; omega), tar.wf_mid u0 (by show r.un ≤ _; omega)⟩
theorem turn_bad {r : Rc} (h : Right r) {t d f p c : Int} (ht : Ten t) (hd : Ten d) (hf : Ten f) (hp : Ten p) (hc : Ten c) (hs : t - d - f - p - c ≠ 0) {e : Int} (he : FaultIs (turn r t d f p c) e) : e = 19 :=
  he.one (.inr (.inr (.inl ⟨h.1, ⟨⟨ht, hd, hf, hp⟩, hc, h.2.1.2.2⟩, hs, rfl⟩)))
theorem turn_show {r : Rc} (h : Right r) {t d f p c : Int} (ht : Ten t) (hd : Ten d) (hf : Ten f) (hp : Ten p) (hc : Ten c) (hs : t - d - f - p - c ≠ 0) {l : List UInt8} {e : Int} (he : ShowIs (turn r t d f p c) l e) : l = [] ∧ e = 19 := by
  have e0 := turn_bad h ht hd hf hp hc hs he.1
  rcases he.2 with ⟨a, _⟩ | ⟨_, b⟩
  · exact absurd (e0.symm.trans a) (by decide)
  · exact ⟨b, e0⟩

end Go.Proofs.YtlicdeppfhmfjabDoor.rcp

/- The statement ReceiptForged. -/
namespace Go.Proofs.YtlicdeppfhmfjabDoor.rcp
open Go.RowKit
set_option maxRecDepth 100000
set_option linter.unusedVariables false
set_option linter.unusedSimpArgs false

set_option maxHeartbeats 8000000 in
theorem ReceiptForged_walk (xm x1 x2 x3 x4 xd xf xp xc wh by_ : Int) (w : World) (hw : wf9 xm x1 x2 x3 x4 xd xf xp xc) (hwh : (Lit.int .i64 wh).wf = true) (hby : (Lit.int .i64 by_).wf = true) (KF : ∀ (k : token.Tok) W, Below w.heap.size w W → k.ok → Calls Tryd.prog 14 #[k.v] W fun e w' => e = .returned (.tuple #[.string (token.fmtB (97 * k.num)), .int .i64 0]) ∧ Below W.heap.size W w') (KC : KrCheck w) (KS : KrShow w) :
    Calls Tryd.prog 3 #[.agg #[.int .i64 xm, .int .i64 x1, .int .i64 x2, .int .i64 x3, .int .i64 x4, .int .i64 xd, .int .i64 xf, .int .i64 xp, .int .i64 xc], .int .i64 wh, .int .i64 by_] w fun e w' => e = .returned (.bool true) ∧ Below w.heap.size w w' := by
  have HSL : Hid (∀ W, Below w.heap.size w W → Calls Tryd.prog 5 #[.agg #[.int .i64 xm, .int .i64 x1, .int .i64 x2, .int .i64 x3, .int .i64 x4, .int .i64 xd, .int .i64 xf, .int .i64 xp, .int .i64 xc]] W fun e w' => ∃ r, e = .returned (.tuple #[Rc.v r, .bool true]) ∧ Good r ∧ Below W.heap.size W w') := fun W hW => slip_any xm x1 x2 x3 x4 xd xf xp xc W hw (fun k V hV hk => KF k V (hW.trans (hV.mono hW.size)) hk)
  have HX0 : Hid (Blk (w.alloc (.cells #[.int .i64 xm, .int .i64 x1, .int .i64 x2, .int .i64 x3, .int .i64 x4, .int .i64 xd, .int .i64 xf, .int .i64 xp, .int .i64 xc] 25)) w.heap.size #[.int .i64 xm, .int .i64 x1, .int .i64 x2, .int .i64 x3, .int .i64 x4, .int .i64 xd, .int .i64 xf, .int .i64 xp, .int .i64 xc] 25) := Blk.new w _ _
  have HB0 : Hid (Below w.heap.size w (w.alloc (.cells #[.int .i64 xm, .int .i64 x1, .int .i64 x2, .int .i64 x3, .int .i64 x4, .int .i64 xd, .int .i64 xf, .int .i64 xp, .int .i64 xc] 25))) := (Below.refl _ _).alloc (Nat.le_refl _) _
  have HPzb : Hid (∀ W, Calls Tryd.prog 6 #[.int .i64 by_, .int .i64 1000] W fun e w' => e = .returned (.int .i64 (check.pick by_ 1000)) ∧ w' = W) := fun W => check.picked_any by_ 1000 W hby (by decide) (by decide)
  have zb0 := check.pick_nonneg by_ 1000 (by decide)
  have zb1 := check.pick_lt by_ 1000 (by decide)
  generalize check.pick by_ 1000 = zb at *
  have HPzk : Hid (∀ W, Calls Tryd.prog 6 #[.int .i64 wh, .int .i64 5] W fun e w' => e = .returned (.int .i64 (check.pick wh 5)) ∧ w' = W) := fun W => check.picked_any wh 5 W hwh (by decide) (by decide)
  have zk0 := check.pick_nonneg wh 5 (by decide)
  have zk1 := check.pick_lt wh 5 (by decide)
  generalize check.pick wh 5 = zk at *
  clear hby hwh
  clear KF hw
  generalize hWW : (w.alloc (.cells #[.int .i64 xm, .int .i64 x1, .int .i64 x2, .int .i64 x3, .int .i64 x4, .int .i64 xd, .int .i64 xf, .int .i64 xp, .int .i64 xc] 25)) = W0 at *
  have HWW : Hid ((w.alloc (.cells #[.int .i64 xm, .int .i64 x1, .int .i64 x2, .int .i64 x3, .int .i64 x4, .int .i64 xd, .int .i64 xf, .int .i64 xp, .int .i64 xc] 25)) = W0) := hWW
  clear hWW
  go_enter Tryd.func3, Tryd.ntmps3
  go_upto_region 1 with fail
  rw [HWW.out]
  clear HWW
  go_wp2_with (first | (refine wp_whole rfl 25 _ rfl (w.heap.size) rfl 25 #[.int .i64 xm, .int .i64 x1, .int .i64 x2, .int .i64 x3, .int .i64 x4, .int .i64 xd, .int .i64 xf, .int .i64 xp, .int .i64 xc] _ HX0.out Tryd.underlying25 rfl (by kernel_rfl) ?_) | fail)
  refine (HSL.out _ HB0.out).mono ?_
  rintro e w1 ⟨r, rfl, hg, hb1⟩
  unfold Rc.v Rc.cs
  have HBA : Hid (∀ o, Below w.heap.size w (w1.alloc o)) := fun o => (HB0.out.trans (hb1.mono HB0.out.size)).alloc (Nat.le_trans HB0.out.size hb1.size) o
  clear HX0 HSL
  have HC : Hid (∀ t d f p c : Int, Ten t → Ten d → Ten f → Ten p → Ten c → t - d - f - p - c ≠ 0 → ∀ W, Below w.heap.size w W → Calls Tryd.prog 7 #[.agg #[.int .i64 r.me, .int .i64 r.id, .int .i64 t, .int .i64 d, .int .i64 f, .int .i64 p, .int .i64 c, .int .i64 r.un, .string ⟨r.tk.toArray⟩]] W fun e w' => e = .returned (.int .i64 19) ∧ Below W.heap.size W w') := fun t d f p c a1 a2 a3 a4 a5 a6 W hW => (KC W (turn r t d f p c) hW (turn_w hg.right a1 a2 a3 a4 a5)).mono (by rintro e w9 ⟨f, rfl, h, hb⟩; obtain rfl := turn_bad hg.right a1 a2 a3 a4 a5 a6 h; exact ⟨rfl, hb⟩)
  have HSH : Hid (∀ t d f p c : Int, Ten t → Ten d → Ten f → Ten p → Ten c → t - d - f - p - c ≠ 0 → ∀ W, Below w.heap.size w W → Calls Tryd.prog 8 #[.agg #[.int .i64 r.me, .int .i64 r.id, .int .i64 t, .int .i64 d, .int .i64 f, .int .i64 p, .int .i64 c, .int .i64 r.un, .string ⟨r.tk.toArray⟩]] W fun e w' => e = .returned (.tuple #[.string ⟨#[]⟩, .int .i64 19]) ∧ Below W.heap.size W w') := fun t d f p c a1 a2 a3 a4 a5 a6 W hW => (KS W (turn r t d f p c) hW (turn_w hg.right a1 a2 a3 a4 a5)).mono (by rintro e w9 ⟨l, f, rfl, h, hb⟩; obtain ⟨rfl, rfl⟩ := turn_show hg.right a1 a2 a3 a4 a5 a6 h; exact ⟨rfl, hb⟩)
  generalize (⟨r.tk.toArray⟩ : ByteArray) = S at *
  obtain ⟨hri, ht8, hd8, hf8, hp8, hc8⟩ := hg
  obtain ⟨_, ⟨⟨⟨ht0, _⟩, ⟨hd0, _⟩, ⟨hf0, _⟩, hp0, _⟩, ⟨hc0, _⟩, _, _⟩, hsum, _, _⟩ := hri
  unfold RSum at hsum
  have HX1 : Hid (Blk (w1.alloc (.cells #[.int .i64 r.me, .int .i64 r.id, .int .i64 r.te, .int .i64 r.de, .int .i64 r.fe, .int .i64 r.pr, .int .i64 r.ch, .int .i64 r.un, .string S] 29)) w1.heap.size #[.int .i64 r.me, .int .i64 r.id, .int .i64 r.te, .int .i64 r.de, .int .i64 r.fe, .int .i64 r.pr, .int .i64 r.ch, .int .i64 r.un, .string S] 29) := Blk.new w1 _ _
  have HB1 : Hid (Below w.heap.size w (w1.alloc (.cells #[.int .i64 r.me, .int .i64 r.id, .int .i64 r.te, .int .i64 r.de, .int .i64 r.fe, .int .i64 r.pr, .int .i64 r.ch, .int .i64 r.un, .string S] 29))) := HBA.out _
  have HGA : Hid (w.heap.size ≤ w1.heap.size) := Nat.le_trans HB0.out.size hb1.size
  clear HBA KC KS
  go_upto_region 2 with fail
  generalize (w1.alloc (.cells #[.int .i64 r.me, .int .i64 r.id, .int .i64 r.te, .int .i64 r.de, .int .i64 r.fe, .int .i64 r.pr, .int .i64 r.ch, .int .i64 r.un, .string S] 29)) = W1 at *
  clear hb1 HB0
  generalize w1.heap.size = ga at *
  go_wp2_with fail
  refine (HPzb.out _).mono ?_
  rintro e wz ⟨rfl, hwz⟩
  subst wz
  go_wp2_with fail
  refine (HPzk.out _).mono ?_
  rintro e wz ⟨rfl, hwz⟩
  subst wz
  clear HPzb HPzk
  have HSU : Hid (r.te - r.de - r.fe - r.pr - r.ch = 0) := hsum
  clear hsum
  have hall : zk = 0 ∨ zk = 1 ∨ zk = 2 ∨ zk = 3 ∨ zk = 4 := by omega
  clear zk0 zk1
  rcases hall with hk | hk | hk | hk | hk
  · have n0 : (zk == 0) = true := by rw [hk]; rfl
    clear hk
    have HCL : Hid (∀ W, Below w.heap.size w W → Calls Tryd.prog 7 #[.agg #[.int .i64 r.me, .int .i64 r.id, .int .i64 r.te, .int .i64 (r.de + (1 + zb)), .int .i64 r.fe, .int .i64 r.pr, .int .i64 r.ch, .int .i64 r.un, .string S]] W fun e w' => e = .returned (.int .i64 19) ∧ Below W.heap.size W w') := HC.out _ _ _ _ _ ⟨by omega, by omega⟩ ⟨by omega, by omega⟩ ⟨by omega, by omega⟩ ⟨by omega, by omega⟩ ⟨by omega, by omega⟩ (by have := HSU.out; omega)
    have HSL : Hid (∀ W, Below w.heap.size w W → Calls Tryd.prog 8 #[.agg #[.int .i64 r.me, .int .i64 r.id, .int .i64 r.te, .int .i64 (r.de + (1 + zb)), .int .i64 r.fe, .int .i64 r.pr, .int .i64 r.ch, .int .i64 r.un, .string S]] W fun e w' => e = .returned (.tuple #[.string ⟨#[]⟩, .int .i64 19]) ∧ Below W.heap.size W w') := HSH.out _ _ _ _ _ ⟨by omega, by omega⟩ ⟨by omega, by omega⟩ ⟨by omega, by omega⟩ ⟨by omega, by omega⟩ ⟨by omega, by omega⟩ (by have := HSU.out; omega)
    have c0 : W1.cell? ⟨ga, 3, none⟩ = some (.int .i64 r.de) := HX1.out.cell 3
    clear HC HSH HSU
    go_wp2_with (first | (refine wp_let1 rfl 3 _ _ rfl (ga) 3 rfl .i64 (r.de + (1 + zb)) rfl (by kernel_rfl) #[.int .i64 r.me, .int .i64 r.id, .int .i64 r.te, .int .i64 r.de, .int .i64 r.fe, .int .i64 r.pr, .int .i64 r.ch, .int .i64 r.un, .string S] 29 HX1.out (by simp) ?_) | fail)
    intro W2 hU
    have HX2 : Hid (Blk W2 ga #[.int .i64 r.me, .int .i64 r.id, .int .i64 r.te, .int .i64 (r.de + (1 + zb)), .int .i64 r.fe, .int .i64 r.pr, .int .i64 r.ch, .int .i64 r.un, .string S] 29) := hU.blk
    have HB2 : Hid (Below w.heap.size w W2) := hU.bel _ _ HGA.out HB1.out
    clear hU HX1 HB1 c0
    go_wp2_with (first | (refine wp_whole rfl 29 _ rfl (ga) rfl 29 #[.int .i64 r.me, .int .i64 r.id, .int .i64 r.te, .int .i64 (r.de + (1 + zb)), .int .i64 r.fe, .int .i64 r.pr, .int .i64 r.ch, .int .i64 r.un, .string S] _ HX2.out Tryd.underlying29 rfl (by kernel_rfl) ?_) | fail)
    refine (HCL.out _ HB2.out).mono ?_
    rintro e w3 ⟨rfl, hb3⟩
    have HX3 : Hid (Blk w3 ga #[.int .i64 r.me, .int .i64 r.id, .int .i64 r.te, .int .i64 (r.de + (1 + zb)), .int .i64 r.fe, .int .i64 r.pr, .int .i64 r.ch, .int .i64 r.un, .string S] 29) := HX2.out.next hb3
    have HB3 : Hid (Below w.heap.size w w3) := HB2.out.trans (hb3.mono HB2.out.size)
    clear hb3 HX2 HB2 HCL
    go_wp2_with (first | (refine wp_whole rfl 29 _ rfl (ga) rfl 29 #[.int .i64 r.me, .int .i64 r.id, .int .i64 r.te, .int .i64 (r.de + (1 + zb)), .int .i64 r.fe, .int .i64 r.pr, .int .i64 r.ch, .int .i64 r.un, .string S] _ HX3.out Tryd.underlying29 rfl (by kernel_rfl) ?_) | fail)
    refine (HSL.out _ HB3.out).mono ?_
    rintro e w4 ⟨rfl, hb4⟩
    have HB4 : Hid (Below w.heap.size w w4) := HB3.out.trans (hb4.mono HB3.out.size)
    clear hb4 HX3 HB3 HSL
    have es : ((⟨#[]⟩ : ByteArray).toList == (⟨#[]⟩ : ByteArray).toList) = true := by simp
    go_wp2_with fail
    go_ret
    exact ⟨rfl, HB4.out⟩
  · have n0 : (zk == 0) = false := by rw [hk]; rfl
    have n1 : (zk == 1) = true := by rw [hk]; rfl
    clear hk
    have HCL : Hid (∀ W, Below w.heap.size w W → Calls Tryd.prog 7 #[.agg #[.int .i64 r.me, .int .i64 r.id, .int .i64 r.te, .int .i64 r.de, .int .i64 (r.fe + (1 + zb)), .int .i64 r.pr, .int .i64 r.ch, .int .i64 r.un, .string S]] W fun e w' => e = .returned (.int .i64 19) ∧ Below W.heap.size W w') := HC.out _ _ _ _ _ ⟨by omega, by omega⟩ ⟨by omega, by omega⟩ ⟨by omega, by omega⟩ ⟨by omega, by omega⟩ ⟨by omega, by omega⟩ (by have := HSU.out; omega)
    have HSL : Hid (∀ W, Below w.heap.size w W → Calls Tryd.prog 8 #[.agg #[.int .i64 r.me, .int .i64 r.id, .int .i64 r.te, .int .i64 r.de, .int .i64 (r.fe + (1 + zb)), .int .i64 r.pr, .int .i64 r.ch, .int .i64 r.un, .string S]] W fun e w' => e = .returned (.tuple #[.string ⟨#[]⟩, .int .i64 19]) ∧ Below W.heap.size W w') := HSH.out _ _ _ _ _ ⟨by omega, by omega⟩ ⟨by omega, by omega⟩ ⟨by omega, by omega⟩ ⟨by omega, by omega⟩ ⟨by omega, by omega⟩ (by have := HSU.out; omega)
    have c0 : W1.cell? ⟨ga, 4, none⟩ = some (.int .i64 r.fe) := HX1.out.cell 4
    clear HC HSH HSU
    go_wp2_with (first | (refine wp_let1 rfl 3 _ _ rfl (ga) 4 rfl .i64 (r.fe + (1 + zb)) rfl (by kernel_rfl) #[.int .i64 r.me, .int .i64 r.id, .int .i64 r.te, .int .i64 r.de, .int .i64 r.fe, .int .i64 r.pr, .int .i64 r.ch, .int .i64 r.un, .string S] 29 HX1.out (by simp) ?_) | fail)
    intro W2 hU
    have HX2 : Hid (Blk W2 ga #[.int .i64 r.me, .int .i64 r.id, .int .i64 r.te, .int .i64 r.de, .int .i64 (r.fe + (1 + zb)), .int .i64 r.pr, .int .i64 r.ch, .int .i64 r.un, .string S] 29) := hU.blk
    have HB2 : Hid (Below w.heap.size w W2) := hU.bel _ _ HGA.out HB1.out
    clear hU HX1 HB1 c0
    go_wp2_with (first | (refine wp_whole rfl 29 _ rfl (ga) rfl 29 #[.int .i64 r.me, .int .i64 r.id, .int .i64 r.te, .int .i64 r.de, .int .i64 (r.fe + (1 + zb)), .int .i64 r.pr, .int .i64 r.ch, .int .i64 r.un, .string S] _ HX2.out Tryd.underlying29 rfl (by kernel_rfl) ?_) | fail)
    refine (HCL.out _ HB2.out).mono ?_
    rintro e w3 ⟨rfl, hb3⟩
    have HX3 : Hid (Blk w3 ga #[.int .i64 r.me, .int .i64 r.id, .int .i64 r.te, .int .i64 r.de, .int .i64 (r.fe + (1 + zb)), .int .i64 r.pr, .int .i64 r.ch, .int .i64 r.un, .string S] 29) := HX2.out.next hb3
    have HB3 : Hid (Below w.heap.size w w3) := HB2.out.trans (hb3.mono HB2.out.size)
    clear hb3 HX2 HB2 HCL
    go_wp2_with (first | (refine wp_whole rfl 29 _ rfl (ga) rfl 29 #[.int .i64 r.me, .int .i64 r.id, .int .i64 r.te, .int .i64 r.de, .int .i64 (r.fe + (1 + zb)), .int .i64 r.pr, .int .i64 r.ch, .int .i64 r.un, .string S] _ HX3.out Tryd.underlying29 rfl (by kernel_rfl) ?_) | fail)
    refine (HSL.out _ HB3.out).mono ?_
    rintro e w4 ⟨rfl, hb4⟩
    have HB4 : Hid (Below w.heap.size w w4) := HB3.out.trans (hb4.mono HB3.out.size)
    clear hb4 HX3 HB3 HSL
    have es : ((⟨#[]⟩ : ByteArray).toList == (⟨#[]⟩ : ByteArray).toList) = true := by simp
    go_wp2_with fail
    go_ret
    exact ⟨rfl, HB4.out⟩
  · have n0 : (zk == 0) = false := by rw [hk]; rfl
    have n1 : (zk == 1) = false := by rw [hk]; rfl
    have n2 : (zk == 2) = true := by rw [hk]; rfl
    clear hk
    have HCL : Hid (∀ W, Below w.heap.size w W → Calls Tryd.prog 7 #[.agg #[.int .i64 r.me, .int .i64 r.id, .int .i64 r.te, .int .i64 r.de, .int .i64 r.fe, .int .i64 (r.pr + (1 + zb)), .int .i64 r.ch, .int .i64 r.un, .string S]] W fun e w' => e = .returned (.int .i64 19) ∧ Below W.heap.size W w') := HC.out _ _ _ _ _ ⟨by omega, by omega⟩ ⟨by omega, by omega⟩ ⟨by omega, by omega⟩ ⟨by omega, by omega⟩ ⟨by omega, by omega⟩ (by have := HSU.out; omega)
    have HSL : Hid (∀ W, Below w.heap.size w W → Calls Tryd.prog 8 #[.agg #[.int .i64 r.me, .int .i64 r.id, .int .i64 r.te, .int .i64 r.de, .int .i64 r.fe, .int .i64 (r.pr + (1 + zb)), .int .i64 r.ch, .int .i64 r.un, .string S]] W fun e w' => e = .returned (.tuple #[.string ⟨#[]⟩, .int .i64 19]) ∧ Below W.heap.size W w') := HSH.out _ _ _ _ _ ⟨by omega, by omega⟩ ⟨by omega, by omega⟩ ⟨by omega, by omega⟩ ⟨by omega, by omega⟩ ⟨by omega, by omega⟩ (by have := HSU.out; omega)
    have c0 : W1.cell? ⟨ga, 5, none⟩ = some (.int .i64 r.pr) := HX1.out.cell 5
    clear HC HSH HSU
    go_wp2_with (first | (refine wp_let1 rfl 3 _ _ rfl (ga) 5 rfl .i64 (r.pr + (1 + zb)) rfl (by kernel_rfl) #[.int .i64 r.me, .int .i64 r.id, .int .i64 r.te, .int .i64 r.de, .int .i64 r.fe, .int .i64 r.pr, .int .i64 r.ch, .int .i64 r.un, .string S] 29 HX1.out (by simp) ?_) | fail)
    intro W2 hU
    have HX2 : Hid (Blk W2 ga #[.int .i64 r.me, .int .i64 r.id, .int .i64 r.te, .int .i64 r.de, .int .i64 r.fe, .int .i64 (r.pr + (1 + zb)), .int .i64 r.ch, .int .i64 r.un, .string S] 29) := hU.blk
    have HB2 : Hid (Below w.heap.size w W2) := hU.bel _ _ HGA.out HB1.out
    clear hU HX1 HB1 c0
    go_wp2_with (first | (refine wp_whole rfl 29 _ rfl (ga) rfl 29 #[.int .i64 r.me, .int .i64 r.id, .int .i64 r.te, .int .i64 r.de, .int .i64 r.fe, .int .i64 (r.pr + (1 + zb)), .int .i64 r.ch, .int .i64 r.un, .string S] _ HX2.out Tryd.underlying29 rfl (by kernel_rfl) ?_) | fail)
    refine (HCL.out _ HB2.out).mono ?_
    rintro e w3 ⟨rfl, hb3⟩
    have HX3 : Hid (Blk w3 ga #[.int .i64 r.me, .int .i64 r.id, .int .i64 r.te, .int .i64 r.de, .int .i64 r.fe, .int .i64 (r.pr + (1 + zb)), .int .i64 r.ch, .int .i64 r.un, .string S] 29) := HX2.out.next hb3
    have HB3 : Hid (Below w.heap.size w w3) := HB2.out.trans (hb3.mono HB2.out.size)
    clear hb3 HX2 HB2 HCL
    go_wp2_with (first | (refine wp_whole rfl 29 _ rfl (ga) rfl 29 #[.int .i64 r.me, .int .i64 r.id, .int .i64 r.te, .int .i64 r.de, .int .i64 r.fe, .int .i64 (r.pr + (1 + zb)), .int .i64 r.ch, .int .i64 r.un, .string S] _ HX3.out Tryd.underlying29 rfl (by kernel_rfl) ?_) | fail)
    refine (HSL.out _ HB3.out).mono ?_
    rintro e w4 ⟨rfl, hb4⟩
    have HB4 : Hid (Below w.heap.size w w4) := HB3.out.trans (hb4.mono HB3.out.size)
    clear hb4 HX3 HB3 HSL
    have es : ((⟨#[]⟩ : ByteArray).toList == (⟨#[]⟩ : ByteArray).toList) = true := by simp
    go_wp2_with fail
    go_ret
    exact ⟨rfl, HB4.out⟩
  · have n0 : (zk == 0) = false := by rw [hk]; rfl
    have n1 : (zk == 1) = false := by rw [hk]; rfl
    have n2 : (zk == 2) = false := by rw [hk]; rfl
    have n3 : (zk == 3) = true := by rw [hk]; rfl
    clear hk
    have HCL : Hid (∀ W, Below w.heap.size w W → Calls Tryd.prog 7 #[.agg #[.int .i64 r.me, .int .i64 r.id, .int .i64 r.te, .int .i64 r.de, .int .i64 r.fe, .int .i64 r.pr, .int .i64 (r.ch + (1 + zb)), .int .i64 r.un, .string S]] W fun e w' => e = .returned (.int .i64 19) ∧ Below W.heap.size W w') := HC.out _ _ _ _ _ ⟨by omega, by omega⟩ ⟨by omega, by omega⟩ ⟨by omega, by omega⟩ ⟨by omega, by omega⟩ ⟨by omega, by omega⟩ (by have := HSU.out; omega)
    have HSL : Hid (∀ W, Below w.heap.size w W → Calls Tryd.prog 8 #[.agg #[.int .i64 r.me, .int .i64 r.id, .int .i64 r.te, .int .i64 r.de, .int .i64 r.fe, .int .i64 r.pr, .int .i64 (r.ch + (1 + zb)), .int .i64 r.un, .string S]] W fun e w' => e = .returned (.tuple #[.string ⟨#[]⟩, .int .i64 19]) ∧ Below W.heap.size W w') := HSH.out _ _ _ _ _ ⟨by omega, by omega⟩ ⟨by omega, by omega⟩ ⟨by omega, by omega⟩ ⟨by omega, by omega⟩ ⟨by omega, by omega⟩ (by have := HSU.out; omega)
    have c0 : W1.cell? ⟨ga, 6, none⟩ = some (.int .i64 r.ch) := HX1.out.cell 6
    clear HC HSH HSU
    go_wp2_with (first | (refine wp_let1 rfl 3 _ _ rfl (ga) 6 rfl .i64 (r.ch + (1 + zb)) rfl (by kernel_rfl) #[.int .i64 r.me, .int .i64 r.id, .int .i64 r.te, .int .i64 r.de, .int .i64 r.fe, .int .i64 r.pr, .int .i64 r.ch, .int .i64 r.un, .string S] 29 HX1.out (by simp) ?_) | fail)
    intro W2 hU
    have HX2 : Hid (Blk W2 ga #[.int .i64 r.me, .int .i64 r.id, .int .i64 r.te, .int .i64 r.de, .int .i64 r.fe, .int .i64 r.pr, .int .i64 (r.ch + (1 + zb)), .int .i64 r.un, .string S] 29) := hU.blk
    have HB2 : Hid (Below w.heap.size w W2) := hU.bel _ _ HGA.out HB1.out
    clear hU HX1 HB1 c0
    go_wp2_with (first | (refine wp_whole rfl 29 _ rfl (ga) rfl 29 #[.int .i64 r.me, .int .i64 r.id, .int .i64 r.te, .int .i64 r.de, .int .i64 r.fe, .int .i64 r.pr, .int .i64 (r.ch + (1 + zb)), .int .i64 r.un, .string S] _ HX2.out Tryd.underlying29 rfl (by kernel_rfl) ?_) | fail)
    refine (HCL.out _ HB2.out).mono ?_
    rintro e w3 ⟨rfl, hb3⟩
    have HX3 : Hid (Blk w3 ga #[.int .i64 r.me, .int .i64 r.id, .int .i64 r.te, .int .i64 r.de, .int .i64 r.fe, .int .i64 r.pr, .int .i64 (r.ch + (1 + zb)), .int .i64 r.un, .string S] 29) := HX2.out.next hb3
    have HB3 : Hid (Below w.heap.size w w3) := HB2.out.trans (hb3.mono HB2.out.size)
    clear hb3 HX2 HB2 HCL
    go_wp2_with (first | (refine wp_whole rfl 29 _ rfl (ga) rfl 29 #[.int .i64 r.me, .int .i64 r.id, .int .i64 r.te, .int .i64 r.de, .int .i64 r.fe, .int .i64 r.pr, .int .i64 (r.ch + (1 + zb)), .int .i64 r.un, .string S] _ HX3.out Tryd.underlying29 rfl (by kernel_rfl) ?_) | fail)
    refine (HSL.out _ HB3.out).mono ?_
    rintro e w4 ⟨rfl, hb4⟩
    have HB4 : Hid (Below w.heap.size w w4) := HB3.out.trans (hb4.mono HB3.out.size)
    clear hb4 HX3 HB3 HSL
    have es : ((⟨#[]⟩ : ByteArray).toList == (⟨#[]⟩ : ByteArray).toList) = true := by simp
    go_wp2_with fail
    go_ret
    exact ⟨rfl, HB4.out⟩
  · have n0 : (zk == 0) = false := by rw [hk]; rfl
    have n1 : (zk == 1) = false := by rw [hk]; rfl
    have n2 : (zk == 2) = false := by rw [hk]; rfl
    have n3 : (zk == 3) = false := by rw [hk]; rfl
    clear hk
    have HCL : Hid (∀ W, Below w.heap.size w W → Calls Tryd.prog 7 #[.agg #[.int .i64 r.me, .int .i64 r.id, .int .i64 (r.te + (1 + zb)), .int .i64 r.de, .int .i64 r.fe, .int .i64 r.pr, .int .i64 r.ch, .int .i64 r.un, .string S]] W fun e w' => e = .returned (.int .i64 19) ∧ Below W.heap.size W w') := HC.out _ _ _ _ _ ⟨by omega, by omega⟩ ⟨by omega, by omega⟩ ⟨by omega, by omega⟩ ⟨by omega, by omega⟩ ⟨by omega, by omega⟩ (by have := HSU.out; omega)
    have HSL : Hid (∀ W, Below w.heap.size w W → Calls Tryd.prog 8 #[.agg #[.int .i64 r.me, .int .i64 r.id, .int .i64 (r.te + (1 + zb)), .int .i64 r.de, .int .i64 r.fe, .int .i64 r.pr, .int .i64 r.ch, .int .i64 r.un, .string S]] W fun e w' => e = .returned (.tuple #[.string ⟨#[]⟩, .int .i64 19]) ∧ Below W.heap.size W w') := HSH.out _ _ _ _ _ ⟨by omega, by omega⟩ ⟨by omega, by omega⟩ ⟨by omega, by omega⟩ ⟨by omega, by omega⟩ ⟨by omega, by omega⟩ (by have := HSU.out; omega)
    have c0 : W1.cell? ⟨ga, 2, none⟩ = some (.int .i64 r.te) := HX1.out.cell 2
    clear HC HSH HSU
    go_wp2_with (first | (refine wp_let1 rfl 3 _ _ rfl (ga) 2 rfl .i64 (r.te + (1 + zb)) rfl (by kernel_rfl) #[.int .i64 r.me, .int .i64 r.id, .int .i64 r.te, .int .i64 r.de, .int .i64 r.fe, .int .i64 r.pr, .int .i64 r.ch, .int .i64 r.un, .string S] 29 HX1.out (by simp) ?_) | fail)
    intro W2 hU
    have HX2 : Hid (Blk W2 ga #[.int .i64 r.me, .int .i64 r.id, .int .i64 (r.te + (1 + zb)), .int .i64 r.de, .int .i64 r.fe, .int .i64 r.pr, .int .i64 r.ch, .int .i64 r.un, .string S] 29) := hU.blk
    have HB2 : Hid (Below w.heap.size w W2) := hU.bel _ _ HGA.out HB1.out
    clear hU HX1 HB1 c0
    go_wp2_with (first | (refine wp_whole rfl 29 _ rfl (ga) rfl 29 #[.int .i64 r.me, .int .i64 r.id, .int .i64 (r.te + (1 + zb)), .int .i64 r.de, .int .i64 r.fe, .int .i64 r.pr, .int .i64 r.ch, .int .i64 r.un, .string S] _ HX2.out Tryd.underlying29 rfl (by kernel_rfl) ?_) | fail)
    refine (HCL.out _ HB2.out).mono ?_
    rintro e w3 ⟨rfl, hb3⟩
    have HX3 : Hid (Blk w3 ga #[.int .i64 r.me, .int .i64 r.id, .int .i64 (r.te + (1 + zb)), .int .i64 r.de, .int .i64 r.fe, .int .i64 r.pr, .int .i64 r.ch, .int .i64 r.un, .string S] 29) := HX2.out.next hb3
    have HB3 : Hid (Below w.heap.size w w3) := HB2.out.trans (hb3.mono HB2.out.size)
    clear hb3 HX2 HB2 HCL
    go_wp2_with (first | (refine wp_whole rfl 29 _ rfl (ga) rfl 29 #[.int .i64 r.me, .int .i64 r.id, .int .i64 (r.te + (1 + zb)), .int .i64 r.de, .int .i64 r.fe, .int .i64 r.pr, .int .i64 r.ch, .int .i64 r.un, .string S] _ HX3.out Tryd.underlying29 rfl (by kernel_rfl) ?_) | fail)
    refine (HSL.out _ HB3.out).mono ?_
    rintro e w4 ⟨rfl, hb4⟩
    have HB4 : Hid (Below w.heap.size w w4) := HB3.out.trans (hb4.mono HB3.out.size)
    clear hb4 HX3 HB3 HSL
    have es : ((⟨#[]⟩ : ByteArray).toList == (⟨#[]⟩ : ByteArray).toList) = true := by simp
    go_wp2_with fail
    go_ret
    exact ⟨rfl, HB4.out⟩

end Go.Proofs.YtlicdeppfhmfjabDoor.rcp

/- Lie numbers within their bounds, in the program. -/
namespace Go.Proofs.YtlicdeppfhmfjabDoor.rci
open Go.RowKit

/-- The slice a, len, cap reads as the numbers zs: its elements alone. -/
def Row (w : World) (a : Option Addr) (len : Nat) (zs : List Int) : Prop :=
  zs.length = len ∧ (len = 0 ∨ ∃ b off, a = some ⟨b, off, none⟩ ∧ ∀ i, i < len → w.cell? ⟨b, off + i, none⟩ = some (.int .i64 (zs.getD i 0)))

def okAll (lo hi : Int) (l : List Int) : Bool := l.all fun n => decide (lo ≤ n) && decide (n ≤ hi)

theorem okAll_step (lo hi : Int) (zs : List Int) (k : Nat) (hk : k < zs.length) (h : okAll lo hi (zs.take k) = true) (h1 : lo ≤ zs.getD k 0) (h2 : zs.getD k 0 ≤ hi) : okAll lo hi (zs.take (k + 1)) = true := by
  unfold okAll at *
  rw [List.take_add_one, List.all_append, h]
  simp only [List.getD, List.getElem?_eq_getElem hk, Option.getD] at h1 h2 ⊢
  simp [h1, h2]

theorem okAll_no (lo hi : Int) (zs : List Int) (k : Nat) (hk : k < zs.length) (h : zs.getD k 0 < lo ∨ hi < zs.getD k 0) : okAll lo hi zs = false := by
  unfold okAll
  rw [List.all_eq_false]
  refine ⟨zs[k], List.getElem_mem hk, ?_⟩
  simp only [List.getD, List.getElem?_eq_getElem hk, Option.getD] at h
  simp; omega

theorem ret_bool {a b : Bool} (h : a = b) : Ending.returned (.bool a) = .returned (.bool b) := by rw [h]

set_option maxHeartbeats 400000 in
theorem within_any (lo hi : Int) (a : Option Addr) (len cap : Nat) (zs : List Int) (w : World) (hr : Row w a len zs) (hl : len ≤ maxLen) :
    Calls Tryd.prog 16 #[.int .i64 lo, .int .i64 hi, .slice a len cap] w fun e w' => e = .returned (.bool (okAll lo hi zs)) ∧ w' = w := by
  unfold maxLen at hl
  obtain ⟨hz, hr⟩ := hr
  go_enter Tryd.func16, Tryd.ntmps16
  go_wp2
  go_loop [11] (fun i => ∃ k : Nat, k ≤ len ∧ i = .int .i64 k ∧ okAll lo hi (zs.take k) = true) (fun i => len - (intOf i).toNat)
  case atStart => exact ⟨0, Nat.zero_le _, rfl, rfl⟩
  case round =>
    obtain ⟨k, hk, rfl, hok⟩ := hrel
    have HK : Hid (okAll lo hi (zs.take k) = true) := hok
    clear hok
    by_cases hlt : k < len
    · rcases hr with h0 | ⟨b, off, rfl, hc⟩
      · omega
      have hcell := hc k hlt
      clear hc
      generalize hzk : zs.getD k 0 = z at hcell
      have HZ : Hid (zs.getD k 0 = z) := hzk
      clear hzk
      by_cases h1 : z < lo
      · go_wp2
        go_ret
        exact ⟨ret_bool (okAll_no lo hi zs k (by omega) (.inl (by rw [HZ.out]; exact h1))).symm, rfl⟩
      · by_cases h2 : hi < z
        · go_wp2
          go_ret
          exact ⟨ret_bool (okAll_no lo hi zs k (by omega) (.inr (by rw [HZ.out]; exact h2))).symm, rfl⟩
        · go_wp2
          go_round
          case rel => exact ⟨k + 1, by omega, by go_num, okAll_step lo hi zs k (by omega) HK.out (by rw [HZ.out]; omega) (by rw [HZ.out]; omega)⟩
          case measure => simp [intOf]; omega
    · go_wp2
      go_ret
      refine ⟨ret_bool ?_, rfl⟩
      have := HK.out
      rw [List.take_of_length_le (by omega)] at this
      exact this.symm

theorem row_one (w : World) (z : Int) (t : TypeId) : Row (w.alloc (.cells #[.int .i64 z] t)) (some ⟨w.heap.size, 0, none⟩) 1 [z] := by
  refine ⟨rfl, .inr ⟨_, _, rfl, fun i hi => ?_⟩⟩
  obtain rfl : i = 0 := by omega
  simp

theorem okAll_yes {lo hi z : Int} (h1 : lo ≤ z) (h2 : z ≤ hi) : okAll lo hi [z] = true := by simp [okAll, h1, h2]
theorem okAll_not {lo hi z : Int} (h : z < lo ∨ hi < z) : okAll lo hi [z] = false := by simp [okAll]; omega

/-- One number alone, laid in a new block: it lies within the bounds. -/
theorem within_one_yes (lo hi z : Int) (w : World) (b : Nat) (hb : b = w.heap.size) (h1 : lo ≤ z) (h2 : z ≤ hi) :
    Calls Tryd.prog 16 #[.int .i64 lo, .int .i64 hi, .slice (some ⟨b, 0, none⟩) 1 1] (w.alloc (.cells #[.int .i64 z] 3)) fun e w' => e = .returned (.bool true) ∧ w' = w.alloc (.cells #[.int .i64 z] 3) := by
  have h := within_any lo hi _ 1 1 [z] _ (row_one w z 3) (by decide)
  rw [okAll_yes h1 h2] at h
  rw [hb]
  exact h

theorem within_one_no (lo hi z : Int) (w : World) (b : Nat) (hb : b = w.heap.size) (h0 : z < lo ∨ hi < z) :
    Calls Tryd.prog 16 #[.int .i64 lo, .int .i64 hi, .slice (some ⟨b, 0, none⟩) 1 1] (w.alloc (.cells #[.int .i64 z] 3)) fun e w' => e = .returned (.bool false) ∧ w' = w.alloc (.cells #[.int .i64 z] 3) := by
  have h := within_any lo hi _ 1 1 [z] _ (row_one w z 3) (by decide)
  rw [okAll_not h0] at h
  rw [hb]
  exact h

theorem bel1 (w : World) (o : Obj) : Below w.heap.size w (w.alloc o) := (Below.refl _ _).alloc (Nat.le_refl _) _
theorem bel2 (w : World) (o o' : Obj) : Below w.heap.size w ((w.alloc o).alloc o') := (bel1 w o).alloc (by simp) _

theorem row_five (w : World) (a b c d e : Int) (t : TypeId) : Row (w.alloc (.cells #[.int .i64 a, .int .i64 b, .int .i64 c, .int .i64 d, .int .i64 e] t)) (some ⟨w.heap.size, 0, none⟩) 5 [a, b, c, d, e] := by
  refine ⟨rfl, .inr ⟨_, _, rfl, fun i hi => ?_⟩⟩
  match i, hi with
  | 0, _ => simp
  | 1, _ => simp
  | 2, _ => simp
  | 3, _ => simp
  | 4, _ => simp
/-- One number alone. -/
theorem within_one (lo hi z : Int) (w : World) (b : Nat) (hb : b = w.heap.size) :
    Calls Tryd.prog 16 #[.int .i64 lo, .int .i64 hi, .slice (some ⟨b, 0, none⟩) 1 1] (w.alloc (.cells #[.int .i64 z] 3)) fun e w' => e = .returned (.bool (decide (lo ≤ z ∧ z ≤ hi))) ∧ w' = w.alloc (.cells #[.int .i64 z] 3) := by
  have h := within_any lo hi _ 1 1 [z] _ (row_one w z 3) (by decide)
  have e : okAll lo hi [z] = decide (lo ≤ z ∧ z ≤ hi) := by simp [okAll]
  rw [e] at h
  rw [hb]
  exact h
theorem isMeter_any (z : Int) (w : World) :
    Calls Tryd.prog 15 #[.int .i64 z] w fun e w' => e = .returned (.bool (decide (0 ≤ z ∧ z ≤ 49))) ∧ Below w.heap.size w w' := by
  have HW : Hid (∀ (w : World) (b : Nat), b = w.heap.size → Calls Tryd.prog 16 #[.int .i64 0, .int .i64 49, .slice (some ⟨b, 0, none⟩) 1 1] (w.alloc (.cells #[.int .i64 z] 3)) fun e w' => e = .returned (.bool (decide (0 ≤ z ∧ z ≤ 49))) ∧ w' = w.alloc (.cells #[.int .i64 z] 3)) := fun w b hb => within_one 0 49 z w b hb
  generalize decide (0 ≤ z ∧ z ≤ 49) = d at *
  go_enter Tryd.func15, Tryd.ntmps15
  go_wp2_with fail
  refine (HW.out _ _ rfl).mono ?_
  rintro e w' ⟨rfl, rfl⟩
  go_wp2_with fail
  go_ret
  exact ⟨rfl, bel1 _ _⟩

end Go.Proofs.YtlicdeppfhmfjabDoor.rci

/- What is wrong with a receipt, in the program. -/
namespace Go.Proofs.YtlicdeppfhmfjabDoor.rcp
open Go.RowKit
set_option maxRecDepth 100000
set_option linter.unusedVariables false
set_option linter.unusedSimpArgs false

set_option maxHeartbeats 1000000 in
theorem units_any (c i a t : Int) (w : World) : Calls Tryd.prog 18 #[.agg #[.int .i64 c, .int .i64 i, .int .i64 a, .int .i64 t]] w fun e w' => e = .returned (.int .i64 (if c = 0 then a else 0)) ∧ Below w.heap.size w w' := by
  by_cases h : c = 0
  · subst h
    rw [if_pos rfl]
    go_enter Tryd.func18, Tryd.ntmps18
    go_wp2_with fail
    go_ret
    exact ⟨rfl, rci.bel1 _ _⟩
  · rw [if_neg h]
    have hq : (c == 0) = false := by simpa using h
    clear h
    go_enter Tryd.func18, Tryd.ntmps18
    go_wp2_with fail
    go_ret
    exact ⟨rfl, rci.bel1 _ _⟩
/-- What Check answers, over what Parse answers. -/
def chk (me id te de fe pr ch un c i a pe : Int) : Int :=
  if ¬ (0 ≤ me ∧ me ≤ 49) then 18 else if rci.okAll 0 100000000 [te, de, fe, pr, ch] = false then 2 else if ¬ (1 ≤ id ∧ id ≤ 1048575) then 2 else if ¬ (0 ≤ un ∧ un ≤ 2097151) then 2 else if te ≠ de + fe + pr + ch then 19 else if pe ≠ 0 then pe else if i ≠ id then 8 else if (if c = 0 then a else 0) ≠ un then 8 else 0
theorem five_bd {a b c d e : Int} (h : rci.okAll 0 100000000 [a, b, c, d, e] = true) : (0 ≤ a ∧ a ≤ 100000000) ∧ (0 ≤ b ∧ b ≤ 100000000) ∧ (0 ≤ c ∧ c ≤ 100000000) ∧ (0 ≤ d ∧ d ≤ 100000000) ∧ (0 ≤ e ∧ e ≤ 100000000) := by
  simpa [rci.okAll] using h
set_option maxHeartbeats 4000000 in
theorem check_abs (me id te de fe pr ch un c i a t pe : Int) (S : ByteArray) (w : World)
    (hP : ∀ w', Below w.heap.size w w' → Calls Tryd.prog 17 #[.string S] w' fun e w'' => e = .returned (.tuple #[.agg #[.int .i64 c, .int .i64 i, .int .i64 a, .int .i64 t], .int .i64 pe]) ∧ Below w'.heap.size w' w'') :
    Calls Tryd.prog 7 #[.agg #[.int .i64 me, .int .i64 id, .int .i64 te, .int .i64 de, .int .i64 fe, .int .i64 pr, .int .i64 ch, .int .i64 un, .string S]] w fun e w' => e = .returned (.int .i64 (chk me id te de fe pr ch un c i a pe)) ∧ Below w.heap.size w w' := by
  have HP : Hid (∀ w', Below w.heap.size w w' → Calls Tryd.prog 17 #[.string S] w' fun e w'' => e = .returned (.tuple #[.agg #[.int .i64 c, .int .i64 i, .int .i64 a, .int .i64 t], .int .i64 pe]) ∧ Below w'.heap.size w' w'') := hP
  clear hP
  have HX0 : Hid (Blk (w.alloc (.cells #[.int .i64 me, .int .i64 id, .int .i64 te, .int .i64 de, .int .i64 fe, .int .i64 pr, .int .i64 ch, .int .i64 un, .string S] 29)) w.heap.size #[.int .i64 me, .int .i64 id, .int .i64 te, .int .i64 de, .int .i64 fe, .int .i64 pr, .int .i64 ch, .int .i64 un, .string S] 29) := Blk.new _ _ _
  have HB0 : Hid (Below w.heap.size w (w.alloc (.cells #[.int .i64 me, .int .i64 id, .int .i64 te, .int .i64 de, .int .i64 fe, .int .i64 pr, .int .i64 ch, .int .i64 un, .string S] 29))) := (Below.refl _ _).alloc (Nat.le_refl _) _
  have hs0 : w.heap.size < (w.alloc (.cells #[.int .i64 me, .int .i64 id, .int .i64 te, .int .i64 de, .int .i64 fe, .int .i64 pr, .int .i64 ch, .int .i64 un, .string S] 29)).heap.size := HX0.out.lt
  generalize hWW : w.alloc (.cells #[.int .i64 me, .int .i64 id, .int .i64 te, .int .i64 de, .int .i64 fe, .int .i64 pr, .int .i64 ch, .int .i64 un, .string S] 29) = W0 at *
  have HWW : Hid (w.alloc (.cells #[.int .i64 me, .int .i64 id, .int .i64 te, .int .i64 de, .int .i64 fe, .int .i64 pr, .int .i64 ch, .int .i64 un, .string S] 29) = W0) := hWW
  clear hWW
  have HU : Hid (∀ W, Calls Tryd.prog 18 #[.agg #[.int .i64 c, .int .i64 i, .int .i64 a, .int .i64 t]] W fun e w' => e = .returned (.int .i64 (if c = 0 then a else 0)) ∧ Below W.heap.size W w') := fun W => units_any c i a t W
  generalize hun' : (if c = 0 then a else 0) = ut at HU
  have HUT : Hid ((if c = 0 then a else 0) = ut) := hun'
  clear hun'
  have xme : W0.cell? ⟨w.heap.size, 0, none⟩ = some (.int .i64 me) := HX0.out.cell 0
  have xid : W0.cell? ⟨w.heap.size, 1, none⟩ = some (.int .i64 id) := HX0.out.cell 1
  have xte : W0.cell? ⟨w.heap.size, 2, none⟩ = some (.int .i64 te) := HX0.out.cell 2
  have xde : W0.cell? ⟨w.heap.size, 3, none⟩ = some (.int .i64 de) := HX0.out.cell 3
  have xfe : W0.cell? ⟨w.heap.size, 4, none⟩ = some (.int .i64 fe) := HX0.out.cell 4
  have xpr : W0.cell? ⟨w.heap.size, 5, none⟩ = some (.int .i64 pr) := HX0.out.cell 5
  have xch : W0.cell? ⟨w.heap.size, 6, none⟩ = some (.int .i64 ch) := HX0.out.cell 6
  have xun : W0.cell? ⟨w.heap.size, 7, none⟩ = some (.int .i64 un) := HX0.out.cell 7
  go_enter Tryd.func7, Tryd.ntmps7
  go_upto_region 1 with fail
  rw [HWW.out]
  clear HWW
  have HBB : Hid (Blk (W0.alloc (.cells #[.int .i64 id, .int .i64 te, .int .i64 de, .int .i64 fe, .int .i64 pr, .int .i64 ch, .int .i64 un] 27)) W0.heap.size #[.int .i64 id, .int .i64 te, .int .i64 de, .int .i64 fe, .int .i64 pr, .int .i64 ch, .int .i64 un] 27) := Blk.new _ _ _
  have HX1 : Hid (Blk (W0.alloc (.cells #[.int .i64 id, .int .i64 te, .int .i64 de, .int .i64 fe, .int .i64 pr, .int .i64 ch, .int .i64 un] 27)) w.heap.size #[.int .i64 me, .int .i64 id, .int .i64 te, .int .i64 de, .int .i64 fe, .int .i64 pr, .int .i64 ch, .int .i64 un, .string S] 29) := HX0.out.alloc _
  have HB1 : Hid (Below w.heap.size w (W0.alloc (.cells #[.int .i64 id, .int .i64 te, .int .i64 de, .int .i64 fe, .int .i64 pr, .int .i64 ch, .int .i64 un] 27))) := HB0.out.alloc HB0.out.size _
  go_upto_region 2 with fail
  generalize W0.alloc (.cells #[.int .i64 id, .int .i64 te, .int .i64 de, .int .i64 fe, .int .i64 pr, .int .i64 ch, .int .i64 un] 27) = W1 at *
  generalize W0.heap.size = gb at *
  clear xme xid xte xde xfe xpr xch xun HX0 HB0
  have yme : W1.cell? ⟨w.heap.size, 0, none⟩ = some (.int .i64 me) := HX1.out.cell 0
  have HIM := rci.isMeter_any me W1
  by_cases hme : 0 ≤ me ∧ me ≤ 49
  case neg =>
    rw [decide_eq_false hme] at HIM
    have HR : Hid (chk me id te de fe pr ch un c i a pe = 18) := by show _ = _; unfold chk; rw [if_pos hme]
    go_wp2_with fail
    refine HIM.mono ?_
    rintro e W2 ⟨rfl, hb⟩
    have HB2 : Hid (Below w.heap.size w W2) := bel_step HB1.out hb
    clear hb HIM
    go_wp2_with fail
    go_ret
    exact ⟨by rw [HR.out]; rfl, HB2.out⟩
  rw [decide_eq_true hme] at HIM
  go_wp2_with fail
  refine HIM.mono ?_
  rintro e W2 ⟨rfl, hb⟩
  have HB2 : Hid (Below w.heap.size w W2) := bel_step HB1.out hb
  have HBB2 : Hid (Blk W2 gb #[.int .i64 id, .int .i64 te, .int .i64 de, .int .i64 fe, .int .i64 pr, .int .i64 ch, .int .i64 un] 27) := HBB.out.next hb
  have HX2 : Hid (Blk W2 w.heap.size #[.int .i64 me, .int .i64 id, .int .i64 te, .int .i64 de, .int .i64 fe, .int .i64 pr, .int .i64 ch, .int .i64 un, .string S] 29) := HX1.out.next hb
  clear hb HIM HB1 HBB HX1 yme
  have bid : W2.cell? ⟨gb, 0, none⟩ = some (.int .i64 id) := HBB2.out.cell 0
  have bte : W2.cell? ⟨gb, 1, none⟩ = some (.int .i64 te) := HBB2.out.cell 1
  have bde : W2.cell? ⟨gb, 2, none⟩ = some (.int .i64 de) := HBB2.out.cell 2
  have bfe : W2.cell? ⟨gb, 3, none⟩ = some (.int .i64 fe) := HBB2.out.cell 3
  have bpr : W2.cell? ⟨gb, 4, none⟩ = some (.int .i64 pr) := HBB2.out.cell 4
  have bch : W2.cell? ⟨gb, 5, none⟩ = some (.int .i64 ch) := HBB2.out.cell 5
  have bun : W2.cell? ⟨gb, 6, none⟩ = some (.int .i64 un) := HBB2.out.cell 6
  have HW2 : Hid (Calls Tryd.prog 16 #[.int .i64 0, .int .i64 100000000, .slice (some ⟨W2.heap.size, 0, none⟩) 5 5] (W2.alloc (.cells #[.int .i64 te, .int .i64 de, .int .i64 fe, .int .i64 pr, .int .i64 ch] 3)) fun e w' => e = .returned (.bool (rci.okAll 0 100000000 [te, de, fe, pr, ch])) ∧ w' = W2.alloc (.cells #[.int .i64 te, .int .i64 de, .int .i64 fe, .int .i64 pr, .int .i64 ch] 3)) := rci.within_any 0 100000000 _ 5 5 [te, de, fe, pr, ch] _ (rci.row_five W2 te de fe pr ch 3) (by decide)
  have HB3 : Hid (Below w.heap.size w (W2.alloc (.cells #[.int .i64 te, .int .i64 de, .int .i64 fe, .int .i64 pr, .int .i64 ch] 3))) := HB2.out.alloc HB2.out.size _
  have HBB3 : Hid (Blk (W2.alloc (.cells #[.int .i64 te, .int .i64 de, .int .i64 fe, .int .i64 pr, .int .i64 ch] 3)) gb #[.int .i64 id, .int .i64 te, .int .i64 de, .int .i64 fe, .int .i64 pr, .int .i64 ch, .int .i64 un] 27) := HBB2.out.alloc _
  have HX3 : Hid (Blk (W2.alloc (.cells #[.int .i64 te, .int .i64 de, .int .i64 fe, .int .i64 pr, .int .i64 ch] 3)) w.heap.size #[.int .i64 me, .int .i64 id, .int .i64 te, .int .i64 de, .int .i64 fe, .int .i64 pr, .int .i64 ch, .int .i64 un, .string S] 29) := HX2.out.alloc _
  by_cases h5 : rci.okAll 0 100000000 [te, de, fe, pr, ch] = true
  case neg =>
    rw [show rci.okAll 0 100000000 [te, de, fe, pr, ch] = false by simpa using h5] at HW2
    have HR : Hid (chk me id te de fe pr ch un c i a pe = 2) := by show _ = _; unfold chk; rw [if_neg (not_not_intro hme), if_pos (by simpa using h5)]
    go_wp2_with fail
    refine HW2.out.mono ?_
    rintro e W ⟨rfl, hw⟩
    subst hw
    clear HW2
    go_wp2_with fail
    go_ret
    exact ⟨by rw [HR.out]; rfl, HB3.out⟩
  rw [h5] at HW2
  go_wp2_with fail
  refine HW2.out.mono ?_
  rintro e W ⟨rfl, hw⟩
  subst hw
  clear HW2 HB2 HBB2 HX2 bid bte bde bfe bpr bch bun
  generalize W2.alloc (.cells #[.int .i64 te, .int .i64 de, .int .i64 fe, .int .i64 pr, .int .i64 ch] 3) = W3 at *
  have bid : W3.cell? ⟨gb, 0, none⟩ = some (.int .i64 id) := HBB3.out.cell 0
  have bte : W3.cell? ⟨gb, 1, none⟩ = some (.int .i64 te) := HBB3.out.cell 1
  have bde : W3.cell? ⟨gb, 2, none⟩ = some (.int .i64 de) := HBB3.out.cell 2
  have bfe : W3.cell? ⟨gb, 3, none⟩ = some (.int .i64 fe) := HBB3.out.cell 3
  have bpr : W3.cell? ⟨gb, 4, none⟩ = some (.int .i64 pr) := HBB3.out.cell 4
  have bch : W3.cell? ⟨gb, 5, none⟩ = some (.int .i64 ch) := HBB3.out.cell 5
  have bun : W3.cell? ⟨gb, 6, none⟩ = some (.int .i64 un) := HBB3.out.cell 6
  have HW3 : Hid (Calls Tryd.prog 16 #[.int .i64 1, .int .i64 1048575, .slice (some ⟨W3.heap.size, 0, none⟩) 1 1] (W3.alloc (.cells #[.int .i64 id] 3)) fun e w' => e = .returned (.bool (decide (1 ≤ id ∧ id ≤ 1048575))) ∧ w' = W3.alloc (.cells #[.int .i64 id] 3)) := rci.within_one 1 1048575 id W3 _ rfl
  have HB4 : Hid (Below w.heap.size w (W3.alloc (.cells #[.int .i64 id] 3))) := HB3.out.alloc HB3.out.size _
  have HBB4 : Hid (Blk (W3.alloc (.cells #[.int .i64 id] 3)) gb #[.int .i64 id, .int .i64 te, .int .i64 de, .int .i64 fe, .int .i64 pr, .int .i64 ch, .int .i64 un] 27) := HBB3.out.alloc _
  have HX4 : Hid (Blk (W3.alloc (.cells #[.int .i64 id] 3)) w.heap.size #[.int .i64 me, .int .i64 id, .int .i64 te, .int .i64 de, .int .i64 fe, .int .i64 pr, .int .i64 ch, .int .i64 un, .string S] 29) := HX3.out.alloc _
  by_cases hid : 1 ≤ id ∧ id ≤ 1048575
  case neg =>
    rw [decide_eq_false hid] at HW3
    have HR : Hid (chk me id te de fe pr ch un c i a pe = 2) := by show _ = _; unfold chk; rw [if_neg (not_not_intro hme), if_neg (by rw [h5]; decide), if_pos hid]
    go_wp2_with fail
    refine HW3.out.mono ?_
    rintro e W ⟨rfl, hw⟩
    subst hw
    clear HW3
    go_wp2_with fail
    go_ret
    exact ⟨by rw [HR.out]; rfl, HB4.out⟩
  rw [decide_eq_true hid] at HW3
  go_wp2_with fail
  refine HW3.out.mono ?_
  rintro e W ⟨rfl, hw⟩
  subst hw
  clear HW3 HB3 HBB3 HX3 bid bte bde bfe bpr bch bun
  generalize W3.alloc (.cells #[.int .i64 id] 3) = W4 at *
  have bid : W4.cell? ⟨gb, 0, none⟩ = some (.int .i64 id) := HBB4.out.cell 0
  have bte : W4.cell? ⟨gb, 1, none⟩ = some (.int .i64 te) := HBB4.out.cell 1
  have bde : W4.cell? ⟨gb, 2, none⟩ = some (.int .i64 de) := HBB4.out.cell 2
  have bfe : W4.cell? ⟨gb, 3, none⟩ = some (.int .i64 fe) := HBB4.out.cell 3
  have bpr : W4.cell? ⟨gb, 4, none⟩ = some (.int .i64 pr) := HBB4.out.cell 4
  have bch : W4.cell? ⟨gb, 5, none⟩ = some (.int .i64 ch) := HBB4.out.cell 5
  have bun : W4.cell? ⟨gb, 6, none⟩ = some (.int .i64 un) := HBB4.out.cell 6
  have HW4 : Hid (Calls Tryd.prog 16 #[.int .i64 0, .int .i64 2097151, .slice (some ⟨W4.heap.size, 0, none⟩) 1 1] (W4.alloc (.cells #[.int .i64 un] 3)) fun e w' => e = .returned (.bool (decide (0 ≤ un ∧ un ≤ 2097151))) ∧ w' = W4.alloc (.cells #[.int .i64 un] 3)) := rci.within_one 0 2097151 un W4 _ rfl
  have HB5 : Hid (Below w.heap.size w (W4.alloc (.cells #[.int .i64 un] 3))) := HB4.out.alloc HB4.out.size _
  have HBB5 : Hid (Blk (W4.alloc (.cells #[.int .i64 un] 3)) gb #[.int .i64 id, .int .i64 te, .int .i64 de, .int .i64 fe, .int .i64 pr, .int .i64 ch, .int .i64 un] 27) := HBB4.out.alloc _
  have HX5 : Hid (Blk (W4.alloc (.cells #[.int .i64 un] 3)) w.heap.size #[.int .i64 me, .int .i64 id, .int .i64 te, .int .i64 de, .int .i64 fe, .int .i64 pr, .int .i64 ch, .int .i64 un, .string S] 29) := HX4.out.alloc _
  by_cases hun : 0 ≤ un ∧ un ≤ 2097151
  case neg =>
    rw [decide_eq_false hun] at HW4
    have HR : Hid (chk me id te de fe pr ch un c i a pe = 2) := by show _ = _; unfold chk; rw [if_neg (not_not_intro hme), if_neg (by rw [h5]; decide), if_neg (not_not_intro hid), if_pos hun]
    go_wp2_with fail
    refine HW4.out.mono ?_
    rintro e W ⟨rfl, hw⟩
    subst hw
    clear HW4
    go_wp2_with fail
    go_ret
    exact ⟨by rw [HR.out]; rfl, HB5.out⟩
  rw [decide_eq_true hun] at HW4
  go_wp2_with fail
  refine HW4.out.mono ?_
  rintro e W ⟨rfl, hw⟩
  subst hw
  clear HW4 HB4 HBB4 HX4 bid bte bde bfe bpr bch bun
  generalize W4.alloc (.cells #[.int .i64 un] 3) = W5 at *
  have bid : W5.cell? ⟨gb, 0, none⟩ = some (.int .i64 id) := HBB5.out.cell 0
  have bte : W5.cell? ⟨gb, 1, none⟩ = some (.int .i64 te) := HBB5.out.cell 1
  have bde : W5.cell? ⟨gb, 2, none⟩ = some (.int .i64 de) := HBB5.out.cell 2
  have bfe : W5.cell? ⟨gb, 3, none⟩ = some (.int .i64 fe) := HBB5.out.cell 3
  have bpr : W5.cell? ⟨gb, 4, none⟩ = some (.int .i64 pr) := HBB5.out.cell 4
  have bch : W5.cell? ⟨gb, 5, none⟩ = some (.int .i64 ch) := HBB5.out.cell 5
  have bun : W5.cell? ⟨gb, 6, none⟩ = some (.int .i64 un) := HBB5.out.cell 6
  obtain ⟨⟨te0, te1⟩, ⟨de0, de1⟩, ⟨fe0, fe1⟩, ⟨pr0, pr1⟩, ⟨ch0, ch1⟩⟩ := five_bd h5
  have q1 : IntKind.i64.wrap (de + fe) = de + fe := by rw [IntKind.wrap_i64]; omega
  have q2 : IntKind.i64.wrap (de + fe + pr) = de + fe + pr := by rw [IntKind.wrap_i64]; omega
  have q3 : IntKind.i64.wrap (de + fe + pr + ch) = de + fe + pr + ch := by rw [IntKind.wrap_i64]; omega
  by_cases hsum : te = de + fe + pr + ch
  case neg =>
    have hq : (te != de + fe + pr + ch) = true := by simpa using hsum
    have HR : Hid (chk me id te de fe pr ch un c i a pe = 19) := by show _ = _; unfold chk; rw [if_neg (not_not_intro hme), if_neg (by rw [h5]; decide), if_neg (not_not_intro hid), if_neg (not_not_intro hun), if_pos hsum]
    clear hsum
    go_wp2_with fail
    go_ret
    exact ⟨by rw [HR.out]; rfl, HB5.out⟩
  have hq : (te != de + fe + pr + ch) = false := by simpa using hsum
  have ytk : W5.cell? ⟨w.heap.size, 8, none⟩ = some (.string S) := HX5.out.cell 8
  have HP5 := HP.out W5 HB5.out
  have HHE : Hid (te = de + fe + pr + ch) := hsum
  clear hsum HP
  go_upto_region 10 with fail
  go_wp2_with fail
  refine HP5.mono ?_
  rintro e W6 ⟨rfl, hb⟩
  have HB6 : Hid (Below w.heap.size w W6) := bel_step HB5.out hb
  have HBB6 : Hid (Blk W6 gb #[.int .i64 id, .int .i64 te, .int .i64 de, .int .i64 fe, .int .i64 pr, .int .i64 ch, .int .i64 un] 27) := HBB5.out.next hb
  clear hb HP5 HB5 HBB5 HX5 ytk bid bte bde bfe bpr bch bun q1 q2 q3
  have HT7 : Hid (Blk (W6.alloc (.cells #[.int .i64 c, .int .i64 i, .int .i64 a, .int .i64 t] 43)) W6.heap.size #[.int .i64 c, .int .i64 i, .int .i64 a, .int .i64 t] 43) := Blk.new _ _ _
  have HBB7 : Hid (Blk (W6.alloc (.cells #[.int .i64 c, .int .i64 i, .int .i64 a, .int .i64 t] 43)) gb #[.int .i64 id, .int .i64 te, .int .i64 de, .int .i64 fe, .int .i64 pr, .int .i64 ch, .int .i64 un] 27) := HBB6.out.alloc _
  have HB7 : Hid (Below w.heap.size w (W6.alloc (.cells #[.int .i64 c, .int .i64 i, .int .i64 a, .int .i64 t] 43))) := HB6.out.alloc HB6.out.size _
  go_upto_region 11 with fail
  generalize W6.alloc (.cells #[.int .i64 c, .int .i64 i, .int .i64 a, .int .i64 t] 43) = W7 at *
  generalize W6.heap.size = gt at *
  clear HB6 HBB6
  by_cases hpe : pe = 0
  case neg =>
    have hq2 : (pe != 0) = true := by simpa using hpe
    have HR : Hid (chk me id te de fe pr ch un c i a pe = pe) := by show _ = _; unfold chk; rw [if_neg (not_not_intro hme), if_neg (by rw [h5]; decide), if_neg (not_not_intro hid), if_neg (not_not_intro hun), if_neg (not_not_intro HHE.out), if_pos hpe]
    clear hpe
    go_wp2_with fail
    go_ret
    exact ⟨by rw [HR.out]; rfl, HB7.out⟩
  have hq2 : (pe != 0) = false := by simpa using hpe
  have HPE : Hid (pe = 0) := hpe
  clear hpe
  go_upto_region 13 with fail
  have lt0 : gt < W7.heap.size := HT7.out.lt
  have lb0 : gb < W7.heap.size := HBB7.out.lt
  have u0 : W7.cell? ⟨gt, 0, none⟩ = some (.int .i64 c) := HT7.out.cell 0
  have u1 : W7.cell? ⟨gt, 1, none⟩ = some (.int .i64 i) := HT7.out.cell 1
  have u2 : W7.cell? ⟨gt, 2, none⟩ = some (.int .i64 a) := HT7.out.cell 2
  have u3 : W7.cell? ⟨gt, 3, none⟩ = some (.int .i64 t) := HT7.out.cell 3
  have v0 : W7.cell? ⟨gb, 0, none⟩ = some (.int .i64 id) := HBB7.out.cell 0
  have v6 : W7.cell? ⟨gb, 6, none⟩ = some (.int .i64 un) := HBB7.out.cell 6
  have HDR : Hid (Below W7.heap.size W7 W7.drew) := bel_drew (Below.refl _ _) 1
  by_cases hi : i = id
  case neg =>
    have hq3 : (i != id) = true := by simpa using hi
    have HR : Hid (chk me id te de fe pr ch un c i a pe = 8) := by show _ = _; unfold chk; rw [if_neg (not_not_intro hme), if_neg (by rw [h5]; decide), if_neg (not_not_intro hid), if_neg (not_not_intro hun), if_neg (not_not_intro HHE.out), if_neg (not_not_intro HPE.out), if_pos hi]
    clear hi
    refine wp_region_held_drew (S := fun v => Below W7.heap.size W7 v) (by kernel_rfl) HDR.out (fun hHeld => ?_)
    refine take_at 0 61 (.pointer (some ⟨gt, 1, none⟩)) _ rfl rfl (by kernel_rfl) (by kernel_rfl) (by kernel_rfl) (fun _ _ _ h => h) (Or.inl ⟨by rfl, fun v hv => by skip; clear hv; go_simp⟩) hHeld ?_
    simp only [Act.put, List.setIfInBounds_toArray, List.set_cons_zero, List.set_cons_succ]
    refine take_at 1 62 (.int .i64 i) _ rfl rfl (by kernel_rfl) (by kernel_rfl) (by kernel_rfl) (fun _ _ _ h => h) (Or.inl ⟨by rfl, fun v hv => by have g1 := (hv.cell (p := ⟨gt, 1, none⟩) lt0).trans u1; clear hv; go_simp⟩) hHeld ?_
    simp only [Act.put, List.setIfInBounds_toArray, List.set_cons_zero, List.set_cons_succ]
    refine take_at 2 63 (.pointer (some ⟨gb, 0, none⟩)) _ rfl rfl (by kernel_rfl) (by kernel_rfl) (by kernel_rfl) (fun _ _ _ h => h) (Or.inl ⟨by rfl, fun v hv => by skip; clear hv; go_simp⟩) hHeld ?_
    simp only [Act.put, List.setIfInBounds_toArray, List.set_cons_zero, List.set_cons_succ]
    refine take_at 3 64 (.int .i64 id) _ rfl rfl (by kernel_rfl) (by kernel_rfl) (by kernel_rfl) (fun _ _ _ h => h) (Or.inl ⟨by rfl, fun v hv => by have g0 := (hv.cell (p := ⟨gb, 0, none⟩) lb0).trans v0; clear hv; go_simp⟩) hHeld ?_
    simp only [Act.put, List.setIfInBounds_toArray, List.set_cons_zero, List.set_cons_succ]
    refine take_at 4 65 (.bool true) _ rfl rfl (by kernel_rfl) (by kernel_rfl) (by kernel_rfl) (fun _ _ _ h => h) (Or.inl ⟨by rfl, fun v hv => by skip; clear hv; go_simp⟩) hHeld ?_
    simp only [Act.put, List.setIfInBounds_toArray, List.set_cons_zero, List.set_cons_succ]
    refine take_at 5 66 (.bool true) _ rfl rfl (by kernel_rfl) (by kernel_rfl) (by kernel_rfl) (fun _ _ _ h => h) (Or.inl ⟨by rfl, fun v hv => by skip; clear hv; go_simp⟩) hHeld ?_
    simp only [Act.put, List.setIfInBounds_toArray, List.set_cons_zero, List.set_cons_succ]
    refine take_at 6 67 undef _ rfl rfl (by kernel_rfl) (by kernel_rfl) (by kernel_rfl) (fun _ _ _ h => h) (Or.inr ⟨by rfl, rfl⟩) hHeld ?_
    simp only [Act.put, List.setIfInBounds_toArray, List.set_cons_zero, List.set_cons_succ]
    refine take_at 7 68 undef _ rfl rfl (by kernel_rfl) (by kernel_rfl) (by kernel_rfl) (fun _ _ _ h => h) (Or.inr ⟨by rfl, rfl⟩) hHeld ?_
    simp only [Act.put, List.setIfInBounds_toArray, List.set_cons_zero, List.set_cons_succ]
    refine take_at 8 69 undef _ rfl rfl (by kernel_rfl) (by kernel_rfl) (by kernel_rfl) (fun _ _ _ h => h) (Or.inr ⟨by rfl, rfl⟩) hHeld ?_
    simp only [Act.put, List.setIfInBounds_toArray, List.set_cons_zero, List.set_cons_succ]
    refine take_at 9 70 undef _ rfl rfl (by kernel_rfl) (by kernel_rfl) (by kernel_rfl) (fun _ _ _ h => h) (Or.inr ⟨by rfl, rfl⟩) hHeld ?_
    simp only [Act.put, List.setIfInBounds_toArray, List.set_cons_zero, List.set_cons_succ]
    refine take_at 10 71 undef _ rfl rfl (by kernel_rfl) (by kernel_rfl) (by kernel_rfl) (fun _ _ _ h => h) (Or.inr ⟨by rfl, rfl⟩) hHeld ?_
    simp only [Act.put, List.setIfInBounds_toArray, List.set_cons_zero, List.set_cons_succ]
    refine take_at 11 72 (.bool true) _ rfl rfl (by kernel_rfl) (by kernel_rfl) (by kernel_rfl) (fun _ _ _ h => h) (Or.inl ⟨by rfl, fun v hv => by skip; clear hv; go_simp⟩) hHeld ?_
    simp only [Act.put, List.setIfInBounds_toArray, List.set_cons_zero, List.set_cons_succ]
    refine wpAnyH_done (by kernel_rfl) ?_ _
    have HB8 : Hid (Below w.heap.size w W7.drew) := bel_drew HB7.out 1
    clear hHeld
    go_wp2_with fail
    go_ret
    exact ⟨by rw [HR.out]; rfl, HB8.out⟩
  have hq3 : (i != id) = false := by simpa using hi
  have HII : Hid (i = id) := hi
  clear hi
  refine wp_region_held_drew (S := fun v => Below W7.heap.size W7 v) (by kernel_rfl) HDR.out (fun hHeld => ?_)
  refine take_at 0 61 (.pointer (some ⟨gt, 1, none⟩)) _ rfl rfl (by kernel_rfl) (by kernel_rfl) (by kernel_rfl) (fun _ _ _ h => h) (Or.inl ⟨by rfl, fun v hv => by skip; clear hv; go_simp⟩) hHeld ?_
  simp only [Act.put, List.setIfInBounds_toArray, List.set_cons_zero, List.set_cons_succ]
  refine take_at 1 62 (.int .i64 i) _ rfl rfl (by kernel_rfl) (by kernel_rfl) (by kernel_rfl) (fun _ _ _ h => h) (Or.inl ⟨by rfl, fun v hv => by have g1 := (hv.cell (p := ⟨gt, 1, none⟩) lt0).trans u1; clear hv; go_simp⟩) hHeld ?_
  simp only [Act.put, List.setIfInBounds_toArray, List.set_cons_zero, List.set_cons_succ]
  refine take_at 2 63 (.pointer (some ⟨gb, 0, none⟩)) _ rfl rfl (by kernel_rfl) (by kernel_rfl) (by kernel_rfl) (fun _ _ _ h => h) (Or.inl ⟨by rfl, fun v hv => by skip; clear hv; go_simp⟩) hHeld ?_
  simp only [Act.put, List.setIfInBounds_toArray, List.set_cons_zero, List.set_cons_succ]
  refine take_at 3 64 (.int .i64 id) _ rfl rfl (by kernel_rfl) (by kernel_rfl) (by kernel_rfl) (fun _ _ _ h => h) (Or.inl ⟨by rfl, fun v hv => by have g0 := (hv.cell (p := ⟨gb, 0, none⟩) lb0).trans v0; clear hv; go_simp⟩) hHeld ?_
  simp only [Act.put, List.setIfInBounds_toArray, List.set_cons_zero, List.set_cons_succ]
  refine take_at 4 65 (.bool false) _ rfl rfl (by kernel_rfl) (by kernel_rfl) (by kernel_rfl) (fun _ _ _ h => h) (Or.inl ⟨by rfl, fun v hv => by skip; clear hv; go_simp⟩) hHeld ?_
  simp only [Act.put, List.setIfInBounds_toArray, List.set_cons_zero, List.set_cons_succ]
  refine take_at 5 66 (.bool false) _ rfl rfl (by kernel_rfl) (by kernel_rfl) (by kernel_rfl) (fun _ _ _ h => h) (Or.inl ⟨by rfl, fun v hv => by skip; clear hv; go_simp⟩) hHeld ?_
  simp only [Act.put, List.setIfInBounds_toArray, List.set_cons_zero, List.set_cons_succ]
  refine take_at 6 67 (.agg #[.int .i64 c, .int .i64 i, .int .i64 a, .int .i64 t]) _ rfl rfl (by kernel_rfl) (by kernel_rfl) (by kernel_rfl) (fun _ _ _ h => h) (Or.inl ⟨by rfl, fun v hv => by have g0 := (hv.cell (p := ⟨gt, 0, none⟩) lt0).trans u0; have g1 := (hv.cell (p := ⟨gt, 1, none⟩) lt0).trans u1; have g2 := (hv.cell (p := ⟨gt, 2, none⟩) lt0).trans u2; have g3 := (hv.cell (p := ⟨gt, 3, none⟩) lt0).trans u3; clear hv; go_simp⟩) hHeld ?_
  simp only [Act.put, List.setIfInBounds_toArray, List.set_cons_zero, List.set_cons_succ]
  refine take_at 8 69 (.pointer (some ⟨gb, 6, none⟩)) _ rfl rfl (by kernel_rfl) (by kernel_rfl) (by kernel_rfl) (fun _ _ _ h => h) (Or.inl ⟨by rfl, fun v hv => by skip; clear hv; go_simp⟩) hHeld ?_
  simp only [Act.put, List.setIfInBounds_toArray, List.set_cons_zero, List.set_cons_succ]
  refine take_at 9 70 (.int .i64 un) _ rfl rfl (by kernel_rfl) (by kernel_rfl) (by kernel_rfl) (fun _ _ _ h => h) (Or.inl ⟨by rfl, fun v hv => by have g6 := (hv.cell (p := ⟨gb, 6, none⟩) lb0).trans v6; clear hv; go_simp⟩) hHeld ?_
  simp only [Act.put, List.setIfInBounds_toArray, List.set_cons_zero, List.set_cons_succ]
  refine wpAnyH_ready (rs := [7]) (by kernel_rfl) (by simp) (AllReadyH.cons rfl (fun K hK => ?_) AllReadyH.nil)
  rw [if_pos (by rfl)]
  refine wp_callOp 68 rfl (by clear hK; go_simp) (HU.out _) ?_
  rintro e W8 ⟨rfl, hb⟩
  have HB8 : Hid (Below w.heap.size w W8) := bel_step (bel_drew HB7.out 1) hb
  refine ⟨_, rfl, hK.out _ _ (bel_step HDR.out hb) (fun hHeld => ?_)⟩
  clear hK hb HB7
  simp only [Act.put, List.setIfInBounds_toArray, List.set_cons_zero, List.set_cons_succ]
  by_cases hu : ut = un
  · have hq4 : (ut != un) = false := by simpa using hu
    have HR : Hid (chk me id te de fe pr ch un c i a pe = 0) := by show _ = _; unfold chk; rw [if_neg (not_not_intro hme), if_neg (by rw [h5]; decide), if_neg (not_not_intro hid), if_neg (not_not_intro hun), if_neg (not_not_intro HHE.out), if_neg (not_not_intro HPE.out), if_neg (not_not_intro HII.out), HUT.out, if_neg (not_not_intro hu)]
    clear hu
    refine take_at 10 71 (.bool false) _ rfl rfl (by kernel_rfl) (by kernel_rfl) (by kernel_rfl) (fun _ _ _ h => h) (Or.inl ⟨by rfl, fun v hv => by skip; clear hv; go_simp⟩) hHeld ?_
    simp only [Act.put, List.setIfInBounds_toArray, List.set_cons_zero, List.set_cons_succ]
    refine take_at 11 72 (.bool false) _ rfl rfl (by kernel_rfl) (by kernel_rfl) (by kernel_rfl) (fun _ _ _ h => h) (Or.inl ⟨by rfl, fun v hv => by skip; clear hv; go_simp⟩) hHeld ?_
    simp only [Act.put, List.setIfInBounds_toArray, List.set_cons_zero, List.set_cons_succ]
    refine wpAnyH_done (by kernel_rfl) ?_ _
    clear hHeld
    go_wp2_with fail
    go_ret
    exact ⟨by rw [HR.out]; rfl, HB8.out⟩
  · have hq4 : (ut != un) = true := by simpa using hu
    have HR : Hid (chk me id te de fe pr ch un c i a pe = 8) := by show _ = _; unfold chk; rw [if_neg (not_not_intro hme), if_neg (by rw [h5]; decide), if_neg (not_not_intro hid), if_neg (not_not_intro hun), if_neg (not_not_intro HHE.out), if_neg (not_not_intro HPE.out), if_neg (not_not_intro HII.out), HUT.out, if_pos hu]
    clear hu
    refine take_at 10 71 (.bool true) _ rfl rfl (by kernel_rfl) (by kernel_rfl) (by kernel_rfl) (fun _ _ _ h => h) (Or.inl ⟨by rfl, fun v hv => by skip; clear hv; go_simp⟩) hHeld ?_
    simp only [Act.put, List.setIfInBounds_toArray, List.set_cons_zero, List.set_cons_succ]
    refine take_at 11 72 (.bool true) _ rfl rfl (by kernel_rfl) (by kernel_rfl) (by kernel_rfl) (fun _ _ _ h => h) (Or.inl ⟨by rfl, fun v hv => by skip; clear hv; go_simp⟩) hHeld ?_
    simp only [Act.put, List.setIfInBounds_toArray, List.set_cons_zero, List.set_cons_succ]
    refine wpAnyH_done (by kernel_rfl) ?_ _
    clear hHeld
    go_wp2_with fail
    go_ret
    exact ⟨by rw [HR.out]; rfl, HB8.out⟩

theorem chk_is (r : Rc) (c i a : Int) (pe : Int) (hpe : pe = token.parseE r.tk) (hok : token.parseE r.tk = 0 → c = ((tokR r).c : Int) ∧ i = ((tokR r).i : Int) ∧ a = ((tokR r).a : Int)) :
    FaultIs r (chk r.me r.id r.te r.de r.fe r.pr r.ch r.un c i a pe) := by
  unfold chk
  by_cases h1 : 0 ≤ r.me ∧ r.me ≤ 49
  case neg => rw [if_pos h1]; exact .inl ⟨h1, rfl⟩
  rw [if_neg (not_not_intro h1)]
  cases h5 : rci.okAll 0 100000000 [r.te, r.de, r.fe, r.pr, r.ch] with
  | false =>
    rw [if_pos rfl]
    refine .inr (.inl ⟨h1, fun hr => ?_, rfl⟩)
    obtain ⟨⟨a, b, c, d⟩, e, _⟩ := hr
    have : rci.okAll 0 100000000 [r.te, r.de, r.fe, r.pr, r.ch] = true := by simp [rci.okAll]; exact ⟨a, b, c, d, e⟩
    rw [this] at h5; cases h5
  | true =>
    rw [if_neg (by decide)]
    obtain ⟨b1, b2, b3, b4, b5⟩ := five_bd h5
    by_cases hid : 1 ≤ r.id ∧ r.id ≤ 1048575
    case neg => rw [if_pos hid]; exact .inr (.inl ⟨h1, fun hr => hid hr.2.2.1, rfl⟩)
    rw [if_neg (not_not_intro hid)]
    by_cases hun : 0 ≤ r.un ∧ r.un ≤ 2097151
    case neg => rw [if_pos hun]; exact .inr (.inl ⟨h1, fun hr => hun hr.2.2.2, rfl⟩)
    rw [if_neg (not_not_intro hun)]
    have hrr : RRange r := ⟨⟨b1, b2, b3, b4⟩, b5, hid, hun⟩
    by_cases hs : r.te = r.de + r.fe + r.pr + r.ch
    case neg => rw [if_pos hs]; exact .inr (.inr (.inl ⟨h1, hrr, fun h => hs (by unfold RSum at h; omega), rfl⟩))
    rw [if_neg (not_not_intro hs)]
    have hsm : RSum r := by unfold RSum; omega
    subst hpe
    by_cases hp : token.parseE r.tk = 0
    case neg => rw [if_pos hp]; exact .inr (.inr (.inr (.inl ⟨h1, hrr, hsm, hp, rfl⟩)))
    rw [if_neg (not_not_intro hp)]
    obtain ⟨rfl, rfl, rfl⟩ := hok hp
    by_cases hi : ((tokR r).i : Int) = r.id
    case neg => rw [if_pos hi]; exact .inr (.inr (.inr (.inr (.inl ⟨h1, hrr, hsm, hp, fun h => hi h.1, rfl⟩))))
    rw [if_neg (not_not_intro hi)]
    by_cases hc : (tokR r).c = 0
    · rw [if_pos (show ((tokR r).c : Int) = 0 by omega)]
      by_cases ha : ((tokR r).a : Int) = r.un
      case neg => rw [if_pos ha]; exact .inr (.inr (.inr (.inr (.inl ⟨h1, hrr, hsm, hp, fun h => ha (h.2.1 hc), rfl⟩))))
      rw [if_neg (not_not_intro ha)]
      exact .inr (.inr (.inr (.inr (.inr ⟨h1, hrr, hsm, hp, ⟨hi, fun _ => ha, fun h => absurd hc h⟩, rfl⟩))))
    · rw [if_neg (show ¬ ((tokR r).c : Int) = 0 by omega)]
      by_cases ha : (0 : Int) = r.un
      case neg => rw [if_pos ha]; exact .inr (.inr (.inr (.inr (.inl ⟨h1, hrr, hsm, hp, fun h => ha (h.2.2 hc).symm, rfl⟩))))
      rw [if_neg (not_not_intro ha)]
      exact .inr (.inr (.inr (.inr (.inr ⟨h1, hrr, hsm, hp, ⟨hi, fun h => absurd h hc, fun _ => ha.symm⟩, rfl⟩))))
theorem check_any (r : Rc) (w : World) (ht : token.TTab w) : Calls Tryd.prog 7 #[r.v] w fun e w' => FaultPost w r e w' := by
  have fin : ∀ (c i a t : Int), (token.parseE r.tk = 0 → c = ((tokR r).c : Int) ∧ i = ((tokR r).i : Int) ∧ a = ((tokR r).a : Int)) → token.parseV r.tk = .agg #[.int .i64 c, .int .i64 i, .int .i64 a, .int .i64 t] → Calls Tryd.prog 7 #[r.v] w fun e w' => FaultPost w r e w' := fun c i a t hok hv => by
    refine (check_abs r.me r.id r.te r.de r.fe r.pr r.ch r.un c i a t (token.parseE r.tk) ⟨r.tk.toArray⟩ w (fun w' hb => ?_)).mono ?_
    · have := token.parse_any ⟨r.tk.toArray⟩ w' (ht.below hb)
      simp only at this
      rw [hv] at this
      exact this
    · rintro e w' ⟨rfl, hb⟩
      exact ⟨_, rfl, chk_is r c i a _ rfl hok, hb⟩
  by_cases h : token.parseE r.tk = 0
  · exact fin ((tokR r).c : Int) ((tokR r).i : Int) ((tokR r).a : Int) ((tokR r).t : Int) (fun _ => ⟨rfl, rfl, rfl⟩) (by unfold token.parseV; rw [if_pos h]; rfl)
  · exact fin 0 0 0 0 (fun h' => absurd h' h) (by unfold token.parseV; rw [if_neg h]; rfl)
theorem kcheck {w : World} (ht : token.TTab w) : KrCheck w := fun W r hb _ => check_any r W (ht.below hb)

end Go.Proofs.YtlicdeppfhmfjabDoor.rcp

/- A builder that lies at the head of a paper: what its methods do there. -/
namespace Go.Proofs.YtlicdeppfhmfjabDoor.rcb
open Go.RowKit
set_option maxRecDepth 100000

def TP : TypeId := 77
def TU : TypeId := 5
/-- The paper in block b holds these bytes. -/
def Sb (B b : Nat) (bs : List Value) (w : World) : Prop := Lib.IsBuilder TP TU B b bs w
/-- .. and was written on. -/
def Su (B b : Nat) (bs : List Value) (w : World) : Prop := Lib.BuilderAt TP TU B b (.pointer (some ⟨b, 0, none⟩)) bs w
theorem Su.sb {B b : Nat} {bs : List Value} {w : World} (h : Su B b bs w) : Sb B b bs w := .inr h
theorem infoB : ∃ i, Tryd.prog.info? 5 = some i ∧ i.zero = some (.int .u8 0) ∧ i.size = 1 ∧ i.bytes = 1 := info_parts (by kernel_rfl)
theorem infoS : (Tryd.prog.info? 75).map (·.size) = some 2 := by kernel_rfl
theorem lies : liesAt Tryd.prog Tryd.prog.depth TP (2 / Tryd.prog.cellsOf TP) 0 75 1 = true := by kernel_rfl
theorem neP : TP ≠ TU := by decide

set_option maxHeartbeats 1000000 in
theorem copy_used (b : Nat) (w : World) (h0 : w.cell? ⟨b, 0, none⟩ = some (.pointer (some ⟨b, 0, none⟩))) :
    Calls Tryd.prog 64 #[.pointer (some ⟨b, 0, none⟩)] w fun e w' => e = .returned (.tuple #[]) ∧ w' = w := by
  obtain ⟨j, hj, _⟩ := Option.map_eq_some_iff.1 infoS
  go_enter Tryd.func64, Tryd.ntmps64
  go_wp2
  rw [Lib.run_neq_ptr_same w _ Tryd.underlying73 hj]
  go_wp2
  go_end0
  exact ⟨rfl, rfl⟩

set_option maxHeartbeats 1000000 in
theorem copy_fresh (b : Nat) (w : World) (h0 : w.cell? ⟨b, 0, none⟩ = some (.pointer none)) (hsh : w.shape? b = some (TP, 2)) (hfz : w.frozen? ⟨b, 0, none⟩ = false) :
    Calls Tryd.prog 64 #[.pointer (some ⟨b, 0, none⟩)] w fun e w' => e = .returned (.tuple #[]) ∧ w' = w.setCell ⟨b, 0, none⟩ (.pointer (some ⟨b, 0, none⟩)) := by
  obtain ⟨j, hj, hjs⟩ := Option.map_eq_some_iff.1 infoS
  go_enter Tryd.func64, Tryd.ntmps64
  go_wp2
  rw [Lib.run_to_unsafe w ⟨b, 0, none⟩ Tryd.underlying73 Tryd.underlying144 hj (by rw [hjs]; decide) hsh (Nat.zero_lt_succ 1)]
  simp only [Result.andThen]
  rw [Oper.upon_value]
  go_wp2
  rw [run_callFunc_extern Tryd.func88 (by kernel_rfl) (by kernel_rfl) (by kernel_rfl) (e := Extern.AbiNoEscape.same) (by kernel_rfl)]
  rw [Lib.run_noEscape]
  simp only [Result.andThen]
  rw [Oper.upon_value]
  go_wp2
  rw [Lib.run_from_unsafe w ⟨b, 0, none⟩ Tryd.underlying144 Tryd.underlying73 hj hsh lies]
  simp only [Result.andThen]
  rw [Oper.upon_value]
  go_wp2
  go_end0
  exact ⟨rfl, rfl⟩

theorem copy_any (B b : Nat) (bs : List Value) (w : World) (h : Sb B b bs w) :
    Calls Tryd.prog 64 #[.pointer (some ⟨b, 0, none⟩)] w fun e w' => e = .returned (.tuple #[]) ∧ Su B b bs w' ∧ Below B w w' := by
  rcases h with h | h
  · refine (copy_fresh b w h.cell0 h.shape h.frozen0).mono ?_
    rintro e w' ⟨rfl, rfl⟩
    exact ⟨rfl, h.used _, (Below.refl B w).setCell (p := ⟨b, 0, none⟩) h.1 _⟩
  · refine (copy_used b w h.cell0).mono ?_
    rintro e w' ⟨rfl, rfl⟩
    exact ⟨rfl, h, Below.refl B _⟩

theorem lt_of {w : World} {b : Nat} {o : Obj} (h : w.heap[b]? = some o) : b < w.heap.size := by
  rcases Nat.lt_or_ge b w.heap.size with h' | h'
  · exact h'
  · simp [Array.getElem?_eq_none h'] at h

set_option maxHeartbeats 2000000 in
theorem byte_any (B b : Nat) (bs : List Value) (c : Int) (w : World) (h : Sb B b bs w) (hlen : bs.length + 1 ≤ 100000) (hBw : B ≤ w.heap.size) :
    Calls Tryd.prog 58 #[.pointer (some ⟨b, 0, none⟩), .int .u8 c] w fun e w' => e = .returned .nilIface ∧ Su B b (bs ++ [.int .u8 c]) w' ∧ Below B w w' := by
  obtain ⟨i0, hi, hz0, hz1, hz2⟩ := infoB
  have HC := copy_any B b bs w h
  clear h
  go_enter Tryd.func58, Tryd.ntmps58
  go_wp2_with fail
  refine HC.mono ?_
  rintro e w1 ⟨rfl, ⟨hB, v, hbk, hown, hne⟩, hb1⟩
  clear HC
  have c0 : w1.cell? ⟨b, 0, none⟩ = some (.pointer (some ⟨b, 0, none⟩)) := by rw [Lib.cell_of_heap hbk]; rfl
  have c1 : w1.cell? ⟨b, 1, none⟩ = some v := by rw [Lib.cell_of_heap hbk]; rfl
  have hs1 := hb1.size
  go_wp2_with (at_builtin; refine wpList_append_own _ rfl _ _ 59 rfl B TU i0 (.int .u8 0) 1 1 Tryd.underlying59 hi hz0 hz1 hz2 rfl (by decide) _ _ _ rfl (hown.alloc _) ⟨w1.heap.size, 0, none⟩ 1 1 [.int .u8 c] rfl rfl ?c1 ?c2 ?c3 ?c4 ?c5 ?_)
  case c1 =>
    intro j u hj
    match j, hj with
    | 0, hj => simp at hj; subst hj; simp [Addr.add]
  case c2 => intro u hu; simp at hu; subst hu; rfl
  case c3 => unfold maxLen; omega
  case c4 => omega
  case c5 => simp; omega
  intro v' w2 hown' hgrow _
  have hlt := lt_of hbk
  have hb2 : w2.heap[b]? = some (.cells #[.pointer (some ⟨b, 0, none⟩), v] TP (0, 0)) := by
    rw [hgrow.block b (by simp; omega) (fun e => hne e.symm), Lib.alloc_old w1 _ b hlt]
    exact hbk
  have d0 : w2.cell? ⟨b, 0, none⟩ = some (.pointer (some ⟨b, 0, none⟩)) := by rw [Lib.cell_of_heap hb2]; rfl
  have d1 : w2.cell? ⟨b, 1, none⟩ = some v := by rw [Lib.cell_of_heap hb2]; rfl
  have f1 : w2.frozen? ⟨b, 1, none⟩ = false := Lib.frozen_of_heap hb2 1
  obtain ⟨g, cap, rfl⟩ : ∃ g cap, v' = .slice (some ⟨g, 0, none⟩) (bs.length + 1) cap := by
    rcases hown'.2 with ⟨_, h0⟩ | ⟨g, cap, cur, hv, _⟩
    · omega
    · exact ⟨g, cap, hv⟩
  go_wp2
  go_ret
  refine ⟨rfl, ?_, ?_⟩
  · exact Lib.BuilderAt.put (T := TP) (e := TU) hB hb2 (bs' := bs ++ [.int .u8 c]) (by simpa using hown') neP
  · exact ((hb1.alloc (by omega) _).grown hgrow (by simp; omega) (fun k hk => (hown.lt k hk).1)).setCell (p := ⟨b, 1, none⟩) hB _

set_option maxHeartbeats 2000000 in
theorem str_any (B b : Nat) (bs : List Value) (s : ByteArray) (w : World) (h : Sb B b bs w) (hlen : bs.length + s.size ≤ 100000) (hBw : B ≤ w.heap.size) :
    Calls Tryd.prog 42 #[.pointer (some ⟨b, 0, none⟩), .string s] w fun e w' => e = .returned (.tuple #[.int .i64 s.size, .nilIface]) ∧ Su B b (bs ++ Lib.strCells s) w' ∧ Below B w w' := by
  obtain ⟨i0, hi, hz0, hz1, hz2⟩ := infoB
  have HC := copy_any B b bs w h
  clear h
  go_enter Tryd.func42, Tryd.ntmps42
  go_wp2_with fail
  refine HC.mono ?_
  rintro e w1 ⟨rfl, ⟨hB, v, hbk, hown, hne⟩, hb1⟩
  clear HC
  have c0 : w1.cell? ⟨b, 0, none⟩ = some (.pointer (some ⟨b, 0, none⟩)) := by rw [Lib.cell_of_heap hbk]; rfl
  have c1 : w1.cell? ⟨b, 1, none⟩ = some v := by rw [Lib.cell_of_heap hbk]; rfl
  have hs1 := hb1.size
  go_wp2_with (at_builtin; refine Lib.wpList_append_own_string _ rfl _ _ 59 9 rfl B TU i0 Tryd.underlying59 Tryd.underlying9 hi hz0 hz1 hz2 _ _ _ rfl hown s rfl ?c3 ?c4 ?c5 ?_)
  case c3 => unfold maxLen; omega
  case c4 => omega
  case c5 => omega
  intro v' w2 hown' hgrow _
  have hlt := lt_of hbk
  have hb2 : w2.heap[b]? = some (.cells #[.pointer (some ⟨b, 0, none⟩), v] TP (0, 0)) := by
    rw [hgrow.block b hlt (fun e => hne e.symm)]
    exact hbk
  have d0 : w2.cell? ⟨b, 0, none⟩ = some (.pointer (some ⟨b, 0, none⟩)) := by rw [Lib.cell_of_heap hb2]; rfl
  have d1 : w2.cell? ⟨b, 1, none⟩ = some v := by rw [Lib.cell_of_heap hb2]; rfl
  have f1 : w2.frozen? ⟨b, 1, none⟩ = false := Lib.frozen_of_heap hb2 1
  obtain ⟨ao, n', cap, rfl⟩ : ∃ ao n' cap, v' = .slice ao n' cap := by
    rcases hown'.2 with ⟨hv, _⟩ | ⟨g, cap, cur, hv, _⟩
    · exact ⟨_, _, _, hv⟩
    · exact ⟨_, _, _, hv⟩
  go_wp2
  go_ret2
  refine ⟨rfl, ?_, ?_⟩
  · exact Lib.BuilderAt.put (T := TP) (e := TU) hB hb2 (bs' := bs ++ Lib.strCells s) (by simpa [Lib.strCells_length] using hown') neP
  · exact (hb1.grown hgrow (by omega) (fun k hk => (hown.lt k hk).1)).setCell (p := ⟨b, 1, none⟩) hB _

set_option maxHeartbeats 1000000 in
/-- What was written, as a text: at least one byte. -/
theorem text_any (B b : Nat) (l : List UInt8) (w : World) (h : Sb B b (Lib.byteCells l) w) (h0 : l ≠ []) :
    Calls Tryd.prog 37 #[.pointer (some ⟨b, 0, none⟩)] w fun e w' => e = .returned (.string ⟨l.toArray⟩) ∧ Below B w w' := by
  obtain ⟨p, hB, v, hbk, hown, hne⟩ : ∃ p, Lib.BuilderAt TP TU B b p (Lib.byteCells l) w := by
    rcases h with h | h
    · exact ⟨_, h⟩
    · exact ⟨_, h⟩
  have hl0 : l.length ≠ 0 := by simpa using h0
  rw [Lib.byteCells_length] at hown
  obtain ⟨g, cap, cur, rfl, hbg, hg, hnc, hcm, hcs, htake⟩ : ∃ g cap cur, v = .slice (some ⟨g, 0, none⟩) l.length cap ∧ B ≤ g ∧ w.heap[g]? = some (.cells cur TU (0, 0)) ∧ l.length ≤ cap ∧ cap ≤ maxLen ∧ cur.size = cap * 1 ∧ cur.toList.take (l.length * 1) = Lib.byteCells l := by
    rcases hown.2 with ⟨_, hz⟩ | ⟨g, cap, cur, hv, r⟩
    · exact absurd hz hl0
    · exact ⟨g, cap, cur, hv, r⟩
  have c1 : w.drew.cell? ⟨b, 1, none⟩ = some (.slice (some ⟨g, 0, none⟩) l.length cap) := by
    have : w.drew.heap[b]? = some (.cells #[p, .slice (some ⟨g, 0, none⟩) l.length cap] TP (0, 0)) := hbk
    rw [Lib.cell_of_heap this]; rfl
  have hg' : w.drew.heap[g]? = some (.cells cur 5 (0, 0)) := hg
  have hSD : (Builtin.unsafeSliceData_ #[59] 114 #[.slice (some ⟨g, 0, none⟩) l.length cap]).run Tryd.prog w.drew = .ok (.pointer (some ⟨g, 0, none⟩)) w.drew :=
    Lib.run_unsafeSliceData_row _ _ _ _ _ _ (by omega)
  have hUS : (Builtin.unsafeString_ #[114, 3] 9 #[.pointer (some ⟨g, 0, none⟩), .int .i64 l.length]).run Tryd.prog w.drew = .ok (.string ⟨l.toArray⟩) (w.drew.freeze ⟨g, 0, none⟩ l.length) := by
    refine Lib.run_unsafeString_row w.drew 114 3 9 5 Tryd.underlying114 (by kernel_rfl) g cur.size (by simp [World.shape?, hg']) l h0 (by omega) (by unfold maxLen at hcm; omega) ?_
    intro j x hx
    exact hown.cells (g := g) rfl j (.int .u8 x.toNat) (by simp [Lib.byteCells, hx])
  clear hg' hg hown hbk hcm hcs htake hnc hl0 h0
  go_enter Tryd.func37, Tryd.ntmps37
  go_wp2
  go_region
  all_goals (go_wp2; go_ret; exact ⟨rfl, Lib.below_freeze (Below.drew (Below.refl B w)) (p := ⟨g, 0, none⟩) hbg _⟩)

end Go.Proofs.YtlicdeppfhmfjabDoor.rcb

/- A line is written. -/
namespace Go.Proofs.YtlicdeppfhmfjabDoor.rcb
open Go.RowKit
set_option maxRecDepth 100000

theorem str_bytes (s : ByteArray) : Lib.strCells s = Lib.byteCells s.data.toList := rfl
theorem bytes_app (l m : List UInt8) : Lib.byteCells l ++ Lib.byteCells m = Lib.byteCells (l ++ m) := by simp [Lib.byteCells]
theorem bytes_one (c : UInt8) : [Value.int .u8 ((c.toNat : Nat) : Int)] = Lib.byteCells [c] := rfl

set_option maxHeartbeats 1000000 in
theorem line_any (B b : Nat) (l : List UInt8) (n t : ByteArray) (w : World) (h : Sb B b (Lib.byteCells l) w) (hl : l.length ≤ 1000) (hn : n.size ≤ 1000) (ht : t.size ≤ 1000) (hBw : B ≤ w.heap.size) :
    Calls Tryd.prog 35 #[.pointer (some ⟨b, 0, none⟩), .string n, .string t] w fun e w' => e = .returned (.tuple #[]) ∧ Sb B b (Lib.byteCells (l ++ rcp.line n.data.toList t.data.toList)) w' ∧ Below B w w' := by
  have hl' : (Lib.byteCells l).length = l.length := Lib.byteCells_length _
  have hn' : (Lib.strCells n).length = n.size := Lib.strCells_length _
  have ht' : (Lib.strCells t).length = t.size := Lib.strCells_length _
  have H1 := str_any B b (Lib.byteCells l) n w h (by omega) hBw
  clear h
  have HE : Hid (Lib.byteCells l ++ Lib.strCells n ++ [.int .u8 32] ++ Lib.strCells t ++ [.int .u8 10] = Lib.byteCells (l ++ rcp.line n.data.toList t.data.toList)) := by
    show _ = _
    rw [show [Value.int .u8 32] = Lib.byteCells [32] from rfl, show [Value.int .u8 10] = Lib.byteCells [10] from rfl, str_bytes, str_bytes, bytes_app, bytes_app, bytes_app, bytes_app]
    congr 1
    simp [rcp.line]
  go_enter Tryd.func35, Tryd.ntmps35
  go_wp2_with fail
  refine H1.mono ?_
  rintro e w1 ⟨rfl, h1, b1⟩
  clear H1
  have s1 := b1.size
  have H2 := byte_any B b _ 32 w1 h1.sb (by rw [List.length_append]; omega) (by omega)
  clear h1
  go_wp2_with fail
  refine H2.mono ?_
  rintro e w2 ⟨rfl, h2, b2⟩
  clear H2
  have s2 := b2.size
  have H3 := str_any B b _ t w2 h2.sb (by rw [List.length_append, List.length_append]; simp; omega) (by omega)
  clear h2
  go_wp2_with fail
  refine H3.mono ?_
  rintro e w3 ⟨rfl, h3, b3⟩
  clear H3
  have s3 := b3.size
  have H4 := byte_any B b _ 10 w3 h3.sb (by rw [List.length_append, List.length_append, List.length_append]; simp; omega) (by omega)
  clear h3
  go_wp2_with fail
  refine H4.mono ?_
  rintro e w4 ⟨rfl, h4, b4⟩
  clear H4
  rw [HE.out] at h4
  go_wp2_with fail
  go_end0
  exact ⟨rfl, h4.sb, ((b1.trans b2).trans b3).trans b4⟩

end Go.Proofs.YtlicdeppfhmfjabDoor.rcb

/- The paper's builder: what stays as it is. -/
namespace Go.Proofs.YtlicdeppfhmfjabDoor.rcb
open Go.RowKit
theorem own_next {w w' : World} {B : Nat} {e : TypeId} {k : Nat} {v : Value} {n : Nat} {xs : List Value} (h : w.ownsRow B e k v n xs) (hb : Below w.heap.size w w') : w'.ownsRow B e k v n xs := by
  refine ⟨h.1, ?_⟩
  rcases h.2 with hn | ⟨g, cap, cur, hv, hg, hc, rest⟩
  · exact .inl hn
  · exact .inr ⟨g, cap, cur, hv, hg, Blk.next hc hb, rest⟩
theorem at_next {B b : Nat} {p : Value} {bs : List Value} {w w' : World} (h : Lib.BuilderAt TP TU B b p bs w) (hb : Below w.heap.size w w') : Lib.BuilderAt TP TU B b p bs w' := by
  obtain ⟨h1, v, h2, h3, h4⟩ := h
  exact ⟨h1, v, Blk.next h2 hb, own_next h3 hb, h4⟩
theorem Sb.next {B b : Nat} {bs : List Value} {w w' : World} (h : Sb B b bs w) (hb : Below w.heap.size w w') : Sb B b bs w' := by
  rcases h with h | h
  · exact .inl (at_next h hb)
  · exact .inr (at_next h hb)
theorem Sb.fresh (w : World) : Sb w.heap.size w.heap.size (Lib.byteCells []) (w.alloc (.cells #[.pointer none, .slice none 0 0] 77)) := Lib.fresh_isBuilder TP TU w

set_option maxHeartbeats 1000000 in
theorem amount_any (B b : Nat) (l : List UInt8) (nm T : ByteArray) (n : Int) (w : World) (h : Sb B b (Lib.byteCells l) w) (hl : l.length ≤ 1000) (hn : nm.size ≤ 1000) (ht : T.size ≤ 1000) (hBw : B ≤ w.heap.size)
    (hC : Calls Tryd.prog 34 #[.int .i64 n] w fun e w' => e = .returned (.tuple #[.string T, .int .i64 0]) ∧ Below w.heap.size w w') :
    Calls Tryd.prog 33 #[.string nm, .int .i64 n, .pointer (some ⟨b, 0, none⟩)] w fun e w' => e = .returned (.tuple #[]) ∧ Sb B b (Lib.byteCells (l ++ rcp.line nm.data.toList T.data.toList)) w' ∧ Below B w w' := by
  have HS : Hid (Sb B b (Lib.byteCells l) w) := h
  clear h
  go_enter Tryd.func33, Tryd.ntmps33
  go_wp2_with fail
  refine hC.mono ?_
  rintro e w1 ⟨rfl, b1⟩
  have HL := line_any B b l nm T w1 (HS.out.next b1) hl hn ht (Nat.le_trans hBw b1.size)
  have HB1 : Hid (Below B w w1) := b1.mono hBw
  clear b1 hC HS
  go_wp2_with fail
  refine HL.mono ?_
  rintro e w2 ⟨rfl, h2, b2⟩
  have HB2 : Hid (Below B w w2) := HB1.out.trans b2
  have HS2 : Hid (Sb B b (Lib.byteCells (l ++ rcp.line nm.data.toList T.data.toList)) w2) := h2
  clear HL h2 b2 HB1
  go_wp2_with fail
  go_end0
  exact ⟨rfl, HS2.out, HB2.out⟩

end Go.Proofs.YtlicdeppfhmfjabDoor.rcb

/- Contracts of the library, laid at this dump in plain words: strings_Join, strings_Join_none. -/
namespace Go.Proofs
open Go.Shelf
def Tryd.lays156_ren : Go.Shelf.Ren := ⟨fun | 156 => 59 | 165 => 41 | 166 => 42 | 169 => 37 | 240 => 64 | 241 => 65 | 276 => 88 | 277 => 89 | n => n, fun | 31 => 112 | 9 => 9 | 3 => 3 | 4 => 4 | 0 => 0 | 20 => 20 | 72 => 75 | 76 => 57 | 70 => 73 | 37 => 59 | 75 => 56 | 127 => 114 | 164 => 144 | 5 => 5 | 80 => 81 | n => n, fun | n => n⟩
theorem Tryd.lays156 : Go.Proofs.Lays.n156 Tryd.prog Tryd.lays156_ren := {
  mixed := by kernel_rfl
  f156 := Tryd.func59.trans (congrArg some (by kernel_rfl))
  f165 := Tryd.func41.trans (congrArg some (by kernel_rfl))
  f166 := Tryd.func42.trans (congrArg some (by kernel_rfl))
  f169 := Tryd.func37.trans (congrArg some (by kernel_rfl))
  f240 := Tryd.func64.trans (congrArg some (by kernel_rfl))
  f241 := Tryd.func65.trans (congrArg some (by kernel_rfl))
  f276 := Tryd.func88.trans (congrArg some (by kernel_rfl))
  f277 := Tryd.func89.trans (congrArg some (by kernel_rfl))
  t0 := Tryd.underlying0
  a0 := Tryd.isAgg0
  z0 := Tryd.sizeOf0
  v0 := Tryd.zeroValue0
  t3 := Tryd.underlying3
  a3 := Tryd.isAgg3
  z3 := Tryd.sizeOf3
  v3 := Tryd.zeroValue3
  t4 := Tryd.underlying4
  a4 := Tryd.isAgg4
  z4 := Tryd.sizeOf4
  v4 := Tryd.zeroValue4
  t9 := Tryd.underlying9
  a9 := Tryd.isAgg9
  z9 := Tryd.sizeOf9
  v9 := Tryd.zeroValue9
  t20 := Tryd.underlying20
  a20 := Tryd.isAgg20
  z20 := Tryd.sizeOf20
  v20 := Tryd.zeroValue20
  t31 := Tryd.underlying112
  a31 := Tryd.isAgg112
  z31 := Tryd.sizeOf112
  v31 := Tryd.zeroValue112
  t37 := Tryd.underlying59
  a37 := Tryd.isAgg59
  z37 := Tryd.sizeOf59
  v37 := Tryd.zeroValue59
  t70 := Tryd.underlying73
  a70 := Tryd.isAgg73
  z70 := Tryd.sizeOf73
  v70 := Tryd.zeroValue73
  t72 := Tryd.underlying75
  a72 := Tryd.isAgg75
  z72 := Tryd.sizeOf75
  v72 := Tryd.zeroValue75
  t75 := Tryd.underlying56
  a75 := Tryd.isAgg56
  z75 := Tryd.sizeOf56
  v75 := Tryd.zeroValue56
  t76 := Tryd.underlying57
  a76 := Tryd.isAgg57
  z76 := Tryd.sizeOf57
  v76 := Tryd.zeroValue57
  t127 := Tryd.underlying114
  a127 := Tryd.isAgg114
  z127 := Tryd.sizeOf114
  v127 := Tryd.zeroValue114
  t164 := Tryd.underlying144
  a164 := Tryd.isAgg144
  z164 := Tryd.sizeOf144
  v164 := Tryd.zeroValue144 }
theorem Tryd.Builder_Extra_156 : Builder.Extra Tryd.prog Tryd.lays156_ren := {
  sizeBuilder := by kernel_rfl
  liesBuilder := by kernel_rfl
  t5 := Tryd.underlying5
  a5 := Tryd.isAgg5
  z5 := Tryd.sizeOf5
  v5 := Tryd.zeroValue5
  infoByte := by kernel_rfl
  cellsByte := by kernel_rfl
  sizeByte := by kernel_rfl
  neB5 := by decide }
open Go.RowKit in
theorem Tryd.strings_Join_none (a : Option Addr) (c : Nat) (sep : ByteArray) (w : World) :
    Calls Tryd.prog 59 #[.slice a 0 c, .string sep] w fun e w' => e = .returned (.string ⟨#[]⟩) ∧ w' = w := Any.strings_Join_none Tryd.lays156 Tryd.Builder_Extra_156 a c sep w
open Go.RowKit in
theorem Tryd.strings_Join (bk o c : Nat) (xs : List ByteArray) (sep : ByteArray) (w : World) (hcells : ∀ (j : Nat) x, xs[j]? = some x → w.cell? ⟨bk, o + j, none⟩ = some (.string x)) (hbk : bk < w.heap.size) (hN : xs.length ≤ 140737488355328) (hcap : xs.length ≤ c) (hlen : (Lib.join (xs.map (·.data.toList)) sep.data.toList).length ≤ 140737488355328) :
    Calls Tryd.prog 59 #[.slice (some ⟨bk, o, none⟩) xs.length c, .string sep] w fun e w' => e = .returned (.string ⟨(Lib.join (xs.map (·.data.toList)) sep.data.toList).toArray⟩) ∧ Below w.heap.size w w' := Any.strings_Join Tryd.lays156 Tryd.Builder_Extra_156 bk o c xs sep w hcells hbk hN hcap hlen
end Go.Proofs

/- Rows of texts that a call owns. -/
namespace Go.Proofs.YtlicdeppfhmfjabDoor.rcp
open Go.RowKit
set_option maxRecDepth 100000

def cellsS (l : List ByteArray) : List Value := l.map Value.string
theorem oneS (l : List ByteArray) : ∀ u ∈ cellsS l, u.oneCell' = true := fun u hu => by
  obtain ⟨s, _, rfl⟩ := List.mem_map.1 hu
  rfl
/-- Texts (of the kind T) that nobody else holds. -/
def Ls (T : TypeId) (w : World) (base : Nat) (v : Value) (l : List ByteArray) : Prop := w.ownsRow base T 1 v l.length (cellsS l)
theorem Ls.zero (T : TypeId) (w : World) (base : Nat) : Ls T w base (.slice none 0 0) [] := World.ownsRow_nil _ _ _ _
theorem Ls.alloc {T : TypeId} {w : World} {base : Nat} {v : Value} {l : List ByteArray} (h : Ls T w base v l) (o : Obj) : Ls T (w.alloc o) base v l := World.ownsRow.alloc h o
theorem Ls.next {T : TypeId} {w w' : World} {base : Nat} {v : Value} {l : List ByteArray} (h : Ls T w base v l) (hb : Below w.heap.size w w') : Ls T w' base v l := by
  refine ⟨h.1, ?_⟩
  rcases h.2 with hn | ⟨g, cap, cur, hv, hg, hc, rest⟩
  · exact .inl hn
  · exact .inr ⟨g, cap, cur, hv, hg, Blk.next hc hb, rest⟩
theorem Ls.row {T : TypeId} {w : World} {base : Nat} {v : Value} {l : List ByteArray} (h : Ls T w base v l) (h0 : 0 < l.length) : ∃ g cap, v = .slice (some ⟨g, 0, none⟩) l.length cap ∧ base ≤ g ∧ g < w.heap.size ∧ l.length ≤ cap ∧ ∀ i, i < l.length → w.cell? ⟨g, i, none⟩ = some (.string (l.getD i ByteArray.empty)) := by
  rcases h.2 with ⟨hv, hn⟩ | ⟨g, cap, cur, hv, hg, hc, h1, _⟩
  · omega
  · subst hv
    refine ⟨g, cap, rfl, hg, Blk.lt hc, h1, fun i hi => ?_⟩
    have e1 := World.ownsRow.cellAt h i (by omega)
    rw [e1]
    simp [cellsS, List.getD, hi]
theorem Ls.len {T : TypeId} {w : World} {base : Nat} {v : Value} {l : List ByteArray} (h : Ls T w base v l) : ∃ a cap, v = .slice a l.length cap := by
  rcases h.2 with ⟨hv, hn⟩ | ⟨g, cap, cur, hv, _⟩
  · exact ⟨none, 0, by rw [hn]; exact hv⟩
  · exact ⟨_, cap, hv⟩
/-- What is to be known of a kind T of texts, whose slices are S. -/
structure TextT (P : Program) (T S : TypeId) : Prop where
  info : (P.info? T).map (fun i => (i.zero, i.size, i.bytes)) = some (some (.string ByteArray.empty), 1, 16)
  under : P.underlying S = some (.slice T)
/-- One text is put behind the others. -/
theorem wp_str {P : Program} {T S : TypeId} (hP : TextT P T S) {w : World} {ops : Array Oper} {rest : List Oper} {o : Oper} {a : Act} {Q : Exit → Act → World → Prop} (hgd : o.guard = none) (s x : Operand)
    (ho : o.op = .call { callee := .builtin .append, args := #[s, x], argTypes := #[S, S] })
    (base G : Nat) (v : Value) (l : List ByteArray) (r : ByteArray) (hs : a.eval s = v) (hx : a.eval x = .slice (some ⟨G, 0, none⟩) 1 1) (hv : Ls T w base v l) (hu : w.cell? ⟨G, 0, none⟩ = some (.string r)) (hn : l.length ≤ 1000000) (hbase : base ≤ w.heap.size)
    (h : ∀ v' w', Ls T w' base v' (l ++ [r]) → w.grownBy w' v.ownBlock → wpList P ops Q rest (a.put o.dst v') w') : wpList P ops Q (o :: rest) a w := by
  obtain ⟨i0, hi, hz0, hz1, hz2⟩ := info_parts hP.info
  refine wpList_append_own w hgd s x S ho base T i0 (.string ByteArray.empty) 1 16 hP.under hi hz0 hz1 hz2 rfl (by decide) v l.length (cellsS l) hs hv ⟨G, 0, none⟩ 1 1 (cellsS [r]) hx rfl ?_ (oneS [r]) (by unfold maxLen; omega) (by omega) hbase ?_
  · intro j u hj
    match j, hj with
    | 0, hj => simp [cellsS] at hj; subst hj; simpa [Addr.add] using hu
    | j + 1, hj => simp [cellsS] at hj
  intro v' w' h1 h2 _
  refine h v' w' ?_ h2
  unfold Ls
  rw [List.length_append]
  unfold cellsS at *
  rw [List.map_append]
  exact h1

end Go.Proofs.YtlicdeppfhmfjabDoor.rcp

/- Twenty digits, four by four, in the program. -/
namespace Go.Proofs.YtlicdeppfhmfjabDoor.rcf
open Go.Proofs.YtlicdeppfhmfjabDoor.rcp (Ls wp_str TextT four)
open Go.RowKit
set_option maxRecDepth 100000
set_option linter.unusedVariables false

theorem textT : TextT Tryd.prog 9 112 := ⟨by kernel_rfl, Tryd.underlying112⟩
def szOf : Value → Nat
  | .string s => s.size
  | _ => 0
/-- The first k groups. -/
def grp (l : List UInt8) (k : Nat) : List (List UInt8) := (List.range k).map fun i => (l.drop (4 * i)).take 4
def lists (l : List ByteArray) : List (List UInt8) := l.map fun s => s.data.toList
theorem grp_snoc (l : List UInt8) (k : Nat) : grp l (k + 1) = grp l k ++ [(l.drop (4 * k)).take 4] := by
  unfold grp; rw [List.range_succ, List.map_append]; rfl
theorem lists_snoc (l : List ByteArray) (s : ByteArray) : lists (l ++ [s]) = lists l ++ [s.data.toList] := by unfold lists; rw [List.map_append]; rfl
theorem join_grp {l : List UInt8} (h : l.length = 20) : Lib.join (grp l 5) [32] = four l := by
  match l, h with
  | [a, b, c, d, e, f, g, i, j, l, m, n, o, p, q, r, s, t, u, v], _ => rfl
theorem ext_take (d : ByteArray) (k : Nat) : (d.extract 0 k).data.toList = d.data.toList.take k := by simp [ByteArray.data_extract]
theorem ext_drop (d : ByteArray) (k : Nat) : (d.extract k d.size).data.toList = d.data.toList.drop k := by
  simp [ByteArray.data_extract]
  exact List.take_of_length_le (by rw [List.length_drop, Array.length_toList]; exact Nat.le_refl _)

set_option maxHeartbeats 1000000 in
theorem fours_any (s : ByteArray) (w : World) (hs : s.size = 20) :
    Calls Tryd.prog 36 #[.string s] w fun e w' => e = .returned (.string ⟨(four s.data.toList).toArray⟩) ∧ Below w.heap.size w w' := by
  have HLN : Hid (s.data.toList.length = 20) := (Array.length_toList).trans hs
  have HS : Hid (s.size = 20) := hs
  clear hs
  go_enter Tryd.func36, Tryd.ntmps36
  go_wp2_with fail
  go_loopw [0, 3] (fun v0 v3 wr => ∃ (k : Nat) (D : ByteArray) (V : Value) (out : List ByteArray), k ≤ 5 ∧ D.size = 20 - 4 * k ∧ v0 = .string D ∧ V = v3 ∧ D.data.toList = s.data.toList.drop (4 * k) ∧ out.length = k ∧ lists out = grp s.data.toList k ∧ Ls 9 wr w.heap.size V out ∧ Below w.heap.size w wr) (fun v0 _ _ => szOf v0)
  case atStart => exact ⟨0, s, _, [], by decide, HS.out, rfl, rfl, rfl, rfl, rfl, Ls.zero _ _ _, Below.refl _ _⟩
  case round =>
    obtain ⟨k, D, V, out, hk, hD, rfl, hV, hDl, hol, hli, hls, hbel⟩ := hrel
    subst hV
    have HLS : Hid (Ls 9 wr w.heap.size V out) := hls
    have HDL : Hid (D.data.toList = s.data.toList.drop (4 * k)) := hDl
    have HLI : Hid (lists out = grp s.data.toList k) := hli
    have HBL : Hid (Below w.heap.size w wr) := hbel
    have HDS : Hid (D.size = 20 - 4 * k) := hD
    have HOL : Hid (out.length = k) := hol
    have hol6 : out.length ≤ 1000000 := by omega
    clear hls hDl hli hbel
    by_cases h5 : k = 5
    · have hne : D = ⟨#[]⟩ := by
        apply ByteArray.ext
        have : D.data.size = 0 := by show D.size = 0; omega
        exact Array.eq_empty_of_size_eq_zero this
      have HJ : Hid (∀ w', Below w.heap.size wr w' → True) := fun _ _ => trivial
      obtain ⟨g, cap, hV2, hg0, hg1, hcap, hcells⟩ := HLS.out.row (by omega)
      subst hV2 hne
      have HJN : Hid (Calls Tryd.prog 59 #[.slice (some ⟨g, 0, none⟩) out.length cap, .string ⟨#[32]⟩] wr fun e w' => e = .returned (.string ⟨(four s.data.toList).toArray⟩) ∧ Below wr.heap.size wr w') := by
        have hq : Lib.join (out.map (·.data.toList)) [32] = four s.data.toList := by
          have := HLI.out
          rw [h5] at this
          show Lib.join (lists out) [32] = _
          rw [this, join_grp HLN.out]
        have hfl : (four s.data.toList).length = 24 := rcp.four_len HLN.out
        have h := Tryd.strings_Join g 0 cap out ⟨#[32]⟩ wr (fun j x hx => by
          have hj : j < out.length := by
            rcases Nat.lt_or_ge j out.length with h | h
            · exact h
            · rw [List.getElem?_eq_none h] at hx; cases hx
          have := hcells j hj
          rw [List.getD_eq_getElem?_getD, hx] at this
          simpa using this) hg1 (by omega) hcap (by show (Lib.join (out.map (·.data.toList)) [32]).length ≤ _; rw [hq, hfl]; decide)
        have hq' : Lib.join (out.map (·.data.toList)) (⟨#[32]⟩ : ByteArray).data.toList = four s.data.toList := hq
        rw [hq'] at h
        exact h
      clear hcells hg0 hg1 hcap HLI HDL HDS HOL h5 hD hol hk
      go_wp2_with fail
      refine HJN.out.mono ?_
      rintro e w' ⟨rfl, hb⟩
      have HB2 : Hid (Below w.heap.size w w') := HBL.out.trans (hb.mono HBL.out.size)
      clear hb HJN
      go_wp2_with fail
      go_ret
      exact ⟨rfl, HB2.out⟩
    · have hD4 : 4 ≤ D.size := by omega
      have hne : D ≠ ⟨#[]⟩ := by rintro rfl; exact absurd hD4 (by decide)
      have hE : D.toList.isEmpty = false := by
        cases hx : D.toList.isEmpty with
        | false => rfl
        | true =>
          exfalso
          have h1 : D.toList = [] := List.isEmpty_iff.1 hx
          have h2 : D.data.toList = [] := by rw [← h1, ByteArray.toList_eq]
          have h3 : D.data.toList.length = D.size := Array.length_toList
          rw [h2] at h3
          simp at h3
          omega
      have HUA : Hid (∀ o, Ls 9 (wr.alloc o) w.heap.size V out) := fun o => HLS.out.alloc o
      have HBA : Hid (∀ o, Below w.heap.size w (wr.alloc o)) := fun o => HBL.out.alloc HBL.out.size o
      have HK : Hid (k < 5) := by show k < 5; omega
      clear hD hol hk h5
      go_wp2_with (first | (refine wp_str textT rfl _ _ rfl w.heap.size wr.heap.size V out (D.extract 0 4) rfl rfl (HUA.out _) ((Blk.new wr _ _).cell 0) hol6 (by have := HBL.out.size; simp; omega) ?_; intro v3 w3 h3 hg3; have HB3 : Hid (Below w.heap.size w w3) := tar.own_bel (HUA.out _) hg3 (HBA.out _) (Nat.le_refl _) (by have := HBL.out.size; simp; omega); have H3 : Hid (Ls 9 w3 w.heap.size v3 (out ++ [D.extract 0 4])) := h3; clear h3 hg3) | fail)
      go_roundw
      case rel =>
        refine ⟨k + 1, D.extract 4 D.size, v3, out ++ [D.extract 0 4], HK.out, ?_, rfl, rfl, ?_, ?_, ?_, H3.out, HB3.out⟩
        · have := HDS.out; rw [ByteArray.size_extract]; omega
        · rw [ext_drop, HDL.out, List.drop_drop]; congr 1
        · rw [List.length_append, HOL.out]; rfl
        · rw [lists_snoc, HLI.out, grp_snoc, ext_take, HDL.out]
      case measure => simp [szOf]; omega

end Go.Proofs.YtlicdeppfhmfjabDoor.rcf

/- Texts of digits: what flaw gives back. -/
namespace Go.Proofs.YtlicdeppfhmfjabDoor.check
open Go.RowKit

set_option maxHeartbeats 400000 in
theorem flaw_any (s : ByteArray) (w : World) :
    Calls Tryd.prog 44 #[.string s] w fun e w' => e = .returned (.int .i64 (flawR s.data.toList)) ∧ Below w.heap.size w w' := by
  have el := ByteArray.toList_eq s
  have ln := len_eq s
  by_cases h0 : s.size = 0
  · rw [flawR_size (.inl (by omega))]
    have e : (s.toList == []) = true := by rw [el, List.eq_nil_of_length_eq_zero (by omega : s.data.toList.length = 0)]; rfl
    clear el ln
    go_enter Tryd.func44, Tryd.ntmps44
    go_wp2
    go_ret
    exact ⟨rfl, Below.refl _ _⟩
  · have e : (s.toList == []) = false := by
      rw [el]; cases hl : s.data.toList with
      | nil => rw [hl] at ln; simp at ln; omega
      | cons a r => rfl
    by_cases h2 : 200 < s.size
    · rw [flawR_size (.inr (by omega))]
      have h3 : (200 : Int) < (s.size : Int) := by omega
      clear el ln
      go_enter Tryd.func44, Tryd.ntmps44
      go_wp2
      go_ret
      exact ⟨rfl, Below.refl _ _⟩
    · have h3 : ¬ (200 : Int) < (s.size : Int) := by omega
      have HS : Hid (¬ (s.data.toList.length = 0 ∨ 200 < s.data.toList.length)) := by intro h; omega
      clear el ln
      go_enter Tryd.func44, Tryd.ntmps44
      go_wp2
      go_loopw [] (fun wr => ∃ k : Nat, k ≤ s.size ∧ wr = w.iter s k ∧ allD (s.data.toList.take k) = true) (fun wr => s.size - wr.iterPos w.heap.size)
      case atStart => exact ⟨0, Nat.zero_le _, rfl, rfl⟩
      case round =>
        obtain ⟨k, hk, rfl, hok⟩ := hrel
        have HK : Hid (allD (s.data.toList.take k) = true) := hok
        clear hok
        by_cases hp : k < s.size
        · by_cases ha : (s[k]'hp).toNat < 128
          · have hnx : ∀ ty, (Instr.next (.pointer (some ⟨w.heap.size, 0, none⟩)) true ty).run Tryd.prog (w.iter s k) = _ := fun ty => run_next_ascii w s k ty hp ha
            have HT : Hid (s.data.toList.take (k + 1) = s.data.toList.take k ++ [s[k]]) := take_snoc s k hp
            have HN : Hid (isD s[k] = false → allD s.data.toList = false) := allD_take_no s k hp
            have HY : Hid (48 ≤ ((s[k].toNat : Nat) : Int) → ((s[k].toNat : Nat) : Int) ≤ 57 → isD s[k] = true) := fun a b => isD_yes a b
            have HL : Hid (((s[k].toNat : Nat) : Int) < 48 → isD s[k] = false) := fun a => isD_lo a
            have HH : Hid (57 < ((s[k].toNat : Nat) : Int) → isD s[k] = false) := fun a => isD_hi a
            clear ha
            generalize s[k] = c at *
            generalize hcc : ((c.toNat : Nat) : Int) = z at *
            clear hcc
            by_cases h1 : z < 48
            · go_wp2
              go_ret
              exact ⟨ret_int (flawR_no HS.out (HN.out (HL.out h1))).symm, iter_below _ _ _⟩
            · by_cases h2 : 57 < z
              · go_wp2
                go_ret
                exact ⟨ret_int (flawR_no HS.out (HN.out (HH.out h2))).symm, iter_below _ _ _⟩
              · go_wp2
                go_roundw
                case rel => exact ⟨k + 1, by omega, rfl, by rw [HT.out, allD_append, HK.out]; simp [allD, HY.out (by omega) (by omega)]⟩
                case measure => simp; omega
          · have hd := (decode_high s k hp (by omega)).1
            have hnx : ∀ ty, (Instr.next (.pointer (some ⟨w.heap.size, 0, none⟩)) true ty).run Tryd.prog (w.iter s k) = _ := fun ty => run_next_any w s k ty hp
            have HN : Hid (allD s.data.toList = false) := allD_take_no s k hp (isD_hi (by omega))
            clear ha
            have hd2 := decode_le s k
            generalize (Utf8.decode s k).1 = r at *
            generalize (Utf8.decode s k).2 = n at *
            go_wp2
            go_ret
            exact ⟨ret_int (flawR_no HS.out HN.out).symm, iter_below _ _ _⟩
        · have hnx : ∀ ty, (Instr.next (.pointer (some ⟨w.heap.size, 0, none⟩)) true ty).run Tryd.prog (w.iter s k) = _ := fun ty => run_next_end w s k ty hp
          go_wp2
          go_ret
          refine ⟨ret_int ?_, iter_below _ _ _⟩
          have := HK.out
          rw [List.take_of_length_le (by simp; omega)] at this
          exact (flawR_ok HS.out this).symm

theorem value_any (z : Int) (w : World) (h1 : 48 ≤ z) (h2 : z ≤ 57) :
    Calls Tryd.prog 91 #[.int .i32 z] w fun e w' => e = .returned (.int .i64 (z - 48)) ∧ w' = w := by
  go_enter Tryd.func91, Tryd.ntmps91
  go_wp2
  go_ret
  exact ⟨rfl, rfl⟩

end Go.Proofs.YtlicdeppfhmfjabDoor.check

/- The motions of a pentagon: what Mul and Inv give back. -/
namespace Go.Proofs.YtlicdeppfhmfjabDoor.check
open Go.RowKit

theorem flips_yes (n : Int) (w : World) (h : 5 ≤ n) :
    Calls Tryd.prog 69 #[.int .i64 n] w fun e w' => e = .returned (.bool true) ∧ w' = w := by
  go_enter Tryd.func69, Tryd.ntmps69
  go_wp2
  go_ret
  exact ⟨rfl, rfl⟩
theorem flips_no (n : Int) (w : World) (h : n < 5) :
    Calls Tryd.prog 69 #[.int .i64 n] w fun e w' => e = .returned (.bool false) ∧ w' = w := by
  have h1 : decide (5 ≤ n) = false := by simp; omega
  go_enter Tryd.func69, Tryd.ntmps69
  go_wp2
  go_ret
  exact ⟨rfl, rfl⟩

theorem mul_form (a b : Nat) (ha : a < 10) (hb : b < 10) : ((mulN a b : Nat) : Int) =
    if (a : Int) < 5 then (if (b : Int) < 5 then ((a : Int) + b) % 5 else 5 + ((a : Int) + b) % 5)
    else (if (b : Int) < 5 then 5 + ((a : Int) - (b : Int)) % 5 else ((a : Int) % 5 - (b : Int) % 5 + 5) % 5) := by
  unfold mulN
  split <;> split <;> (first | omega | (rw [if_pos (by omega), if_pos (by omega)]; omega) | (rw [if_pos (by omega), if_neg (by omega)]; omega) | (rw [if_neg (by omega), if_pos (by omega)]; omega) | (rw [if_neg (by omega), if_neg (by omega)]; omega))

set_option maxHeartbeats 400000 in
theorem then_ll (x y : Int) (w : World) (x0 : 0 ≤ x) (x1 : x < 5) (y0 : 0 ≤ y) (y1 : y < 5) :
    Calls Tryd.prog 68 #[.int .i64 x, .int .i64 y] w fun e w' => e = .returned (.int .i64 ((x + y) % 5)) ∧ w' = w := by
  go_enter Tryd.func68, Tryd.ntmps68
  go_wp2
  go_ret
  exact ⟨rfl, rfl⟩
set_option maxHeartbeats 400000 in
theorem then_lh (x y : Int) (w : World) (x0 : 0 ≤ x) (x1 : x < 5) (y0 : 5 ≤ y) (y1 : y < 10) :
    Calls Tryd.prog 68 #[.int .i64 x, .int .i64 y] w fun e w' => e = .returned (.int .i64 (5 + (x + y) % 5)) ∧ w' = w := by
  go_enter Tryd.func68, Tryd.ntmps68
  go_wp2
  go_ret
  exact ⟨rfl, rfl⟩
set_option maxHeartbeats 400000 in
theorem then_hl (x y : Int) (w : World) (x0 : 5 ≤ x) (x1 : x < 10) (y0 : 0 ≤ y) (y1 : y < 5) :
    Calls Tryd.prog 68 #[.int .i64 x, .int .i64 y] w fun e w' => e = .returned (.int .i64 (5 + (x - y) % 5)) ∧ w' = w := by
  have hd : decide (5 ≤ y) = false := by simp; omega
  go_enter Tryd.func68, Tryd.ntmps68
  go_wp2
  go_ret
  exact ⟨rfl, rfl⟩
set_option maxHeartbeats 400000 in
theorem then_hh (x y : Int) (w : World) (x0 : 5 ≤ x) (x1 : x < 10) (y0 : 5 ≤ y) (y1 : y < 10) :
    Calls Tryd.prog 68 #[.int .i64 x, .int .i64 y] w fun e w' => e = .returned (.int .i64 ((x % 5 - y % 5 + 5) % 5)) ∧ w' = w := by
  go_enter Tryd.func68, Tryd.ntmps68
  go_wp2
  go_ret
  exact ⟨rfl, rfl⟩

theorem then_any (a b : Nat) (w : World) (ha : a < 10) (hb : b < 10) :
    Calls Tryd.prog 68 #[.int .i64 (a : Int), .int .i64 (b : Int)] w fun e w' => e = .returned (.int .i64 ((mulN a b : Nat) : Int)) ∧ w' = w := by
  rw [mul_form a b ha hb]
  by_cases h1 : (a : Int) < 5
  · by_cases h2 : (b : Int) < 5
    · rw [if_pos h1, if_pos h2]; exact then_ll _ _ w (by omega) h1 (by omega) h2
    · rw [if_pos h1, if_neg h2]; exact then_lh _ _ w (by omega) h1 (by omega) (by omega)
  · by_cases h2 : (b : Int) < 5
    · rw [if_neg h1, if_pos h2]; exact then_hl _ _ w (by omega) (by omega) (by omega) h2
    · rw [if_neg h1, if_neg h2]; exact then_hh _ _ w (by omega) (by omega) (by omega) (by omega)

theorem undo_any (a : Nat) (w : World) (ha : a < 10) :
    Calls Tryd.prog 46 #[.int .i64 (a : Int)] w fun e w' => e = .returned (.int .i64 ((invN a : Nat) : Int)) ∧ w' = w := by
  by_cases h : a < 5
  · have e : ((invN a : Nat) : Int) = (5 - (a : Int)) % 5 := by unfold invN; rw [if_pos h]; omega
    rw [e]
    have x0 : (0 : Int) ≤ a := by omega
    have x1 : (a : Int) < 5 := by omega
    clear e h ha
    generalize (a : Int) = x at *
    go_enter Tryd.func46, Tryd.ntmps46
    go_wp2
    go_ret
    exact ⟨rfl, rfl⟩
  · have e : ((invN a : Nat) : Int) = (a : Int) := by unfold invN; rw [if_neg h]
    rw [e]
    have x1 : 5 ≤ (a : Int) := by omega
    clear e h ha
    generalize (a : Int) = x at *
    go_enter Tryd.func46, Tryd.ntmps46
    go_wp2
    go_ret
    exact ⟨rfl, rfl⟩

end Go.Proofs.YtlicdeppfhmfjabDoor.check

/- Where a digit comes to, and the motions of a text. -/
namespace Go.Proofs.YtlicdeppfhmfjabDoor.check
open Go.RowKit

/-- The table of the moves, in memory. -/
def MTab (w : World) : Prop := ∀ d, d < 10 → w.cell? ⟨6, d, none⟩ = some (.int .i64 ((mv1 d : Nat) : Int))
theorem MTab.below {w w' : World} (h : MTab w) (hb : Below w.heap.size w w') : MTab w' := fun d hd => by
  have h1 := h d hd
  rw [hb.cell (World.block_lt_of_cell? w _ h1)]; exact h1
theorem mtab_of {w : World} {name : String} (hg : Tryd.prog.globalNamed name = some 6) (h : Lib.TabIs Tryd.prog w name .i64 [1, 5, 7, 6, 2, 8, 3, 0, 9, 4]) : MTab w := by
  unfold Lib.TabIs World.var? at h
  rw [hg] at h
  simp only [Option.bind_some] at h
  intro d hd
  split at h
  · rename_i cs t fr hc
    have hcs := Option.some.inj h
    simp only [World.cell?, hc]
    rw [hcs]
    have : ∀ d, d < 10 → (List.map (fun z => Value.int .i64 z) [1, 5, 7, 6, 2, 8, 3, 0, 9, 4]).toArray[d]? = some (Value.int .i64 ((mv1 d : Nat) : Int)) := by
      intro d hd
      match d, hd with
      | 0, _ | 1, _ | 2, _ | 3, _ | 4, _ | 5, _ | 6, _ | 7, _ | 8, _ | 9, _ => rfl
    simpa using this d hd
  · cases h

set_option maxHeartbeats 400000 in
theorem moved_any (d place : Nat) (w : World) (hd : d < 10) (hp : place ≤ 1000) (ht : MTab w) :
    Calls Tryd.prog 90 #[.int .i64 (d : Int), .int .i64 (place : Int)] w fun e w' => e = .returned (.int .i64 ((mvN (place % 8) d : Nat) : Int)) ∧ w' = w := by
  have e8 : ((place : Nat) : Int) % 8 = ((place % 8 : Nat) : Int) := by omega
  have hm : place % 8 < 8 := Nat.mod_lt _ (by decide)
  have HT : Hid (MTab w) := ht
  clear ht
  generalize hq : place % 8 = q at *
  clear hq
  go_enter Tryd.func90, Tryd.ntmps90
  go_wp2_with fail
  go_loop [0, 7] (fun v i => ∃ k : Nat, k ≤ q ∧ i = .int .i64 (k : Int) ∧ v = .int .i64 ((mvN k d : Nat) : Int)) (fun _ i => q - (intOf i).toNat)
  case atStart => exact ⟨0, Nat.zero_le _, rfl, rfl⟩
  case round =>
    obtain ⟨k, hk, rfl, rfl⟩ := hrel
    have hx := mvN_lt k d hd
    have HS : Hid (mvN (k + 1) d = mv1 (mvN k d)) := rfl
    by_cases hlt : k < q
    · have hcell := HT.out (mvN k d) hx
      generalize mvN k d = x at *
      generalize mv1 x = y at *
      go_wp2_with fail
      go_round
      case rel => exact ⟨k + 1, by omega, by go_num, by rw [HS.out]⟩
      case measure => simp [intOf]; omega
    · have hkq : k = q := by omega
      rw [hkq]
      generalize hgx : mvN q d = x at *
      have HG : Hid (mvN q d = x) := hgx
      clear hkq hgx
      go_wp2_with fail
      go_ret
      exact ⟨by rw [HG.out]; rfl, rfl⟩

/-- Block g holds the n motions f. -/
def RowM (w : World) (g n : Nat) (f : Nat → Nat) : Prop := w.heap[g]? = some (.cells ((List.range n).map fun i => Value.int .i64 ((f i : Nat) : Int)).toArray 89 (0, 0))
variable {w w' : World} {g n : Nat} {f : Nat → Nat}
theorem RowM.cell (h : RowM w g n f) {i : Nat} (hi : i < n) : w.cell? ⟨g, i, none⟩ = some (.int .i64 ((f i : Nat) : Int)) := by unfold RowM at h; simp [World.cell?, h, hi]
theorem RowM.free (h : RowM w g n f) (i : Nat) : w.frozen? ⟨g, i, none⟩ = false := by unfold RowM at h; simp [World.frozen?, h]
def updM (f : Nat → Nat) (i v : Nat) : Nat → Nat := fun k => if k = i then v else f k
theorem RowM.set (h : RowM w g n f) (i v : Nat) : RowM (w.setCell ⟨g, i, none⟩ (.int .i64 ((v : Nat) : Int))) g n (updM f i v) := by
  unfold RowM at *
  simp only [World.setCell, Array.getElem?_modify, h, if_true, Option.map_some]
  congr 2
  simp only [Option.isSome_none, Bool.false_eq_true, if_false]
  apply Array.ext'
  simp only [Array.toList_setIfInBounds]
  apply List.ext_getElem?
  intro k
  by_cases hk : k < n
  · by_cases e : k = i
    · subst e; simp [updM, hk]
    · rw [List.getElem?_set_ne (by omega)]; simp [updM, hk, e]
  · rw [List.getElem?_eq_none (by simp; omega), List.getElem?_eq_none (by simp; omega)]
theorem rowM_made {w1 : World} {n g base : Nat} (h : w1.ownsRow base 89 1 (.slice (some ⟨g, 0, none⟩) n n) n (madeCells #[Value.int .i64 0] n).toList) : RowM w1 g n (fun _ => 0) := by
  rcases h.2 with ⟨h1, _⟩ | ⟨g', cap, cur, h1, _, h2, _, _, h3, h4⟩
  · cases h1
  · simp only [Value.slice.injEq, Option.some.injEq, Addr.mk.injEq] at h1
    obtain ⟨⟨rfl, -⟩, -, rfl⟩ := h1
    unfold RowM
    rw [h2]
    congr 2
    apply Array.ext'
    have e1 : cur.toList = (madeCells #[Value.int .i64 0] n).toList := by
      rw [← h4, List.take_of_length_le (by simp; omega)]
    rw [e1, toList_madeCells_one]
    apply List.ext_getElem?
    intro k
    by_cases hk : k < n
    · simp [hk]
    · rw [List.getElem?_eq_none (by simp; omega), List.getElem?_eq_none (by simp; omega)]
theorem info_motion : (Tryd.prog.info? 89).map (fun i => (i.zero, i.size, i.bytes)) = some (some (.int .i64 0), 1, 8) := by kernel_rfl

/-- What motions make, one behind the other. -/
def foldM (f : Nat → Nat) : Nat → Nat
  | 0 => 0
  | k + 1 => mulN (foldM f k) (f k)
theorem foldM_lt (f : Nat → Nat) (k : Nat) (h : ∀ j, j < k → f j < 10) : foldM f k < 10 := by
  induction k with
  | zero => exact (by decide : 0 < 10)
  | succ k ih => exact mul_lt _ (ih fun j hj => h j (by omega)) _ (h k (by omega))
theorem foldM_congr {f f' : Nat → Nat} (k : Nat) (h : ∀ j, j < k → f j = f' j) : foldM f k = foldM f' k := by
  induction k with
  | zero => rfl
  | succ k ih => simp only [foldM]; rw [ih fun j hj => h j (by omega), h k (by omega)]
/-- The motion of the digit at a place. -/
def motN (last : Nat) (l : List Nat) (j : Nat) : Nat := mvN ((last + j) % 8) (l.getD j 0)
theorem foldM_fold (last : Nat) (l : List Nat) : foldM (motN last l) l.length = foldN last 0 l := by
  induction l using list_snoc_ind with
  | h0 => rfl
  | h1 l d ih =>
    rw [foldN_append, List.length_append, List.length_singleton, foldM]
    have e1 : foldM (motN last (l ++ [d])) l.length = foldM (motN last l) l.length := foldM_congr _ fun j hj => by
      unfold motN; congr 1; simp [List.getD, List.getElem?_append_left hj]
    rw [e1, ih]
    show mulN _ (motN last (l ++ [d]) l.length) = mulN _ _
    congr 1
    unfold motN; congr 1; simp [List.getD]

set_option maxHeartbeats 400000 in
theorem follow_any (g n : Nat) (f : Nat → Nat) (w : World) (hr : RowM w g n f) (hf : ∀ j, j < n → f j < 10) (hn : n ≤ 200) :
    Calls Tryd.prog 66 #[.slice (some ⟨g, 0, none⟩) n n, .func (.func 68) #[] #[]] w fun e w' => e = .returned (.int .i64 ((foldM f n : Nat) : Int)) ∧ w' = w := by
  have HR : Hid (RowM w g n f ∧ ∀ j, j < n → f j < 10) := ⟨hr, hf⟩
  clear hr hf
  go_enter Tryd.func66, Tryd.ntmps66
  go_wp2_with fail
  go_loop [5, 10] (fun v i => ∃ k : Nat, k ≤ n ∧ i = .int .i64 (k : Int) ∧ v = .int .i64 ((foldM f k : Nat) : Int)) (fun _ i => n - (intOf i).toNat)
  case atStart => exact ⟨0, Nat.zero_le _, rfl, rfl⟩
  case round =>
    obtain ⟨k, hk, rfl, rfl⟩ := hrel
    have hx := foldM_lt f k fun j hj => HR.out.2 j (by omega)
    have HS : Hid (foldM f (k + 1) = mulN (foldM f k) (f k)) := rfl
    by_cases hlt : k < n
    · have hcell := HR.out.1.cell hlt
      have hy := HR.out.2 k hlt
      have HC := then_any (foldM f k) (f k) w hx hy
      generalize foldM f k = x at *
      generalize f k = y at *
      generalize mulN x y = z at *
      go_wp2_with fail
      refine HC.mono ?_
      rintro e w1 ⟨rfl, rfl⟩
      go_wp2_with fail
      go_round
      case rel => exact ⟨k + 1, by omega, by go_num, by rw [HS.out]⟩
      case measure => simp [intOf]; omega
    · have hkq : k = n := by omega
      rw [hkq]
      generalize hgx : foldM f n = x at *
      have HG : Hid (foldM f n = x) := hgx
      clear hkq hgx
      go_wp2_with fail
      go_ret
      exact ⟨by rw [HG.out]; rfl, rfl⟩

end Go.Proofs.YtlicdeppfhmfjabDoor.check

/- The motions of a text, and its sum. -/
namespace Go.Proofs.YtlicdeppfhmfjabDoor.check
open Go.RowKit

theorem below_set {B : Nat} {w w' : World} (h : Below B w w') (G i : Nat) (u : Value) (hG : B ≤ G) : Below B w (w'.setCell ⟨G, i, none⟩ u) := by
  refine ⟨h.os, h.tape, h.output, by simp [World.setCell]; exact h.size, fun k hk => ?_⟩
  rw [← h.block k hk]
  simp only [World.setCell, Array.getElem?_modify]
  rw [if_neg (by omega)]
theorem it_set {w : World} {I G : Nat} {o : Obj} (h : w.heap[I]? = some o) (i : Nat) (u : Value) (hne : G ≠ I) : (w.setCell ⟨G, i, none⟩ u).heap[I]? = some o := by
  simp only [World.setCell, Array.getElem?_modify]; rw [if_neg hne]; exact h
theorem iterPos_of {w : World} {I p : Nat} {s : ByteArray} (h : w.heap[I]? = some (.stringIter s p)) : w.iterPos I = p := by simp [World.iterPos, h]
theorem RowM.iter {w : World} {g n I : Nat} {f : Nat → Nat} {s : ByteArray} {k : Nat} (h : RowM w g n f) (hne : g ≠ I) : RowM (w.iterAt I s k) g n f := by
  unfold RowM at *
  rw [Lib.iterAt_other _ _ _ _ _ hne]; exact h
theorem RowM.alloc {w : World} {g n : Nat} {f : Nat → Nat} (h : RowM w g n f) (o : Obj) : RowM (w.alloc o) g n f := by
  unfold RowM at *
  have hlt : g < w.heap.size := by
    by_cases hh : g < w.heap.size
    · exact hh
    · rw [Array.getElem?_eq_none (by omega)] at h; cases h
  show (w.heap.push o)[g]? = _
  rw [Array.getElem?_push, if_neg (by omega)]; exact h

theorem rev_getD (s : ByteArray) (k j : Nat) (h : k < s.size) (hj : j + 1 + k = s.size) : (digs s.data.toList).reverse.getD j 0 = s[k].toNat - 48 := by
  have hl : (digs s.data.toList).length = s.size := by rw [digs_len, len_eq]
  rw [List.getD, List.getElem?_reverse (by omega), hl, show s.size - 1 - j = k by omega]
  simp only [digs, List.getElem?_map]
  rw [List.getElem?_eq_getElem (by simpa using h)]
  rfl

/-- What holds of the world while motions are laid: k digits are. -/
structure Lay (w wr : World) (s : ByteArray) (last I k : Nat) (f : Nat → Nat) : Prop where
  below : Below w.heap.size w wr
  row : RowM wr w.heap.size s.size f
  it : wr.heap[I]? = some (.stringIter s k)
  done : ∀ j, j < s.size → s.size ≤ j + k → f j = motN last (digs s.data.toList).reverse j

/-- The motions were given back, in a new row. -/
def MotPost (w : World) (s : ByteArray) (last : Nat) (e : Ending) (w' : World) : Prop :=
  ∃ f, e = .returned (.slice (some ⟨w.heap.size, 0, none⟩) s.size s.size) ∧ RowM w' w.heap.size s.size f ∧ (∀ j, j < s.size → f j = motN last (digs s.data.toList).reverse j) ∧ Below w.heap.size w w'

set_option maxHeartbeats 2000000 in
theorem motions_any (s : ByteArray) (last : Nat) (w : World) (h1 : 1 ≤ s.size) (h2 : s.size ≤ 200) (hd : allD s.data.toList = true) (hlast : last ≤ 1) (ht : MTab w) :
    Calls Tryd.prog 67 #[.string s, .int .i64 (last : Int)] w fun e w' => MotPost w s last e w' := by
  obtain ⟨i0, hi, hz0, hz1, hz2⟩ := info_parts info_motion
  have HD : Hid (allD s.data.toList = true) := hd
  have HT : Hid (MTab w) := ht
  clear hd ht
  go_enter Tryd.func67, Tryd.ntmps67
  go_wp2_with (first
    | (at_make; refine wpList_make_full _ rfl _ _ 121 rfl w.heap.size 89 i0 (.int .i64 0) 1 Tryd.underlying121 hi hz0 hz1 _ _ _ _ s.size rfl rfl ?c0 ?c1 ?c2 ?c3 ?c4 ?_))
  try (case c0 => first | rfl | (congr 1; omega))
  try (case c1 => first | rfl | (congr 1; omega))
  case c2 => first | omega | (rw [hz2]; omega)
  case c3 => unfold maxLen; omega
  try (case c4 => simp)
  intro w1 hown hgr
  have HR1 : Hid (RowM w1 w.heap.size s.size (fun _ => 0)) := rowM_made hown
  have HB1 : Hid (Below w.heap.size w w1) := (Below.refl _ _).grown hgr (Nat.le_refl _) (fun k hk => by cases hk)
  clear hown hgr hi hz0 hz1 hz2
  have hw1 : w.heap.size < w1.heap.size := by
    have h := HR1.out
    unfold RowM at h
    by_cases hh : w.heap.size < w1.heap.size
    · exact hh
    · rw [Array.getElem?_eq_none (by omega)] at h; cases h
  have HL0 : Hid (Lay w (w1.iter s 0) s last w1.heap.size 0 (fun _ => 0)) := ⟨HB1.out.alloc HB1.out.size _, HR1.out.alloc _, World.iter_heap w1 s 0, fun j h1 h2 => by omega⟩
  generalize hI : w1.heap.size = I at *
  have HI : Hid (w1.heap.size = I) := hI
  clear hI HR1 HB1
  go_wp2_with fail
  rw [HI.out]
  go_loopw [] (fun wr => ∃ (k : Nat) (f : Nat → Nat), k ≤ s.size ∧ Lay w wr s last I k f) (fun wr => s.size - wr.iterPos I)
  case atStart => exact ⟨0, _, Nat.zero_le _, HL0.out⟩
  case round =>
    obtain ⟨k, f, hk, hl⟩ := hrel
    have HP0 : Hid (wr.iterPos I = k) := iterPos_of hl.it
    by_cases hp : k < s.size
    · obtain ⟨hk1, hk2, hk3⟩ := take_parts s k hp HD.out
      have hcb := isD_bd hk2
      have ha : (s[k]'hp).toNat < 128 := by omega
      have hnx : ∀ ty, (Instr.next (.pointer (some ⟨I, 0, none⟩)) true ty).run Tryd.prog wr = _ := fun ty => Lib.run_next_ascii_at wr I s k ty hl.it hp ha
      obtain ⟨j, hj⟩ : ∃ j, j + 1 + k = s.size := ⟨s.size - 1 - k, by omega⟩
      have BN := Lib.below_iterAt hl.below (k := I) (by omega) s (k + 1)
      have IT := Lib.iterAt_heap wr I s k (k + 1) hl.it
      have RN := hl.row.iter (I := I) (s := s) (k := k + 1) (by omega)
      have HM : Hid (motN last (digs s.data.toList).reverse j = mvN ((last + j) % 8) (s[k].toNat - 48)) := by
        show _ = _
        unfold motN; rw [rev_getD s k j hp hj]
      have HDN : Hid (∀ i, i < s.size → s.size ≤ i + k → f i = motN last (digs s.data.toList).reverse i) := hl.done
      clear hk1 hk2 hk3 ha hl
      generalize hwn : wr.iterAt I s (k + 1) = wn at *
      clear hwn
      have r0 := RN.cell (i := j) (by omega)
      have f0 := RN.free j
      have hcz : ((s[k].toNat - 48 : Nat) : Int) = ((s[k].toNat : Nat) : Int) - 48 := by omega
      have HMV := moved_any (s[k].toNat - 48) (last + j) wn (by omega) (by omega) (HT.out.below BN)
      rw [hcz, Int.natCast_add] at HMV
      have HMV' : Hid (Calls Tryd.prog 90 #[.int .i64 (((s[k].toNat : Nat) : Int) - 48), .int .i64 ((last : Int) + (j : Int))] wn fun e w' => e = .returned (.int .i64 ((mvN ((last + j) % 8) (s[k].toNat - 48) : Nat) : Int)) ∧ w' = wn) := HMV
      have HLN : Hid (Lay w (wn.setCell ⟨w.heap.size, j, none⟩ (.int .i64 ((mvN ((last + j) % 8) (s[k].toNat - 48) : Nat) : Int))) s last I (k + 1) (updM f j (mvN ((last + j) % 8) (s[k].toNat - 48)))) := by
        refine ⟨below_set BN _ _ _ (Nat.le_refl _), RN.set _ _, it_set IT _ _ (by omega), fun i h1 h2 => ?_⟩
        unfold updM
        by_cases e : i = j
        · rw [if_pos e, e, HM.out]
        · rw [if_neg e]; exact HDN.out i h1 (by omega)
      clear BN IT RN HM HDN HMV hcz
      have ej : ((s.size : Int) - 1 - (k : Int)) = (j : Int) := by omega
      generalize ((mvN ((last + j) % 8) (s[k].toNat - 48) : Nat) : Int) = mv at *
      generalize ((f j : Nat) : Int) = old at *
      generalize updM f j (mvN ((last + j) % 8) (s[k].toNat - 48)) = f' at *
      generalize s[k] = c at *
      generalize hcc : ((c.toNat : Nat) : Int) = z at *
      clear hcc
      obtain ⟨z1, z2⟩ := hcb
      have hjs : (j : Int) < (s.size : Int) := by omega
      clear hj
      go_wp2_with fail
      refine (value_any _ _ z1 z2).mono ?_
      rintro e w' ⟨rfl, rfl⟩
      go_wp2_with fail
      refine HMV'.out.mono ?_
      rintro e w' ⟨rfl, rfl⟩
      go_wp2_with fail
      go_roundw
      case rel => exact ⟨k + 1, f', by omega, HLN.out⟩
      case measure =>
        rw [HP0.out, iterPos_of HLN.out.it]
        omega
    · have hnx : ∀ ty, (Instr.next (.pointer (some ⟨I, 0, none⟩)) true ty).run Tryd.prog wr = _ := fun ty => Lib.run_next_end_at wr I s k ty hl.it hp
      have HP : Hid (MotPost w s last (.returned (.slice (some ⟨w.heap.size, 0, none⟩) s.size s.size)) wr) := ⟨f, rfl, hl.row, fun j hj => hl.done j hj (by omega), hl.below⟩
      clear hl
      go_wp2_with fail
      go_ret
      exact HP.out

theorem motN_lt {last : Nat} {l : List Nat} (h : AllD l) {j : Nat} (hj : j < l.length) : motN last l j < 10 := by
  unfold motN
  exact mvN_lt _ _ (h _ (by simp [List.getD, List.getElem?_eq_getElem hj]))
set_option maxHeartbeats 400000 in
theorem sum_any (s : ByteArray) (last : Nat) (w : World) (h1 : 1 ≤ s.size) (h2 : s.size ≤ 200) (hd : allD s.data.toList = true) (hlast : last ≤ 1) (ht : MTab w) :
    Calls Tryd.prog 45 #[.string s, .int .i64 (last : Int)] w fun e w' => e = .returned (.int .i64 ((foldN last 0 (digs s.data.toList).reverse : Nat) : Int)) ∧ Below w.heap.size w w' := by
  have HM : Hid (Calls Tryd.prog 67 #[.string s, .int .i64 (last : Int)] w fun e w' => MotPost w s last e w') := motions_any s last w h1 h2 hd hlast ht
  have hL : (digs s.data.toList).reverse.length = s.size := by rw [List.length_reverse, digs_len, len_eq]
  have HK : Hid (∀ f, (∀ j, j < s.size → f j = motN last (digs s.data.toList).reverse j) → (∀ j, j < s.size → f j < 10) ∧ foldM f s.size = foldN last 0 (digs s.data.toList).reverse) := fun f hf => by
    refine ⟨fun j hj => by rw [hf j hj]; exact motN_lt (digs_ok hd).rev (by omega), ?_⟩
    rw [← foldM_fold, hL]
    exact foldM_congr _ hf
  clear hd ht hL
  go_enter Tryd.func45, Tryd.ntmps45
  go_wp2_with fail
  refine HM.out.mono ?_
  rintro e w1 ⟨f, rfl, hrow, hf, hb⟩
  obtain ⟨k1, k2⟩ := HK.out f hf
  have HF := follow_any w.heap.size s.size f w1 hrow k1 h2
  rw [k2] at HF
  have HFF : Hid (Calls Tryd.prog 66 #[.slice (some ⟨w.heap.size, 0, none⟩) s.size s.size, .func (.func 68) #[] #[]] w1 fun e w' => e = .returned (.int .i64 ((foldN last 0 (digs s.data.toList).reverse : Nat) : Int)) ∧ w' = w1) := HF
  have HB : Hid (Below w.heap.size w w1) := hb
  clear HF hrow hf hb k1 k2 HK HM
  go_wp2_with fail
  refine HFF.out.mono ?_
  rintro e w2 ⟨rfl, rfl⟩
  go_wp2_with fail
  go_ret
  exact ⟨rfl, HB.out⟩

end Go.Proofs.YtlicdeppfhmfjabDoor.check

/- What check.Digit and check.Good give back. -/
namespace Go.Proofs.YtlicdeppfhmfjabDoor.check
open Go.RowKit

set_option maxHeartbeats 400000 in
theorem digit_any (s : ByteArray) (w : World) (ht : MTab w) :
    Calls Tryd.prog 22 #[.string s] w fun e w' => e = .returned (.tuple #[.int .i64 (digitR s.data.toList), .int .i64 (flawR s.data.toList)]) ∧ Below w.heap.size w w' := by
  have HF := flaw_any s w
  by_cases h0 : flawR s.data.toList = 0
  · have e : digitR s.data.toList = ((invN (sumR s.data.toList 1) : Nat) : Int) := by unfold digitR; rw [if_pos h0]
    rw [e, h0]
    rw [h0] at HF
    obtain ⟨⟨l1, l2⟩, hd⟩ := flawR_zero h0
    rw [len_eq] at l1 l2
    have HU : Hid (∀ w, Calls Tryd.prog 46 #[.int .i64 ((sumR s.data.toList 1 : Nat) : Int)] w fun e w' => e = .returned (.int .i64 ((invN (sumR s.data.toList 1) : Nat) : Int)) ∧ w' = w) := fun w => undo_any _ w (sumR_lt hd 1)
    have HS : Hid (∀ w', Below w.heap.size w w' → Calls Tryd.prog 45 #[.string s, .int .i64 1] w' fun e w'' => e = .returned (.int .i64 ((sumR s.data.toList 1 : Nat) : Int)) ∧ Below w'.heap.size w' w'') := fun w' hb => sum_any s 1 w' l1 l2 hd (by omega) (ht.below hb)
    clear e h0 hd ht
    generalize ((invN (sumR s.data.toList 1) : Nat) : Int) = y at *
    generalize ((sumR s.data.toList 1 : Nat) : Int) = x at *
    go_enter Tryd.func22, Tryd.ntmps22
    go_wp2_with fail
    refine HF.mono ?_
    rintro e w1 ⟨rfl, hb⟩
    have HB : Hid (Below w.heap.size w w1) := hb
    clear hb HF
    go_wp2_with fail
    refine (HS.out _ HB.out).mono ?_
    rintro e w2 ⟨rfl, hb2⟩
    have HB2 : Hid (Below w.heap.size w w2) := HB.out.trans (hb2.mono HB.out.size)
    clear hb2
    go_wp2_with fail
    refine (HU.out _).mono ?_
    rintro e w3 ⟨rfl, rfl⟩
    go_wp2_with fail
    go_ret2
    exact ⟨rfl, HB2.out⟩
  · have e : digitR s.data.toList = 0 := by unfold digitR; rw [if_neg h0]
    rw [e]
    have hne : (flawR s.data.toList != 0) = true := by simpa using h0
    clear e h0 ht
    generalize flawR s.data.toList = f at *
    go_enter Tryd.func22, Tryd.ntmps22
    go_wp2_with fail
    refine HF.mono ?_
    rintro e w1 ⟨rfl, hb⟩
    clear HF
    go_wp2_with fail
    go_ret2
    exact ⟨rfl, hb⟩

set_option maxHeartbeats 400000 in
theorem good_any (s : ByteArray) (w : World) (ht : MTab w) :
    Calls Tryd.prog 24 #[.string s] w fun e w' => e = .returned (.bool (goodR s.data.toList)) ∧ Below w.heap.size w w' := by
  have HF := flaw_any s w
  by_cases h2 : 2 ≤ s.size
  · have h2' : (2 : Int) ≤ (s.size : Int) := by omega
    by_cases h0 : flawR s.data.toList = 0
    · have e : goodR s.data.toList = (sumR s.data.toList 0 == 0) := by unfold goodR; rw [len_eq, h0]; simp [h2]
      rw [e]
      rw [h0] at HF
      obtain ⟨⟨l1, l2⟩, hd⟩ := flawR_zero h0
      rw [len_eq] at l1 l2
      have HS : Hid (∀ w', Below w.heap.size w w' → Calls Tryd.prog 45 #[.string s, .int .i64 0] w' fun e w'' => e = .returned (.int .i64 ((sumR s.data.toList 0 : Nat) : Int)) ∧ Below w'.heap.size w' w'') := fun w' hb => sum_any s 0 w' l1 l2 hd (by omega) (ht.below hb)
      have e2 : (sumR s.data.toList 0 == 0) = (((sumR s.data.toList 0 : Nat) : Int) == 0) := by
        by_cases h : sumR s.data.toList 0 = 0
        · rw [h]; rfl
        · rw [beq_eq_false_iff_ne.2 h, beq_eq_false_iff_ne.2 (by omega)]
      rw [e2]
      clear e h0 hd ht e2
      generalize ((sumR s.data.toList 0 : Nat) : Int) = x at *
      go_enter Tryd.func24, Tryd.ntmps24
      go_wp2_with fail
      refine HF.mono ?_
      rintro e w1 ⟨rfl, hb⟩
      have HB : Hid (Below w.heap.size w w1) := hb
      clear hb HF
      go_wp2_with fail
      refine (HS.out _ HB.out).mono ?_
      rintro e w2 ⟨rfl, hb2⟩
      have HB2 : Hid (Below w.heap.size w w2) := HB.out.trans (hb2.mono HB.out.size)
      clear hb2
      go_wp2_with fail
      go_ret
      exact ⟨rfl, HB2.out⟩
    · have e : goodR s.data.toList = false := by unfold goodR; rw [beq_eq_false_iff_ne.2 h0]; simp
      rw [e]
      have hne : (flawR s.data.toList == 0) = false := by simpa using h0
      clear e h0 ht
      generalize flawR s.data.toList = f at *
      go_enter Tryd.func24, Tryd.ntmps24
      go_wp2_with fail
      refine HF.mono ?_
      rintro e w1 ⟨rfl, hb⟩
      clear HF
      go_wp2_with fail
      go_ret
      exact ⟨rfl, hb⟩
  · have e : goodR s.data.toList = false := by unfold goodR; rw [len_eq]; simp [h2]
    rw [e]
    have h2' : decide ((2 : Int) ≤ (s.size : Int)) = false := by simp; omega
    clear e HF ht
    go_enter Tryd.func24, Tryd.ntmps24
    go_wp2_with fail
    go_ret
    exact ⟨rfl, Below.refl _ _⟩

end Go.Proofs.YtlicdeppfhmfjabDoor.check

/- receipt.Number: what is asked of it. -/
namespace Go.Proofs.YtlicdeppfhmfjabDoor.rcp
open Go.RowKit

def KrNumber (w0 : World) : Prop := ∀ (W : World) (m : Int), Below w0.heap.size w0 W → (Lit.int .i64 m).wf = true → Calls Tryd.prog 9 #[.int .i64 m] W fun e w' => NumPost W m e w'

end Go.Proofs.YtlicdeppfhmfjabDoor.rcp

/- Contracts of the library, laid at this dump in plain words: strconv_Itoa, strconv_Itoa_small. -/
namespace Go.Proofs
open Go.Shelf
def Tryd.laysM171_ren : Go.Shelf.Ren := ⟨fun | 171 => 20 | 243 => 38 | 246 => 60 | 283 => 84 | 284 => 85 | 285 => 86 | 286 => 87 | 129 => 97 | 317 => 96 | 318 => 98 | 319 => 99 | 320 => 100 | 337 => 103 | 338 => 104 | n => n, fun | 3 => 3 | 9 => 9 | 2 => 2 | 4 => 4 | 171 => 139 | 0 => 0 | 53 => 98 | 37 => 59 | 5 => 5 | 173 => 142 | 212 => 155 | 51 => 60 | 20 => 20 | 213 => 156 | 46 => 82 | 232 => 164 | 233 => 165 | n => n, fun | 17 => 4 | 18 => 7 | 19 => 8 | n => n⟩
theorem Tryd.laysM171 : Go.Proofs.LaysM.n171 Tryd.prog Tryd.laysM171_ren := {
  mixed := by kernel_rfl
  f129 := Tryd.func97.trans (congrArg some (by kernel_rfl))
  f171 := Tryd.func20.trans (congrArg some (by kernel_rfl))
  f243 := Tryd.func38.trans (congrArg some (by kernel_rfl))
  f246 := Tryd.func60.trans (congrArg some (by kernel_rfl))
  f283 := Tryd.func84.trans (congrArg some (by kernel_rfl))
  f284 := Tryd.func85.trans (congrArg some (by kernel_rfl))
  f285 := Tryd.func86.trans (congrArg some (by kernel_rfl))
  f286 := Tryd.func87.trans (congrArg some (by kernel_rfl))
  f317 := Tryd.func96.trans (congrArg some (by kernel_rfl))
  f318 := Tryd.func98.trans (congrArg some (by kernel_rfl))
  f319 := Tryd.func99.trans (congrArg some (by kernel_rfl))
  f320 := Tryd.func100.trans (congrArg some (by kernel_rfl))
  f337 := Tryd.func103.trans (congrArg some (by kernel_rfl))
  f338 := Tryd.func104.trans (congrArg some (by kernel_rfl))
  t0 := Tryd.underlying0
  a0 := Tryd.isAgg0
  z0 := Tryd.sizeOf0
  v0 := Tryd.zeroValue0
  t2 := Tryd.underlying2
  a2 := Tryd.isAgg2
  z2 := Tryd.sizeOf2
  v2 := Tryd.zeroValue2
  t3 := Tryd.underlying3
  a3 := Tryd.isAgg3
  z3 := Tryd.sizeOf3
  v3 := Tryd.zeroValue3
  t4 := Tryd.underlying4
  a4 := Tryd.isAgg4
  z4 := Tryd.sizeOf4
  v4 := Tryd.zeroValue4
  t5 := Tryd.underlying5
  a5 := Tryd.isAgg5
  z5 := Tryd.sizeOf5
  v5 := Tryd.zeroValue5
  t9 := Tryd.underlying9
  a9 := Tryd.isAgg9
  z9 := Tryd.sizeOf9
  v9 := Tryd.zeroValue9
  t20 := Tryd.underlying20
  a20 := Tryd.isAgg20
  z20 := Tryd.sizeOf20
  v20 := Tryd.zeroValue20
  t37 := Tryd.underlying59
  a37 := Tryd.isAgg59
  z37 := Tryd.sizeOf59
  v37 := Tryd.zeroValue59
  t46 := Tryd.underlying82
  a46 := Tryd.isAgg82
  z46 := Tryd.sizeOf82
  v46 := Tryd.zeroValue82
  t51 := Tryd.underlying60
  a51 := Tryd.isAgg60
  z51 := Tryd.sizeOf60
  v51 := Tryd.zeroValue60
  t53 := Tryd.underlying98
  a53 := Tryd.isAgg98
  z53 := Tryd.sizeOf98
  v53 := Tryd.zeroValue98
  t171 := Tryd.underlying139
  a171 := Tryd.isAgg139
  z171 := Tryd.sizeOf139
  v171 := Tryd.zeroValue139
  t173 := Tryd.underlying142
  a173 := Tryd.isAgg142
  z173 := Tryd.sizeOf142
  v173 := Tryd.zeroValue142
  t212 := Tryd.underlying155
  a212 := Tryd.isAgg155
  z212 := Tryd.sizeOf155
  v212 := Tryd.zeroValue155
  t213 := Tryd.underlying156
  a213 := Tryd.isAgg156
  z213 := Tryd.sizeOf156
  t232 := Tryd.underlying164
  a232 := Tryd.isAgg164
  z232 := Tryd.sizeOf164
  v232 := Tryd.zeroValue164
  t233 := Tryd.underlying165
  a233 := Tryd.isAgg165
  z233 := Tryd.sizeOf165
  v233 := Tryd.zeroValue165
  g17 := by kernel_rfl
  g18 := by kernel_rfl
  g19 := by kernel_rfl
  i0 := by kernel_rfl
  i2 := by kernel_rfl
  i3 := by kernel_rfl
  i4 := by kernel_rfl
  i5 := by kernel_rfl
  i9 := by kernel_rfl
  i20 := by kernel_rfl
  i37 := by kernel_rfl
  i46 := by kernel_rfl
  i51 := by kernel_rfl
  i53 := by kernel_rfl
  i171 := by kernel_rfl
  i173 := by kernel_rfl
  i212 := by kernel_rfl
  i232 := by kernel_rfl
  i233 := by kernel_rfl
  m17 := by kernel_rfl
  m18 := by kernel_rfl
  m19 := by kernel_rfl }
open Go.RowKit Go.Sort Go.Lib in
theorem Tryd.strconv_Itoa (n : Int) (h0 : -9223372036854775808 ≤ n) (h1 : n ≤ 9223372036854775807) (w : World) (htab : Lib.TabIs Tryd.prog w "internal/strconv.uint64pow10" .u64 Lib.pow10Tab) :
    Calls Tryd.prog 20 #[.int .i64 n] w fun e w' => e = .returned (.string ⟨(Lib.itoa n).toArray⟩) ∧ ∃ k os, w' = grow (w.drewN k) os := Any.strconv_Itoa Tryd.laysM171 n h0 h1 w htab
def Tryd.lays171_ren : Go.Shelf.Ren := ⟨fun | 171 => 20 | 243 => 38 | 246 => 60 | 283 => 84 | 284 => 85 | 285 => 86 | 286 => 87 | 129 => 97 | 317 => 96 | 318 => 98 | 319 => 99 | 320 => 100 | 337 => 103 | 338 => 104 | n => n, fun | 3 => 3 | 9 => 9 | 2 => 2 | 4 => 4 | 171 => 139 | 0 => 0 | 53 => 98 | 37 => 59 | 5 => 5 | 173 => 142 | 212 => 155 | 51 => 60 | 20 => 20 | 213 => 156 | 46 => 82 | 232 => 164 | 233 => 165 | n => n, fun | 17 => 4 | 18 => 7 | 19 => 8 | n => n⟩
theorem Tryd.lays171 : Go.Proofs.Lays.n171 Tryd.prog Tryd.lays171_ren := {
  mixed := by kernel_rfl
  f129 := Tryd.func97.trans (congrArg some (by kernel_rfl))
  f171 := Tryd.func20.trans (congrArg some (by kernel_rfl))
  f243 := Tryd.func38.trans (congrArg some (by kernel_rfl))
  f246 := Tryd.func60.trans (congrArg some (by kernel_rfl))
  f283 := Tryd.func84.trans (congrArg some (by kernel_rfl))
  f284 := Tryd.func85.trans (congrArg some (by kernel_rfl))
  f285 := Tryd.func86.trans (congrArg some (by kernel_rfl))
  f286 := Tryd.func87.trans (congrArg some (by kernel_rfl))
  f317 := Tryd.func96.trans (congrArg some (by kernel_rfl))
  f318 := Tryd.func98.trans (congrArg some (by kernel_rfl))
  f319 := Tryd.func99.trans (congrArg some (by kernel_rfl))
  f320 := Tryd.func100.trans (congrArg some (by kernel_rfl))
  f337 := Tryd.func103.trans (congrArg some (by kernel_rfl))
  f338 := Tryd.func104.trans (congrArg some (by kernel_rfl))
  t0 := Tryd.underlying0
  a0 := Tryd.isAgg0
  z0 := Tryd.sizeOf0
  v0 := Tryd.zeroValue0
  t2 := Tryd.underlying2
  a2 := Tryd.isAgg2
  z2 := Tryd.sizeOf2
  v2 := Tryd.zeroValue2
  t3 := Tryd.underlying3
  a3 := Tryd.isAgg3
  z3 := Tryd.sizeOf3
  v3 := Tryd.zeroValue3
  t4 := Tryd.underlying4
  a4 := Tryd.isAgg4
  z4 := Tryd.sizeOf4
  v4 := Tryd.zeroValue4
  t5 := Tryd.underlying5
  a5 := Tryd.isAgg5
  z5 := Tryd.sizeOf5
  v5 := Tryd.zeroValue5
  t9 := Tryd.underlying9
  a9 := Tryd.isAgg9
  z9 := Tryd.sizeOf9
  v9 := Tryd.zeroValue9
  t20 := Tryd.underlying20
  a20 := Tryd.isAgg20
  z20 := Tryd.sizeOf20
  v20 := Tryd.zeroValue20
  t37 := Tryd.underlying59
  a37 := Tryd.isAgg59
  z37 := Tryd.sizeOf59
  v37 := Tryd.zeroValue59
  t46 := Tryd.underlying82
  a46 := Tryd.isAgg82
  z46 := Tryd.sizeOf82
  v46 := Tryd.zeroValue82
  t51 := Tryd.underlying60
  a51 := Tryd.isAgg60
  z51 := Tryd.sizeOf60
  v51 := Tryd.zeroValue60
  t53 := Tryd.underlying98
  a53 := Tryd.isAgg98
  z53 := Tryd.sizeOf98
  v53 := Tryd.zeroValue98
  t171 := Tryd.underlying139
  a171 := Tryd.isAgg139
  z171 := Tryd.sizeOf139
  v171 := Tryd.zeroValue139
  t173 := Tryd.underlying142
  a173 := Tryd.isAgg142
  z173 := Tryd.sizeOf142
  v173 := Tryd.zeroValue142
  t212 := Tryd.underlying155
  a212 := Tryd.isAgg155
  z212 := Tryd.sizeOf155
  v212 := Tryd.zeroValue155
  t213 := Tryd.underlying156
  a213 := Tryd.isAgg156
  z213 := Tryd.sizeOf156
  t232 := Tryd.underlying164
  a232 := Tryd.isAgg164
  z232 := Tryd.sizeOf164
  v232 := Tryd.zeroValue164
  t233 := Tryd.underlying165
  a233 := Tryd.isAgg165
  z233 := Tryd.sizeOf165
  v233 := Tryd.zeroValue165
  g17 := by kernel_rfl
  g18 := by kernel_rfl
  g19 := by kernel_rfl }
open Go.RowKit Go.Sort Go.Lib in
theorem Tryd.strconv_Itoa_small (i : Nat) (hi : i < 100) (w : World) :
    Calls Tryd.prog 20 #[.int .i64 i] w fun e w' => e = .returned (.string ⟨(Lib.decDigits i).toArray⟩) ∧ w' = w := Any.strconv_Itoa_small Tryd.lays171 i hi w
end Go.Proofs

/- Contracts of the library, laid at this dump in plain words: strings_Repeat. -/
namespace Go.Proofs
open Go.Shelf
def Tryd.lays105_ren : Go.Shelf.Ren := ⟨fun | 105 => 21 | 212 => 39 | 99 => 40 | 165 => 41 | 166 => 42 | 170 => 43 | 169 => 37 | 263 => 61 | 264 => 62 | 206 => 63 | 240 => 64 | 241 => 65 | 276 => 88 | 277 => 89 | n => n, fun | 9 => 9 | 3 => 3 | 4 => 4 | 20 => 20 | 0 => 0 | 46 => 82 | 109 => 83 | 5 => 5 | 72 => 75 | 76 => 57 | 51 => 60 | 146 => 116 | 53 => 98 | 148 => 118 | 70 => 73 | 37 => 59 | 75 => 56 | 127 => 114 | 164 => 144 | 80 => 81 | n => n, fun | n => n⟩
theorem Tryd.lays105 : Go.Proofs.Lays.n105 Tryd.prog Tryd.lays105_ren := {
  mixed := by kernel_rfl
  f99 := Tryd.func40.trans (congrArg some (by kernel_rfl))
  f105 := Tryd.func21.trans (congrArg some (by kernel_rfl))
  f165 := Tryd.func41.trans (congrArg some (by kernel_rfl))
  f166 := Tryd.func42.trans (congrArg some (by kernel_rfl))
  f169 := Tryd.func37.trans (congrArg some (by kernel_rfl))
  f170 := Tryd.func43.trans (congrArg some (by kernel_rfl))
  f206 := Tryd.func63.trans (congrArg some (by kernel_rfl))
  f212 := Tryd.func39.trans (congrArg some (by kernel_rfl))
  f240 := Tryd.func64.trans (congrArg some (by kernel_rfl))
  f241 := Tryd.func65.trans (congrArg some (by kernel_rfl))
  f263 := Tryd.func61.trans (congrArg some (by kernel_rfl))
  f264 := Tryd.func62.trans (congrArg some (by kernel_rfl))
  f276 := Tryd.func88.trans (congrArg some (by kernel_rfl))
  f277 := Tryd.func89.trans (congrArg some (by kernel_rfl))
  t0 := Tryd.underlying0
  a0 := Tryd.isAgg0
  z0 := Tryd.sizeOf0
  v0 := Tryd.zeroValue0
  t3 := Tryd.underlying3
  a3 := Tryd.isAgg3
  z3 := Tryd.sizeOf3
  v3 := Tryd.zeroValue3
  t4 := Tryd.underlying4
  a4 := Tryd.isAgg4
  z4 := Tryd.sizeOf4
  v4 := Tryd.zeroValue4
  t5 := Tryd.underlying5
  a5 := Tryd.isAgg5
  z5 := Tryd.sizeOf5
  v5 := Tryd.zeroValue5
  t9 := Tryd.underlying9
  a9 := Tryd.isAgg9
  z9 := Tryd.sizeOf9
  v9 := Tryd.zeroValue9
  t20 := Tryd.underlying20
  a20 := Tryd.isAgg20
  z20 := Tryd.sizeOf20
  v20 := Tryd.zeroValue20
  t37 := Tryd.underlying59
  a37 := Tryd.isAgg59
  z37 := Tryd.sizeOf59
  v37 := Tryd.zeroValue59
  t46 := Tryd.underlying82
  a46 := Tryd.isAgg82
  z46 := Tryd.sizeOf82
  v46 := Tryd.zeroValue82
  t51 := Tryd.underlying60
  a51 := Tryd.isAgg60
  z51 := Tryd.sizeOf60
  v51 := Tryd.zeroValue60
  t53 := Tryd.underlying98
  a53 := Tryd.isAgg98
  z53 := Tryd.sizeOf98
  v53 := Tryd.zeroValue98
  t70 := Tryd.underlying73
  a70 := Tryd.isAgg73
  z70 := Tryd.sizeOf73
  v70 := Tryd.zeroValue73
  t72 := Tryd.underlying75
  a72 := Tryd.isAgg75
  z72 := Tryd.sizeOf75
  v72 := Tryd.zeroValue75
  t75 := Tryd.underlying56
  a75 := Tryd.isAgg56
  z75 := Tryd.sizeOf56
  v75 := Tryd.zeroValue56
  t76 := Tryd.underlying57
  a76 := Tryd.isAgg57
  z76 := Tryd.sizeOf57
  v76 := Tryd.zeroValue57
  t109 := Tryd.underlying83
  a109 := Tryd.isAgg83
  z109 := Tryd.sizeOf83
  v109 := Tryd.zeroValue83
  t127 := Tryd.underlying114
  a127 := Tryd.isAgg114
  z127 := Tryd.sizeOf114
  v127 := Tryd.zeroValue114
  t146 := Tryd.underlying116
  a146 := Tryd.isAgg116
  z146 := Tryd.sizeOf116
  v146 := Tryd.zeroValue116
  t148 := Tryd.underlying118
  a148 := Tryd.isAgg118
  z148 := Tryd.sizeOf118
  v148 := Tryd.zeroValue118
  t164 := Tryd.underlying144
  a164 := Tryd.isAgg144
  z164 := Tryd.sizeOf144
  v164 := Tryd.zeroValue144 }
theorem Tryd.Builder_Extra_105 : Builder.Extra Tryd.prog Tryd.lays105_ren := {
  sizeBuilder := by kernel_rfl
  liesBuilder := by kernel_rfl
  t5 := Tryd.underlying5
  a5 := Tryd.isAgg5
  z5 := Tryd.sizeOf5
  v5 := Tryd.zeroValue5
  infoByte := by kernel_rfl
  cellsByte := by kernel_rfl
  sizeByte := by kernel_rfl
  neB5 := by decide }
open Go.RowKit Go.Lib in
theorem Tryd.strings_Repeat (s : ByteArray) (c : Nat) (w : World) (hc : c ≤ 9223372036854775807) (hlen : s.size * c ≤ 140737488355328) :
    Calls Tryd.prog 21 #[.string s, .int .i64 c] w fun e w' => e = .returned (.string ⟨(Lib.repeatL s.data.toList c).toArray⟩) ∧ Below w.heap.size w w' := Any.strings_Repeat Tryd.lays105 Tryd.Builder_Extra_105 s c w hc hlen
end Go.Proofs

/- A meter's number, in the program. -/
namespace Go.Proofs.YtlicdeppfhmfjabDoor.rcp
open Go.Proofs.YtlicdeppfhmfjabDoor.check (digitR MTab digit_any flawR)
open Go.RowKit
set_option maxRecDepth 100000
set_option linter.unusedVariables false

theorem rep_noughts (k : Nat) : Lib.repeatL [48] k = List.replicate k 48 := by
  induction k with
  | zero => rfl
  | succ k ih => simp [Lib.repeatL, List.replicate_succ] at *; exact ih
theorem dec_len2 : ∀ m : Nat, m < 50 → (Lib.decDigits m).length = (if m < 10 then 1 else 2) := by decide +kernel
theorem digit_bd : ∀ m : Nat, m < 50 → 0 ≤ digitR (pad m 10) ∧ digitR (pad m 10) < 10 := by decide +kernel
theorem itoa_2 (n : Int) (w : World) (h0 : 0 ≤ n) (h1 : n < 100) :
    Calls Tryd.prog 20 #[.int .i64 n] w fun e w' => e = .returned (.string ⟨(Lib.decDigits n.toNat).toArray⟩) ∧ w' = w := by
  obtain ⟨i, rfl⟩ := Int.eq_ofNat_of_zero_le h0
  exact Tryd.strconv_Itoa_small i (by omega) w

set_option maxHeartbeats 1000000 in
theorem number_abs (m d : Nat) (f : Int) (X Y Z PX : ByteArray) (w : World) (hm : m ≤ 49) (hX : X.size = (if m < 10 then 1 else 2)) (hY : Y.size ≤ 10) (hZ : Z.size ≤ 10) (hPX : PX = Y ++ X)
    (hI : ∀ w, Calls Tryd.prog 15 #[.int .i64 (m : Int)] w fun e w' => e = .returned (.bool true) ∧ Below w.heap.size w w')
    (hA : ∀ w, Calls Tryd.prog 20 #[.int .i64 (m : Int)] w fun e w' => e = .returned (.string X) ∧ w' = w)
    (hR : ∀ (w : World) (k : Int), k = ((10 - X.size : Nat) : Int) → Calls Tryd.prog 21 #[.string ⟨#[48]⟩, .int .i64 k] w fun e w' => e = .returned (.string Y) ∧ Below w.heap.size w w')
    (hD : ∀ w', Below w.heap.size w w' → Calls Tryd.prog 22 #[.string PX] w' fun e w'' => e = .returned (.tuple #[.int .i64 (d : Int), .int .i64 f]) ∧ Below w'.heap.size w' w'')
    (hB : ∀ w, Calls Tryd.prog 20 #[.int .i64 (d : Int)] w fun e w' => e = .returned (.string Z) ∧ w' = w) :
    Calls Tryd.prog 9 #[.int .i64 (m : Int)] w fun e w' => e = .returned (.tuple #[.string (PX ++ Z), .int .i64 0]) ∧ Below w.heap.size w w' := by
  have HI : Hid (∀ w, Calls Tryd.prog 15 #[.int .i64 (m : Int)] w fun e w' => e = .returned (.bool true) ∧ Below w.heap.size w w') := hI
  have HA : Hid (∀ w, Calls Tryd.prog 20 #[.int .i64 (m : Int)] w fun e w' => e = .returned (.string X) ∧ w' = w) := hA
  have HR : Hid (∀ (w : World) (k : Int), k = ((10 - X.size : Nat) : Int) → Calls Tryd.prog 21 #[.string ⟨#[48]⟩, .int .i64 k] w fun e w' => e = .returned (.string Y) ∧ Below w.heap.size w w') := hR
  have HD : Hid (∀ w', Below w.heap.size w w' → Calls Tryd.prog 22 #[.string (Y ++ X)] w' fun e w'' => e = .returned (.tuple #[.int .i64 (d : Int), .int .i64 f]) ∧ Below w'.heap.size w' w'') := hPX ▸ hD
  have HB : Hid (∀ w, Calls Tryd.prog 20 #[.int .i64 (d : Int)] w fun e w' => e = .returned (.string Z) ∧ w' = w) := hB
  have hX2 : X.size ≤ 2 := by split at hX <;> omega
  have hw : IntKind.i64.wrap (10 - (X.size : Int)) = 10 - (X.size : Int) := by rw [IntKind.wrap_i64]; omega
  have HK : Hid (10 - (X.size : Int) = ((10 - X.size : Nat) : Int)) := by show _ = _; omega
  have hs1 : ¬ (9223372036854775807 < Y.size + X.size) := by omega
  have hs2 : ¬ (9223372036854775807 < Y.size + X.size + Z.size) := by omega
  subst hPX
  clear hI hA hR hD hB hX hm
  go_enter Tryd.func9, Tryd.ntmps9
  go_wp2_with fail
  refine (HI.out _).mono ?_
  rintro e w1 ⟨rfl, hb⟩
  have HB1 : Hid (Below w.heap.size w w1) := hb
  clear hb HI
  go_wp2_with fail
  refine (HA.out _).mono ?_
  rintro e w1' ⟨rfl, rfl⟩
  clear HA
  go_wp2_with fail
  refine (HR.out _ _ HK.out).mono ?_
  rintro e w2 ⟨rfl, hb⟩
  have HB2 : Hid (Below w.heap.size w w2) := HB1.out.trans (hb.mono HB1.out.size)
  clear hb HR HB1
  go_wp2_with fail
  refine (HD.out _ HB2.out).mono ?_
  rintro e w3 ⟨rfl, hb⟩
  have HB3 : Hid (Below w.heap.size w w3) := HB2.out.trans (hb.mono HB2.out.size)
  clear hb HD HB2
  go_wp2_with fail
  refine (HB.out _).mono ?_
  rintro e w3' ⟨rfl, rfl⟩
  clear HB
  go_wp2_with fail
  go_ret2
  exact ⟨rfl, HB3.out⟩

set_option maxHeartbeats 1000000 in
theorem number_no (m : Int) (w : World) (h : ¬ MMay m) :
    Calls Tryd.prog 9 #[.int .i64 m] w fun e w' => e = .returned (.tuple #[.string ⟨#[]⟩, .int .i64 18]) ∧ Below w.heap.size w w' := by
  have HI := rci.isMeter_any m w
  rw [decide_eq_false (show ¬ (0 ≤ m ∧ m ≤ 49) from h)] at HI
  clear h
  go_enter Tryd.func9, Tryd.ntmps9
  go_wp2_with fail
  refine HI.mono ?_
  rintro e w1 ⟨rfl, hb⟩
  clear HI
  go_wp2_with fail
  go_ret2
  exact ⟨rfl, hb⟩

theorem pnumber_any (m : Int) (w : World) (ht : MTab w) : Calls Tryd.prog 9 #[.int .i64 m] w fun e w' => NumPost w m e w' := by
  by_cases h : MMay m
  · obtain ⟨n, rfl⟩ : ∃ n : Nat, m = (n : Int) := ⟨m.toNat, by have := h.1; omega⟩
    have hn : n ≤ 49 := by have := h.2; omega
    obtain ⟨d0, d1⟩ := digit_bd n (by omega)
    obtain ⟨d, hd⟩ : ∃ d : Nat, digitR (pad n 10) = (d : Int) := ⟨(digitR (pad n 10)).toNat, by omega⟩
    have hl := dec_len2 n (by omega)
    have hxs : (⟨(Lib.decDigits n).toArray⟩ : ByteArray).size = (if n < 10 then 1 else 2) := hl
    have hx2 : (if n < 10 then 1 else 2) ≤ 2 := by split <;> omega
    have hk : 10 - (Lib.decDigits n).length ≤ 10 := by omega
    have hrl : ∀ k, (Lib.repeatL [48] k).length = k := fun k => by rw [rep_noughts, List.length_replicate]
    refine (number_abs n d (flawR (pad n 10)) ⟨(Lib.decDigits n).toArray⟩ ⟨(Lib.repeatL [48] (10 - (Lib.decDigits n).length)).toArray⟩ ⟨(Lib.decDigits d).toArray⟩ ⟨(pad n 10).toArray⟩ w hn hxs
      (by show (Lib.repeatL [48] _).length ≤ 10; rw [hrl]; omega) ?_ ?_ (fun w => ?_) (fun w => itoa_2 (n : Int) w (by omega) (by omega)) (fun w k hk' => ?_) (fun w' hb => ?_) (fun w => itoa_2 (d : Int) w (by omega) (by omega))).mono ?_
    · have : ∀ d, d < 10 → (Lib.decDigits d).length ≤ 10 := by decide +kernel
      exact this d (by omega)
    · apply ByteArray.ext
      show (pad n 10).toArray = _
      rw [rep_noughts]
      simp [pad]
    · have := rci.isMeter_any (n : Int) w
      rw [decide_eq_true (show 0 ≤ (n : Int) ∧ (n : Int) ≤ 49 from h)] at this
      exact this
    · subst hk'
      exact Tryd.strings_Repeat ⟨#[48]⟩ (10 - (Lib.decDigits n).length) w (by omega) (by show 1 * _ ≤ _; omega)
    · have := digit_any ⟨(pad n 10).toArray⟩ w' (ht.below hb)
      simp only at this
      rw [hd] at this
      exact this
    · rintro e w' ⟨rfl, hb⟩
      refine ⟨numL n, 0, ?_, .inl ⟨h, ?_, rfl⟩, hb⟩
      · have e : ((⟨(pad n 10).toArray⟩ : ByteArray) ++ ⟨(Lib.decDigits d).toArray⟩) = ⟨(numL n).toArray⟩ := by
          apply ByteArray.ext
          simp [numL, hd]
        rw [e]
      · simp
  · refine (number_no m w h).mono ?_
    rintro e w' ⟨rfl, hb⟩
    exact ⟨[], 18, rfl, .inr ⟨h, rfl, rfl⟩, hb⟩
theorem knumber {w : World} (ht : MTab w) : KrNumber w := fun W m hb _ => pnumber_any m W (ht.below hb)

end Go.Proofs.YtlicdeppfhmfjabDoor.rcp

/- What the small functions of package cents, and of the document's answer to it, give back: one contract a function. -/
namespace Go.Proofs.YtlicdeppfhmfjabDoor.cents
open Go.RowKit

/-- The slice a, len, cap reads as the numbers zs: its elements alone. -/
def Row (w : World) (a : Option Addr) (len : Nat) (zs : List Int) : Prop :=
  zs.length = len ∧ (len = 0 ∨ ∃ b off, a = some ⟨b, off, none⟩ ∧ ∀ i, i < len → w.cell? ⟨b, off + i, none⟩ = some (.int .i64 (zs.getD i 0)))

def okAll (lo hi : Int) (l : List Int) : Bool := l.all fun n => decide (lo ≤ n) && decide (n ≤ hi)

theorem okAll_step (lo hi : Int) (zs : List Int) (k : Nat) (hk : k < zs.length) (h : okAll lo hi (zs.take k) = true) (h1 : lo ≤ zs.getD k 0) (h2 : zs.getD k 0 ≤ hi) : okAll lo hi (zs.take (k + 1)) = true := by
  unfold okAll at *
  rw [List.take_add_one, List.all_append, h]
  simp only [List.getD, List.getElem?_eq_getElem hk, Option.getD] at h1 h2 ⊢
  simp [h1, h2]

theorem okAll_no (lo hi : Int) (zs : List Int) (k : Nat) (hk : k < zs.length) (h : zs.getD k 0 < lo ∨ hi < zs.getD k 0) : okAll lo hi zs = false := by
  unfold okAll
  rw [List.all_eq_false]
  refine ⟨zs[k], List.getElem_mem hk, ?_⟩
  simp only [List.getD, List.getElem?_eq_getElem hk, Option.getD] at h
  simp; omega

theorem ret_bool {a b : Bool} (h : a = b) : Ending.returned (.bool a) = .returned (.bool b) := by rw [h]

set_option maxHeartbeats 400000 in
theorem within_any (lo hi : Int) (a : Option Addr) (len cap : Nat) (zs : List Int) (w : World) (hr : Row w a len zs) (hl : len ≤ maxLen) :
    Calls Tryd.prog 57 #[.int .i64 lo, .int .i64 hi, .slice a len cap] w fun e w' => e = .returned (.bool (okAll lo hi zs)) ∧ w' = w := by
  unfold maxLen at hl
  obtain ⟨hz, hr⟩ := hr
  go_enter Tryd.func57, Tryd.ntmps57
  go_wp2
  go_loop [11] (fun i => ∃ k : Nat, k ≤ len ∧ i = .int .i64 k ∧ okAll lo hi (zs.take k) = true) (fun i => len - (intOf i).toNat)
  case atStart => exact ⟨0, Nat.zero_le _, rfl, rfl⟩
  case round =>
    obtain ⟨k, hk, rfl, hok⟩ := hrel
    have HK : Hid (okAll lo hi (zs.take k) = true) := hok
    clear hok
    by_cases hlt : k < len
    · rcases hr with h0 | ⟨b, off, rfl, hc⟩
      · omega
      have hcell := hc k hlt
      clear hc
      generalize hzk : zs.getD k 0 = z at hcell
      have HZ : Hid (zs.getD k 0 = z) := hzk
      clear hzk
      by_cases h1 : z < lo
      · go_wp2
        go_ret
        exact ⟨ret_bool (okAll_no lo hi zs k (by omega) (.inl (by rw [HZ.out]; exact h1))).symm, rfl⟩
      · by_cases h2 : hi < z
        · go_wp2
          go_ret
          exact ⟨ret_bool (okAll_no lo hi zs k (by omega) (.inr (by rw [HZ.out]; exact h2))).symm, rfl⟩
        · go_wp2
          go_round
          case rel => exact ⟨k + 1, by omega, by go_num, okAll_step lo hi zs k (by omega) HK.out (by rw [HZ.out]; omega) (by rw [HZ.out]; omega)⟩
          case measure => simp [intOf]; omega
    · go_wp2
      go_ret
      refine ⟨ret_bool ?_, rfl⟩
      have := HK.out
      rw [List.take_of_length_le (by omega)] at this
      exact this.symm

end Go.Proofs.YtlicdeppfhmfjabDoor.cents

/- One number alone, held against its bounds. -/
namespace Go.Proofs.YtlicdeppfhmfjabDoor.cents
open Go.RowKit

theorem row_one (w : World) (z : Int) (t : TypeId) : Row (w.alloc (.cells #[.int .i64 z] t)) (some ⟨w.heap.size, 0, none⟩) 1 [z] := by
  refine ⟨rfl, .inr ⟨_, _, rfl, fun i hi => ?_⟩⟩
  obtain rfl : i = 0 := by omega
  simp

theorem okAll_yes {lo hi z : Int} (h1 : lo ≤ z) (h2 : z ≤ hi) : okAll lo hi [z] = true := by simp [okAll, h1, h2]
theorem okAll_not {lo hi z : Int} (h : z < lo ∨ hi < z) : okAll lo hi [z] = false := by simp [okAll]; omega

/-- One number alone, laid in a new block: it lies within the bounds. -/
theorem within_one_yes (lo hi z : Int) (w : World) (b : Nat) (hb : b = w.heap.size) (h1 : lo ≤ z) (h2 : z ≤ hi) :
    Calls Tryd.prog 57 #[.int .i64 lo, .int .i64 hi, .slice (some ⟨b, 0, none⟩) 1 1] (w.alloc (.cells #[.int .i64 z] 3)) fun e w' => e = .returned (.bool true) ∧ w' = w.alloc (.cells #[.int .i64 z] 3) := by
  have h := within_any lo hi _ 1 1 [z] _ (row_one w z 3) (by decide)
  rw [okAll_yes h1 h2] at h
  rw [hb]
  exact h

theorem within_one_no (lo hi z : Int) (w : World) (b : Nat) (hb : b = w.heap.size) (h0 : z < lo ∨ hi < z) :
    Calls Tryd.prog 57 #[.int .i64 lo, .int .i64 hi, .slice (some ⟨b, 0, none⟩) 1 1] (w.alloc (.cells #[.int .i64 z] 3)) fun e w' => e = .returned (.bool false) ∧ w' = w.alloc (.cells #[.int .i64 z] 3) := by
  have h := within_any lo hi _ 1 1 [z] _ (row_one w z 3) (by decide)
  rw [okAll_not h0] at h
  rw [hb]
  exact h

theorem prod_bd (a b A B : Int) (h1 : 0 ≤ a) (h2 : a ≤ A) (h3 : 0 ≤ b) (h4 : b ≤ B) : 0 ≤ a * b ∧ a * b ≤ A * B :=
  ⟨Int.mul_nonneg h1 h3, Int.mul_le_mul h2 h4 h3 (by omega)⟩

theorem bel1 (w : World) (o : Obj) : Below w.heap.size w (w.alloc o) := (Below.refl _ _).alloc (Nat.le_refl _) _
theorem bel2 (w : World) (o o' : Obj) : Below w.heap.size w ((w.alloc o).alloc o') := (bel1 w o).alloc (by simp) _

end Go.Proofs.YtlicdeppfhmfjabDoor.cents
