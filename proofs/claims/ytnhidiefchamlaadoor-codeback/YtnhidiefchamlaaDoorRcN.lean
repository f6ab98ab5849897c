/- Receipts: plain facts. -/
import Derived.Test.YtnhidiefchamlaaDoorBack
import Derived.Test.YtnhidiefchamlaaDoorCkGdN
import Derived.Test.YtnhidiefchamlaaDoorCkDgN
import Derived.Test.YtnhidiefchamlaaDoorTkN
namespace Go.Proofs.YtnhidiefchamlaaDoor.rcp
open Go.Proofs.YtnhidiefchamlaaDoor.cents (showT readR read_shown)
open Go.Proofs.YtnhidiefchamlaaDoor.check (digitR goodR flawR)
open Go.Proofs.YtnhidiefchamlaaDoor.token (parseE tokOf dv)
set_option linter.unusedVariables false

/-- Decimal digits, with noughts ahead. -/
def pad (n : Nat) (k : Nat) : List UInt8 := List.replicate (k - (Lib.decDigits n).length) 48 ++ Lib.decDigits n
/-- A meter's number on paper. -/
def numL (m : Nat) : List UInt8 := pad m 10 ++ Lib.decDigits (digitR (pad m 10)).toNat
def MMay (m : Int) : Prop := 0 ≤ m ∧ m ≤ 49
def NumIs (m : Int) (l : List UInt8) (e : Int) : Prop := (MMay m ∧ l = numL m.toNat ∧ e = 0) ∨ (¬ MMay m ∧ l = [] ∧ e = 18)
theorem NumIs.one {m e e' : Int} {l l' : List UInt8} (h : NumIs m l e) (h' : NumIs m l' e') : l = l' ∧ e = e' := by
  rcases h with ⟨a, rfl, rfl⟩ | ⟨a, rfl, rfl⟩ <;> rcases h' with ⟨a', rfl, rfl⟩ | ⟨a', rfl, rfl⟩ <;> first | exact ⟨rfl, rfl⟩ | contradiction
theorem num_all : ∀ m, m < 50 → (numL m).length = 11 ∧ flawR (numL m) = 0 ∧ goodR (numL m) = true ∧ dv ((numL m).take 10) = m ∧ (numL m).all (fun c => c != 10) = true := by decide +kernel
/-- The meter of a number. -/
def Named (l : List UInt8) (m : Nat) : Prop := m < 50 ∧ numL m = l
theorem Named.one {l : List UInt8} {m k : Nat} (h : Named l m) (h' : Named l k) : m = k := by
  have a := (num_all m h.1).2.2.2.1
  have b := (num_all k h'.1).2.2.2.1
  rw [h.2] at a
  rw [h'.2] at b
  omega
def MeterIs (l : List UInt8) (m e : Int) : Prop :=
  (l.length ≠ 11 ∧ m = 0 ∧ e = 6) ∨ (l.length = 11 ∧ flawR l ≠ 0 ∧ m = 0 ∧ e = flawR l) ∨ (l.length = 11 ∧ flawR l = 0 ∧ goodR l = false ∧ m = 0 ∧ e = 8) ∨
  (l.length = 11 ∧ flawR l = 0 ∧ goodR l = true ∧ (∀ k, ¬ Named l k) ∧ m = 0 ∧ e = 18) ∨ (l.length = 11 ∧ flawR l = 0 ∧ goodR l = true ∧ ∃ k : Nat, Named l k ∧ m = (k : Int) ∧ e = 0)
theorem MeterIs.one {l : List UInt8} {m e m' e' : Int} (h : MeterIs l m e) (h' : MeterIs l m' e') : m = m' ∧ e = e' := by
  rcases h with ⟨a, rfl, rfl⟩ | ⟨a, b, rfl, rfl⟩ | ⟨a, b, c, rfl, rfl⟩ | ⟨a, b, c, d, rfl, rfl⟩ | ⟨a, b, c, k, d, rfl, rfl⟩ <;> rcases h' with ⟨a', rfl, rfl⟩ | ⟨a', b', rfl, rfl⟩ | ⟨a', b', c', rfl, rfl⟩ | ⟨a', b', c', d', rfl, rfl⟩ | ⟨a', b', c', k', d', rfl, rfl⟩ <;> first | exact ⟨rfl, rfl⟩ | contradiction | (rw [c] at c'; exact absurd c' (by decide)) | exact absurd d' (d _) | exact absurd d (d' _) | (obtain rfl := d.one d'; exact ⟨rfl, rfl⟩)
theorem meter_back {k : Nat} (hk : k < 50) {m e : Int} (h : MeterIs (numL k) m e) : m = (k : Int) ∧ e = 0 := by
  obtain ⟨a, b, c, _⟩ := num_all k hk
  exact h.one (.inr (.inr (.inr (.inr ⟨a, b, c, k, ⟨hk, rfl⟩, rfl, rfl⟩))))
/-- A receipt. -/
structure Rc where
  me : Int
  id : Int
  te : Int
  de : Int
  fe : Int
  pr : Int
  ch : Int
  un : Int
  tk : List UInt8
def rc0 : Rc := ⟨0, 0, 0, 0, 0, 0, 0, 0, []⟩
def Ten (z : Int) : Prop := 0 ≤ z ∧ z ≤ 100000000
def RRange (r : Rc) : Prop := (Ten r.te ∧ Ten r.de ∧ Ten r.fe ∧ Ten r.pr) ∧ Ten r.ch ∧ (1 ≤ r.id ∧ r.id ≤ 1048575) ∧ 0 ≤ r.un ∧ r.un ≤ 2097151
def RSum (r : Rc) : Prop := r.te - r.de - r.fe - r.pr - r.ch = 0
def tokR (r : Rc) : token.Tok := tokOf (dv r.tk / 97)
def RTok (r : Rc) : Prop := ((tokR r).i : Int) = r.id ∧ ((tokR r).c = 0 → ((tokR r).a : Int) = r.un) ∧ ((tokR r).c ≠ 0 → r.un = 0)
/-- What is wrong with a receipt. -/
def FaultIs (r : Rc) (e : Int) : Prop :=
  (¬ MMay r.me ∧ e = 18) ∨ (MMay r.me ∧ ¬ RRange r ∧ e = 2) ∨ (MMay r.me ∧ RRange r ∧ ¬ RSum r ∧ e = 19) ∨ (MMay r.me ∧ RRange r ∧ RSum r ∧ parseE r.tk ≠ 0 ∧ e = parseE r.tk) ∨
  (MMay r.me ∧ RRange r ∧ RSum r ∧ parseE r.tk = 0 ∧ ¬ RTok r ∧ e = 8) ∨ (MMay r.me ∧ RRange r ∧ RSum r ∧ parseE r.tk = 0 ∧ RTok r ∧ e = 0)
theorem FaultIs.one {r : Rc} {e f : Int} (h : FaultIs r e) (h' : FaultIs r f) : e = f := by
  rcases h with ⟨a, rfl⟩ | ⟨a, b, rfl⟩ | ⟨a, b, c, rfl⟩ | ⟨a, b, c, d, rfl⟩ | ⟨a, b, c, d, g, rfl⟩ | ⟨a, b, c, d, g, rfl⟩ <;> rcases h' with ⟨a', rfl⟩ | ⟨a', b', rfl⟩ | ⟨a', b', c', rfl⟩ | ⟨a', b', c', d', rfl⟩ | ⟨a', b', c', d', g', rfl⟩ | ⟨a', b', c', d', g', rfl⟩ <;> first | rfl | contradiction
def Right (r : Rc) : Prop := MMay r.me ∧ RRange r ∧ RSum r ∧ parseE r.tk = 0 ∧ RTok r
theorem FaultIs.ok {r : Rc} {e : Int} (h : FaultIs r e) : e = 0 ↔ Right r := by
  rcases h with ⟨a, rfl⟩ | ⟨a, b, rfl⟩ | ⟨a, b, c, rfl⟩ | ⟨a, b, c, d, rfl⟩ | ⟨a, b, c, d, g, rfl⟩ | ⟨a, b, c, d, g, rfl⟩
  · exact ⟨fun h => absurd h (by decide), fun h => absurd h.1 a⟩
  · exact ⟨fun h => absurd h (by decide), fun h => absurd h.2.1 b⟩
  · exact ⟨fun h => absurd h (by decide), fun h => absurd h.2.2.1 c⟩
  · exact ⟨fun h => absurd h d, fun h => absurd h.2.2.2.1 d⟩
  · exact ⟨fun h => absurd h (by decide), fun h => absurd h.2.2.2.2 g⟩
  · exact ⟨fun _ => ⟨a, b, c, d, g⟩, fun _ => rfl⟩
theorem parse_len {l : List UInt8} (h : parseE l = 0) : l.length = 20 ∧ check.allD l = true := by
  unfold parseE at h
  by_cases a : l.length = 20
  · refine ⟨a, ?_⟩
    rw [if_neg (by omega)] at h
    by_cases b : check.allD l = false
    · rw [if_pos b] at h; exact absurd h (by decide)
    · simpa using b
  · rw [if_pos a] at h; exact absurd h (by decide)
/-- A line: a name, a blank, a text, a line feed. -/
def line (n v : List UInt8) : List UInt8 := n ++ 32 :: (v ++ [10])
def nMETER : List UInt8 := [77, 69, 84, 69, 82]
def nNUMBER : List UInt8 := [78, 85, 77, 66, 69, 82]
def nTENDER : List UInt8 := [84, 69, 78, 68, 69, 82]
def nDEBT : List UInt8 := [68, 69, 66, 84]
def nFEE : List UInt8 := [70, 69, 69]
def nPRICE : List UInt8 := [80, 82, 73, 67, 69]
def nCHANGE : List UInt8 := [67, 72, 65, 78, 71, 69]
def nUNITS : List UInt8 := [85, 78, 73, 84, 83]
def nTOKEN : List UInt8 := [84, 79, 75, 69, 78]
/-- Twenty digits, four by four. -/
def four (k : List UInt8) : List UInt8 := k.take 4 ++ 32 :: ((k.drop 4).take 4 ++ 32 :: ((k.drop 8).take 4 ++ 32 :: ((k.drop 12).take 4 ++ 32 :: (k.drop 16).take 4)))
/-- What stands behind the first blank of each line. -/
def vals (r : Rc) : List (List UInt8) := [numL r.me.toNat, Lib.decDigits r.id.toNat, showT r.te, showT r.de, showT r.fe, showT r.pr, showT r.ch, Lib.decDigits r.un.toNat, four r.tk]
def paper (r : Rc) : List UInt8 :=
  line nMETER (numL r.me.toNat) ++ (line nNUMBER (Lib.decDigits r.id.toNat) ++ (line nTENDER (showT r.te) ++ (line nDEBT (showT r.de) ++ (line nFEE (showT r.fe) ++ (line nPRICE (showT r.pr) ++ (line nCHANGE (showT r.ch) ++ (line nUNITS (Lib.decDigits r.un.toNat) ++ line nTOKEN (four r.tk))))))))
/-- The values of a text, byte by byte: those that are whole; whether a line begins; what has come behind the blank. -/
def valG : List UInt8 → List (List UInt8) → Bool → Option (List UInt8) → List (List UInt8) × Bool
  | [], out, b, _ => (out, decide (out.length = 9) && b)
  | c :: t, out, b, cur =>
    if c = 10 then match cur with
      | none => ([], false)
      | some v => valG t (out ++ [v]) true none
    else valG t out false (match cur with
      | none => if c = 32 then some [] else none
      | some v => some (v ++ [c]))
def valsOf (l : List UInt8) : List (List UInt8) × Bool := valG l [] true none
theorem valG_skip {c : UInt8} (h : c ≠ 10) (t : List UInt8) (out : List (List UInt8)) (b : Bool) (cur : Option (List UInt8)) : valG (c :: t) out b cur = valG t out false (match cur with
      | none => if c = 32 then some [] else none
      | some v => some (v ++ [c])) := by
  conv => lhs; unfold valG
  rw [if_neg h]
theorem val_name (n t : List UInt8) (out : List (List UInt8)) (b : Bool) (h : n.all (fun c => c != 10 && c != 32) = true) : valG (n ++ 32 :: t) out b none = valG t out false (some []) := by
  induction n generalizing b with
  | nil => rfl
  | cons c n ih =>
    rw [List.all_cons, Bool.and_eq_true] at h
    obtain ⟨h1, h2⟩ := h
    rw [Bool.and_eq_true] at h1
    have c1 : c ≠ 10 := by simpa using h1.1
    have c2 : c ≠ 32 := by simpa using h1.2
    show valG (c :: (n ++ 32 :: t)) out b none = _
    rw [valG_skip c1]
    dsimp only
    rw [if_neg c2]
    exact ih false h2
theorem val_text (v u t : List UInt8) (out : List (List UInt8)) (h : v.all (fun c => c != 10) = true) : valG (v ++ 10 :: t) out false (some u) = valG t (out ++ [u ++ v]) true none := by
  induction v generalizing u with
  | nil => rw [List.append_nil]; rfl
  | cons c v ih =>
    rw [List.all_cons, Bool.and_eq_true] at h
    have c1 : c ≠ 10 := by simpa using h.1
    show valG (c :: (v ++ 10 :: t)) out false (some u) = _
    rw [valG_skip c1]
    dsimp only
    rw [ih (u ++ [c]) h.2, List.append_assoc]
    rfl
theorem val_line (n v t : List UInt8) (out : List (List UInt8)) (b : Bool) (hn : n.all (fun c => c != 10 && c != 32) = true) (hv : v.all (fun c => c != 10) = true) : valG (line n v ++ t) out b none = valG t (out ++ [v]) true none := by
  unfold line
  rw [List.append_assoc, List.cons_append, val_name n _ out b hn, List.append_assoc]
  exact val_text v [] t out hv
theorem dec_no10 (u : Nat) : (Lib.decDigits u).all (fun c => c != 10) = true := by
  have h := (cents.dec_facts u u (Nat.le_refl _)).1
  refine List.all_eq_true.2 fun c hc => ?_
  have := List.all_eq_true.1 h c hc
  simp [cents.isD] at this
  simp
  intro e
  subst e
  exact absurd this.1 (by decide)
theorem all_app (l m : List UInt8) (f : UInt8 → Bool) : (l ++ m).all f = (l.all f && m.all f) := List.all_append
theorem show_no10 (n : Int) (h : 0 ≤ n) : (showT n).all (fun c => c != 10) = true := by
  unfold showT
  rw [if_neg (by omega)]
  unfold cents.showP
  rw [all_app, all_app, all_app, dec_no10, dec_no10, dec_no10]
  decide
theorem four_no10 {k : List UInt8} (h : check.allD k = true) : (four k).all (fun c => c != 10) = true := by
  have hk : ∀ c ∈ k, (c != 10) = true := fun c hc => by
    have := List.all_eq_true.1 h c hc
    simp [check.isD] at this
    simp
    intro e
    subst e
    exact absurd this.1 (by decide)
  have ht : ∀ (l : List UInt8), (∀ c ∈ l, c ∈ k) → l.all (fun c => c != 10) = true := fun l hl => List.all_eq_true.2 fun c hc => hk c (hl c hc)
  have e : ((32 : UInt8) != 10) = true := by decide
  unfold four
  simp only [all_app, List.all_cons, Bool.and_eq_true, e]
  exact ⟨ht _ fun c hc => List.mem_of_mem_take hc, trivial, ht _ fun c hc => List.mem_of_mem_drop (List.mem_of_mem_take hc), trivial, ht _ fun c hc => List.mem_of_mem_drop (List.mem_of_mem_take hc), trivial, ht _ fun c hc => List.mem_of_mem_drop (List.mem_of_mem_take hc), trivial, ht _ fun c hc => List.mem_of_mem_drop (List.mem_of_mem_take hc)⟩
/-- The lines of a receipt that is right are read off its paper. -/
theorem vals_paper {r : Rc} (h : Right r) : valsOf (paper r) = (vals r, true) := by
  obtain ⟨⟨m0, m1⟩, ⟨⟨⟨t0, _⟩, ⟨d0, _⟩, ⟨f0, _⟩, p0, _⟩, ⟨c0, _⟩, _⟩, _, hp, _⟩ := h
  have hn := (num_all r.me.toNat (by omega)).2.2.2.2
  unfold valsOf paper
  rw [val_line _ _ _ _ _ (by decide) hn, val_line _ _ _ _ _ (by decide) (dec_no10 _), val_line _ _ _ _ _ (by decide) (show_no10 _ t0), val_line _ _ _ _ _ (by decide) (show_no10 _ d0), val_line _ _ _ _ _ (by decide) (show_no10 _ f0), val_line _ _ _ _ _ (by decide) (show_no10 _ p0), val_line _ _ _ _ _ (by decide) (show_no10 _ c0), val_line _ _ _ _ _ (by decide) (dec_no10 _)]
  have e := val_line nTOKEN (four r.tk) [] ([] ++ [numL r.me.toNat] ++ [Lib.decDigits r.id.toNat] ++ [showT r.te] ++ [showT r.de] ++ [showT r.fe] ++ [showT r.pr] ++ [showT r.ch] ++ [Lib.decDigits r.un.toNat]) true (by decide) (four_no10 (parse_len hp).2)
  rw [List.append_nil] at e
  rw [e]
  rfl
/-- A whole number of at most seven digits. -/
def wholeR (l : List UInt8) : Int := if l.length < 1 ∨ 7 < l.length then -1 else if cents.allD l = true then cents.dval l else -1
theorem dec_len7 (u : Nat) (h : u ≤ 2097151) : 1 ≤ (Lib.decDigits u).length ∧ (Lib.decDigits u).length ≤ 7 := by
  have hne := (cents.dec_facts u u (Nat.le_refl _)).2.2.1
  refine ⟨by cases e : Lib.decDigits u with
    | nil => exact absurd e hne
    | cons a l => simp, ?_⟩
  have step : ∀ v : Nat, ∀ k : Nat, v < 10 ^ (k + 1) → (Lib.decDigits v).length ≤ k + 1 := fun v k => by
    induction k generalizing v with
    | zero =>
      intro hv
      have : ∀ x, x < 10 → (Lib.decDigits x).length ≤ 0 + 1 := by decide +kernel
      exact this v (by omega)
    | succ k ih =>
      intro hv
      by_cases h10 : v < 10
      · have : ∀ x, x < 10 → (Lib.decDigits x).length ≤ 1 := by decide +kernel
        have := this v h10
        omega
      · rw [cents.dec_step h10, List.length_append]
        have := ih (v / 10) (by rw [Nat.pow_succ] at hv; omega)
        simp
        omega
  have := step u 6 (by omega)
  omega
theorem whole_dec {u : Nat} (h : u ≤ 2097151) : wholeR (Lib.decDigits u) = (u : Int) := by
  have h1 := dec_len7 u h
  have h2 := cents.dec_facts u u (Nat.le_refl _)
  unfold wholeR
  rw [if_neg (by omega), if_pos h2.1, h2.2.1]
/-- The twenty digits out of their line. -/
def unfour (t : List UInt8) : List UInt8 := t.take 4 ++ ((t.drop 5).take 4 ++ ((t.drop 10).take 4 ++ ((t.drop 15).take 4 ++ (t.drop 20).take 4)))
theorem four_len {k : List UInt8} (h : k.length = 20) : (four k).length = 24 := by
  unfold four
  simp only [List.length_append, List.length_cons, List.length_take, List.length_drop]
  omega
theorem un_four {k : List UInt8} (h : k.length = 20) : unfour (four k) = k := by
  match k, h with
  | [a, b, c, d, e, f, g, i, j, l, m, n, o, p, q, r, s, t, u, v], _ => rfl
/-- The receipt that the lines tell of. -/
def MeterV (l : List UInt8) (m : Int) : Prop := ∃ e, MeterIs l m e
def Cand (l : List (List UInt8)) (r : Rc) : Prop := MeterV (l.getD 0 []) r.me ∧ r = ⟨r.me, wholeR (l.getD 1 []), (readR (l.getD 2 [])).1, (readR (l.getD 3 [])).1, (readR (l.getD 4 [])).1, (readR (l.getD 5 [])).1, (readR (l.getD 6 [])).1, wholeR (l.getD 7 []), unfour (l.getD 8 [])⟩
theorem Cand.one {l : List (List UInt8)} {r s : Rc} (h : Cand l r) (h' : Cand l s) : r = s := by
  obtain ⟨⟨e, a⟩, b⟩ := h
  obtain ⟨⟨e', a'⟩, b'⟩ := h'
  rw [b, b', (a.one a').1]
theorem cand_right {r : Rc} (h : Right r) : Cand (vals r) r := by
  obtain ⟨⟨m0, m1⟩, ⟨⟨⟨t0, t1⟩, ⟨d0, d1⟩, ⟨f0, f1⟩, p0, p1⟩, ⟨c0, c1⟩, ⟨i0, i1⟩, u0, u1⟩, _, hp, _⟩ := h
  obtain ⟨na, nb, nc, _⟩ := num_all r.me.toNat (by omega)
  refine ⟨⟨0, .inr (.inr (.inr (.inr ⟨na, nb, nc, r.me.toNat, ⟨by omega, rfl⟩, by omega, rfl⟩)))⟩, ?_⟩
  show r = ⟨r.me, wholeR (Lib.decDigits r.id.toNat), (readR (showT r.te)).1, (readR (showT r.de)).1, (readR (showT r.fe)).1, (readR (showT r.pr)).1, (readR (showT r.ch)).1, wholeR (Lib.decDigits r.un.toNat), unfour (four r.tk)⟩
  rw [whole_dec (by omega), whole_dec (by omega), read_shown _ (by omega) (by omega), read_shown _ (by omega) (by omega), read_shown _ (by omega) (by omega), read_shown _ (by omega) (by omega), read_shown _ (by omega) (by omega), un_four (parse_len hp).1]
  rw [Int.toNat_of_nonneg (by omega), Int.toNat_of_nonneg (by omega)]
theorem paper_inj {r s : Rc} (hr : Right r) (hs : Right s) (h : paper r = paper s) : r = s := by
  have a := vals_paper hr
  rw [h, vals_paper hs] at a
  have b : vals s = vals r := congrArg Prod.fst a
  have c := cand_right hr
  rw [← b] at c
  exact c.one (cand_right hs)
def ShowIs (r : Rc) (l : List UInt8) (e : Int) : Prop := FaultIs r e ∧ ((e = 0 ∧ l = paper r) ∨ (e ≠ 0 ∧ l = []))
theorem ShowIs.one {r : Rc} {l l' : List UInt8} {e e' : Int} (h : ShowIs r l e) (h' : ShowIs r l' e') : l = l' ∧ e = e' := by
  obtain ⟨a, b⟩ := h
  obtain ⟨a', b'⟩ := h'
  obtain rfl := a.one a'
  rcases b with ⟨_, rfl⟩ | ⟨c, rfl⟩ <;> rcases b' with ⟨_, rfl⟩ | ⟨c', rfl⟩ <;> first | exact ⟨rfl, rfl⟩ | contradiction
def ReadIs (l : List UInt8) (r : Rc) (e : Int) : Prop :=
  (400 < l.length ∧ r = rc0 ∧ e = 1) ∨ (¬ 400 < l.length ∧ (∀ s, Right s → paper s ≠ l) ∧ r = rc0 ∧ e = 3) ∨ (¬ 400 < l.length ∧ Right r ∧ paper r = l ∧ e = 0)
theorem ReadIs.one {l : List UInt8} {r s : Rc} {e f : Int} (h : ReadIs l r e) (h' : ReadIs l s f) : r = s ∧ e = f := by
  rcases h with ⟨a, rfl, rfl⟩ | ⟨a, b, rfl, rfl⟩ | ⟨a, b, c, rfl⟩ <;> rcases h' with ⟨a', rfl, rfl⟩ | ⟨a', b', rfl, rfl⟩ | ⟨a', b', c', rfl⟩ <;> first | exact ⟨rfl, rfl⟩ | contradiction | exact absurd c' (b _ b') | exact absurd c (b' _ ‹_›) | exact ⟨paper_inj b b' (c.trans c'.symm), rfl⟩

end Go.Proofs.YtnhidiefchamlaaDoor.rcp
