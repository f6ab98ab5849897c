/- Acts as lines: plain facts. -/
import Derived.Test.YtlianhienbhbgaaDoorProg
import Derived.Lib.AtoiAll
import Derived.Lib.IndexMore
import Derived.Lib.ItoaMem
import Derived.Lib.Join
import Derived.Lib.Strings
namespace Go.Proofs.YtlianhienbhbgaaDoor.odr
set_option linter.unusedVariables false
set_option linter.unusedSimpArgs false

/- Digits. -/
def isD (c : UInt8) : Bool := decide (48 ≤ c.toNat ∧ c.toNat ≤ 57)
def allD (l : List UInt8) : Bool := l.all isD
def dvF (n : Nat) (l : List UInt8) : Nat := l.foldl (fun n c => n * 10 + (c.toNat - 48)) n
abbrev dv (l : List UInt8) : Nat := dvF 0 l
theorem byte_nat (u : Nat) (h : u < 10) : (UInt8.ofNat (48 + u)).toNat = 48 + u := by simp; omega
theorem dd (u : Nat) : dv (Lib.decDigits u) = u ∧ allD (Lib.decDigits u) = true ∧ Lib.decDigits u ≠ [] ∧ ((Lib.decDigits u).head? = some 48 → u = 0) := by
  induction u using Nat.strongRecOn with
  | _ u ih =>
    by_cases h : u < 10
    · rw [Lib.decDigits, dif_pos h]
      have hb := byte_nat u h
      refine ⟨?_, ?_, by simp, ?_⟩
      · show 0 * 10 + ((UInt8.ofNat (48 + u)).toNat - 48) = u
        omega
      · show ([UInt8.ofNat (48 + u)].all isD) = true
        simp only [List.all_cons, List.all_nil, Bool.and_true, isD, hb, decide_eq_true_eq]
        omega
      · intro e
        simp only [List.head?_cons, Option.some.injEq] at e
        rw [e] at hb
        have : (48 : UInt8).toNat = 48 := rfl
        omega
    · rw [Lib.decDigits, dif_neg h]
      obtain ⟨i1, i2, i3, i4⟩ := ih (u / 10) (by omega)
      have hb := byte_nat (u % 10) (by omega)
      refine ⟨?_, ?_, by simp, ?_⟩
      · have : dv (Lib.decDigits (u / 10) ++ [UInt8.ofNat (48 + u % 10)]) = dv (Lib.decDigits (u / 10)) * 10 + ((UInt8.ofNat (48 + u % 10)).toNat - 48) := by simp [dvF, List.foldl_append]
        rw [this, i1, hb]
        omega
      · unfold allD at i2 ⊢
        rw [List.all_append, i2]
        simp only [List.all_cons, List.all_nil, Bool.and_true, Bool.true_and, isD, hb, decide_eq_true_eq]
        omega
      · rw [List.head?_append]
        intro e
        cases hq : (Lib.decDigits (u / 10)).head? with
        | none => exact absurd (List.head?_eq_none_iff.1 hq) i3
        | some c =>
          rw [hq] at e
          have e' : c = 48 := by simpa using e
          have := i4 (by rw [hq, e'])
          omega
theorem nd_le : ∀ k u : Nat, u < 10 ^ (k + 1) → Lib.nDigits u ≤ k + 1
  | 0, u, h => by rw [Lib.nDigits_small (by simpa using h)]; exact Nat.le_refl _
  | k + 1, u, h => by
    by_cases h1 : u < 10
    · rw [Lib.nDigits_small h1]; omega
    · rw [Lib.nDigits_big h1]
      have := nd_le k (u / 10) (by rw [Nat.pow_succ] at h; omega)
      omega
theorem dd_len (u : Nat) (h : u ≤ 1000000000000) : 1 ≤ (Lib.decDigits u).length ∧ (Lib.decDigits u).length ≤ 13 := by
  rw [Lib.decDigits_length]
  exact ⟨Lib.nDigits_pos u, nd_le 12 u (by omega)⟩
theorem itoa_of (n : Int) (h : 0 ≤ n) : Lib.itoa n = Lib.decDigits n.toNat := by unfold Lib.itoa; rw [if_neg (by omega)]

/- What Atoi gives back, whatever the text. -/
def atoiV (l : List UInt8) : Int := match Lib.atoiAll l with
  | .ok v => v
  | .range => Lib.atoiSat l
  | _ => 0
theorem parse_digits : ∀ (l : List UInt8) (acc : Nat), allD l = true → (acc + 1) * 10 ^ l.length ≤ 1000000000000000000 → Lib.parseUint10 acc l = .ok (dvF acc l) := by
  intro l
  induction l with
  | nil => intro acc _ _; rfl
  | cons c r ih =>
    intro acc hd hb
    have hd' : isD c = true ∧ allD r = true := by simpa [allD] using hd
    have hc : 48 ≤ c.toNat ∧ c.toNat ≤ 57 := by simpa [isD] using hd'.1
    have hp : 0 < 10 ^ r.length := Nat.pow_pos (by decide)
    have hb' : (acc * 10 + 10) * 10 ^ r.length ≤ 1000000000000000000 := by
      rw [List.length_cons, Nat.pow_succ, Nat.mul_comm (10 ^ r.length) 10, ← Nat.mul_assoc] at hb
      rw [show acc * 10 + 10 = (acc + 1) * 10 by omega]
      exact hb
    have h1 : acc * 10 + 10 ≤ 1000000000000000000 := Nat.le_trans (Nat.le_mul_of_pos_right _ hp) hb'
    unfold Lib.parseUint10
    rw [if_pos hc, if_neg (by omega), if_neg (by omega)]
    show _ = Lib.NumEnd.ok (dvF (acc * 10 + (c.toNat - 48)) r)
    refine ih _ hd'.2 (Nat.le_trans (Nat.mul_le_mul_right _ ?_) hb')
    omega
theorem atoi_of {c : UInt8} {r : List UInt8} {u : Nat} (h1 : ¬ (c.toNat = 43 ∨ c.toNat = 45)) (hm : Lib.parseMag (c :: r) = .ok u) (hu : u < 9223372036854775808) : Lib.atoiAll (c :: r) = .ok (u : Int) := by
  unfold Lib.atoiAll
  dsimp only
  rw [if_neg h1]
  generalize Lib.parseMag (c :: r) = x at hm ⊢
  subst hm
  dsimp only
  rw [if_neg (by omega), if_neg (by omega), if_neg (by omega)]
theorem atoi_dd (u : Nat) (h : u ≤ 1000000000000) : atoiV (Lib.decDigits u) = (u : Int) := by
  obtain ⟨h1, h2, h3, _⟩ := dd u
  obtain ⟨_, hl⟩ := dd_len u h
  have hp := parse_digits (Lib.decDigits u) 0 h2 (by
    have := Nat.pow_le_pow_right (n := 10) (by decide) hl
    omega)
  have : Lib.atoiAll (Lib.decDigits u) = .ok (u : Int) := by
    cases hq : Lib.decDigits u with
    | nil => exact absurd hq h3
    | cons c r =>
      rw [hq] at h1 h2 hp
      have hd' : isD c = true ∧ allD r = true := by simpa [allD] using h2
      have hc : 48 ≤ c.toNat ∧ c.toNat ≤ 57 := by simpa [isD] using hd'.1
      refine atoi_of (by omega) ?_ (by omega)
      unfold Lib.parseMag
      rw [if_neg (by simp), hp]
      exact congrArg _ h1
  unfold atoiV
  rw [this]

/- Blanks. -/
def Not (c : UInt8) (l : List UInt8) : Prop := ∀ x ∈ l, x ≠ c
theorem idx_app (c : UInt8) (n t : List UInt8) (h : Not c n) : Lib.index (n ++ c :: t) [c] = (n.length : Int) := by
  induction n with
  | nil => show Lib.index (c :: t) [c] = 0; unfold Lib.index; simp
  | cons x n ih =>
    have hx : x ≠ c := h x (by simp)
    have hn := ih (fun y hy => h y (by simp [hy]))
    show Lib.index (x :: (n ++ c :: t)) [c] = _
    unfold Lib.index
    have hp : ([c] : List UInt8).isPrefixOf (x :: (n ++ c :: t)) = false := by simp [List.isPrefixOf]; intro e; exact absurd e.symm hx
    rw [hp, hn]
    simp
theorem idx_none (c : UInt8) (l : List UInt8) (h : Not c l) : Lib.index l [c] = -1 := by
  induction l with
  | nil => rfl
  | cons x l ih =>
    have hx : x ≠ c := h x (by simp)
    have hn := ih (fun y hy => h y (by simp [hy]))
    unfold Lib.index
    have hp : ([c] : List UInt8).isPrefixOf (x :: l) = false := by simp [List.isPrefixOf]; intro e; exact absurd e.symm hx
    rw [hp, hn]
    rfl
/-- What is cut at the first blank. -/
def cutB (l : List UInt8) : List UInt8 × List UInt8 × Bool := Lib.cut l [32]
theorem cut_line (n t : List UInt8) (h : Not 32 n) : cutB (n ++ 32 :: t) = (n, t, true) := by
  unfold cutB Lib.cut
  rw [idx_app 32 n t h, if_pos (by omega)]
  simp
theorem cut_none (n : List UInt8) (h : Not 32 n) : cutB n = (n, [], false) := by
  unfold cutB Lib.cut
  rw [idx_none 32 n h, if_neg (by omega)]
theorem cut_nil : cutB [] = ([], [], false) := cut_none [] (fun x hx => by cases hx)
theorem cut_hit (t : List UInt8) : cutB (32 :: t) = ([], t, true) := cut_line [] t (fun x hx => by cases hx)
theorem cut_on (c : UInt8) (t : List UInt8) (h : c ≠ 32) : cutB (c :: t) = (c :: (cutB t).1, (cutB t).2.1, (cutB t).2.2) := by
  by_cases hm : (32 : UInt8) ∈ t
  · obtain ⟨n, m, rfl, hn⟩ : ∃ n m, t = n ++ 32 :: m ∧ Not 32 n := by
      clear h
      induction t with
      | nil => cases hm
      | cons x t ih =>
        by_cases hx : x = 32
        · exact ⟨[], t, by rw [hx]; rfl, fun x hx => by cases hx⟩
        · obtain ⟨n, m, e, hn⟩ := ih (by rcases List.mem_cons.1 hm with e | e; exact absurd e.symm hx; exact e)
          exact ⟨x :: n, m, by rw [e]; rfl, fun y hy => by rcases List.mem_cons.1 hy with rfl | hy; exact hx; exact hn y hy⟩
    rw [cut_line n m hn]
    exact cut_line (c :: n) m (fun y hy => by rcases List.mem_cons.1 hy with rfl | hy; exact h; exact hn y hy)
  · have hn : Not 32 t := fun x hx e => hm (e ▸ hx)
    rw [cut_none t hn]
    exact cut_none (c :: t) (fun y hy => by rcases List.mem_cons.1 hy with rfl | hy; exact h; exact hn y hy)
theorem cut_size (l : List UInt8) : (cutB l).1.length ≤ l.length ∧ (cutB l).2.1.length ≤ l.length := by
  unfold cutB Lib.cut
  split
  · simp; omega
  · simp
theorem dd_not (u : Nat) : Not 32 (Lib.decDigits u) := fun x hx e => by
  have := List.all_eq_true.1 (dd u).2.1 x hx
  rw [e] at this
  exact absurd this (by decide)
theorem join_two (x y : List UInt8) (r : List (List UInt8)) : Lib.join (x :: y :: r) [32] = x ++ 32 :: Lib.join (y :: r) [32] := by
  rw [Lib.join_cons, Lib.join_cons]
  simp [Lib.joinTail]

/- Acts. -/
structure Ac where
  k : Int
  me : Int
  a : Int
  b : Int
  c : Int
  t : ByteArray
  cut : Int
def ac0 : Ac := ⟨0, 0, 0, 0, 0, ByteArray.empty, 0⟩
def inB (lo hi n : Int) : Bool := decide (lo ≤ n ∧ n ≤ hi)
def hM (k : Int) : Bool := decide (1 ≤ k ∧ k ≤ 7)
def hA (k : Int) : Bool := k == 2 || k == 3 || k == 5 || k == 7
def hB (k : Int) : Bool := k == 2 || k == 5
def hC (k : Int) : Bool := k == 2 || k == 3 || k == 4
def hT (k : Int) : Bool := k == 6
def wd (k : Int) : List UInt8 := if k = 1 then [114, 101, 103, 105, 115, 116, 101, 114] else if k = 2 then [115, 101, 108, 108] else if k = 3 then [103, 114, 97, 110, 116] else if k = 4 then [114, 101, 107, 101, 121] else if k = 5 then [99, 104, 97, 114, 103, 101] else if k = 6 then [107, 101, 121] else if k = 7 then [116, 105, 99, 107] else []
def opt {α : Type} (h : Bool) (x : α) : List α := if h = true then [x] else []
def told (x : Ac) : List Int := opt (hM x.k) x.me ++ (opt (hA x.k) x.a ++ (opt (hB x.k) x.b ++ opt (hC x.k) x.c))
def cutW : List UInt8 := [99, 117, 116]
def items (x : Ac) : List (List UInt8) := (if x.cut = -1 then [] else [cutW, Lib.itoa x.cut]) ++ (wd x.k :: ((told x).map Lib.itoa ++ opt (hT x.k) x.t.data.toList))
def lineL (x : Ac) : List UInt8 := Lib.join (items x) [32]
def okR (x : Ac) : Bool := inB 1 7 x.k && inB (-1) 4096 x.cut && (told x).all (inB 0 1000000000000)
def okF (x : Ac) : Bool := (hA x.k || x.a == 0) && (hB x.k || x.b == 0) && (hC x.k || x.c == 0) && (hT x.k || x.t.data.toList == []) && !x.t.data.toList.contains 10
/-- What is wrong with an act. -/
def err (x : Ac) : Int := if okR x = false then 2 else if okF x = false then 3 else if 120 < (lineL x).length then 1 else 0
def shown (x : Ac) : List UInt8 := if err x = 0 then lineL x else []
/-- The line is the act's. -/
def Good (l : List UInt8) (x : Ac) : Prop := err x = 0 ∧ lineL x = l

theorem kinds {k : Int} (h : inB 1 7 k = true) : k = 1 ∨ k = 2 ∨ k = 3 ∨ k = 4 ∨ k = 5 ∨ k = 6 ∨ k = 7 := by
  have : 1 ≤ k ∧ k ≤ 7 := by simpa [inB] using h
  omega
structure Fine (x : Ac) : Prop where
  kd : inB 1 7 x.k = true
  cut : -1 ≤ x.cut ∧ x.cut ≤ 4096
  me : 0 ≤ x.me ∧ x.me ≤ 1000000000000
  a : hA x.k = true → 0 ≤ x.a ∧ x.a ≤ 1000000000000
  b : hB x.k = true → 0 ≤ x.b ∧ x.b ≤ 1000000000000
  c : hC x.k = true → 0 ≤ x.c ∧ x.c ≤ 1000000000000
  a0 : hA x.k = false → x.a = 0
  b0 : hB x.k = false → x.b = 0
  c0 : hC x.k = false → x.c = 0
  t0 : hT x.k = false → x.t.data.toList = []
  lf : x.t.data.toList.contains 10 = false
  len : (lineL x).length ≤ 120
theorem hM_of {k : Int} (h : inB 1 7 k = true) : hM k = true := h
theorem fine_of {x : Ac} (h : err x = 0) : Fine x := by
  unfold err at h
  cases h1 : okR x with
  | false => rw [h1] at h; simp at h
  | true =>
    cases h2 : okF x with
    | false => rw [h1, h2] at h; simp at h
    | true =>
      rw [h1, h2] at h
      simp only [Bool.true_eq_false, if_false] at h
      have h3 : ¬ 120 < (lineL x).length := by intro h3; rw [if_pos h3] at h; cases h
      simp only [okR, Bool.and_eq_true] at h1
      simp only [okF, Bool.and_eq_true, Bool.or_eq_true, Bool.not_eq_true', beq_iff_eq] at h2
      obtain ⟨⟨hk, hc⟩, ht⟩ := h1
      obtain ⟨⟨⟨⟨f1, f2⟩, f3⟩, f4⟩, f5⟩ := h2
      have hM := hM_of hk
      have hin : ∀ n ∈ told x, 0 ≤ n ∧ n ≤ 1000000000000 := fun n hn => by
        have := List.all_eq_true.1 ht n hn
        simpa [inB] using this
      refine ⟨hk, by simpa [inB] using hc, hin _ ?_, fun h => hin _ ?_, fun h => hin _ ?_, fun h => hin _ ?_, fun h => ?_, fun h => ?_, fun h => ?_, fun h => ?_, f5, by omega⟩
      · unfold told; rw [hM]; simp [opt]
      · unfold told; rw [h]; simp [opt]
      · unfold told; rw [h]; simp [opt]
      · unfold told; rw [h]; simp [opt]
      · rw [h] at f1; simpa using f1
      · rw [h] at f2; simpa using f2
      · rw [h] at f3; simpa using f3
      · rw [h] at f4; simpa using f4

/- A word told back. -/
def kindL (w : List UInt8) : Int := if w = wd 1 then 1 else if w = wd 2 then 2 else if w = wd 3 then 3 else if w = wd 4 then 4 else if w = wd 5 then 5 else if w = wd 6 then 6 else if w = wd 7 then 7 else 0
theorem kind_wd {k : Int} (h : inB 1 7 k = true) : kindL (wd k) = k := by
  rcases kinds h with rfl | rfl | rfl | rfl | rfl | rfl | rfl <;> decide
theorem wd_not {k : Int} (h : inB 1 7 k = true) : Not 32 (wd k) := by
  have : (wd k).all (fun c => c != 32) = true := by rcases kinds h with rfl | rfl | rfl | rfl | rfl | rfl | rfl <;> decide
  exact fun x hx => by simpa using List.all_eq_true.1 this x hx
theorem wd_pre {k : Int} (h : inB 1 7 k = true) (y : List UInt8) : Lib.hasPrefix (wd k ++ 32 :: y) [99, 117, 116, 32] = false := by
  rcases kinds h with rfl | rfl | rfl | rfl | rfl | rfl | rfl <;> rfl
theorem wd_cut {k : Int} (h : inB 1 7 k = true) : wd k ≠ cutW := by
  rcases kinds h with rfl | rfl | rfl | rfl | rfl | rfl | rfl <;> decide

/-- What stands behind the word. -/
def rest (x : Ac) : List (List UInt8) := (opt (hM x.k) x.me).map Lib.itoa ++ ((opt (hA x.k) x.a).map Lib.itoa ++ ((opt (hB x.k) x.b).map Lib.itoa ++ ((opt (hC x.k) x.c).map Lib.itoa ++ opt (hT x.k) x.t.data.toList)))
theorem items_eq (x : Ac) : items x = (if x.cut = -1 then [] else [cutW, Lib.itoa x.cut]) ++ (wd x.k :: rest x) := by
  unfold items rest told
  simp [List.map_append, List.append_assoc]
theorem line_no {x : Ac} (hk : inB 1 7 x.k = true) (hc : x.cut = -1) : lineL x = wd x.k ++ 32 :: Lib.join (rest x) [32] := by
  unfold lineL
  rw [items_eq, if_pos hc]
  unfold rest
  rw [hM_of hk]
  simp only [opt, if_true, List.map_cons, List.map_nil, List.cons_append, List.nil_append]
  rw [join_two]
theorem line_cut {x : Ac} (hk : inB 1 7 x.k = true) (hc : x.cut ≠ -1) : lineL x = cutW ++ 32 :: (Lib.itoa x.cut ++ 32 :: (wd x.k ++ 32 :: Lib.join (rest x) [32])) := by
  unfold lineL
  rw [items_eq, if_neg hc]
  unfold rest
  rw [hM_of hk]
  simp only [opt, if_true, List.map_cons, List.map_nil, List.cons_append, List.nil_append]
  rw [join_two, join_two, join_two]

/- The program's guess. -/
def numB (l : List UInt8) : Int × List UInt8 := (atoiV (cutB l).1, (cutB l).2.1)
def stepN (h : Bool) (l : List UInt8) : Int × List UInt8 := if h = true then numB l else (0, l)
theorem num_line {n : Int} (h : 0 ≤ n ∧ n ≤ 1000000000000) (t : List UInt8) : numB (Lib.itoa n ++ 32 :: t) = (n, t) := by
  unfold numB
  rw [itoa_of n h.1, cut_line _ _ (dd_not _)]
  simp only
  rw [atoi_dd _ (by omega)]
  congr 1; omega
theorem step_join (h : Bool) (n : Int) (ds : List (List UInt8)) (hn : h = true → 0 ≤ n ∧ n ≤ 1000000000000) (h0 : h = false → n = 0) : stepN h (Lib.join ((opt h n).map Lib.itoa ++ ds) [32]) = (n, Lib.join ds [32]) := by
  cases h with
  | false => rw [h0 rfl]; rfl
  | true =>
    simp only [opt, if_true, List.map_cons, List.map_nil, List.cons_append, List.nil_append, stepN]
    cases ds with
    | nil =>
      have := hn rfl
      rw [Lib.join_one]
      unfold numB
      rw [itoa_of n this.1, cut_none _ (dd_not _)]
      simp only
      rw [atoi_dd _ (by omega)]
      congr 1; omega
    | cons d ds => rw [join_two]; exact num_line (hn rfl) _
def gHead (l : List UInt8) : Int × List UInt8 := if Lib.hasPrefix l [99, 117, 116, 32] = true then numB (Lib.trimPrefix l [99, 117, 116, 32]) else (-1, l)
def gBody (cut : Int) (l : List UInt8) : Ac :=
  let k := kindL (cutB l).1
  let p := stepN (hM k) (cutB l).2.1
  let q := stepN (hA k) p.2
  let r := stepN (hB k) q.2
  let s := stepN (hC k) r.2
  ⟨k, p.1, q.1, r.1, s.1, if hT k = true then ⟨s.2.toArray⟩ else ByteArray.empty, cut⟩
def guess (l : List UInt8) : Ac := gBody (gHead l).1 (gHead l).2
theorem text_back (t : ByteArray) : (⟨t.data.toList.toArray⟩ : ByteArray) = t := rfl
theorem text_none {t : ByteArray} (h : t.data.toList = []) : ByteArray.empty = t := by
  rw [← text_back t, h]; rfl
theorem body_back {x : Ac} (f : Fine x) : gBody x.cut (wd x.k ++ 32 :: Lib.join (rest x) [32]) = x := by
  unfold gBody
  rw [cut_line _ _ (wd_not f.kd)]
  simp only
  rw [kind_wd f.kd]
  unfold rest
  rw [step_join (hM x.k) x.me _ (fun _ => f.me) (fun h => by rw [hM_of f.kd] at h; cases h)]
  simp only
  rw [step_join (hA x.k) x.a _ f.a f.a0]
  simp only
  rw [step_join (hB x.k) x.b _ f.b f.b0]
  simp only
  rw [step_join (hC x.k) x.c _ f.c f.c0]
  obtain ⟨k, me, a, b, c, t, cut⟩ := x
  simp only
  congr 1
  cases h : hT k with
  | true => simp only [opt, if_true]; rw [Lib.join_one]
  | false => simp only [Bool.false_eq_true, if_false]; exact text_none (f.t0 h)
theorem guess_back {l : List UInt8} {x : Ac} (h : Good l x) : guess l = x := by
  have f := fine_of h.1
  have hl := h.2
  unfold guess gHead
  by_cases hc : x.cut = -1
  · rw [line_no f.kd hc] at hl
    rw [← hl, wd_pre f.kd]
    simp only [Bool.false_eq_true, if_false]
    rw [← hc]
    exact body_back f
  · rw [line_cut f.kd hc] at hl
    have hp : Lib.hasPrefix l [99, 117, 116, 32] = true := by rw [← hl]; rfl
    have ht : Lib.trimPrefix l [99, 117, 116, 32] = Lib.itoa x.cut ++ 32 :: (wd x.k ++ 32 :: Lib.join (rest x) [32]) := by
      unfold Lib.trimPrefix
      rw [hp, if_pos rfl, ← hl]
      rfl
    rw [hp, if_pos rfl, ht, num_line ⟨by have := f.cut; omega, by have := f.cut; omega⟩]
    exact body_back f
theorem good_one {l : List UInt8} {x y : Ac} (h : Good l x) (h' : Good l y) : x = y := (guess_back h).symm.trans (guess_back h')

/- The document's reading. -/
def plainV (l : List UInt8) : Int := if l.length < 1 ∨ 13 < l.length ∨ (l.head? = some 48 ∧ 1 < l.length) ∨ allD l = false then -2 else (dv l : Nat)
theorem plain_dd (n : Int) (h : 0 ≤ n ∧ n ≤ 1000000000000) : plainV (Lib.itoa n) = n := by
  rw [itoa_of n h.1]
  obtain ⟨h1, h2, h3, h4⟩ := dd n.toNat
  obtain ⟨l1, l2⟩ := dd_len n.toNat (by omega)
  unfold plainV
  rw [if_neg, h1]
  · omega
  · rintro (h | h | ⟨h, hl⟩ | h)
    · omega
    · omega
    · have := h4 h
      rw [this] at hl
      exact absurd hl (by rw [Lib.decDigits_one (by decide)]; decide)
    · rw [h2] at h; cases h
/-- What is left behind a piece, if there is anything. -/
def left (l : List UInt8) : Option (List UInt8) := if (cutB l).2.2 = true then some (cutB l).2.1 else none
def dstep (h : Bool) (o : Option (List UInt8)) : Option (Int × Option (List UInt8)) := if h = true then o.map (fun l => (plainV (cutB l).1, left l)) else some (0, o)
def J (ds : List (List UInt8)) : Option (List UInt8) := match ds with
  | [] => none
  | ds => some (Lib.join ds [32])
theorem left_line (n t : List UInt8) (h : Not 32 n) : left (n ++ 32 :: t) = some t := by unfold left; rw [cut_line n t h]; rfl
theorem left_none (n : List UInt8) (h : Not 32 n) : left n = none := by unfold left; rw [cut_none n h]; rfl
theorem dstep_join (h : Bool) (n : Int) (ds : List (List UInt8)) (hn : h = true → 0 ≤ n ∧ n ≤ 1000000000000) (h0 : h = false → n = 0) : dstep h (J ((opt h n).map Lib.itoa ++ ds)) = some (n, J ds) := by
  cases h with
  | false => rw [h0 rfl]; rfl
  | true =>
    have hb := hn rfl
    simp only [opt, if_true, List.map_cons, List.map_nil, List.cons_append, List.nil_append, dstep, J, Option.map_some]
    have hnot : Not 32 (Lib.itoa n) := by rw [itoa_of n hb.1]; exact dd_not _
    cases ds with
    | nil => rw [Lib.join_one, cut_none _ hnot, left_none _ hnot]; simp only; rw [plain_dd n hb]
    | cons d ds => rw [join_two, cut_line _ _ hnot, left_line _ _ hnot]; simp only; rw [plain_dd n hb]
def dBody (cut : Int) (l : List UInt8) : Option Ac :=
  let k := kindL (cutB l).1
  (dstep true (left l)).bind fun p => (dstep (hA k) p.2).bind fun q => (dstep (hB k) q.2).bind fun r => (dstep (hC k) r.2).bind fun s =>
  some ⟨k, p.1, q.1, r.1, s.1, if hT k = true then (match s.2 with | some t => ⟨t.toArray⟩ | none => ByteArray.empty) else ByteArray.empty, cut⟩
def dguess (l : List UInt8) : Option Ac := if (cutB l).1 = cutW ∧ (cutB l).2.2 = true then (if (cutB (cutB l).2.1).2.2 = true then dBody (plainV (cutB (cutB l).2.1).1) (cutB (cutB l).2.1).2.1 else none) else dBody (-1) l
theorem dbody_back {x : Ac} (f : Fine x) : dBody x.cut (wd x.k ++ 32 :: Lib.join (rest x) [32]) = some x := by
  unfold dBody
  have hJ : J (rest x) = some (Lib.join (rest x) [32]) := by unfold rest; rw [hM_of f.kd]; rfl
  rw [cut_line _ _ (wd_not f.kd), left_line _ _ (wd_not f.kd), ← hJ]
  simp only
  rw [kind_wd f.kd]
  unfold rest
  have := hM_of f.kd
  rw [this]
  rw [dstep_join true x.me _ (fun _ => f.me) (fun h => by cases h)]
  simp only [Option.bind_some]
  rw [dstep_join (hA x.k) x.a _ f.a f.a0]
  simp only [Option.bind_some]
  rw [dstep_join (hB x.k) x.b _ f.b f.b0]
  simp only [Option.bind_some]
  rw [dstep_join (hC x.k) x.c _ f.c f.c0]
  simp only [Option.bind_some]
  obtain ⟨k, me, a, b, c, t, cut⟩ := x
  simp only
  congr 2
  cases h : hT k with
  | true => simp only [opt, if_true, J]; rw [Lib.join_one]
  | false => simp only [Bool.false_eq_true, if_false]; exact text_none (f.t0 h)
theorem dguess_back {l : List UInt8} {x : Ac} (h : Good l x) : dguess l = some x := by
  have f := fine_of h.1
  have hl := h.2
  unfold dguess
  by_cases hc : x.cut = -1
  · rw [line_no f.kd hc] at hl
    rw [← hl, cut_line _ _ (wd_not f.kd), if_neg (fun h => wd_cut f.kd h.1), ← hc]
    exact dbody_back f
  · rw [line_cut f.kd hc] at hl
    have hw : Not 32 cutW := fun x hx => by
      have : cutW.all (fun c => c != 32) = true := by decide
      simpa using List.all_eq_true.1 this x hx
    have hb : 0 ≤ x.cut ∧ x.cut ≤ 1000000000000 := ⟨by have := f.cut; omega, by have := f.cut; omega⟩
    have hnot : Not 32 (Lib.itoa x.cut) := by rw [itoa_of x.cut hb.1]; exact dd_not _
    rw [← hl, cut_line _ _ hw]
    simp only
    rw [cut_line _ _ hnot, if_pos (by simp), if_pos rfl]
    simp only
    rw [plain_dd _ hb]
    exact dbody_back f

end Go.Proofs.YtlianhienbhbgaaDoor.odr
