/- Pads, keys and entries: plain facts. -/
import Derived.Test.YtkobdkkgkpgcbaaDoorCkTxt
import Derived.Lib.MapLaws
import Derived.Lib.TrimAscii
import Derived.Laws.Cover4
namespace Go.Proofs.YtkobdkkgkpgcbaaDoor.keypad
open Go.Proofs.YtkobdkkgkpgcbaaDoor.check
open Go.Lib (decodeL)

/-- A pad: its digits, and whether it is bad. -/
structure Pad where
  d : ByteArray
  b : Bool
def Pad.v (p : Pad) : Value := .agg #[.string p.d, .bool p.b]
def noPad : Pad := ⟨ByteArray.empty, false⟩
/-- An entry: its text, and its code. -/
structure Ent where
  t : ByteArray
  c : Int
def Ent.v (e : Ent) : Value := .agg #[.string e.t, .int .i64 e.c]

/-- May it be? (P5.1) -/
structure Pad.ok (p : Pad) : Prop where
  s : p.d.size ≤ 30
  a : allD p.d.data.toList = true
theorem noPad_ok : noPad.ok := ⟨by decide, by decide⟩

/-- The digit that a character is; -1: none. -/
def keyD (r : Int) : Int :=
  if 48 ≤ r ∧ r ≤ 57 then r - 48 else if 1632 ≤ r ∧ r ≤ 1641 then r - 1632 else if 1776 ≤ r ∧ r ≤ 1785 then r - 1776
  else if 2406 ≤ r ∧ r ≤ 2415 then r - 2406 else if 2534 ≤ r ∧ r ≤ 2543 then r - 2534 else if 65296 ≤ r ∧ r ≤ 65305 then r - 65296 else -1
theorem keyD_bd (r : Int) : -1 ≤ keyD r ∧ keyD r ≤ 9 := by
  unfold keyD; repeat' split
  all_goals omega
/-- One digit, as a text. -/
def one (n : Int) : ByteArray := Utf8.encode (48 + n)
theorem one_list (n : Int) (h0 : 0 ≤ n) (h9 : n ≤ 9) : (one n).data.toList = [UInt8.ofNat (48 + n.toNat)] := by
  obtain ⟨k, rfl⟩ : ∃ k : Nat, n = k := ⟨n.toNat, by omega⟩
  have hv : Utf8.valid (48 + (k : Int)) = true := by simp [Utf8.valid]; omega
  have ht : (48 + (k : Int)).toNat = 48 + k := by omega
  simp only [one, Utf8.encode, hv, ht, if_true, Int.toNat_natCast]
  rw [if_pos (by omega)]
theorem one_size (n : Int) (h0 : 0 ≤ n) (h9 : n ≤ 9) : (one n).size = 1 := by
  rw [← len_eq, one_list n h0 h9]; rfl
theorem one_D (n : Int) (h0 : 0 ≤ n) (h9 : n ≤ 9) : allD (one n).data.toList = true := by
  rw [one_list n h0 h9]
  simp [allD, isD]
  omega

/-- A key is pressed (P5.2): the pad behind it, and what it ended. -/
def pad (p : Pad) (r : Int) : Pad :=
  if 0 ≤ keyD r then (if p.d.size = 30 then ⟨p.d, true⟩ else ⟨p.d ++ one (keyD r), p.b⟩)
  else if r = 32 ∨ r = 45 ∨ r = 160 then p
  else if r = 42 then ⟨p.d.extract 0 (p.d.size - 1), p.b⟩
  else if r = 35 then noPad
  else ⟨p.d, true⟩
def ended (p : Pad) : List Ent := if p.b then [⟨ByteArray.empty, 3⟩] else if p.d.size = 0 then [] else [⟨p.d, 0⟩]
def ents (p : Pad) (r : Int) : List Ent := if r = 35 then ended p else []

theorem ext_size (s : ByteArray) (h : s.size ≤ 30) : (s.extract 0 (s.size - 1)).size ≤ 30 := by
  rw [ByteArray.size_extract]; omega
theorem ext_list (s : ByteArray) (k : Nat) : (s.extract 0 k).data.toList = s.data.toList.take k := by
  simp [ByteArray.data_extract]
theorem allD_take (l : List UInt8) (k : Nat) (h : allD l = true) : allD (l.take k) = true := by
  have e : l = l.take k ++ l.drop k := (List.take_append_drop k l).symm
  rw [e, allD_append, Bool.and_eq_true] at h
  exact h.1
theorem app_list (a b : ByteArray) : (a ++ b).data.toList = a.data.toList ++ b.data.toList := by
  simp [ByteArray.data_append]

theorem Pad.ok.next {p : Pad} (h : p.ok) (r : Int) : (pad p r).ok := by
  have hk := keyD_bd r
  have hs := h.s
  unfold pad
  repeat' split
  · exact ⟨h.s, h.a⟩
  · refine ⟨?_, ?_⟩
    · show (p.d ++ one (keyD r)).size ≤ 30
      rw [ByteArray.size_append, one_size _ (by omega) (by omega)]; omega
    · show allD (p.d ++ one (keyD r)).data.toList = true
      rw [app_list, allD_append, h.a, one_D _ (by omega) (by omega)]; rfl
  · exact h
  · exact ⟨ext_size _ hs, by show allD (p.d.extract 0 (p.d.size - 1)).data.toList = true; rw [ext_list]; exact allD_take _ _ h.a⟩
  · exact noPad_ok
  · exact ⟨h.s, h.a⟩

/-- Keys, one by one. -/
def padAll (p : Pad) : List Int → Pad
  | [] => p
  | r :: rs => padAll (pad p r) rs
def entAll (p : Pad) : List Int → List Ent
  | [] => []
  | r :: rs => ents p r ++ entAll (pad p r) rs
theorem padAll_app (p : Pad) (a b : List Int) : padAll p (a ++ b) = padAll (padAll p a) b := by
  induction a generalizing p with
  | nil => rfl
  | cons r a ih => exact ih _
theorem entAll_app (p : Pad) (a b : List Int) : entAll p (a ++ b) = entAll p a ++ entAll (padAll p a) b := by
  induction a generalizing p with
  | nil => rfl
  | cons r a ih => simp only [List.cons_append, entAll, padAll, ih, List.append_assoc]
theorem padAll_ok {p : Pad} (h : p.ok) (a : List Int) : (padAll p a).ok := by
  induction a generalizing p with
  | nil => exact h
  | cons r a ih => exact ih (h.next r)
theorem padAll_snoc (p : Pad) (a : List Int) (r : Int) : padAll p (a ++ [r]) = pad (padAll p a) r := padAll_app p a [r]
theorem entAll_snoc (p : Pad) (a : List Int) (r : Int) : entAll p (a ++ [r]) = entAll p a ++ ents (padAll p a) r := by
  rw [entAll_app]; simp [entAll]
theorem ents_le (p : Pad) (r : Int) : (ents p r).length ≤ 1 := by
  unfold ents ended; repeat' split
  all_goals simp
theorem entAll_le (p : Pad) (a : List Int) : (entAll p a).length ≤ a.length := by
  induction a generalizing p with
  | nil => simp [entAll]
  | cons r a ih => have := ents_le p r; have := ih (pad p r); simp only [entAll, List.length_append, List.length_cons]; omega

/-- The characters of a text. -/
def runesF : Nat → List UInt8 → List Int
  | 0, _ => []
  | n + 1, l => if l = [] then [] else ((decodeL l).1 : Int) :: runesF n (l.drop (decodeL l).2)
def runes (l : List UInt8) : List Int := runesF l.length l
theorem runesF_nil (n : Nat) : runesF n [] = [] := by cases n <;> simp [runesF]
theorem runesF_fuel : ∀ (n m : Nat) (l : List UInt8), l.length ≤ n → l.length ≤ m → runesF n l = runesF m l
  | 0, m, l, hn, _ => by
    have : l = [] := List.eq_nil_of_length_eq_zero (by omega)
    subst this; rw [runesF_nil, runesF_nil]
  | n + 1, 0, l, _, hm => by
    have : l = [] := List.eq_nil_of_length_eq_zero (by omega)
    subst this; rw [runesF_nil, runesF_nil]
  | n + 1, m + 1, l, hn, hm => by
    by_cases hne : l = []
    · subst hne; rw [runesF_nil, runesF_nil]
    · have hw := Lib.decodeL_width l
      have hl : 0 < l.length := List.length_pos_iff.2 hne
      simp only [runesF, if_neg hne]
      rw [runesF_fuel n m _ (by rw [List.length_drop]; omega) (by rw [List.length_drop]; omega)]
theorem runes_step (l : List UInt8) (hne : l ≠ []) : runes l = ((decodeL l).1 : Int) :: runes (l.drop (decodeL l).2) := by
  have hw := Lib.decodeL_width l
  have hl : 0 < l.length := List.length_pos_iff.2 hne
  unfold runes
  obtain ⟨n, hn⟩ : ∃ n, l.length = n + 1 := ⟨l.length - 1, by omega⟩
  rw [hn]
  simp only [runesF, if_neg hne]
  rw [runesF_fuel n _ _ (by rw [List.length_drop]; omega) (Nat.le_refl _)]
theorem runes_nil : runes [] = [] := rfl
/-- One more character of a text, from place k on. -/
theorem runes_at (s : ByteArray) (k : Nat) (h : k < s.size) : runes (s.data.toList.drop k) = ((Utf8.decode s k).1 : Int) :: runes (s.data.toList.drop (k + (Utf8.decode s k).2)) := by
  rw [runes_step _ (by intro e; have := congrArg List.length e; simp at this; have e2 : s.data.size = s.size := rfl; omega), Lib.decodeL_drop, List.drop_drop]
theorem decode_pos (s : ByteArray) (k : Nat) : 1 ≤ (Utf8.decode s k).2 := by rw [← Lib.decodeL_drop]; exact Lib.decodeL_width _
theorem decode_le (s : ByteArray) (k : Nat) (h : k < s.size) : k + (Utf8.decode s k).2 ≤ s.size := by
  have h1 := Lib.decodeL_le (s.data.toList.drop k) (by intro e; have := congrArg List.length e; simp at this; have e2 : s.data.size = s.size := rfl; omega)
  rw [Lib.decodeL_drop, List.length_drop, len_eq] at h1
  omega
theorem decode_max (s : ByteArray) (k : Nat) : (Utf8.decode s k).1 ≤ 1114111 := by rw [← Lib.decodeL_drop]; exact Lib.decodeL_rune _
theorem runes_end (s : ByteArray) (k : Nat) (h : s.size ≤ k) : runes (s.data.toList.drop k) = [] := by
  rw [List.drop_eq_nil_of_le (by rw [len_eq]; exact h)]; rfl

/-- Two pads, as values. -/
theorem mk_ext {p q : Pad} (h1 : p.d = q.d) (h2 : p.b = q.b) : p = q := by cases p; cases q; simp_all

end Go.Proofs.YtkobdkkgkpgcbaaDoor.keypad
