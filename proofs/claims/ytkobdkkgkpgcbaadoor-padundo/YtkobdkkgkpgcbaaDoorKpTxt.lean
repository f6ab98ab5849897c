/- Texts that are keyed: plain facts. -/
import Derived.Test.YtkobdkkgkpgcbaaDoorKpSame
namespace Go.Proofs.YtkobdkkgkpgcbaaDoor.keypad
open Go.Proofs.YtkobdkkgkpgcbaaDoor.check
open Go.RowKit
open Go.Lib (decodeL)

theorem ba_ext {a b : ByteArray} (h : a.data.toList = b.data.toList) : a = b := by
  obtain ⟨⟨x⟩⟩ := a
  obtain ⟨⟨y⟩⟩ := b
  simp only at h
  rw [h]
/-- The digits that keys are, as a text. -/
def keyed (rs : List Int) : List UInt8 := rs.map fun r => UInt8.ofNat (48 + (keyD r).toNat)
theorem pad_digits (rs : List Int) : ∀ (D : ByteArray) (b : Bool), (∀ r ∈ rs, 0 ≤ keyD r) → D.size + rs.length ≤ 30 →
    padAll ⟨D, b⟩ rs = ⟨⟨(D.data.toList ++ keyed rs).toArray⟩, b⟩ ∧ entAll ⟨D, b⟩ rs = [] := by
  induction rs with
  | nil => intro D b _ _; exact ⟨by simp [padAll, keyed], rfl⟩
  | cons r rs ih =>
    intro D b h hl
    have hr := h r (List.mem_cons_self ..)
    have hk := keyD_bd r
    simp only [List.length_cons] at hl
    have h35 : r ≠ 35 := by intro e; subst e; revert hr; decide
    have e0 : pad ⟨D, b⟩ r = ⟨D ++ one (keyD r), b⟩ := by unfold pad; rw [if_pos hr, if_neg (by show ¬ D.size = 30; omega)]
    have e1 : ents ⟨D, b⟩ r = [] := if_neg h35
    have hz : (D ++ one (keyD r)).size = D.size + 1 := by rw [ByteArray.size_append, one_size _ hr hk.2]
    have := ih (D ++ one (keyD r)) b (fun x hx => h x (List.mem_cons_of_mem _ hx)) (by rw [hz]; omega)
    simp only [padAll, entAll, e0, e1, List.nil_append]
    refine ⟨?_, this.2⟩
    rw [this.1, app_list, one_list _ hr hk.2]
    simp [keyed]
/-- Digits and an end: one entry. -/
theorem digits_end (rs : List Int) (h : ∀ r ∈ rs, 0 ≤ keyD r) (h1 : rs ≠ []) (hl : rs.length ≤ 30) :
    padAll noPad (rs ++ [35]) = noPad ∧ entAll noPad (rs ++ [35]) = [⟨⟨(keyed rs).toArray⟩, 0⟩] := by
  have := pad_digits rs ByteArray.empty false h (by simpa using hl)
  have e0 : padAll noPad rs = ⟨⟨(keyed rs).toArray⟩, false⟩ := by have := this.1; simpa [noPad] using this
  rw [padAll_snoc, entAll_snoc, e0]
  refine ⟨rfl, ?_⟩
  have e1 : entAll noPad rs = [] := this.2
  rw [e1]
  have hz : (⟨(keyed rs).toArray⟩ : ByteArray).size ≠ 0 := by
    rw [← len_eq]; simp [keyed]; exact h1
  show [] ++ ents _ 35 = _
  unfold ents ended
  rw [if_pos rfl, if_neg (by simp), if_neg hz]
  rfl

theorem runes_ascii (c : UInt8) (t : List UInt8) (h : c.toNat < 128) : runes (c :: t) = (c.toNat : Int) :: runes t := by
  rw [runes_step _ (by simp), Lib.decodeL_ascii c t h]; rfl
theorem runes_digits (l t : List UInt8) (h : allD l = true) : runes (l ++ t) = l.map (fun c => (c.toNat : Int)) ++ runes t := by
  induction l with
  | nil => rfl
  | cons c l ih =>
    simp only [allD, List.all_cons, Bool.and_eq_true] at h
    have hb := isD_bd h.1
    rw [List.cons_append, runes_ascii c _ (by omega), ih h.2]; rfl
theorem keyD_digit (c : UInt8) (h : isD c = true) : 0 ≤ keyD (c.toNat : Int) ∧ UInt8.ofNat (48 + (keyD (c.toNat : Int)).toNat) = c := by
  have hb := isD_bd h
  have e : keyD (c.toNat : Int) = (c.toNat : Int) - 48 := by unfold keyD; rw [if_pos (by omega)]
  rw [e]
  refine ⟨by omega, ?_⟩
  rw [show 48 + ((c.toNat : Int) - 48).toNat = c.toNat by omega]
  simp

/-- A character's bytes tell it. -/
theorem decode_encode (r : Int) (t : List UInt8) (h : Utf8.valid r = true) : decodeL ((Utf8.encode r).data.toList ++ t) = (r.toNat, (Utf8.encode r).size) := by
  have hv : (0 ≤ r ∧ r < 55296) ∨ (57344 ≤ r ∧ r ≤ 1114111) := by
    simpa [Utf8.valid] using h
  obtain ⟨n, rfl⟩ : ∃ n : Nat, r = n := ⟨r.toNat, by omega⟩
  rw [Lib.decodeL_N]
  simp only [Utf8.encode, h, if_true, Int.toNat_natCast]
  have q : ∀ x, x < 256 → (UInt8.ofNat x).toNat = x := fun x hx => by simp; omega
  by_cases h1 : n < 128
  · rw [if_pos h1]
    have e0 := q n (by omega)
    simp [Lib.decodeN, e0, h1]
    rfl
  · rw [if_neg h1]
    by_cases h2 : n < 2048
    · rw [if_pos h2]
      have e0 := q (192 + n / 64) (by omega)
      have e1 := q (128 + n % 64) (by omega)
      simp only [List.cons_append, List.nil_append, List.getD_cons_zero, List.getD_cons_succ, e0, e1, List.length_cons]
      unfold Lib.decodeN
      repeat' split
      all_goals first
        | omega
        | (refine Prod.ext ?_ ?_
           · show _ = n; omega
           · rfl)
    · rw [if_neg h2]
      by_cases h3 : n < 65536
      · rw [if_pos h3]
        have e0 := q (224 + n / 4096) (by omega)
        have e1 := q (128 + n / 64 % 64) (by omega)
        have e2 := q (128 + n % 64) (by omega)
        simp only [List.cons_append, List.nil_append, List.getD_cons_zero, List.getD_cons_succ, e0, e1, e2, List.length_cons]
        unfold Lib.decodeN
        repeat' split
        all_goals first
          | omega
          | (refine Prod.ext ?_ ?_
             · show _ = n; omega
             · rfl)
      · rw [if_neg h3]
        have e0 := q (240 + n / 262144) (by omega)
        have e1 := q (128 + n / 4096 % 64) (by omega)
        have e2 := q (128 + n / 64 % 64) (by omega)
        have e3 := q (128 + n % 64) (by omega)
        simp only [List.cons_append, List.nil_append, List.getD_cons_zero, List.getD_cons_succ, e0, e1, e2, e3, List.length_cons]
        unfold Lib.decodeN
        repeat' split
        all_goals first
          | omega
          | (refine Prod.ext ?_ ?_
             · show _ = n; omega
             · rfl)
theorem encode_pos (r : Int) : 1 ≤ (Utf8.encode r).size := by
  unfold Utf8.encode
  simp only
  repeat' split
  all_goals simp [ByteArray.size]
theorem runes_one (r : Int) (t : List UInt8) (h : Utf8.valid r = true) : runes ((Utf8.encode r).data.toList ++ t) = r :: runes t := by
  have hv : 0 ≤ r := by
    have : (0 ≤ r ∧ r < 55296) ∨ (57344 ≤ r ∧ r ≤ 1114111) := by simpa [Utf8.valid] using h
    omega
  have hne : (Utf8.encode r).data.toList ++ t ≠ [] := by
    intro e
    have h1 := congrArg List.length e
    rw [List.length_append, len_eq, List.length_nil] at h1
    have h2 := encode_pos r
    omega
  rw [runes_step _ hne, decode_encode r t h]
  simp only
  rw [show ((r.toNat : Nat) : Int) = r by omega, ← len_eq, List.drop_left]
/-- The text of characters, told as a list. -/
def encL (rs : List Int) : List UInt8 := rs.flatMap fun r => (Utf8.encode r).data.toList
theorem runesBytes_list (rs : List Int) : (runesBytes rs).data.toList = encL rs := by
  have : ∀ (l : List Int) (s : ByteArray), (l.foldl (fun r n => r ++ Utf8.encode n) s).data.toList = s.data.toList ++ encL l := by
    intro l
    induction l with
    | nil => intro s; simp [encL]
    | cons r l ih => intro s; rw [List.foldl_cons, ih, app_list]; simp [encL]
  have := this rs ByteArray.empty
  simpa [runesBytes] using this
theorem runes_enc (rs : List Int) (t : List UInt8) (h : ∀ r ∈ rs, Utf8.valid r = true) : runes (encL rs ++ t) = rs ++ runes t := by
  induction rs with
  | nil => rfl
  | cons r rs ih =>
    have e : encL (r :: rs) = (Utf8.encode r).data.toList ++ encL rs := by simp [encL]
    rw [e, List.append_assoc, runes_one r _ (h r (List.mem_cons_self ..)), ih (fun x hx => h x (List.mem_cons_of_mem _ hx))]; rfl

/-- Digits and an end are keyed: the one entry. -/
theorem keys_plain (S s : ByteArray) (rs : List Int) (w : World) (hS : runes S.data.toList = rs ++ [35]) (hk : keyed rs = s.data.toList) (hd : ∀ r ∈ rs, 0 ≤ keyD r) (h1 : rs ≠ []) (hl : rs.length ≤ 30) (hz : S.size ≤ 2000) (ht : NTab w) :
    Calls Tryd.prog 12 #[.string S] w fun e w' => ∃ g cap, e = .returned (.tuple #[.slice (some ⟨g, 0, none⟩) 1 cap, .agg #[.string ⟨#[]⟩, .bool false], .int .i64 0]) ∧ w'.cell? ⟨g, 0, none⟩ = some (.string s) ∧ w'.cell? ⟨g, 1, none⟩ = some (.int .i64 0) ∧ Below w.heap.size w w' := by
  refine (keys_any S w hz ht).mono ?_
  rintro e w' ⟨v, rfl, hL, hb⟩
  have hde := digits_end rs hd h1 hl
  rw [hS, hde.1]
  rw [hS, hde.2] at hL
  have es : (⟨(keyed rs).toArray⟩ : ByteArray) = s := ba_ext (by rw [← hk])
  rw [es] at hL
  rcases hL.form with ⟨_, hn⟩ | ⟨g, cap, rfl, _, _⟩
  · cases hn
  · have := hL.at 0 (by simp)
    exact ⟨g, cap, rfl, this.1, this.2, hb⟩

theorem runes_end35 : runes [35] = [35] := by rw [runes_ascii 35 [] (by decide)]; rfl
theorem keyed_digits (l : List UInt8) (hD : allD l = true) : keyed (l.map fun c => (c.toNat : Int)) = l := by
  unfold keyed
  rw [List.map_map]
  exact (List.map_congr_left (g := id) fun c hc => (keyD_digit c (List.all_eq_true.1 hD c hc)).2).trans (List.map_id l)
theorem keys_digits (s : ByteArray) (w : World) (h1 : 1 ≤ s.size) (h30 : s.size ≤ 30) (hD : allD s.data.toList = true) (ht : NTab w) :
    Calls Tryd.prog 12 #[.string (s ++ ⟨#[35]⟩)] w fun e w' => ∃ g cap, e = .returned (.tuple #[.slice (some ⟨g, 0, none⟩) 1 cap, .agg #[.string ⟨#[]⟩, .bool false], .int .i64 0]) ∧ w'.cell? ⟨g, 0, none⟩ = some (.string s) ∧ w'.cell? ⟨g, 1, none⟩ = some (.int .i64 0) ∧ Below w.heap.size w w' := by
  obtain ⟨S, hS⟩ : ∃ S : ByteArray, S = s ++ ⟨#[35]⟩ := ⟨_, rfl⟩
  have hL : S.data.toList = s.data.toList ++ [35] := by rw [hS, app_list]
  have hZ : S.size ≤ 2000 := by
    rw [← len_eq, hL, List.length_append, len_eq]
    simp only [List.length_cons, List.length_nil]
    omega
  rw [← hS]
  clear hS
  have hR : runes S.data.toList = (s.data.toList.map fun c => (c.toNat : Int)) ++ [35] := by rw [hL, runes_digits _ _ hD, runes_end35]
  have hk := keyed_digits _ hD
  have hd : ∀ r ∈ (s.data.toList.map fun c => (c.toNat : Int)), 0 ≤ keyD r := by
    intro r hr
    obtain ⟨c, hc, rfl⟩ := List.mem_map.1 hr
    exact (keyD_digit c (List.all_eq_true.1 hD c hc)).1
  have hlen : (s.data.toList.map fun c => (c.toNat : Int)).length = s.size := by rw [List.length_map, len_eq]
  generalize (s.data.toList.map fun c => (c.toNat : Int)) = rs at *
  have hne : rs ≠ [] := by intro e; rw [e] at hlen; simp at hlen; omega
  exact keys_plain S s rs w hR hk hd hne (by omega) hZ ht

end Go.Proofs.YtkobdkkgkpgcbaaDoor.keypad
