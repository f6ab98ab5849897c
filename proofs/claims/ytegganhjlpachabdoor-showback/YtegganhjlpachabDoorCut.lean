/- A text cut: its sign ahead, and at the first dot; whether the units are a whole number. -/
import Derived.Test.YtegganhjlpachabDoorDigits
import Derived.WalkSpells
import Derived.WalkLawsBesides
import Derived.Lib.Bytealg
import Derived.Lib.IndexBytes
namespace Go.Proofs.YtegganhjlpachabDoor.cents
open Go.RowKit

theorem indexByte_any (s : ByteArray) (c : Int) (w : World) :
    Calls Tryd.prog 25 #[.string s, .int .u8 c] w fun e w' => e = .returned (.int .i64 (Lib.indexByte s.data.toList c.toNat.toUInt8)) ∧ w' = w := by
  go_enter Tryd.func25, Tryd.ntmps25
  go_wp2
  rw [run_callFunc_extern Tryd.func34 (by kernel_rfl) (by kernel_rfl) (by kernel_rfl) (e := Extern.BytealgIndexByte.indexByte) (by kernel_rfl), Lib.run_indexByteString]
  simp only [Result.andThen]
  rw [Oper.upon_value]
  go_wp2
  go_ret
  exact ⟨rfl, rfl⟩

theorem ix_lt (l : List UInt8) (c : UInt8) : Lib.indexByte l c = -1 ∨ (0 ≤ Lib.indexByte l c ∧ Lib.indexByte l c < l.length) := by
  induction l with
  | nil => exact .inl rfl
  | cons b r ih =>
    simp only [Lib.indexByte]
    by_cases h : (b == c) = true
    · rw [if_pos h]; right; simp
    · rw [if_neg h]
      rcases ih with ih | ih
      · rw [if_pos (by simp [ih])]; exact .inl rfl
      · rw [if_neg (by simp; omega)]; right; simp; omega

theorem ix_self : Lib.indexByte [46] 46 = 0 := by simp [Lib.indexByte]

set_option maxHeartbeats 400000 in
theorem index_dot (s : ByteArray) (w : World) :
    Calls Tryd.prog 20 #[.string s, .string ⟨#[46]⟩] w fun e w' => e = .returned (.int .i64 (Lib.indexByte s.data.toList 46)) ∧ w' = w := by
  cases h : ([46] == s.toList)
  · go_enter Tryd.func20, Tryd.ntmps20
    go_wp2_with fail
    refine (indexByte_any _ _ _).mono ?_
    rintro e w' ⟨rfl, rfl⟩
    go_wp2
    go_ret
    exact ⟨rfl, rfl⟩
  · have e : s.data.toList = [46] := by rw [← ByteArray.toList_eq]; exact (by simpa using h : [46] = s.toList).symm
    rw [e, ix_self]
    go_enter Tryd.func20, Tryd.ntmps20
    go_wp2
    go_ret
    exact ⟨rfl, rfl⟩

theorem ix_bd {s : ByteArray} {i : Nat} (h : Lib.indexByte s.data.toList 46 = i) : i < s.size := by
  rcases ix_lt s.data.toList 46 with h1 | h1
  · omega
  · have := h1.2; simp at this; omega

set_option maxHeartbeats 400000 in
theorem cutLite_yes (s : ByteArray) (i : Nat) (w : World) (hs : s.size ≤ 140737488351232) (h : Lib.indexByte s.data.toList 46 = i) :
    Calls Tryd.prog 17 #[.string s, .string ⟨#[46]⟩] w fun e w' => e = .returned (.tuple #[.string (s.extract 0 i), .string (s.extract (i + 1) s.size), .bool true]) ∧ Below w.heap.size w w' := by
  have hi := ix_bd h
  have HI : Hid (Lib.indexByte s.data.toList 46 = i) := h
  clear h
  go_enter Tryd.func17, Tryd.ntmps17
  go_wp2_with fail
  refine (index_dot _ _).mono ?_
  rintro e w' ⟨rfl, rfl⟩
  rw [HI.out]
  have h0 : (0 : Int) ≤ (i : Int) := by omega
  go_wp2
  go_region
  all_goals go_wp2
  go_ret3
  exact ⟨rfl, (Below.refl _ _).drew⟩

set_option maxHeartbeats 400000 in
theorem cutLite_no (s : ByteArray) (w : World) (h : Lib.indexByte s.data.toList 46 = -1) :
    Calls Tryd.prog 17 #[.string s, .string ⟨#[46]⟩] w fun e w' => e = .returned (.tuple #[.string s, .string ⟨#[]⟩, .bool false]) ∧ Below w.heap.size w w' := by
  have HI : Hid (Lib.indexByte s.data.toList 46 = -1) := h
  clear h
  go_enter Tryd.func17, Tryd.ntmps17
  go_wp2_with fail
  refine (index_dot _ _).mono ?_
  rintro e w' ⟨rfl, rfl⟩
  rw [HI.out]
  go_wp2
  go_ret3
  exact ⟨rfl, Below.refl _ _⟩

theorem cut_yes (s : ByteArray) (i : Nat) (w : World) (hs : s.size ≤ 140737488351232) (h : Lib.indexByte s.data.toList 46 = i) :
    Calls Tryd.prog 11 #[.string s, .string ⟨#[46]⟩] w fun e w' => e = .returned (.tuple #[.string (s.extract 0 i), .string (s.extract (i + 1) s.size), .bool true]) ∧ Below w.heap.size w w' := by
  have H := cutLite_yes s i w hs h
  clear h
  go_enter Tryd.func11, Tryd.ntmps11
  go_wp2_with fail
  refine H.mono ?_
  rintro e w' ⟨rfl, hb⟩
  clear H
  go_wp2
  go_ret3
  exact ⟨rfl, hb⟩

theorem cut_no (s : ByteArray) (w : World) (h : Lib.indexByte s.data.toList 46 = -1) :
    Calls Tryd.prog 11 #[.string s, .string ⟨#[46]⟩] w fun e w' => e = .returned (.tuple #[.string s, .string ⟨#[]⟩, .bool false]) ∧ Below w.heap.size w w' := by
  have H := cutLite_no s w h
  clear h
  go_enter Tryd.func11, Tryd.ntmps11
  go_wp2_with fail
  refine H.mono ?_
  rintro e w' ⟨rfl, hb⟩
  clear H
  go_wp2
  go_ret3
  exact ⟨rfl, hb⟩

/-- Does a text open with a minus? -/
def neg (l : List UInt8) : Bool := l.head? == some 45

theorem len_eq (s : ByteArray) : s.data.toList.length = s.size := Array.length_toList

theorem neg_size {s : ByteArray} (h : neg s.data.toList = true) : 0 < s.size := by
  by_cases h0 : 0 < s.size
  · exact h0
  · have : s.data.toList = [] := List.eq_nil_of_length_eq_zero (by rw [len_eq]; omega)
    rw [this] at h; cases h

theorem neg_take {s : ByteArray} (h0 : 0 < s.size) : ((s.extract 0 1).toList == [45]) = neg s.data.toList := by
  rw [ByteArray.toList_eq, Lib.extract_data]
  have : 0 < s.data.toList.length := by simpa using h0
  unfold neg
  cases hl : s.data.toList with
  | nil => rw [hl] at this; cases this
  | cons a r => simp

set_option maxHeartbeats 400000 in
theorem cutPrefix_yes (s : ByteArray) (w : World) (h : neg s.data.toList = true) :
    Calls Tryd.prog 10 #[.string s, .string ⟨#[45]⟩] w fun e w' => e = .returned (.tuple #[.string (s.extract 1 s.size), .bool true]) ∧ w' = w := by
  have h0 := neg_size h
  have ht := neg_take h0
  rw [h] at ht
  clear h
  have h1 : (1 : Int) ≤ (s.size : Int) := by omega
  go_enter Tryd.func10, Tryd.ntmps10
  go_wp2
  go_ret2
  exact ⟨rfl, rfl⟩

set_option maxHeartbeats 400000 in
theorem cutPrefix_no (s : ByteArray) (w : World) (h : neg s.data.toList = false) :
    Calls Tryd.prog 10 #[.string s, .string ⟨#[45]⟩] w fun e w' => e = .returned (.tuple #[.string s, .bool false]) ∧ w' = w := by
  by_cases h0 : 0 < s.size
  · have ht := neg_take h0
    rw [h] at ht
    clear h
    have h1 : (1 : Int) ≤ (s.size : Int) := by omega
    go_enter Tryd.func10, Tryd.ntmps10
    go_wp2
    go_ret2
    exact ⟨rfl, rfl⟩
  · have h1 : ¬ (1 : Int) ≤ (s.size : Int) := by omega
    clear h
    go_enter Tryd.func10, Tryd.ntmps10
    go_wp2
    go_ret2
    exact ⟨rfl, rfl⟩

/-- A whole number in digits, without noughts ahead. -/
def whole (l : List UInt8) : Bool := l == [48] || (l != [] && l.head? != some 48 && allD l)

set_option maxHeartbeats 400000 in
theorem isWhole_any (s : ByteArray) (w : World) :
    Calls Tryd.prog 12 #[.string s] w fun e w' => e = .returned (.bool (whole s.data.toList)) ∧ Below w.heap.size w w' := by
  have el := ByteArray.toList_eq s
  by_cases h1 : s.data.toList = [48]
  · have e : whole s.data.toList = true := by rw [h1]; rfl
    rw [e]
    have h2 : (s.toList == [48]) = true := by rw [el, h1]; rfl
    clear el h1 e
    go_enter Tryd.func12, Tryd.ntmps12
    go_wp2
    go_ret
    exact ⟨rfl, Below.refl _ _⟩
  · have h1' : (s.toList == [48]) = false := by rw [el]; simpa using h1
    by_cases h2 : s.data.toList = []
    · have e : whole s.data.toList = false := by rw [h2]; rfl
      rw [e]
      have h3 : (s.toList == []) = true := by rw [el, h2]; rfl
      have h4 : (s.toList != []) = false := by rw [el, h2]; rfl
      clear el h1 h2 e
      go_enter Tryd.func12, Tryd.ntmps12
      go_wp2
      go_ret
      exact ⟨rfl, Below.refl _ _⟩
    · have hsz : 0 < s.size := by
        by_cases h0 : 0 < s.size
        · exact h0
        · exact absurd (List.eq_nil_of_length_eq_zero (by rw [len_eq]; omega)) h2
      have h3 : (s.toList == []) = false := by rw [el]; simpa using h2
      have h4 : (s.toList != []) = true := by rw [el]; simpa using h2
      have hd : s.data.toList.head? = some s[0] := by
        rw [List.head?_eq_getElem?, List.getElem?_eq_getElem (by simpa using hsz)]; rfl
      by_cases h5 : s[0].toNat = 48
      · have e : whole s.data.toList = false := by
          unfold whole
          have : s[0] = 48 := UInt8.toNat_inj.1 h5
          rw [hd, this]
          simp [h1]
        rw [e]
        have h6 : (((s[0].toNat : Nat) : Int) != 48) = false := by simp; omega
        clear el h1 h2 e hd h5
        go_enter Tryd.func12, Tryd.ntmps12
        go_wp2
        go_ret
        exact ⟨rfl, Below.refl _ _⟩
      · have e : whole s.data.toList = allD s.data.toList := by
          unfold whole
          have : ¬ s[0] = 48 := fun h => h5 (by rw [h]; rfl)
          rw [hd]
          have e1 : (s.data.toList == [48]) = false := by simpa using h1
          have e2 : (s.data.toList != []) = true := by simpa using h2
          have e3 : (some s[0] != some 48) = true := by simpa using this
          rw [e1, e2, e3, Bool.false_or, Bool.true_and, Bool.true_and]
        rw [e]
        have h6 : (((s[0].toNat : Nat) : Int) != 48) = true := by simp; omega
        clear el h1 h2 e hd h5
        go_enter Tryd.func12, Tryd.ntmps12
        go_wp2_with fail
        refine (allDigits_any _ _).mono ?_
        rintro e w' ⟨rfl, hb⟩
        go_wp2
        go_ret
        exact ⟨rfl, hb⟩

end Go.Proofs.YtegganhjlpachabDoor.cents
