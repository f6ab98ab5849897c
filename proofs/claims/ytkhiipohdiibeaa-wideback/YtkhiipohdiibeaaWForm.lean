/- What words.inForm and words.Read give back. -/
import Derived.Test.YtkhiipohdiibeaaWDig
import Derived.Lib.OthersKept
namespace Go.Proofs.Ytkhiipohdiibeaa.words
open Go.RowKit

theorem len_eq (s : ByteArray) : s.data.toList.length = s.size := by simp

/-- A whole number in digits, without noughts ahead. -/
def whole (l : List UInt8) : Bool := l == [48] || (l != [] && l.head? != some 48 && allD l)

set_option maxHeartbeats 400000 in
theorem inForm_any (s : ByteArray) (w : World) :
    Calls Try.prog 16 #[.string s] w fun e w' => e = .returned (.bool (whole s.data.toList)) ∧ Below w.heap.size w w' := by
  have el := ByteArray.toList_eq s
  by_cases h1 : s.data.toList = [48]
  · have e : whole s.data.toList = true := by rw [h1]; rfl
    rw [e]
    have h2 : (s.toList == [48]) = true := by rw [el, h1]; rfl
    clear el h1 e
    go_enter Try.func16, Try.ntmps16
    go_wp2
    go_ret
    exact ⟨rfl, Below.refl _ _⟩
  · have h1' : (s.toList == [48]) = false := by rw [el]; simpa using h1
    by_cases h2 : s.data.toList = []
    · have e : whole s.data.toList = false := by rw [h2]; rfl
      rw [e]
      have h3 : (s.toList == []) = true := by rw [el, h2]; rfl
      have h4 : (s.toList != []) = false := by rw [el, h2]; rfl
      clear el h1 h2 e
      go_enter Try.func16, Try.ntmps16
      go_wp2
      go_ret
      exact ⟨rfl, Below.refl _ _⟩
    · have hsz : 0 < s.size := by
        by_cases h0 : 0 < s.size
        · exact h0
        · exact absurd (List.eq_nil_of_length_eq_zero (by rw [len_eq]; omega)) h2
      have h3 : (s.toList == []) = false := by rw [el]; simpa using h2
      have h4 : (s.toList != []) = true := by rw [el]; simpa using h2
      have hd : s.data.toList.head? = some s[0] := by
        rw [List.head?_eq_getElem?, List.getElem?_eq_getElem (by simpa using hsz)]; rfl
      by_cases h5 : s[0].toNat = 48
      · have e : whole s.data.toList = false := by
          unfold whole
          have : s[0] = 48 := UInt8.toNat_inj.1 h5
          rw [hd, this]
          simp [h1]
        rw [e]
        have h6 : (((s[0].toNat : Nat) : Int) != 48) = false := by simp; omega
        clear el h1 h2 e hd h5
        go_enter Try.func16, Try.ntmps16
        go_wp2
        go_ret
        exact ⟨rfl, Below.refl _ _⟩
      · have e : whole s.data.toList = allD s.data.toList := by
          unfold whole
          have : ¬ s[0] = 48 := fun h => h5 (by rw [h]; rfl)
          rw [hd]
          have e1 : (s.data.toList == [48]) = false := by simpa using h1
          have e2 : (s.data.toList != []) = true := by simpa using h2
          have e3 : (some s[0] != some 48) = true := by simpa using this
          rw [e1, e2, e3, Bool.false_or, Bool.true_and, Bool.true_and]
        rw [e]
        have h6 : (((s[0].toNat : Nat) : Int) != 48) = true := by simp; omega
        clear el h1 h2 e hd h5
        go_enter Try.func16, Try.ntmps16
        go_wp2_with fail
        refine (containsFunc_any _ _).mono ?_
        rintro e w' ⟨rfl, hb⟩
        have HB : Hid (Below w.heap.size w w') := hb
        clear hb
        cases ha : allD s.data.toList
        · have hn : (!false) = true := rfl
          have HA : Hid (allD s.data.toList = false) := ha
          clear ha
          go_wp2_with fail
          go_ret
          exact ⟨ret_bool' HA.out.symm, HB.out⟩
        · have hn : (!true) = false := rfl
          have HA : Hid (allD s.data.toList = true) := ha
          clear ha
          go_wp2_with fail
          go_ret
          exact ⟨ret_bool' HA.out.symm, HB.out⟩


end Go.Proofs.Ytkhiipohdiibeaa.words
