/- Texts of digits: plain facts, and what flaw gives back. -/
import Derived.Test.YtopbiamlmdpphacDoorChk
import Derived.WalkKit
import Derived.Below
import Derived.Laws.RangeAny
namespace Go.Proofs.YtopbiamlmdpphacDoor.check
open Go.RowKit

def isD (c : UInt8) : Bool := decide (48 ≤ c.toNat) && decide (c.toNat ≤ 57)
def allD (l : List UInt8) : Bool := l.all isD
/-- What the digits of a text tell. -/
def digs (l : List UInt8) : List Nat := l.map fun c => c.toNat - 48
/-- Why a text is none of digits (P3.4). -/
def flawR (l : List UInt8) : Int := if l.length = 0 ∨ 200 < l.length then 1 else if allD l then 0 else 7

theorem ret_bool {a b : Bool} (h : a = b) : Ending.returned (.bool a) = .returned (.bool b) := by rw [h]
theorem ret_int {k : IntKind} {a b : Int} (h : a = b) : Ending.returned (.int k a) = .returned (.int k b) := by rw [h]
theorem allD_append (a b : List UInt8) : allD (a ++ b) = (allD a && allD b) := by simp [allD]
theorem digs_append (a b : List UInt8) : digs (a ++ b) = digs a ++ digs b := by simp [digs]
theorem digs_len (l : List UInt8) : (digs l).length = l.length := by simp [digs]
theorem isD_bd {c : UInt8} (h : isD c = true) : 48 ≤ (c.toNat : Int) ∧ (c.toNat : Int) ≤ 57 := by
  simp [isD] at h; omega
theorem digs_ok {l : List UInt8} (h : allD l = true) : AllD (digs l) := by
  intro d hd
  obtain ⟨c, hc, rfl⟩ := List.mem_map.1 hd
  have := isD_bd (List.all_eq_true.1 h c hc)
  omega
theorem len_eq (s : ByteArray) : s.data.toList.length = s.size := Array.length_toList
theorem take_snoc (s : ByteArray) (k : Nat) (h : k < s.size) : s.data.toList.take (k + 1) = s.data.toList.take k ++ [s[k]] := by
  rw [List.take_succ_eq_append_getElem (by simpa using h)]; rfl
theorem drop_cons (s : ByteArray) (k : Nat) (h : k < s.size) : s.data.toList.drop k = s[k] :: s.data.toList.drop (k + 1) := by
  rw [List.drop_eq_getElem_cons (by simpa using h)]; rfl
theorem allD_take_no (s : ByteArray) (k : Nat) (h : k < s.size) (hn : isD s[k] = false) : allD s.data.toList = false := by
  have e : s.data.toList = s.data.toList.take k ++ [s[k]] ++ s.data.toList.drop (k + 1) := by rw [← take_snoc s k h, List.take_append_drop]
  rw [e, allD_append, allD_append]
  simp [allD, hn]
theorem take_parts (s : ByteArray) (k : Nat) (hp : k < s.size) (h : allD s.data.toList = true) : allD (s.data.toList.take k) = true ∧ isD s[k] = true ∧ allD (s.data.toList.drop (k + 1)) = true := by
  have e : s.data.toList = s.data.toList.take k ++ [s[k]] ++ s.data.toList.drop (k + 1) := by rw [← take_snoc s k hp, List.take_append_drop]
  rw [e, allD_append, allD_append, Bool.and_eq_true, Bool.and_eq_true] at h
  exact ⟨h.1.1, by simpa [allD] using h.1.2, h.2⟩
theorem isD_yes {c : UInt8} (h1 : 48 ≤ (c.toNat : Int)) (h2 : (c.toNat : Int) ≤ 57) : isD c = true := by simp [isD]; omega
theorem isD_lo {c : UInt8} (h1 : (c.toNat : Int) < 48) : isD c = false := by simp [isD]; omega
theorem isD_hi {c : UInt8} (h1 : 57 < (c.toNat : Int)) : isD c = false := by simp [isD]; omega
theorem iter_below (w : World) (s : ByteArray) (k : Nat) : Below w.heap.size w (w.iter s k) := (Below.refl _ _).alloc (Nat.le_refl _) _

theorem flawR_size {l : List UInt8} (h : l.length = 0 ∨ 200 < l.length) : flawR l = 1 := by unfold flawR; rw [if_pos h]
theorem flawR_no {l : List UInt8} (h : ¬ (l.length = 0 ∨ 200 < l.length)) (h2 : allD l = false) : flawR l = 7 := by unfold flawR; rw [if_neg h, h2]; rfl
theorem flawR_ok {l : List UInt8} (h : ¬ (l.length = 0 ∨ 200 < l.length)) (h2 : allD l = true) : flawR l = 0 := by unfold flawR; rw [if_neg h, h2]; rfl

set_option maxHeartbeats 400000 in
theorem flaw_any (s : ByteArray) (w : World) :
    Calls Tryd.prog 13 #[.string s] w fun e w' => e = .returned (.int .i64 (flawR s.data.toList)) ∧ Below w.heap.size w w' := by
  have el := ByteArray.toList_eq s
  have ln := len_eq s
  by_cases h0 : s.size = 0
  · rw [flawR_size (.inl (by omega))]
    have e : (s.toList == []) = true := by rw [el, List.eq_nil_of_length_eq_zero (by omega : s.data.toList.length = 0)]; rfl
    clear el ln
    go_enter Tryd.func13, Tryd.ntmps13
    go_wp2
    go_ret
    exact ⟨rfl, Below.refl _ _⟩
  · have e : (s.toList == []) = false := by
      rw [el]; cases hl : s.data.toList with
      | nil => rw [hl] at ln; simp at ln; omega
      | cons a r => rfl
    by_cases h2 : 200 < s.size
    · rw [flawR_size (.inr (by omega))]
      have h3 : (200 : Int) < (s.size : Int) := by omega
      clear el ln
      go_enter Tryd.func13, Tryd.ntmps13
      go_wp2
      go_ret
      exact ⟨rfl, Below.refl _ _⟩
    · have h3 : ¬ (200 : Int) < (s.size : Int) := by omega
      have HS : Hid (¬ (s.data.toList.length = 0 ∨ 200 < s.data.toList.length)) := by intro h; omega
      clear el ln
      go_enter Tryd.func13, Tryd.ntmps13
      go_wp2
      go_loopw [] (fun wr => ∃ k : Nat, k ≤ s.size ∧ wr = w.iter s k ∧ allD (s.data.toList.take k) = true) (fun wr => s.size - wr.iterPos w.heap.size)
      case atStart => exact ⟨0, Nat.zero_le _, rfl, rfl⟩
      case round =>
        obtain ⟨k, hk, rfl, hok⟩ := hrel
        have HK : Hid (allD (s.data.toList.take k) = true) := hok
        clear hok
        by_cases hp : k < s.size
        · by_cases ha : (s[k]'hp).toNat < 128
          · have hnx : ∀ ty, (Instr.next (.pointer (some ⟨w.heap.size, 0, none⟩)) true ty).run Tryd.prog (w.iter s k) = _ := fun ty => run_next_ascii w s k ty hp ha
            have HT : Hid (s.data.toList.take (k + 1) = s.data.toList.take k ++ [s[k]]) := take_snoc s k hp
            have HN : Hid (isD s[k] = false → allD s.data.toList = false) := allD_take_no s k hp
            have HY : Hid (48 ≤ ((s[k].toNat : Nat) : Int) → ((s[k].toNat : Nat) : Int) ≤ 57 → isD s[k] = true) := fun a b => isD_yes a b
            have HL : Hid (((s[k].toNat : Nat) : Int) < 48 → isD s[k] = false) := fun a => isD_lo a
            have HH : Hid (57 < ((s[k].toNat : Nat) : Int) → isD s[k] = false) := fun a => isD_hi a
            clear ha
            generalize s[k] = c at *
            generalize hcc : ((c.toNat : Nat) : Int) = z at *
            clear hcc
            by_cases h1 : z < 48
            · go_wp2
              go_ret
              exact ⟨ret_int (flawR_no HS.out (HN.out (HL.out h1))).symm, iter_below _ _ _⟩
            · by_cases h2 : 57 < z
              · go_wp2
                go_ret
                exact ⟨ret_int (flawR_no HS.out (HN.out (HH.out h2))).symm, iter_below _ _ _⟩
              · go_wp2
                go_roundw
                case rel => exact ⟨k + 1, by omega, rfl, by rw [HT.out, allD_append, HK.out]; simp [allD, HY.out (by omega) (by omega)]⟩
                case measure => simp; omega
          · have hd := (decode_high s k hp (by omega)).1
            have hnx : ∀ ty, (Instr.next (.pointer (some ⟨w.heap.size, 0, none⟩)) true ty).run Tryd.prog (w.iter s k) = _ := fun ty => run_next_any w s k ty hp
            have HN : Hid (allD s.data.toList = false) := allD_take_no s k hp (isD_hi (by omega))
            clear ha
            have hd2 := decode_le s k
            generalize (Utf8.decode s k).1 = r at *
            generalize (Utf8.decode s k).2 = n at *
            go_wp2
            go_ret
            exact ⟨ret_int (flawR_no HS.out HN.out).symm, iter_below _ _ _⟩
        · have hnx : ∀ ty, (Instr.next (.pointer (some ⟨w.heap.size, 0, none⟩)) true ty).run Tryd.prog (w.iter s k) = _ := fun ty => run_next_end w s k ty hp
          go_wp2
          go_ret
          refine ⟨ret_int ?_, iter_below _ _ _⟩
          have := HK.out
          rw [List.take_of_length_le (by simp; omega)] at this
          exact (flawR_ok HS.out this).symm

theorem flawR_zero {l : List UInt8} (h : flawR l = 0) : (1 ≤ l.length ∧ l.length ≤ 200) ∧ allD l = true := by
  unfold flawR at h
  by_cases h1 : l.length = 0 ∨ 200 < l.length
  · rw [if_pos h1] at h; omega
  · rw [if_neg h1] at h
    cases h2 : allD l
    · rw [h2] at h; simp at h
    · exact ⟨by omega, rfl⟩

theorem value_any (z : Int) (w : World) (h1 : 48 ≤ z) (h2 : z ≤ 57) :
    Calls Tryd.prog 21 #[.int .i32 z] w fun e w' => e = .returned (.int .i64 (z - 48)) ∧ w' = w := by
  go_enter Tryd.func21, Tryd.ntmps21
  go_wp2
  go_ret
  exact ⟨rfl, rfl⟩

end Go.Proofs.YtopbiamlmdpphacDoor.check
