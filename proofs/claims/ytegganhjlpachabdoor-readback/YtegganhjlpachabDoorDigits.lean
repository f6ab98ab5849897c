/- Digits: whether a text is made of them alone, and the number that they make. -/
import Derived.Test.YtegganhjlpachabDoorPicked
import Derived.Laws.RangeAny
namespace Go.Proofs.YtegganhjlpachabDoor.cents
open Go.RowKit

def isD (c : UInt8) : Bool := decide (48 ≤ c.toNat) && decide (c.toNat ≤ 57)
def allD (l : List UInt8) : Bool := l.all isD
/-- The number that digits make. -/
def dval (l : List UInt8) : Int := l.foldl (fun n c => n * 10 + ((c.toNat : Int) - 48)) 0
/-- The same, but that nothing more is added once it is above a million millions. -/
def cval (l : List UInt8) : Int := l.foldl (fun n c => if n ≤ 1000000000000 then n * 10 + ((c.toNat : Int) - 48) else n) 0

theorem allD_append (a b : List UInt8) : allD (a ++ b) = (allD a && allD b) := by simp [allD]
theorem dval_snoc (l : List UInt8) (c : UInt8) : dval (l ++ [c]) = dval l * 10 + ((c.toNat : Int) - 48) := by simp [dval, List.foldl_append]
theorem cval_snoc (l : List UInt8) (c : UInt8) : cval (l ++ [c]) = if cval l ≤ 1000000000000 then cval l * 10 + ((c.toNat : Int) - 48) else cval l := by unfold cval; rw [List.foldl_append]; rfl

theorem snoc_ind {P : List UInt8 → Prop} (h0 : P []) (h1 : ∀ l c, P l → P (l ++ [c])) (l : List UInt8) : P l := by
  have : ∀ n, ∀ l : List UInt8, l.length = n → P l := by
    intro n
    induction n with
    | zero => intro l hl; rw [List.eq_nil_of_length_eq_zero hl]; exact h0
    | succ n ih =>
      intro l hl
      have hne : l ≠ [] := by intro e; rw [e] at hl; cases hl
      rw [← List.dropLast_concat_getLast hne]
      exact h1 _ _ (ih _ (by simp [hl]))
  exact this _ l rfl

theorem isD_bd {c : UInt8} (h : isD c = true) : 48 ≤ (c.toNat : Int) ∧ (c.toNat : Int) ≤ 57 := by
  simp [isD] at h; omega

/-- Where the number is not too great the two are the same; else both are above the bound. -/
theorem cval_eq (l : List UInt8) (h : allD l = true) : 0 ≤ dval l ∧ 0 ≤ cval l ∧ cval l ≤ 10000000000009 ∧ (dval l ≤ 1000000000000 → cval l = dval l) ∧ (1000000000000 < dval l → 1000000000000 < cval l) := by
  induction l using snoc_ind with
  | h0 => simp [dval, cval]
  | h1 l c ih =>
    rw [allD_append, Bool.and_eq_true] at h
    obtain ⟨a1, a2, a3, a4, a5⟩ := ih h.1
    have hc := isD_bd (c := c) (by simpa [allD] using h.2)
    rw [dval_snoc, cval_snoc]
    by_cases hd : dval l ≤ 1000000000000
    · have e := a4 hd
      rw [e, if_pos hd]
      omega
    · have e := a5 (by omega)
      rw [if_neg (by omega)]
      omega

theorem take_snoc (s : ByteArray) (k : Nat) (h : k < s.size) : s.data.toList.take (k + 1) = s.data.toList.take k ++ [s[k]] := by
  rw [List.take_succ_eq_append_getElem (by simpa using h)]; rfl

theorem allD_take_no (s : ByteArray) (k : Nat) (h : k < s.size) (hn : isD s[k] = false) : allD s.data.toList = false := by
  have e : s.data.toList = s.data.toList.take k ++ [s[k]] ++ s.data.toList.drop (k + 1) := by rw [← take_snoc s k h, List.take_append_drop]
  rw [e, allD_append, allD_append]
  simp [allD, hn]

theorem isD_yes {c : UInt8} (h1 : 48 ≤ (c.toNat : Int)) (h2 : (c.toNat : Int) ≤ 57) : isD c = true := by simp [isD]; omega
theorem isD_lo {c : UInt8} (h1 : (c.toNat : Int) < 48) : isD c = false := by simp [isD]; omega
theorem isD_hi {c : UInt8} (h1 : 57 < (c.toNat : Int)) : isD c = false := by simp [isD]; omega

theorem iter_below (w : World) (s : ByteArray) (k : Nat) : Below w.heap.size w (w.iter s k) := (Below.refl _ _).alloc (Nat.le_refl _) _

set_option maxHeartbeats 400000 in
theorem allDigits_any (s : ByteArray) (w : World) :
    Calls Tryd.prog 13 #[.string s] w fun e w' => e = .returned (.bool (allD s.data.toList)) ∧ Below w.heap.size w w' := by
  go_enter Tryd.func13, Tryd.ntmps13
  go_wp2
  go_loopw [] (fun wr => ∃ k : Nat, k ≤ s.size ∧ wr = w.iter s k ∧ allD (s.data.toList.take k) = true) (fun wr => s.size - wr.iterPos w.heap.size)
  case atStart => exact ⟨0, Nat.zero_le _, rfl, rfl⟩
  case round =>
    obtain ⟨k, hk, rfl, hok⟩ := hrel
    have HK : Hid (allD (s.data.toList.take k) = true) := hok
    clear hok
    by_cases hp : k < s.size
    · by_cases ha : (s[k]'hp).toNat < 128
      · have hnx : ∀ ty, (Instr.next (.pointer (some ⟨w.heap.size, 0, none⟩)) true ty).run Tryd.prog (w.iter s k) = _ := fun ty => run_next_ascii w s k ty hp ha
        have HT : Hid (s.data.toList.take (k + 1) = s.data.toList.take k ++ [s[k]]) := take_snoc s k hp
        have HN : Hid (isD s[k] = false → allD s.data.toList = false) := allD_take_no s k hp
        have HY : Hid (48 ≤ ((s[k].toNat : Nat) : Int) → ((s[k].toNat : Nat) : Int) ≤ 57 → isD s[k] = true) := fun a b => isD_yes a b
        have HL : Hid (((s[k].toNat : Nat) : Int) < 48 → isD s[k] = false) := fun a => isD_lo a
        have HH : Hid (57 < ((s[k].toNat : Nat) : Int) → isD s[k] = false) := fun a => isD_hi a
        clear ha
        generalize s[k] = c at *
        generalize hcc : ((c.toNat : Nat) : Int) = z at *
        clear hcc
        by_cases h1 : z < 48
        · go_wp2
          go_ret
          exact ⟨ret_bool (HN.out (HL.out h1)).symm, iter_below _ _ _⟩
        · by_cases h2 : 57 < z
          · go_wp2
            go_ret
            exact ⟨ret_bool (HN.out (HH.out h2)).symm, iter_below _ _ _⟩
          · go_wp2
            go_roundw
            case rel => exact ⟨k + 1, by omega, rfl, by rw [HT.out, allD_append, HK.out]; simp [allD, HY.out (by omega) (by omega)]⟩
            case measure => simp; omega
      · have hd := (decode_high s k hp (by omega)).1
        have hnx : ∀ ty, (Instr.next (.pointer (some ⟨w.heap.size, 0, none⟩)) true ty).run Tryd.prog (w.iter s k) = _ := fun ty => run_next_any w s k ty hp
        have HN : Hid (allD s.data.toList = false) := allD_take_no s k hp (isD_hi (by omega))
        clear ha
        have hd2 := decode_le s k
        generalize (Utf8.decode s k).1 = r at *
        generalize (Utf8.decode s k).2 = n at *
        go_wp2
        go_ret
        exact ⟨ret_bool HN.out.symm, iter_below _ _ _⟩
    · have hnx : ∀ ty, (Instr.next (.pointer (some ⟨w.heap.size, 0, none⟩)) true ty).run Tryd.prog (w.iter s k) = _ := fun ty => run_next_end w s k ty hp
      go_wp2
      go_ret
      refine ⟨ret_bool ?_, iter_below _ _ _⟩
      have := HK.out
      rw [List.take_of_length_le (by simp; omega)] at this
      exact this.symm

set_option maxHeartbeats 400000 in
theorem value_any (s : ByteArray) (w : World) (hd : allD s.data.toList = true) :
    Calls Tryd.prog 14 #[.string s] w fun e w' => e = .returned (.int .i64 (cval s.data.toList)) ∧ Below w.heap.size w w' := by
  have HD : Hid (allD s.data.toList = true) := hd
  clear hd
  go_enter Tryd.func14, Tryd.ntmps14
  go_wp2
  go_loopw [3] (fun v wr => ∃ k : Nat, k ≤ s.size ∧ wr = w.iter s k ∧ v = .int .i64 (cval (s.data.toList.take k))) (fun _ wr => s.size - wr.iterPos w.heap.size)
  case atStart => exact ⟨0, Nat.zero_le _, rfl, rfl⟩
  case round =>
    obtain ⟨k, hk, rfl, rfl⟩ := hrel
    by_cases hp : k < s.size
    · have hdk : allD (s.data.toList.take k) = true ∧ isD s[k] = true := by
        have h := HD.out
        have e : s.data.toList = s.data.toList.take k ++ [s[k]] ++ s.data.toList.drop (k + 1) := by rw [← take_snoc s k hp, List.take_append_drop]
        rw [e, allD_append, allD_append] at h
        simp [allD] at h ⊢
        exact h.1
      have hb := cval_eq _ hdk.1
      have hcb := isD_bd hdk.2
      have ha : (s[k]'hp).toNat < 128 := by omega
      have hnx : ∀ ty, (Instr.next (.pointer (some ⟨w.heap.size, 0, none⟩)) true ty).run Tryd.prog (w.iter s k) = _ := fun ty => run_next_ascii w s k ty hp ha
      have HT : Hid (cval (s.data.toList.take (k + 1)) = if cval (s.data.toList.take k) ≤ 1000000000000 then cval (s.data.toList.take k) * 10 + (((s[k].toNat : Nat) : Int) - 48) else cval (s.data.toList.take k)) := by
        show _ = _
        rw [take_snoc s k hp, cval_snoc]
      obtain ⟨_, b1, b2, _, _⟩ := hb
      clear hdk ha
      generalize cval (s.data.toList.take k) = v at *
      generalize s[k] = c at *
      generalize hcc : ((c.toNat : Nat) : Int) = z at *
      clear hcc
      obtain ⟨z1, z2⟩ := hcb
      by_cases h1 : v ≤ 1000000000000
      · go_wp2
        go_roundw
        case rel => exact ⟨k + 1, by omega, rfl, by rw [HT.out, if_pos h1]⟩
        case measure => simp; omega
      · go_wp2
        go_roundw
        case rel => exact ⟨k + 1, by omega, rfl, by rw [HT.out, if_neg h1]⟩
        case measure => simp; omega
    · have hnx : ∀ ty, (Instr.next (.pointer (some ⟨w.heap.size, 0, none⟩)) true ty).run Tryd.prog (w.iter s k) = _ := fun ty => run_next_end w s k ty hp
      go_wp2
      go_ret
      exact ⟨ret_int (by rw [List.take_of_length_le (by simp; omega)]), iter_below _ _ _⟩

end Go.Proofs.YtegganhjlpachabDoor.cents
