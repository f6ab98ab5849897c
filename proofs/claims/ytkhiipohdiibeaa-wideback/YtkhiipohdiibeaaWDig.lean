/- Whether a text is made of digits alone: what words.inForm answers. -/
import Derived.Test.YtkhiipohdiibeaaTrio
import Derived.Laws.RangeAny
namespace Go.Proofs.Ytkhiipohdiibeaa.words
open Go.RowKit

def isD (c : UInt8) : Bool := decide (48 ≤ c.toNat) && decide (c.toNat ≤ 57)
def allD (l : List UInt8) : Bool := l.all isD
/-- The number that digits make. -/
def dval (l : List UInt8) : Int := l.foldl (fun n c => n * 10 + ((c.toNat : Int) - 48)) 0
theorem allD_append (a b : List UInt8) : allD (a ++ b) = (allD a && allD b) := by simp [allD]
theorem dval_snoc (l : List UInt8) (c : UInt8) : dval (l ++ [c]) = dval l * 10 + ((c.toNat : Int) - 48) := by simp [dval, List.foldl_append]
theorem snoc_ind {P : List UInt8 → Prop} (h0 : P []) (h1 : ∀ l c, P l → P (l ++ [c])) (l : List UInt8) : P l := by
  have : ∀ n, ∀ l : List UInt8, l.length = n → P l := by
    intro n
    induction n with
    | zero => intro l hl; rw [List.eq_nil_of_length_eq_zero hl]; exact h0
    | succ n ih =>
      intro l hl
      have hne : l ≠ [] := by intro e; rw [e] at hl; cases hl
      rw [← List.dropLast_concat_getLast hne]
      exact h1 _ _ (ih _ (by simp [hl]))
  exact this _ l rfl

theorem isD_bd {c : UInt8} (h : isD c = true) : 48 ≤ (c.toNat : Int) ∧ (c.toNat : Int) ≤ 57 := by
  simp [isD] at h; omega

theorem take_snoc (s : ByteArray) (k : Nat) (h : k < s.size) : s.data.toList.take (k + 1) = s.data.toList.take k ++ [s[k]] := by
  rw [List.take_succ_eq_append_getElem (by simpa using h)]; rfl

theorem allD_take_no (s : ByteArray) (k : Nat) (h : k < s.size) (hn : isD s[k] = false) : allD s.data.toList = false := by
  have e : s.data.toList = s.data.toList.take k ++ [s[k]] ++ s.data.toList.drop (k + 1) := by rw [← take_snoc s k h, List.take_append_drop]
  rw [e, allD_append, allD_append]
  simp [allD, hn]

theorem isD_yes {c : UInt8} (h1 : 48 ≤ (c.toNat : Int)) (h2 : (c.toNat : Int) ≤ 57) : isD c = true := by simp [isD]; omega
theorem isD_lo {c : UInt8} (h1 : (c.toNat : Int) < 48) : isD c = false := by simp [isD]; omega
theorem isD_hi {c : UInt8} (h1 : 57 < (c.toNat : Int)) : isD c = false := by simp [isD]; omega

theorem iter_below (w : World) (s : ByteArray) (k : Nat) : Below w.heap.size w (w.iter s k) := (Below.refl _ _).alloc (Nat.le_refl _) _


theorem ret_bool' {a b : Bool} (h : a = b) : Ending.returned (.bool a) = .returned (.bool b) := by rw [h]

theorem noDigit_any (r : Int) (w : World) :
    Calls Try.prog 27 #[.int .i32 r] w fun e w' => e = .returned (.bool (decide (r < 48) || decide (57 < r))) ∧ w' = w := by
  by_cases h1 : r < 48
  · rw [decide_eq_true h1]
    go_enter Try.func27, Try.ntmps27
    go_wp2
    go_ret
    exact ⟨rfl, rfl⟩
  · rw [decide_eq_false h1, Bool.false_or]
    have h2 : decide (r < 48) = false := decide_eq_false h1
    go_enter Try.func27, Try.ntmps27
    go_wp2
    go_ret
    exact ⟨rfl, rfl⟩

/-- A place was told: -1 just if all are digits. -/
def FoundPost (w : World) (s : ByteArray) (e : Ending) (w' : World) : Prop :=
  ∃ i : Int, e = .returned (.int .i64 i) ∧ decide (0 ≤ i) = !allD s.data.toList ∧ Below w.heap.size w w'
theorem FoundPost.mk {w w' : World} {s : ByteArray} {i : Int} (h1 : decide (0 ≤ i) = !allD s.data.toList) (h2 : Below w.heap.size w w') : FoundPost w s (.returned (.int .i64 i)) w' := ⟨i, rfl, h1, h2⟩

set_option maxHeartbeats 1000000 in
theorem indexFunc_any (s : ByteArray) (w : World) :
    Calls Try.prog 44 #[.string s, .func (.func 27) #[] #[], .bool true] w fun e w' => FoundPost w s e w' := by
  go_enter Try.func44, Try.ntmps44
  go_wp2_with fail
  go_loopw [] (fun wr => ∃ k : Nat, k ≤ s.size ∧ wr = w.iter s k ∧ allD (s.data.toList.take k) = true) (fun wr => s.size - wr.iterPos w.heap.size)
  case atStart => exact ⟨0, Nat.zero_le _, rfl, rfl⟩
  case round =>
    obtain ⟨k, hk, rfl, hok⟩ := hrel
    have HK : Hid (allD (s.data.toList.take k) = true) := hok
    clear hok
    by_cases hp : k < s.size
    · by_cases ha : (s[k]'hp).toNat < 128
      · have hnx : ∀ ty, (Instr.next (.pointer (some ⟨w.heap.size, 0, none⟩)) true ty).run Try.prog (w.iter s k) = _ := fun ty => run_next_ascii w s k ty hp ha
        have HT : Hid (s.data.toList.take (k + 1) = s.data.toList.take k ++ [s[k]]) := take_snoc s k hp
        have HN : Hid (isD s[k] = false → allD s.data.toList = false) := allD_take_no s k hp
        have HY : Hid (48 ≤ ((s[k].toNat : Nat) : Int) → ((s[k].toNat : Nat) : Int) ≤ 57 → isD s[k] = true) := fun a b => isD_yes a b
        have HL : Hid (((s[k].toNat : Nat) : Int) < 48 → isD s[k] = false) := fun a => isD_lo a
        have HH : Hid (57 < ((s[k].toNat : Nat) : Int) → isD s[k] = false) := fun a => isD_hi a
        clear ha
        generalize s[k] = c at *
        generalize hcc : ((c.toNat : Nat) : Int) = z at *
        clear hcc
        go_wp2_with fail
        refine (noDigit_any z _).mono ?_
        rintro e wx ⟨rfl, rfl⟩
        by_cases h1 : z < 48 ∨ 57 < z
        · have hd : (decide (z < 48) || decide (57 < z)) = true := by simpa using h1
          rw [hd]
          have hf : isD c = false := by rcases h1 with h | h; exact HL.out h; exact HH.out h
          have HF : Hid (allD s.data.toList = false) := HN.out hf
          have hq : (true == true) = true := rfl
          clear h1 hf hd
          go_wp2_with fail
          go_ret
          refine FoundPost.mk ?_ (iter_below _ _ _)
          rw [HF.out]; simp
        · have hd : (decide (z < 48) || decide (57 < z)) = false := by simp; omega
          rw [hd]
          have hq : (false == true) = false := rfl
          clear hd
          go_wp2_with fail
          go_roundw
          case rel => exact ⟨k + 1, by omega, rfl, by rw [HT.out, allD_append, HK.out]; simp [allD, HY.out (by omega) (by omega)]⟩
          case measure => simp; omega
      · have hd := (decode_high s k hp (by omega)).1
        have hnx : ∀ ty, (Instr.next (.pointer (some ⟨w.heap.size, 0, none⟩)) true ty).run Try.prog (w.iter s k) = _ := fun ty => run_next_any w s k ty hp
        have HN : Hid (allD s.data.toList = false) := allD_take_no s k hp (isD_hi (by omega))
        clear ha
        have hd2 := decode_le s k
        generalize (Utf8.decode s k).1 = r at *
        generalize (Utf8.decode s k).2 = n at *
        go_wp2_with fail
        refine (noDigit_any _ _).mono ?_
        rintro e wx ⟨rfl, rfl⟩
        have hd3 : (decide ((r : Int) < 48) || decide (57 < (r : Int))) = true := by simp; omega
        rw [hd3]
        have hq : (true == true) = true := rfl
        go_wp2_with fail
        go_ret
        refine FoundPost.mk ?_ (iter_below _ _ _)
        rw [HN.out]; simp
    · have hnx : ∀ ty, (Instr.next (.pointer (some ⟨w.heap.size, 0, none⟩)) true ty).run Try.prog (w.iter s k) = _ := fun ty => run_next_end w s k ty hp
      go_wp2_with fail
      go_ret
      refine FoundPost.mk ?_ (iter_below _ _ _)
      have := HK.out
      rw [List.take_of_length_le (by simp; omega)] at this
      rw [this]; rfl

theorem containsFunc_any (s : ByteArray) (w : World) :
    Calls Try.prog 28 #[.string s, .func (.func 27) #[] #[]] w fun e w' => e = .returned (.bool (!allD s.data.toList)) ∧ Below w.heap.size w w' := by
  have HI : Hid (∀ w, Calls Try.prog 39 #[.string s, .func (.func 27) #[] #[]] w fun e w' => FoundPost w s e w') := by
    intro w
    go_enter Try.func39, Try.ntmps39
    go_wp2_with fail
    refine (indexFunc_any s _).mono ?_
    rintro e w' ⟨i, rfl, h1, h2⟩
    have H1 : Hid (decide (0 ≤ i) = !allD s.data.toList) := h1
    clear h1
    go_wp2_with fail
    go_ret
    exact FoundPost.mk H1.out h2
  go_enter Try.func28, Try.ntmps28
  go_wp2_with fail
  refine (HI.out _).mono ?_
  rintro e w' ⟨i, rfl, h1, h2⟩
  have H1 : Hid (decide (0 ≤ i) = !allD s.data.toList) := h1
  have H2 : Hid (Below w.heap.size w w') := h2
  clear h1 h2
  go_wp2_with fail
  go_ret
  exact ⟨ret_bool' H1.out, H2.out⟩

end Go.Proofs.Ytkhiipohdiibeaa.words
