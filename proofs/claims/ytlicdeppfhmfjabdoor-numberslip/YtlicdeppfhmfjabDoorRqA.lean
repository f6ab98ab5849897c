/- Is there nothing but digits, in the program. -/
import Derived.Test.YtlicdeppfhmfjabDoorDigitsN
import Derived.Test.YtlicdeppfhmfjabDoorProg
import Derived.Laws.RangeAny
namespace Go.Proofs.YtlicdeppfhmfjabDoor.rca
open Go.Proofs.YtlicdeppfhmfjabDoor.cents
open Go.RowKit
theorem ret_bool {a b : Bool} (h : a = b) : Ending.returned (.bool a) = .returned (.bool b) := by rw [h]
theorem iter_below (w : World) (s : ByteArray) (k : Nat) : Below w.heap.size w (w.iter s k) := (Below.refl _ _).alloc (Nat.le_refl _) _

set_option maxHeartbeats 400000 in
theorem allDigits_any (s : ByteArray) (w : World) :
    Calls Tryd.prog 23 #[.string s] w fun e w' => e = .returned (.bool (allD s.data.toList)) ∧ Below w.heap.size w w' := by
  go_enter Tryd.func23, Tryd.ntmps23
  go_wp2
  go_loopw [] (fun wr => ∃ k : Nat, k ≤ s.size ∧ wr = w.iter s k ∧ allD (s.data.toList.take k) = true) (fun wr => s.size - wr.iterPos w.heap.size)
  case atStart => exact ⟨0, Nat.zero_le _, rfl, rfl⟩
  case round =>
    obtain ⟨k, hk, rfl, hok⟩ := hrel
    have HK : Hid (allD (s.data.toList.take k) = true) := hok
    clear hok
    by_cases hp : k < s.size
    · by_cases ha : (s[k]'hp).toNat < 128
      · have hnx : ∀ ty, (Instr.next (.pointer (some ⟨w.heap.size, 0, none⟩)) true ty).run Tryd.prog (w.iter s k) = _ := fun ty => run_next_ascii w s k ty hp ha
        have HT : Hid (s.data.toList.take (k + 1) = s.data.toList.take k ++ [s[k]]) := take_snoc s k hp
        have HN : Hid (isD s[k] = false → allD s.data.toList = false) := allD_take_no s k hp
        have HY : Hid (48 ≤ ((s[k].toNat : Nat) : Int) → ((s[k].toNat : Nat) : Int) ≤ 57 → isD s[k] = true) := fun a b => isD_yes a b
        have HL : Hid (((s[k].toNat : Nat) : Int) < 48 → isD s[k] = false) := fun a => isD_lo a
        have HH : Hid (57 < ((s[k].toNat : Nat) : Int) → isD s[k] = false) := fun a => isD_hi a
        clear ha
        generalize s[k] = c at *
        generalize hcc : ((c.toNat : Nat) : Int) = z at *
        clear hcc
        by_cases h1 : z < 48
        · go_wp2
          go_ret
          exact ⟨ret_bool (HN.out (HL.out h1)).symm, iter_below _ _ _⟩
        · by_cases h2 : 57 < z
          · go_wp2
            go_ret
            exact ⟨ret_bool (HN.out (HH.out h2)).symm, iter_below _ _ _⟩
          · go_wp2
            go_roundw
            case rel => exact ⟨k + 1, by omega, rfl, by rw [HT.out, allD_append, HK.out]; simp [allD, HY.out (by omega) (by omega)]⟩
            case measure => simp; omega
      · have hd := (decode_high s k hp (by omega)).1
        have hnx : ∀ ty, (Instr.next (.pointer (some ⟨w.heap.size, 0, none⟩)) true ty).run Tryd.prog (w.iter s k) = _ := fun ty => run_next_any w s k ty hp
        have HN : Hid (allD s.data.toList = false) := allD_take_no s k hp (isD_hi (by omega))
        clear ha
        have hd2 := decode_le s k
        generalize (Utf8.decode s k).1 = r at *
        generalize (Utf8.decode s k).2 = n at *
        go_wp2
        go_ret
        exact ⟨ret_bool HN.out.symm, iter_below _ _ _⟩
    · have hnx : ∀ ty, (Instr.next (.pointer (some ⟨w.heap.size, 0, none⟩)) true ty).run Tryd.prog (w.iter s k) = _ := fun ty => run_next_end w s k ty hp
      go_wp2
      go_ret
      refine ⟨ret_bool ?_, iter_below _ _ _⟩
      have := HK.out
      rw [List.take_of_length_le (by simp; omega)] at this
      exact this.symm

end Go.Proofs.YtlicdeppfhmfjabDoor.rca
