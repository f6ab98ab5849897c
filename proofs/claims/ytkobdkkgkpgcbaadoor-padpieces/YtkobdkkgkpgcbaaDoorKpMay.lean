/- What mayBe and ended give back. -/
import Derived.Test.YtkobdkkgkpgcbaaDoorKpN
import Derived.Test.YtkobdkkgkpgcbaaDoorBlk2
import Derived.WalkKit
import Derived.Below
import Derived.Laws.AppendOwn
import Derived.Deep.QuietTactic
namespace Go.Proofs.YtkobdkkgkpgcbaaDoor.keypad
open Go.Proofs.YtkobdkkgkpgcbaaDoor.check
open Go.RowKit
set_option linter.unusedSimpArgs false

def okB (p : Pad) : Bool := decide (p.d.size ≤ 30) && allD p.d.data.toList
theorem okB_ok {p : Pad} : okB p = true ↔ p.ok := by
  unfold okB; rw [Bool.and_eq_true, decide_eq_true_eq]; exact ⟨fun h => ⟨h.1, h.2⟩, fun h => ⟨h.s, h.a⟩⟩
theorem okB_long {p : Pad} (h : 30 < p.d.size) : okB p = false := by unfold okB; rw [decide_eq_false (by omega)]; rfl
theorem okB_no {p : Pad} (h : allD p.d.data.toList = false) : okB p = false := by unfold okB; rw [h]; simp
theorem okB_yes {p : Pad} (h : p.d.size ≤ 30) (h2 : allD p.d.data.toList = true) : okB p = true := okB_ok.2 ⟨h, h2⟩

set_option maxHeartbeats 1000000 in
theorem mayBe_any (p : Pad) (w : World) :
    Calls Tryd.prog 19 #[p.v] w fun e w' => e = .returned (.bool (okB p)) ∧ Below w.heap.size w w' := by
  obtain ⟨s, b⟩ := p
  unfold Pad.v
  have hX := Blk.new w #[.string s, .bool b] 23
  have HB : Hid (Below w.heap.size w (w.alloc (.cells #[.string s, .bool b] 23))) := (Below.refl _ _).alloc (Nat.le_refl _) _
  have c0 := hX.cell 0
  clear hX
  by_cases h0 : 30 < s.size
  · have h1 : (30 : Int) < (s.size : Int) := by omega
    have HE : Hid (okB ⟨s, b⟩ = false) := okB_long h0
    clear h0
    go_enter Tryd.func19, Tryd.ntmps19
    go_wp2_with fail
    go_ret
    exact ⟨ret_bool HE.out.symm, HB.out⟩
  · have h1 : ¬ (30 : Int) < (s.size : Int) := by omega
    have HS : Hid (s.size ≤ 30) := (by omega : s.size ≤ 30)
    clear h0
    go_enter Tryd.func19, Tryd.ntmps19
    go_wp2_with fail
    generalize hW : w.alloc (.cells #[.string s, .bool b] 23) = W at *
    have hz : W.heap.size = w.heap.size + 1 := by rw [← hW]; simp
    clear hW c0
    have HZ : Hid (W.heap.size = w.heap.size + 1) := hz
    clear hz
    go_loopw [] (fun wr => ∃ k : Nat, k ≤ s.size ∧ wr = W.iter s k ∧ allD (s.data.toList.take k) = true) (fun wr => s.size - wr.iterPos W.heap.size)
    case atStart => exact ⟨0, Nat.zero_le _, rfl, rfl⟩
    case round =>
      obtain ⟨k, hk, rfl, hok⟩ := hrel
      have HK : Hid (allD (s.data.toList.take k) = true) := hok
      have HI : Hid (∀ j, Below w.heap.size w (W.iter s j)) := fun j => bel_step HB.out (iter_below W s j)
      clear hok
      by_cases hp : k < s.size
      · by_cases ha : (s[k]'hp).toNat < 128
        · have hnx : ∀ ty, (Instr.next (.pointer (some ⟨W.heap.size, 0, none⟩)) true ty).run Tryd.prog (W.iter s k) = _ := fun ty => run_next_ascii W s k ty hp ha
          simp only [HZ.out] at hnx
          have HT : Hid (s.data.toList.take (k + 1) = s.data.toList.take k ++ [s[k]]) := take_snoc s k hp
          have HN : Hid (isD s[k] = false → allD s.data.toList = false) := allD_take_no s k hp
          have HY : Hid (48 ≤ ((s[k].toNat : Nat) : Int) → ((s[k].toNat : Nat) : Int) ≤ 57 → isD s[k] = true) := fun a b => isD_yes a b
          have HL : Hid (((s[k].toNat : Nat) : Int) < 48 → isD s[k] = false) := fun a => isD_lo a
          have HH : Hid (57 < ((s[k].toNat : Nat) : Int) → isD s[k] = false) := fun a => isD_hi a
          clear ha
          generalize s[k] = c at *
          generalize hcc : ((c.toNat : Nat) : Int) = z at *
          clear hcc
          by_cases h2 : z < 48
          · go_wp2
            go_ret
            exact ⟨ret_bool (okB_no (HN.out (HL.out h2))).symm, HI.out _⟩
          · by_cases h3 : 57 < z
            · go_wp2
              go_ret
              exact ⟨ret_bool (okB_no (HN.out (HH.out h3))).symm, HI.out _⟩
            · go_wp2
              go_roundw
              case rel => exact ⟨k + 1, by omega, rfl, by rw [HT.out, allD_append, HK.out]; simp [allD, HY.out (by omega) (by omega)]⟩
              case measure => simp; omega
        · have hd := (decode_high s k hp (by omega)).1
          have hnx : ∀ ty, (Instr.next (.pointer (some ⟨W.heap.size, 0, none⟩)) true ty).run Tryd.prog (W.iter s k) = _ := fun ty => run_next_any W s k ty hp
          simp only [HZ.out] at hnx
          have HN : Hid (allD s.data.toList = false) := allD_take_no s k hp (isD_hi (by omega))
          clear ha
          have hd2 := Go.decode_le s k
          generalize (Utf8.decode s k).1 = r at *
          generalize (Utf8.decode s k).2 = n at *
          go_wp2
          go_ret
          exact ⟨ret_bool (okB_no HN.out).symm, HI.out _⟩
      · have hnx : ∀ ty, (Instr.next (.pointer (some ⟨W.heap.size, 0, none⟩)) true ty).run Tryd.prog (W.iter s k) = _ := fun ty => run_next_end W s k ty hp
        simp only [HZ.out] at hnx
        have HA : Hid (allD s.data.toList = true) := by
          have h := HK.out
          rwa [List.take_of_length_le (by rw [len_eq]; omega)] at h
        go_wp2
        go_ret
        exact ⟨ret_bool (okB_yes HS.out HA.out).symm, HI.out _⟩

end Go.Proofs.YtkobdkkgkpgcbaaDoor.keypad
