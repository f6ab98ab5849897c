/- What check.Rest gives back. -/
import Derived.Test.YtnhidiefchamlaaDoorCkDig
namespace Go.Proofs.YtnhidiefchamlaaDoor.check
open Go.RowKit

/-- What P3.6 says: the rest, and the error's number. -/
def restR (l : List UInt8) : Int := if flawR l = 0 then ((restN 0 (digs l) : Nat) : Int) else 0

theorem rest_step (v z : Nat) (h1 : 48 ≤ z) : (((v * 10 + (z - 48)) % 97 : Nat) : Int) = ((v : Int) * 10 + ((z : Int) - 48)) % 97 := by
  omega

set_option maxHeartbeats 1000000 in
theorem rest_any (s : ByteArray) (w : World) :
    Calls Tryd.prog 21 #[.string s] w fun e w' => e = .returned (.tuple #[.int .i64 (restR s.data.toList), .int .i64 (flawR s.data.toList)]) ∧ Below w.heap.size w w' := by
  have HF := flaw_any s w
  by_cases h0 : flawR s.data.toList = 0
  · have e : restR s.data.toList = ((restN 0 (digs s.data.toList) : Nat) : Int) := by unfold restR; rw [if_pos h0]
    rw [e, h0]
    rw [h0] at HF
    have HD : Hid (allD s.data.toList = true) := (flawR_zero h0).2
    have HFF : Hid (Calls Tryd.prog 36 #[.string s] w fun e w' => e = .returned (.int .i64 0) ∧ Below w.heap.size w w') := HF
    clear e h0 HF
    go_enter Tryd.func21, Tryd.ntmps21
    go_wp2_with fail
    refine HFF.out.mono ?_
    rintro e w1 ⟨rfl, hb⟩
    have HB : Hid (∀ k, Below w.heap.size w (w1.iter s k)) := fun k => hb.trans ((iter_below w1 s k).mono hb.size)
    clear hb
    go_wp2_with fail
    go_loopw [5] (fun v wr => ∃ k : Nat, k ≤ s.size ∧ wr = w1.iter s k ∧ v = .int .i64 ((restN 0 (digs (s.data.toList.take k)) : Nat) : Int)) (fun _ wr => s.size - wr.iterPos w1.heap.size)
    case atStart => exact ⟨0, Nat.zero_le _, rfl, rfl⟩
    case round =>
      obtain ⟨k, hk, rfl, rfl⟩ := hrel
      by_cases hp : k < s.size
      · obtain ⟨hk1, hk2, hk3⟩ := take_parts s k hp HD.out
        have hcb := isD_bd hk2
        have ha : (s[k]'hp).toNat < 128 := by omega
        have hnx : ∀ ty, (Instr.next (.pointer (some ⟨w1.heap.size, 0, none⟩)) true ty).run Tryd.prog (w1.iter s k) = _ := fun ty => run_next_ascii w1 s k ty hp ha
        have hlt := restN_lt (digs (s.data.toList.take k)) 0 (by decide)
        have HT : Hid (((restN 0 (digs (s.data.toList.take (k + 1))) : Nat) : Int) = (((restN 0 (digs (s.data.toList.take k)) : Nat) : Int) * 10 + (((s[k].toNat : Nat) : Int) - 48)) % 97) := by
          show _ = _
          rw [take_snoc s k hp, digs_append]
          rw [show digs [s[k]] = [s[k].toNat - 48] from rfl, rest_snoc, rest_step _ _ (by omega)]
        clear hk1 hk2 hk3 ha
        generalize restN 0 (digs (s.data.toList.take k)) = v at *
        generalize s[k] = c at *
        generalize hcc : ((c.toNat : Nat) : Int) = z at *
        clear hcc
        obtain ⟨z1, z2⟩ := hcb
        go_wp2_with fail
        refine (value_any _ _ z1 z2).mono ?_
        rintro e w' ⟨rfl, rfl⟩
        go_wp2_with fail
        go_roundw
        case rel => exact ⟨k + 1, by omega, rfl, by rw [HT.out]⟩
        case measure => simp; omega
      · have hnx : ∀ ty, (Instr.next (.pointer (some ⟨w1.heap.size, 0, none⟩)) true ty).run Tryd.prog (w1.iter s k) = _ := fun ty => run_next_end w1 s k ty hp
        have E : Hid (s.data.toList.take k = s.data.toList) := List.take_of_length_le (by simp; omega)
        rw [E.out]
        go_wp2_with fail
        go_ret2
        exact ⟨rfl, HB.out _⟩
  · have e : restR s.data.toList = 0 := by unfold restR; rw [if_neg h0]
    rw [e]
    have hne : (flawR s.data.toList != 0) = true := by simpa using h0
    clear e h0
    generalize flawR s.data.toList = f at *
    go_enter Tryd.func21, Tryd.ntmps21
    go_wp2_with fail
    refine HF.mono ?_
    rintro e w1 ⟨rfl, hb⟩
    clear HF
    go_wp2_with fail
    go_ret2
    exact ⟨rfl, hb⟩

end Go.Proofs.YtnhidiefchamlaaDoor.check
