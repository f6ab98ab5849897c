/- The meter of a number, in the program. -/
import Derived.Test.YtlicdeppfhmfjabDoorKrM
import Derived.Test.YtlicdeppfhmfjabDoorRqI
import Derived.Test.YtlicdeppfhmfjabDoorRqA
import Derived.Test.YtlicdeppfhmfjabDoorRqMn
import Derived.Test.YtlicdeppfhmfjabDoorCkGood
import Derived.Test.YtlicdeppfhmfjabDoorRqO
namespace Go.Proofs.YtlicdeppfhmfjabDoor.rcp
open Go.Proofs.YtlicdeppfhmfjabDoor.check (goodR MTab good_any flawR allD)
open Go.Proofs.YtlicdeppfhmfjabDoor.token (dv)
open Go.RowKit
set_option maxRecDepth 100000
set_option linter.unusedVariables false

theorem flaw_11 {l : List UInt8} (h : l.length = 11) : flawR l = if allD l then 0 else 7 := by unfold flawR; rw [if_neg (by omega)]
theorem atoi_ok (s : ByteArray) (v : Int) (w : World) (hs : s.size ≤ 1000) (h : Lib.atoiAll s.data.toList = .ok v) :
    Calls Tryd.prog 25 #[.string s] w fun e w' => ∃ x, e = .returned (.tuple #[.int .i64 v, x]) ∧ Below w.heap.size w w' := by
  refine (Tryd.strconv_Atoi_ok s (by omega) v h w).mono ?_
  rintro e w' ⟨rfl, hw⟩
  refine ⟨_, rfl, ?_⟩
  rcases hw with rfl | ⟨t, rfl⟩
  · exact Below.refl _ _
  · exact Lib.bytesWorld_below _ _ _

set_option maxHeartbeats 1000000 in
theorem meter_len (s : ByteArray) (w : World) (h : s.size ≠ 11) : Calls Tryd.prog 10 #[.string s] w fun e w' => e = .returned (.tuple #[.int .i64 0, .int .i64 6]) ∧ Below w.heap.size w w' := by
  have hq : ((s.size : Int) != 11) = true := by simp; omega
  go_enter Tryd.func10, Tryd.ntmps10
  go_wp2_with fail
  go_ret2
  exact ⟨rfl, Below.refl _ _⟩
set_option maxHeartbeats 1000000 in
theorem meter_abs (s : ByteArray) (dg gd mt : Bool) (v : Int) (w : World) (h : s.size = 11) (hv : 0 ≤ v ∧ v ≤ 9999999999)
    (hD : Calls Tryd.prog 23 #[.string s] w fun e w' => e = .returned (.bool dg) ∧ Below w.heap.size w w')
    (hG : ∀ w', Below w.heap.size w w' → Calls Tryd.prog 24 #[.string s] w' fun e w'' => e = .returned (.bool gd) ∧ Below w'.heap.size w' w'')
    (hA : dg = true → ∀ w', Calls Tryd.prog 25 #[.string (s.extract 0 10)] w' fun e w'' => ∃ x, e = .returned (.tuple #[.int .i64 v, x]) ∧ Below w'.heap.size w' w'')
    (hM : ∀ w', Calls Tryd.prog 15 #[.int .i64 v] w' fun e w'' => e = .returned (.bool mt) ∧ Below w'.heap.size w' w'') :
    Calls Tryd.prog 10 #[.string s] w fun e w' => e = .returned (if dg = false then .tuple #[.int .i64 0, .int .i64 7] else if gd = false then .tuple #[.int .i64 0, .int .i64 8] else if mt = false then .tuple #[.int .i64 0, .int .i64 18] else .tuple #[.int .i64 v, .int .i64 0]) ∧ Below w.heap.size w w' := by
  have hq : ((s.size : Int) != 11) = false := by simp; omega
  have hsz : 10 ≤ s.size := by omega
  have HG : Hid (∀ w', Below w.heap.size w w' → Calls Tryd.prog 24 #[.string s] w' fun e w'' => e = .returned (.bool gd) ∧ Below w'.heap.size w' w'') := hG
  have HA : Hid (dg = true → ∀ w', Calls Tryd.prog 25 #[.string (s.extract 0 10)] w' fun e w'' => ∃ x, e = .returned (.tuple #[.int .i64 v, x]) ∧ Below w'.heap.size w' w'') := hA
  have HM : Hid (∀ w', Calls Tryd.prog 15 #[.int .i64 v] w' fun e w'' => e = .returned (.bool mt) ∧ Below w'.heap.size w' w'') := hM
  obtain ⟨v0, v1⟩ := hv
  clear hG hA hM h
  go_enter Tryd.func10, Tryd.ntmps10
  go_wp2_with fail
  refine hD.mono ?_
  rintro e w1 ⟨rfl, hb⟩
  have HB1 : Hid (Below w.heap.size w w1) := hb
  clear hb hD
  cases dg with
  | false =>
    go_wp2_with fail
    go_ret2
    exact ⟨rfl, HB1.out⟩
  | true =>
    go_wp2_with fail
    refine (HG.out _ HB1.out).mono ?_
    rintro e w2 ⟨rfl, hb⟩
    have HB2 : Hid (Below w.heap.size w w2) := HB1.out.trans (hb.mono HB1.out.size)
    clear hb HG HB1
    cases gd with
    | false =>
      go_wp2_with fail
      go_ret2
      exact ⟨rfl, HB2.out⟩
    | true =>
      go_wp2_with fail
      refine (HA.out (by first | rfl | trivial) _).mono ?_
      rintro e w3 ⟨x, rfl, hb⟩
      have HB3 : Hid (Below w.heap.size w w3) := HB2.out.trans (hb.mono HB2.out.size)
      clear hb HA HB2
      go_wp2_with fail
      refine (HM.out _).mono ?_
      rintro e w4 ⟨rfl, hb⟩
      have HB4 : Hid (Below w.heap.size w w4) := HB3.out.trans (hb.mono HB3.out.size)
      clear hb HM HB3
      cases mt with
      | false =>
        go_wp2_with fail
        go_ret2
        exact ⟨rfl, HB4.out⟩
      | true =>
        go_wp2_with fail
        go_ret2
        exact ⟨rfl, HB4.out⟩

theorem pmeter_any (s : ByteArray) (w : World) (ht : MTab w) : Calls Tryd.prog 10 #[.string s] w fun e w' => MeterPost w s.data.toList e w' := by
  have hl : s.data.toList.length = s.size := Array.length_toList
  by_cases h : s.size = 11
  · have e10 : (s.extract 0 10).data.toList = s.data.toList.take 10 := by simp [ByteArray.data_extract]
    have hdt : allD s.data.toList = true → allD (s.data.toList.take 10) = true := fun hd => List.all_eq_true.2 fun c hc => List.all_eq_true.1 hd c (List.mem_of_mem_take hc)
    have hv : ((if allD s.data.toList = true then dv (s.data.toList.take 10) else 0 : Nat) : Int) ≤ 9999999999 := by
      split
      · rename_i hd
        have := token.dv_lt _ (hdt hd)
        have h10 : (s.data.toList.take 10).length = 10 := by rw [List.length_take]; omega
        rw [h10] at this
        omega
      · omega
    refine (meter_abs s (allD s.data.toList) (goodR s.data.toList) (decide (0 ≤ ((if allD s.data.toList = true then dv (s.data.toList.take 10) else 0 : Nat) : Int) ∧ ((if allD s.data.toList = true then dv (s.data.toList.take 10) else 0 : Nat) : Int) ≤ 49)) ((if allD s.data.toList = true then dv (s.data.toList.take 10) else 0 : Nat) : Int) w h ⟨by omega, hv⟩ (rca.allDigits_any s w) (fun w' hb => good_any s w' (ht.below hb)) (fun hd w' => ?_) (fun w' => rci.isMeter_any _ w')).mono ?_
    · rw [if_pos hd]
      refine atoi_ok _ _ w' (by rw [ByteArray.size_extract]; omega) ?_
      rw [e10]
      refine atoi_digits (hdt hd) ?_ ?_
      · intro h0
        have h2 : (s.data.toList.take 10).length = 10 := by rw [List.length_take]; omega
        rw [h0] at h2
        exact absurd h2 (by decide)
      · rw [List.length_take]; omega
    · rintro e w' ⟨rfl, hb⟩
      have hf := flaw_11 (l := s.data.toList) (by omega)
      cases hd : allD s.data.toList with
      | false =>
        rw [hd] at hf
        exact ⟨0, 7, rfl, .inr (.inl ⟨by omega, by rw [hf]; decide, rfl, by rw [hf]; rfl⟩), hb⟩
      | true =>
        rw [hd] at hf
        have hf0 : flawR s.data.toList = 0 := hf
        cases hg : goodR s.data.toList with
        | false => exact ⟨0, 8, rfl, .inr (.inr (.inl ⟨by omega, hf0, hg, rfl, rfl⟩)), hb⟩
        | true =>
          by_cases hk : dv (s.data.toList.take 10) < 50
          · have hk' : decide (0 ≤ ((if true = true then dv (s.data.toList.take 10) else 0 : Nat) : Int) ∧ ((if true = true then dv (s.data.toList.take 10) else 0 : Nat) : Int) ≤ 49) = true := by rw [if_pos rfl]; exact decide_eq_true ⟨by omega, by omega⟩
            refine ⟨((dv (s.data.toList.take 10) : Nat) : Int), 0, ?_, .inr (.inr (.inr (.inr ⟨by omega, hf0, hg, _, named_of (by omega) hd hg hk, rfl, rfl⟩))), hb⟩
            rw [hk']
            rfl
          · have hk' : decide (0 ≤ ((if true = true then dv (s.data.toList.take 10) else 0 : Nat) : Int) ∧ ((if true = true then dv (s.data.toList.take 10) else 0 : Nat) : Int) ≤ 49) = false := by rw [if_pos rfl]; exact decide_eq_false (by omega)
            refine ⟨0, 18, ?_, .inr (.inr (.inr (.inl ⟨by omega, hf0, hg, fun k hn => hk (by rw [named_val hn]; exact hn.1), rfl, rfl⟩))), hb⟩
            rw [hk']
            rfl
  · refine (meter_len s w h).mono ?_
    rintro e w' ⟨rfl, hb⟩
    exact ⟨0, 6, rfl, .inl ⟨by omega, rfl, rfl⟩, hb⟩
theorem kmeter {w : World} (ht : MTab w) : KrMeter w := fun W s hb => pmeter_any s W (ht.below hb)

end Go.Proofs.YtlicdeppfhmfjabDoor.rcp
