/- Months, dates and weekdays, as the document has them. -/
import Derived.Test.YtgeemnoefhnlnaaCaD
import Derived.Test.YtgeemnoefhnlnaaCaM
import Derived.Test.YtgeemnoefhnlnaaLet
namespace Go.Proofs.Ytgeemnoefhnlnaa.cal
open Go.RowKit
set_option maxRecDepth 100000
set_option linter.unusedVariables false
set_option linter.unusedSimpArgs false

set_option maxHeartbeats 1000000 in
theorem monthOf (day : Int) (w : World) : Calls Try.prog 14 #[.int .i64 day] w fun e w' => MonPost w day e w' := by
  have HIN : Hid (∀ W, Calls Try.prog 22 #[.int .i64 day, .int .i64 0, .int .i64 73048] W fun e w' => e = .returned (.bool (decide (0 ≤ day ∧ day ≤ 73048))) ∧ w' = W) := fun W => cin day 0 73048 W
  by_cases hd : 0 ≤ day ∧ day ≤ 73048
  · rw [decide_eq_true hd] at HIN
    have HD : Hid (0 ≤ day ∧ day ≤ 73048) := hd
    have HMF : Hid (∀ W, Calls Try.prog 28 #[.int .i64 day] W fun e w' => ∃ k : Nat, k < 2400 ∧ InMon day k ∧ e = .returned (.tuple #[.int .i64 (k : Int), .int .i64 (day - cd k)]) ∧ w' = W) := fun W => mfrom day W hd.1 hd.2
    clear hd
    go_enter Try.func14, Try.ntmps14
    go_wp2_with fail
    refine (HIN.out _).mono ?_
    rintro e w1 ⟨rfl, rfl⟩
    go_wp2_with fail
    refine (HMF.out _).mono ?_
    rintro e w2 ⟨k, hk, hi, rfl, rfl⟩
    have HK : Hid (k < 2400 ∧ InMon day k) := ⟨hk, hi⟩
    clear hk hi
    go_wp2_with fail
    go_ret2
    exact ⟨_, _, rfl, .inl ⟨HD.out, ⟨k, HK.out.1, HK.out.2, rfl⟩, rfl⟩, Below.refl _ _⟩
  · rw [decide_eq_false hd] at HIN
    have HD : Hid (¬ (0 ≤ day ∧ day ≤ 73048)) := hd
    clear hd
    go_enter Try.func14, Try.ntmps14
    go_wp2_with fail
    refine (HIN.out _).mono ?_
    rintro e w1 ⟨rfl, rfl⟩
    go_wp2_with fail
    go_ret2
    exact ⟨_, _, rfl, .inr ⟨HD.out, rfl, rfl⟩, Below.refl _ _⟩
set_option maxHeartbeats 1000000 in
theorem dateFrom (day : Int) (w : World) : Calls Try.prog 12 #[.int .i64 day] w fun e w' => DatePost w day e w' := by
  have HIN : Hid (∀ W, Calls Try.prog 22 #[.int .i64 day, .int .i64 0, .int .i64 73048] W fun e w' => e = .returned (.bool (decide (0 ≤ day ∧ day ≤ 73048))) ∧ w' = W) := fun W => cin day 0 73048 W
  have H0r : Hid (Blk (w.alloc (.cells #[.int .i64 0, .int .i64 0, .int .i64 0] 23)) (w.heap.size) #[.int .i64 0, .int .i64 0, .int .i64 0] 23) := Blk.new w _ _
  have H0B : Hid (Below w.heap.size w (w.alloc (.cells #[.int .i64 0, .int .i64 0, .int .i64 0] 23))) := (Below.refl w.heap.size w).alloc (by simp) _
  by_cases hd : 0 ≤ day ∧ day ≤ 73048
  · rw [decide_eq_true hd] at HIN
    have HD : Hid (0 ≤ day ∧ day ≤ 73048) := hd
    have HMF : Hid (∀ W, Calls Try.prog 28 #[.int .i64 day] W fun e w' => ∃ k : Nat, k < 2400 ∧ InMon day k ∧ e = .returned (.tuple #[.int .i64 (k : Int), .int .i64 (day - cd k)]) ∧ w' = W) := fun W => mfrom day W hd.1 hd.2
    obtain ⟨hd0, hd1⟩ := hd
    go_enter Try.func12, Try.ntmps12
    go_wp2_with fail
    refine (HIN.out _).mono ?_
    rintro e w1 ⟨rfl, rfl⟩
    go_wp2_with fail
    refine (HMF.out _).mono ?_
    rintro e w2 ⟨k, hk, hi, rfl, rfl⟩
    have HK : Hid (k < 2400 ∧ InMon day k) := ⟨hk, hi⟩
    have hq := quo12 k
    have hr := rem12 k
    have hj : k / 12 ≤ 200 := by omega
    have hi2 : k % 12 ≤ 11 := by omega
    have hc0 := cd_pos k
    have hc1 := hi.1
    have HJ : Hid (k / 12 = k / 12 ∧ k % 12 = k % 12) := ⟨rfl, rfl⟩
    generalize hjj : k / 12 = j at *
    generalize hii : k % 12 = i at *
    generalize hcc : cd k = c at *
    have HJ2 : Hid (k / 12 = j ∧ k % 12 = i ∧ cd k = c) := ⟨hjj, hii, hcc⟩
    clear hi hk hjj hii hcc HJ
    go_wp2_with (first | (refine wp_letAll rfl 23 _ _ rfl (w.heap.size) rfl #[.int .i64 (2000 + (j : Int)), .int .i64 ((i : Int) + 1), .int .i64 (day - c + 1)] rfl (by kernel_rfl) (by simp [Value.oneCell']) #[.int .i64 0, .int .i64 0, .int .i64 0] 23 H0r.out rfl ?_) | fail)
    intro WF hU
    have H1r : Hid (Blk WF (w.heap.size) #[.int .i64 (2000 + (j : Int)), .int .i64 ((i : Int) + 1), .int .i64 (day - c + 1)] 23) := hU.blk
    have H1B : Hid (Below w.heap.size w WF) := hU.bel _ _ (by omega) H0B.out
    clear hU H0r H0B  
    have Rr0 : Hid (WF.cell? ⟨w.heap.size, 0, none⟩ = some (.int .i64 (2000 + (j : Int)))) := H1r.out.cell 0
    have Rr1 : Hid (WF.cell? ⟨w.heap.size, 1, none⟩ = some (.int .i64 ((i : Int) + 1))) := H1r.out.cell 1
    have Rr2 : Hid (WF.cell? ⟨w.heap.size, 2, none⟩ = some (.int .i64 (day - c + 1))) := H1r.out.cell 2
    go_wp2_with fail
    exact bodyPost_ret (v := .tuple #[.agg #[.int .i64 (2000 + (j : Int)), .int .i64 ((i : Int) + 1), .int .i64 (day - c + 1)], .int .i64 0]) (by simp [results, Try.results12, Rr0.out, Rr1.out, Rr2.out, go_sem]) rfl ⟨_, _, _, _, rfl, .inl ⟨HD.out, ⟨k, HK.out.1, HK.out.2, by rw [HJ2.out.1], by rw [HJ2.out.2.1], by rw [HJ2.out.2.2]⟩, rfl⟩, H1B.out⟩
  · rw [decide_eq_false hd] at HIN
    have HD : Hid (¬ (0 ≤ day ∧ day ≤ 73048)) := hd
    clear hd
    go_enter Try.func12, Try.ntmps12
    go_wp2_with fail
    refine (HIN.out _).mono ?_
    rintro e w1 ⟨rfl, rfl⟩
    go_wp2_with (first | (refine wp_letAll rfl 23 _ _ rfl (w.heap.size) rfl #[.int .i64 0, .int .i64 0, .int .i64 0] rfl (by kernel_rfl) (by simp [Value.oneCell']) #[.int .i64 0, .int .i64 0, .int .i64 0] 23 H0r.out rfl ?_) | fail)
    intro WF hU
    have H1r : Hid (Blk WF (w.heap.size) #[.int .i64 0, .int .i64 0, .int .i64 0] 23) := hU.blk
    have H1B : Hid (Below w.heap.size w WF) := hU.bel _ _ (by omega) H0B.out
    clear hU H0r H0B  
    have Rr0 : Hid (WF.cell? ⟨w.heap.size, 0, none⟩ = some (.int .i64 0)) := H1r.out.cell 0
    have Rr1 : Hid (WF.cell? ⟨w.heap.size, 1, none⟩ = some (.int .i64 0)) := H1r.out.cell 1
    have Rr2 : Hid (WF.cell? ⟨w.heap.size, 2, none⟩ = some (.int .i64 0)) := H1r.out.cell 2
    go_wp2_with fail
    exact bodyPost_ret (v := .tuple #[.agg #[.int .i64 0, .int .i64 0, .int .i64 0], .int .i64 2]) (by simp [results, Try.results12, Rr0.out, Rr1.out, Rr2.out, go_sem]) rfl ⟨_, _, _, _, rfl, .inr ⟨HD.out, rfl, rfl, rfl, rfl⟩, H1B.out⟩
theorem rem7 (d : Nat) : Int.tmod (d : Int) 7 = ((d % 7 : Nat) : Int) := by rw [Int.tmod_eq_emod_of_nonneg (by omega)]; omega
set_option maxHeartbeats 1000000 in
theorem weekdayOf (day : Int) (w : World) : Calls Try.prog 18 #[.int .i64 day] w fun e w' => WeekPost w day e w' := by
  have HIN : Hid (∀ W, Calls Try.prog 22 #[.int .i64 day, .int .i64 0, .int .i64 73048] W fun e w' => e = .returned (.bool (decide (0 ≤ day ∧ day ≤ 73048))) ∧ w' = W) := fun W => cin day 0 73048 W
  by_cases hd : 0 ≤ day ∧ day ≤ 73048
  · rw [decide_eq_true hd] at HIN
    have HD : Hid (0 ≤ day ∧ day ≤ 73048) := hd
    obtain ⟨n, rfl⟩ := Int.eq_ofNat_of_zero_le hd.1
    have hr := rem7 n
    have hn7 : n % 7 < 7 := by omega
    have HW : Hid (((n % 7 + 5 : Nat) : Int) % 7 = ((n : Int) + 5) % 7) := by show _ = _; omega
    obtain ⟨hd0, hd1⟩ := hd
    generalize n % 7 = r at *
    go_enter Try.func18, Try.ntmps18
    go_wp2_with fail
    refine (HIN.out _).mono ?_
    rintro e w1 ⟨rfl, rfl⟩
    go_wp2_with fail
    go_loopw [4, 5] (fun v i wr => ∃ k : Nat, k ≤ r ∧ i = .int .i64 (k : Int) ∧ v = .int .i64 (((k + 5) % 7 : Nat) : Int) ∧ wr = w1) (fun _ i _ => r - (intOf i).toNat)
    case atStart => exact ⟨0, Nat.zero_le _, rfl, rfl, rfl⟩
    case round =>
      obtain ⟨k, hk, rfl, rfl, rfl⟩ := hrel
      by_cases hlt : k < r
      · have hdl : decide ((k : Int) < (r : Int)) = true := by simp; omega
        have hv : (k + 5) % 7 ≤ 6 := by omega
        by_cases h6 : (k + 5) % 7 = 6
        · have HN : Hid ((0 : Int) = (((k + 1 + 5) % 7 : Nat) : Int)) := by show _ = _; omega
          rw [h6]
          clear hv h6
          go_wp2_with fail
          go_roundw
          case rel => exact ⟨k + 1, by omega, by go_num, by rw [← HN.out], by first | rfl | trivial⟩
          case measure => simp [intOf]; omega
        · have HN : Hid ((((k + 5) % 7 : Nat) : Int) + 1 = (((k + 1 + 5) % 7 : Nat) : Int)) := by show _ = _; omega
          have h7 : ((((k + 5) % 7 : Nat) : Int) + 1 == 7) = false := by simp; omega
          generalize (k + 5) % 7 = v at *
          go_wp2_with fail
          go_roundw
          case rel => exact ⟨k + 1, by omega, by go_num, by rw [← HN.out], by first | rfl | trivial⟩
          case measure => simp [intOf]; omega
      · obtain rfl : k = r := by omega
        have hdl : decide ((k : Int) < (k : Int)) = false := by simp
        have HV : Hid ((((k + 5) % 7 : Nat) : Int) = ((n : Int) + 5) % 7) := by have h9 := HW.out; show _ = _; omega
        generalize (k + 5) % 7 = v at *
        go_wp2_with fail
        go_ret2
        exact ⟨_, _, rfl, .inl ⟨HD.out, HV.out, rfl⟩, Below.refl _ _⟩
  · rw [decide_eq_false hd] at HIN
    have HD : Hid (¬ (0 ≤ day ∧ day ≤ 73048)) := hd
    clear hd
    go_enter Try.func18, Try.ntmps18
    go_wp2_with fail
    refine (HIN.out _).mono ?_
    rintro e w1 ⟨rfl, rfl⟩
    go_wp2_with fail
    go_ret2
    exact ⟨_, _, rfl, .inr ⟨HD.out, rfl, rfl⟩, Below.refl _ _⟩

end Go.Proofs.Ytgeemnoefhnlnaa.cal
