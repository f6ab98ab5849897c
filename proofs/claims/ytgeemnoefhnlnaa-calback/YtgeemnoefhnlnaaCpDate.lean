/- calendar.DateOf. -/
import Derived.Test.YtgeemnoefhnlnaaCpM
import Derived.Test.YtgeemnoefhnlnaaCpD
import Derived.Test.YtgeemnoefhnlnaaKaDate
namespace Go.Proofs.Ytgeemnoefhnlnaa.cal
open Go.RowKit
set_option maxRecDepth 100000
set_option linter.unusedVariables false
set_option linter.unusedSimpArgs false

set_option maxHeartbeats 1000000 in
theorem kdate : KaDate := by
  intro w day _
  have HIN : Hid (∀ W, Calls Try.prog 24 #[.int .i64 day] W fun e w' => e = .returned (.bool (decide (0 ≤ day ∧ day ≤ 73048))) ∧ w' = W) := fun W => pisDay day W
  have H0r : Hid (Blk (w.alloc (.cells #[.int .i64 0, .int .i64 0, .int .i64 0] 23)) (w.heap.size) #[.int .i64 0, .int .i64 0, .int .i64 0] 23) := Blk.new w _ _
  have H0B : Hid (Below w.heap.size w (w.alloc (.cells #[.int .i64 0, .int .i64 0, .int .i64 0] 23))) := (Below.refl w.heap.size w).alloc (by simp) _
  have hsz : w.heap.size < (w.alloc (.cells #[.int .i64 0, .int .i64 0, .int .i64 0] 23)).heap.size := H0r.out.lt
  have hB0 : w.heap.size ≤ w.heap.size := Nat.le_refl _
  by_cases hd : 0 ≤ day ∧ day ≤ 73048
  · rw [decide_eq_true hd] at HIN
    have HD : Hid (0 ≤ day ∧ day ≤ 73048) := hd
    have HMF : Hid (∀ W, Calls Try.prog 25 #[.int .i64 day] W fun e w' => InPost W day e w') := fun W => pmonthOf day W hd.1 hd.2
    obtain ⟨hd0, hd1⟩ := hd
    go_enter Try.func11, Try.ntmps11
    go_wp2_with fail
    refine (HIN.out _).mono ?_
    rintro e w1 ⟨rfl, hw1⟩
    subst hw1
    go_wp2_with fail
    refine (HMF.out _).mono ?_
    rintro e w2 ⟨k, hk, hi, rfl, hB⟩
    have H2B : Hid (Below w.heap.size w w2) := H0B.out.trans (hB.mono (Nat.le_of_lt hsz))
    have H2r : Hid (Blk w2 w.heap.size #[.int .i64 0, .int .i64 0, .int .i64 0] 23) := H0r.out.below hB hsz
    have HK : Hid (k < 2400 ∧ InMon day k) := ⟨hk, hi⟩
    have HNM : Hid (∀ W, Calls Try.prog 26 #[.int .i64 (k : Int)] W fun e w' => e = .returned (.tuple #[.int .i64 (2000 + ((k / 12 : Nat) : Int)), .int .i64 (((k % 12 : Nat) : Int) + 1)]) ∧ w' = W) := fun W => pnamed k (by omega) W
    have HFO : Hid (∀ W, Calls Try.prog 27 #[.int .i64 (k : Int)] W fun e w' => e = .returned (.int .i64 (cd k)) ∧ w' = W) := fun W => pfirst k (by omega) W
    have hj : k / 12 ≤ 200 := by omega
    have hi2 : k % 12 ≤ 11 := by omega
    have hc0 := cd_pos k
    have hc1 := hi.1
    generalize hjj : k / 12 = j at *
    generalize hii : k % 12 = i at *
    generalize hcc : cd k = c at *
    have HJ2 : Hid (k / 12 = j ∧ k % 12 = i ∧ cd k = c) := ⟨hjj, hii, hcc⟩
    clear hi hk hjj hii hcc hB H0B H0r HIN HMF hsz
    generalize hBB : w.heap.size = B0 at *
    have HBB : Hid (w.heap.size = B0) := hBB
    go_wp2_with fail
    refine (HNM.out _).mono ?_
    rintro e w3 ⟨rfl, hw3⟩
    subst hw3
    go_wp2_with fail
    refine (HFO.out _).mono ?_
    rintro e w3 ⟨rfl, hw3⟩
    subst hw3
    go_wp2_with (first | (refine wp_letAll rfl 23 _ _ rfl B0 rfl #[.int .i64 (2000 + (j : Int)), .int .i64 ((i : Int) + 1), .int .i64 (day - c + 1)] rfl (by kernel_rfl) (by simp [Value.oneCell']) #[.int .i64 0, .int .i64 0, .int .i64 0] 23 H2r.out rfl ?_) | fail)
    intro WF hU
    have H9r : Hid (Blk WF B0 #[.int .i64 (2000 + (j : Int)), .int .i64 ((i : Int) + 1), .int .i64 (day - c + 1)] 23) := hU.blk
    have H9B : Hid (Below B0 w WF) := hU.bel _ _ (by omega) H2B.out
    clear hU
    have Rr0 : Hid (WF.cell? ⟨B0, 0, none⟩ = some (.int .i64 (2000 + (j : Int)))) := H9r.out.cell 0
    have Rr1 : Hid (WF.cell? ⟨B0, 1, none⟩ = some (.int .i64 ((i : Int) + 1))) := H9r.out.cell 1
    have Rr2 : Hid (WF.cell? ⟨B0, 2, none⟩ = some (.int .i64 (day - c + 1))) := H9r.out.cell 2
    go_wp2_with fail
    exact bodyPost_ret (v := .tuple #[.agg #[.int .i64 (2000 + (j : Int)), .int .i64 ((i : Int) + 1), .int .i64 (day - c + 1)], .int .i64 0]) (by simp [results, Try.results11, Rr0.out, Rr1.out, Rr2.out, go_sem]) rfl ⟨_, _, _, _, rfl, .inl ⟨HD.out, ⟨k, HK.out.1, HK.out.2, by rw [HJ2.out.1], by rw [HJ2.out.2.1], by rw [HJ2.out.2.2]⟩, rfl⟩, by rw [HBB.out]; exact H9B.out⟩
  · rw [decide_eq_false hd] at HIN
    have HD : Hid (¬ (0 ≤ day ∧ day ≤ 73048)) := hd
    clear hd
    go_enter Try.func11, Try.ntmps11
    go_wp2_with fail
    refine (HIN.out _).mono ?_
    rintro e w1 ⟨rfl, hw1⟩
    subst hw1
    go_wp2_with (first | (refine wp_letAll rfl 23 _ _ rfl w.heap.size rfl #[.int .i64 0, .int .i64 0, .int .i64 0] rfl (by kernel_rfl) (by simp [Value.oneCell']) #[.int .i64 0, .int .i64 0, .int .i64 0] 23 H0r.out rfl ?_) | fail)
    intro WF hU
    have H9r : Hid (Blk WF w.heap.size #[.int .i64 0, .int .i64 0, .int .i64 0] 23) := hU.blk
    have H9B : Hid (Below w.heap.size w WF) := hU.bel _ _ (by omega) H0B.out
    clear hU
    have Rr0 : Hid (WF.cell? ⟨w.heap.size, 0, none⟩ = some (.int .i64 0)) := H9r.out.cell 0
    have Rr1 : Hid (WF.cell? ⟨w.heap.size, 1, none⟩ = some (.int .i64 0)) := H9r.out.cell 1
    have Rr2 : Hid (WF.cell? ⟨w.heap.size, 2, none⟩ = some (.int .i64 0)) := H9r.out.cell 2
    go_wp2_with fail
    exact bodyPost_ret (v := .tuple #[.agg #[.int .i64 0, .int .i64 0, .int .i64 0], .int .i64 2]) (by simp [results, Try.results11, Rr0.out, Rr1.out, Rr2.out, go_sem]) rfl ⟨_, _, _, _, rfl, .inr ⟨HD.out, rfl, rfl, rfl, rfl⟩, H9B.out⟩

end Go.Proofs.Ytgeemnoefhnlnaa.cal
