/- Spans of months, as the document has them. -/
import Derived.Test.YtgeemnoefhnlnaaCaS
namespace Go.Proofs.Ytgeemnoefhnlnaa.cal
open Go.RowKit
set_option maxRecDepth 100000
set_option linter.unusedVariables false
set_option linter.unusedSimpArgs false

set_option maxHeartbeats 1000000 in
theorem daysOf (mo : Int) (w : World) : Calls Try.prog 16 #[.int .i64 mo] w fun e w' => SpanPost w mo e w' := by
  have HIN : Hid (∀ W, Calls Try.prog 22 #[.int .i64 mo, .int .i64 0, .int .i64 2399] W fun e w' => e = .returned (.bool (decide (0 ≤ mo ∧ mo ≤ 2399))) ∧ w' = W) := fun W => cin mo 0 2399 W
  by_cases hd : 0 ≤ mo ∧ mo ≤ 2399
  · rw [decide_eq_true hd] at HIN
    have HD : Hid (0 ≤ mo ∧ mo ≤ 2399) := hd
    obtain ⟨k, rfl⟩ := Int.eq_ofNat_of_zero_le hd.1
    have hk : k ≤ 2399 := by omega
    clear hd
    have HDO : Hid (∀ W, Calls Try.prog 10 #[.agg #[.int .i64 (2000 + ((k / 12 : Nat) : Int)), .int .i64 (((k % 12 : Nat) : Int) + 1), .int .i64 1]] W fun e w' => e = .returned (.tuple #[.int .i64 (cd k), .int .i64 0]) ∧ Below W.heap.size W w') := fun W => (dayOf _ _ _ W).mono fun e w' ⟨x, f, he, hi, hb⟩ => by
      have hv : Valid (2000 + ((k / 12 : Nat) : Int)) (((k % 12 : Nat) : Int) + 1) 1 := ⟨⟨by omega, by omega⟩, ⟨by omega, by omega⟩, by omega, by have := ml_bd (2000 + ((k / 12 : Nat) : Int)) (((k % 12 : Nat) : Int) + 1); omega⟩
      obtain ⟨rfl, rfl⟩ := hi.one (.inl ⟨hv, rfl, rfl⟩)
      rw [show ((2000 + ((k / 12 : Nat) : Int) - 2000) * 12 + (((k % 12 : Nat) : Int) + 1) - 1).toNat = k by omega, show cd k + 1 - 1 = cd k by omega] at he
      exact ⟨he, hb⟩
    have HMQ : Hid (∀ W, Calls Try.prog 23 #[.int .i64 (2000 + ((k / 12 : Nat) : Int)), .int .i64 (((k % 12 : Nat) : Int) + 1)] W fun e w' => e = .returned (.int .i64 (mk k)) ∧ w' = W) := fun W => mlong_at k (by omega) W
    have hq := quo12 k
    have hr := rem12 k
    have hj : k / 12 ≤ 200 := by omega
    have hi2 : k % 12 ≤ 11 := by omega
    have hb := mk_bd k
    have hcp := cd_pos k
    have hcl : cd k ≤ 73049 := by have := cd_le (show k ≤ 2400 by omega); rw [cd_end] at this; exact this
    have HE : Hid (cd ((k : Int)).toNat = cd k ∧ cd (((k : Int)).toNat + 1) = cd k + mk k) := ⟨rfl, rfl⟩
    generalize k / 12 = j at *
    generalize k % 12 = i at *
    generalize mk k = mv at *
    generalize hcc : cd k = c at *
    clear hcc
    have H0B : Hid (Below w.heap.size w w) := Below.refl _ _
    go_enter Try.func16, Try.ntmps16
    go_wp2_with fail
    refine (HIN.out _).mono ?_
    rintro e w1 ⟨rfl, hw1⟩
    have hw2 := hw1.symm
    subst hw2
    clear hw1
    have H1d : Hid (Blk (w.alloc (.cells #[.int .i64 (2000 + (j : Int)), .int .i64 ((i : Int) + 1), .int .i64 1] 23)) (w.heap.size) #[.int .i64 (2000 + (j : Int)), .int .i64 ((i : Int) + 1), .int .i64 1] 23) := (Blk.new w _ _)
    have H1B : Hid (Below w.heap.size w (w.alloc (.cells #[.int .i64 (2000 + (j : Int)), .int .i64 ((i : Int) + 1), .int .i64 1] 23))) := (H0B.out).alloc (Nat.le_trans H0B.out.size (by simp)) _
    have L10 : Hid (w.heap.size ≤ w.heap.size) := H0B.out.size
    clear H0B 
    go_wp2_with (first
      | (refine wp_whole rfl 23 _ rfl (w.heap.size) rfl 23 #[.int .i64 (2000 + (j : Int)), .int .i64 ((i : Int) + 1), .int .i64 1] _ H1d.out Try.underlying23 rfl (by kernel_rfl) ?_)
      | (refine wp_wholeG (by rfl) 23 _ rfl (w.heap.size) rfl 23 #[.int .i64 (2000 + (j : Int)), .int .i64 ((i : Int) + 1), .int .i64 1] _ H1d.out Try.underlying23 rfl (by kernel_rfl) ?_)
      | fail)
    refine (HDO.out _).mono ?_
    rintro e w3 ⟨rfl, hb3⟩
    have H2d : Hid (Blk w3 (w.heap.size) #[.int .i64 (2000 + (j : Int)), .int .i64 ((i : Int) + 1), .int .i64 1] 23) := H1d.out.next hb3
    have H2B : Hid (Below w.heap.size w w3) := bel_step H1B.out hb3
    clear H1d H1B hb3 HDO
    have q_d_0 : w3.cell? ⟨w.heap.size, 0, none⟩ = some (.int .i64 (2000 + (j : Int))) := H2d.out.cell 0
    have q_d_1 : w3.cell? ⟨w.heap.size, 1, none⟩ = some (.int .i64 ((i : Int) + 1)) := H2d.out.cell 1
    go_wp2_with (first
      | (refine wp_whole rfl 23 _ rfl (w.heap.size) rfl 23 #[.int .i64 (2000 + (j : Int)), .int .i64 ((i : Int) + 1), .int .i64 1] _ H2d.out Try.underlying23 rfl (by kernel_rfl) ?_)
      | (refine wp_wholeG (by rfl) 23 _ rfl (w.heap.size) rfl 23 #[.int .i64 (2000 + (j : Int)), .int .i64 ((i : Int) + 1), .int .i64 1] _ H2d.out Try.underlying23 rfl (by kernel_rfl) ?_)
      | fail)
    clear q_d_0 q_d_1
    refine (HMQ.out _).mono ?_
    rintro e w4 ⟨rfl, hw4⟩
    have hw5 := hw4.symm
    subst hw5
    clear hw4
    go_wp2_with fail
    go_ret3
    exact ⟨_, _, _, rfl, .inl ⟨HD.out, HE.out.1.symm, by rw [HE.out.2], rfl⟩, H2B.out⟩
  · rw [decide_eq_false hd] at HIN
    have HD : Hid (¬ (0 ≤ mo ∧ mo ≤ 2399)) := hd
    clear hd
    go_enter Try.func16, Try.ntmps16
    go_wp2_with fail
    refine (HIN.out _).mono ?_
    rintro e w1 ⟨rfl, rfl⟩
    go_wp2_with fail
    go_ret3
    exact ⟨_, _, _, rfl, .inr ⟨HD.out, rfl, rfl, rfl⟩, Below.refl _ _⟩

end Go.Proofs.Ytgeemnoefhnlnaa.cal
