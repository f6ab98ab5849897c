/- Behind a day comes the next one of its month, or the first of the next month. -/
import Derived.Test.YtgeemnoefhnlnabKaDate
import Derived.Test.YtgeemnoefhnlnabCkPick
import Derived.Test.YtgeemnoefhnlnabCaWf
import Derived.Test.YtgeemnoefhnlnabCaEq
import Derived.Test.YtgeemnoefhnlnabLetG
namespace Go.Proofs.Ytgeemnoefhnlnab.cal
open Go.RowKit Go.Proofs.Ytgeemnoefhnlnab.check
set_option maxRecDepth 100000
set_option linter.unusedVariables false
set_option linter.unusedSimpArgs false

/-- The date of a day that there is. -/
theorem date_at {n : Int} (h0 : 0 ≤ n) (h1 : n ≤ 73048) {y m d f : Int} (h : DateIs n y m d f) {k : Nat} (hk : InMon n k) : y = 2000 + ((k / 12 : Nat) : Int) ∧ m = ((k % 12 : Nat) : Int) + 1 ∧ d = n - cd k + 1 ∧ f = 0 := by
  rcases h with ⟨_, ⟨j, _, hj, rfl, rfl, rfl⟩, rfl⟩ | ⟨h, _⟩
  · obtain rfl := hj.one hk
    exact ⟨rfl, rfl, rfl, rfl⟩
  · exact absurd ⟨h0, h1⟩ h
set_option maxHeartbeats 2000000 in
theorem next_A (x : Int) (n j i : Nat) (c : Int) (w : World) (hn : n ≤ 73047) (hj : j ≤ 200) (hi : i ≤ 11) (hc0 : 0 ≤ c) (hc : c ≤ n) (hd : n - c ≤ 30)
    (hp : ∀ W, Calls Try.prog 6 #[.int .i64 x, .int .i64 73048] W fun e w' => e = .returned (.int .i64 (n : Int)) ∧ w' = W)
    (h1 : ∀ W, Calls Try.prog 7 #[.int .i64 (n : Int)] W fun e w' => e = .returned (.tuple #[.agg #[.int .i64 (2000 + (j : Int)), .int .i64 ((i : Int) + 1), .int .i64 ((n : Int) - c + 1)], .int .i64 0]) ∧ Below W.heap.size W w')
    (h2 : ∀ W, Calls Try.prog 7 #[.int .i64 ((n : Int) + 1)] W fun e w' => e = .returned (.tuple #[.agg #[.int .i64 (2000 + (j : Int)), .int .i64 ((i : Int) + 1), .int .i64 ((n : Int) - c + 1 + 1)], .int .i64 0]) ∧ Below W.heap.size W w')
    : Calls Try.prog 3 #[.int .i64 x] w fun e w' => e = .returned (.bool true) ∧ Below w.heap.size w w' := by
  have HP : Hid (∀ W, Calls Try.prog 6 #[.int .i64 x, .int .i64 73048] W fun e w' => e = .returned (.int .i64 (n : Int)) ∧ w' = W) := hp
  have H1 : Hid (∀ W, Calls Try.prog 7 #[.int .i64 (n : Int)] W fun e w' => e = .returned (.tuple #[.agg #[.int .i64 (2000 + (j : Int)), .int .i64 ((i : Int) + 1), .int .i64 ((n : Int) - c + 1)], .int .i64 0]) ∧ Below W.heap.size W w') := h1
  have H2 : Hid (∀ W, Calls Try.prog 7 #[.int .i64 ((n : Int) + 1)] W fun e w' => e = .returned (.tuple #[.agg #[.int .i64 (2000 + (j : Int)), .int .i64 ((i : Int) + 1), .int .i64 ((n : Int) - c + 1 + 1)], .int .i64 0]) ∧ Below W.heap.size W w') := h2
  clear hp h1 h2
  have hq : ∀ W : World, (Op.equalIn 10000 24 (.agg #[.int .i64 (2000 + (j : Int)), .int .i64 ((i : Int) + 1), .int .i64 ((n : Int) - c + 1 + 1)]) (.agg #[.int .i64 (2000 + (j : Int)), .int .i64 ((i : Int) + 1), .int .i64 ((n : Int) - c + 1 + 1)])).run Try.prog W = .ok true W := fun W => eqDate _ _ _ W
  have e1 : ((n : Int) - c + 1 + 1 != 1) = true := by simp; omega
  have H0B : Hid (Below w.heap.size w w) := Below.refl _ _
  go_enter Try.func3, Try.ntmps3
  go_wp2_with fail
  refine (HP.out _).mono ?_
  rintro e w0 ⟨rfl, hw0⟩
  have hw1 := hw0.symm
  subst hw1
  clear hw0
  go_wp2_with fail
  refine (H1.out _).mono ?_
  rintro e w1 ⟨rfl, hb1⟩
  have H1B : Hid (Below w.heap.size w w1) := bel_step H0B.out hb1
  have H2a : Hid (Blk (w1.alloc (.cells #[.int .i64 (2000 + (j : Int)), .int .i64 ((i : Int) + 1), .int .i64 ((n : Int) - c + 1)] 24)) (w1.heap.size) #[.int .i64 (2000 + (j : Int)), .int .i64 ((i : Int) + 1), .int .i64 ((n : Int) - c + 1)] 24) := (Blk.new w1 _ _)
  have H2B : Hid (Below w.heap.size w (w1.alloc (.cells #[.int .i64 (2000 + (j : Int)), .int .i64 ((i : Int) + 1), .int .i64 ((n : Int) - c + 1)] 24))) := (H1B.out).alloc (Nat.le_trans H1B.out.size (by simp)) _
  have L20 : Hid (w.heap.size ≤ w1.heap.size) := H1B.out.size
  clear H0B H1B hb1 H1
  go_wp2_with (first
    | (refine wp_whole rfl 24 _ rfl (w1.heap.size) rfl 24 #[.int .i64 (2000 + (j : Int)), .int .i64 ((i : Int) + 1), .int .i64 ((n : Int) - c + 1)] _ H2a.out Try.underlying24 rfl (by kernel_rfl) ?_)
    | (refine wp_wholeG (by rfl) 24 _ rfl (w1.heap.size) rfl 24 #[.int .i64 (2000 + (j : Int)), .int .i64 ((i : Int) + 1), .int .i64 ((n : Int) - c + 1)] _ H2a.out Try.underlying24 rfl (by kernel_rfl) ?_)
    | fail)
  refine (H2.out _).mono ?_
  rintro e w2 ⟨rfl, hb2⟩
  have H3a : Hid (Blk w2 (w1.heap.size) #[.int .i64 (2000 + (j : Int)), .int .i64 ((i : Int) + 1), .int .i64 ((n : Int) - c + 1)] 24) := H2a.out.next hb2
  have H3B : Hid (Below w.heap.size w w2) := bel_step H2B.out hb2
  have H4a : Hid (Blk (w2.alloc (.cells #[.int .i64 (2000 + (j : Int)), .int .i64 ((i : Int) + 1), .int .i64 ((n : Int) - c + 1 + 1)] 24)) (w1.heap.size) #[.int .i64 (2000 + (j : Int)), .int .i64 ((i : Int) + 1), .int .i64 ((n : Int) - c + 1)] 24) := (H3a.out).alloc _
  have H4b : Hid (Blk (w2.alloc (.cells #[.int .i64 (2000 + (j : Int)), .int .i64 ((i : Int) + 1), .int .i64 ((n : Int) - c + 1 + 1)] 24)) (w2.heap.size) #[.int .i64 (2000 + (j : Int)), .int .i64 ((i : Int) + 1), .int .i64 ((n : Int) - c + 1 + 1)] 24) := (Blk.new w2 _ _)
  have L4ba : Hid (w1.heap.size < w2.heap.size) := Nat.lt_of_lt_of_le H3a.out.lt (by simp)
  have H4B : Hid (Below w.heap.size w (w2.alloc (.cells #[.int .i64 (2000 + (j : Int)), .int .i64 ((i : Int) + 1), .int .i64 ((n : Int) - c + 1 + 1)] 24))) := (H3B.out).alloc (Nat.le_trans H3B.out.size (by simp)) _
  have L40 : Hid (w.heap.size ≤ w2.heap.size) := H3B.out.size
  clear H2a H2B H3a H3B hb2 H2
  have q_a_0 : (w2.alloc (.cells #[.int .i64 (2000 + (j : Int)), .int .i64 ((i : Int) + 1), .int .i64 ((n : Int) - c + 1 + 1)] 24)).cell? ⟨w1.heap.size, 0, none⟩ = some (.int .i64 (2000 + (j : Int))) := H4a.out.cell 0
  have q_a_1 : (w2.alloc (.cells #[.int .i64 (2000 + (j : Int)), .int .i64 ((i : Int) + 1), .int .i64 ((n : Int) - c + 1 + 1)] 24)).cell? ⟨w1.heap.size, 1, none⟩ = some (.int .i64 ((i : Int) + 1)) := H4a.out.cell 1
  have q_a_2 : (w2.alloc (.cells #[.int .i64 (2000 + (j : Int)), .int .i64 ((i : Int) + 1), .int .i64 ((n : Int) - c + 1 + 1)] 24)).cell? ⟨w1.heap.size, 2, none⟩ = some (.int .i64 ((n : Int) - c + 1)) := H4a.out.cell 2
  have q_b_2 : (w2.alloc (.cells #[.int .i64 (2000 + (j : Int)), .int .i64 ((i : Int) + 1), .int .i64 ((n : Int) - c + 1 + 1)] 24)).cell? ⟨w2.heap.size, 2, none⟩ = some (.int .i64 ((n : Int) - c + 1 + 1)) := H4b.out.cell 2
  go_wp2_with (first
    | (refine wp_whole rfl 24 _ rfl (w1.heap.size) rfl 24 #[.int .i64 (2000 + (j : Int)), .int .i64 ((i : Int) + 1), .int .i64 ((n : Int) - c + 1)] _ H4a.out Try.underlying24 rfl (by kernel_rfl) ?_)
    | (refine wp_wholeG (by rfl) 24 _ rfl (w1.heap.size) rfl 24 #[.int .i64 (2000 + (j : Int)), .int .i64 ((i : Int) + 1), .int .i64 ((n : Int) - c + 1)] _ H4a.out Try.underlying24 rfl (by kernel_rfl) ?_)
    | (refine wp_whole rfl 24 _ rfl (w2.heap.size) rfl 24 #[.int .i64 (2000 + (j : Int)), .int .i64 ((i : Int) + 1), .int .i64 ((n : Int) - c + 1 + 1)] _ H4b.out Try.underlying24 rfl (by kernel_rfl) ?_)
    | (refine wp_wholeG (by rfl) 24 _ rfl (w2.heap.size) rfl 24 #[.int .i64 (2000 + (j : Int)), .int .i64 ((i : Int) + 1), .int .i64 ((n : Int) - c + 1 + 1)] _ H4b.out Try.underlying24 rfl (by kernel_rfl) ?_)
    | fail)
  go_ret
  exact ⟨rfl, H4B.out⟩
set_option maxHeartbeats 2000000 in
theorem next_B (x : Int) (n j i : Nat) (c : Int) (w : World) (hn : n ≤ 73047) (hj : j ≤ 200) (hi : i ≤ 11) (hc0 : 0 ≤ c) (hc : c ≤ n) (h28 : 27 ≤ n - c) (h31 : n - c ≤ 30) (h11 : i = 11)
    (hp : ∀ W, Calls Try.prog 6 #[.int .i64 x, .int .i64 73048] W fun e w' => e = .returned (.int .i64 (n : Int)) ∧ w' = W)
    (h1 : ∀ W, Calls Try.prog 7 #[.int .i64 (n : Int)] W fun e w' => e = .returned (.tuple #[.agg #[.int .i64 (2000 + (j : Int)), .int .i64 ((i : Int) + 1), .int .i64 ((n : Int) - c + 1)], .int .i64 0]) ∧ Below W.heap.size W w')
    (h2 : ∀ W, Calls Try.prog 7 #[.int .i64 ((n : Int) + 1)] W fun e w' => e = .returned (.tuple #[.agg #[.int .i64 (2000 + (j : Int) + 1), .int .i64 1, .int .i64 1], .int .i64 0]) ∧ Below W.heap.size W w')
    : Calls Try.prog 3 #[.int .i64 x] w fun e w' => e = .returned (.bool true) ∧ Below w.heap.size w w' := by
  have HP : Hid (∀ W, Calls Try.prog 6 #[.int .i64 x, .int .i64 73048] W fun e w' => e = .returned (.int .i64 (n : Int)) ∧ w' = W) := hp
  have H1 : Hid (∀ W, Calls Try.prog 7 #[.int .i64 (n : Int)] W fun e w' => e = .returned (.tuple #[.agg #[.int .i64 (2000 + (j : Int)), .int .i64 ((i : Int) + 1), .int .i64 ((n : Int) - c + 1)], .int .i64 0]) ∧ Below W.heap.size W w') := h1
  have H2 : Hid (∀ W, Calls Try.prog 7 #[.int .i64 ((n : Int) + 1)] W fun e w' => e = .returned (.tuple #[.agg #[.int .i64 (2000 + (j : Int) + 1), .int .i64 1, .int .i64 1], .int .i64 0]) ∧ Below W.heap.size W w') := h2
  clear hp h1 h2
  have hq : ∀ W : World, (Op.equalIn 10000 24 (.agg #[.int .i64 (2000 + (j : Int) + 1), .int .i64 1, .int .i64 1]) (.agg #[.int .i64 (2000 + (j : Int) + 1), .int .i64 1, .int .i64 1])).run Try.prog W = .ok true W := fun W => eqDate _ _ _ W
  have e2 : decide ((n : Int) - c + 1 < 28) = false := by simp; omega
  have e3 : decide (31 < (n : Int) - c + 1) = false := by simp; omega
  have e4 : ((i : Int) + 1 == 12) = true := by simp; omega
  clear h11
  have H0B : Hid (Below w.heap.size w w) := Below.refl _ _
  go_enter Try.func3, Try.ntmps3
  go_wp2_with fail
  refine (HP.out _).mono ?_
  rintro e w0 ⟨rfl, hw0⟩
  have hw1 := hw0.symm
  subst hw1
  clear hw0
  go_wp2_with fail
  refine (H1.out _).mono ?_
  rintro e w1 ⟨rfl, hb1⟩
  have H1B : Hid (Below w.heap.size w w1) := bel_step H0B.out hb1
  have H2a : Hid (Blk (w1.alloc (.cells #[.int .i64 (2000 + (j : Int)), .int .i64 ((i : Int) + 1), .int .i64 ((n : Int) - c + 1)] 24)) (w1.heap.size) #[.int .i64 (2000 + (j : Int)), .int .i64 ((i : Int) + 1), .int .i64 ((n : Int) - c + 1)] 24) := (Blk.new w1 _ _)
  have H2B : Hid (Below w.heap.size w (w1.alloc (.cells #[.int .i64 (2000 + (j : Int)), .int .i64 ((i : Int) + 1), .int .i64 ((n : Int) - c + 1)] 24))) := (H1B.out).alloc (Nat.le_trans H1B.out.size (by simp)) _
  have L20 : Hid (w.heap.size ≤ w1.heap.size) := H1B.out.size
  clear H0B H1B hb1 H1
  go_wp2_with (first
    | (refine wp_whole rfl 24 _ rfl (w1.heap.size) rfl 24 #[.int .i64 (2000 + (j : Int)), .int .i64 ((i : Int) + 1), .int .i64 ((n : Int) - c + 1)] _ H2a.out Try.underlying24 rfl (by kernel_rfl) ?_)
    | (refine wp_wholeG (by rfl) 24 _ rfl (w1.heap.size) rfl 24 #[.int .i64 (2000 + (j : Int)), .int .i64 ((i : Int) + 1), .int .i64 ((n : Int) - c + 1)] _ H2a.out Try.underlying24 rfl (by kernel_rfl) ?_)
    | fail)
  refine (H2.out _).mono ?_
  rintro e w2 ⟨rfl, hb2⟩
  have H3a : Hid (Blk w2 (w1.heap.size) #[.int .i64 (2000 + (j : Int)), .int .i64 ((i : Int) + 1), .int .i64 ((n : Int) - c + 1)] 24) := H2a.out.next hb2
  have H3B : Hid (Below w.heap.size w w2) := bel_step H2B.out hb2
  have H4a : Hid (Blk (w2.alloc (.cells #[.int .i64 (2000 + (j : Int) + 1), .int .i64 1, .int .i64 1] 24)) (w1.heap.size) #[.int .i64 (2000 + (j : Int)), .int .i64 ((i : Int) + 1), .int .i64 ((n : Int) - c + 1)] 24) := (H3a.out).alloc _
  have H4b : Hid (Blk (w2.alloc (.cells #[.int .i64 (2000 + (j : Int) + 1), .int .i64 1, .int .i64 1] 24)) (w2.heap.size) #[.int .i64 (2000 + (j : Int) + 1), .int .i64 1, .int .i64 1] 24) := (Blk.new w2 _ _)
  have L4ba : Hid (w1.heap.size < w2.heap.size) := Nat.lt_of_lt_of_le H3a.out.lt (by simp)
  have H4B : Hid (Below w.heap.size w (w2.alloc (.cells #[.int .i64 (2000 + (j : Int) + 1), .int .i64 1, .int .i64 1] 24))) := (H3B.out).alloc (Nat.le_trans H3B.out.size (by simp)) _
  have L40 : Hid (w.heap.size ≤ w2.heap.size) := H3B.out.size
  clear H2a H2B H3a H3B hb2 H2
  have q_a_0 : (w2.alloc (.cells #[.int .i64 (2000 + (j : Int) + 1), .int .i64 1, .int .i64 1] 24)).cell? ⟨w1.heap.size, 0, none⟩ = some (.int .i64 (2000 + (j : Int))) := H4a.out.cell 0
  have q_a_1 : (w2.alloc (.cells #[.int .i64 (2000 + (j : Int) + 1), .int .i64 1, .int .i64 1] 24)).cell? ⟨w1.heap.size, 1, none⟩ = some (.int .i64 ((i : Int) + 1)) := H4a.out.cell 1
  have q_a_2 : (w2.alloc (.cells #[.int .i64 (2000 + (j : Int) + 1), .int .i64 1, .int .i64 1] 24)).cell? ⟨w1.heap.size, 2, none⟩ = some (.int .i64 ((n : Int) - c + 1)) := H4a.out.cell 2
  have q_b_2 : (w2.alloc (.cells #[.int .i64 (2000 + (j : Int) + 1), .int .i64 1, .int .i64 1] 24)).cell? ⟨w2.heap.size, 2, none⟩ = some (.int .i64 1) := H4b.out.cell 2
  go_wp2_with (first
    | (refine wp_whole rfl 24 _ rfl (w1.heap.size) rfl 24 #[.int .i64 (2000 + (j : Int)), .int .i64 ((i : Int) + 1), .int .i64 ((n : Int) - c + 1)] _ H4a.out Try.underlying24 rfl (by kernel_rfl) ?_)
    | (refine wp_wholeG (by rfl) 24 _ rfl (w1.heap.size) rfl 24 #[.int .i64 (2000 + (j : Int)), .int .i64 ((i : Int) + 1), .int .i64 ((n : Int) - c + 1)] _ H4a.out Try.underlying24 rfl (by kernel_rfl) ?_)
    | (refine wp_whole rfl 24 _ rfl (w2.heap.size) rfl 24 #[.int .i64 (2000 + (j : Int) + 1), .int .i64 1, .int .i64 1] _ H4b.out Try.underlying24 rfl (by kernel_rfl) ?_)
    | (refine wp_wholeG (by rfl) 24 _ rfl (w2.heap.size) rfl 24 #[.int .i64 (2000 + (j : Int) + 1), .int .i64 1, .int .i64 1] _ H4b.out Try.underlying24 rfl (by kernel_rfl) ?_)
    | fail)
  go_ret
  exact ⟨rfl, H4B.out⟩
set_option maxHeartbeats 2000000 in
theorem next_C (x : Int) (n j i : Nat) (c : Int) (w : World) (hn : n ≤ 73047) (hj : j ≤ 200) (hi : i ≤ 11) (hc0 : 0 ≤ c) (hc : c ≤ n) (h28 : 27 ≤ n - c) (h31 : n - c ≤ 30) (h11 : i ≤ 10)
    (hp : ∀ W, Calls Try.prog 6 #[.int .i64 x, .int .i64 73048] W fun e w' => e = .returned (.int .i64 (n : Int)) ∧ w' = W)
    (h1 : ∀ W, Calls Try.prog 7 #[.int .i64 (n : Int)] W fun e w' => e = .returned (.tuple #[.agg #[.int .i64 (2000 + (j : Int)), .int .i64 ((i : Int) + 1), .int .i64 ((n : Int) - c + 1)], .int .i64 0]) ∧ Below W.heap.size W w')
    (h2 : ∀ W, Calls Try.prog 7 #[.int .i64 ((n : Int) + 1)] W fun e w' => e = .returned (.tuple #[.agg #[.int .i64 (2000 + (j : Int)), .int .i64 ((i : Int) + 1 + 1), .int .i64 1], .int .i64 0]) ∧ Below W.heap.size W w')
    : Calls Try.prog 3 #[.int .i64 x] w fun e w' => e = .returned (.bool true) ∧ Below w.heap.size w w' := by
  have HP : Hid (∀ W, Calls Try.prog 6 #[.int .i64 x, .int .i64 73048] W fun e w' => e = .returned (.int .i64 (n : Int)) ∧ w' = W) := hp
  have H1 : Hid (∀ W, Calls Try.prog 7 #[.int .i64 (n : Int)] W fun e w' => e = .returned (.tuple #[.agg #[.int .i64 (2000 + (j : Int)), .int .i64 ((i : Int) + 1), .int .i64 ((n : Int) - c + 1)], .int .i64 0]) ∧ Below W.heap.size W w') := h1
  have H2 : Hid (∀ W, Calls Try.prog 7 #[.int .i64 ((n : Int) + 1)] W fun e w' => e = .returned (.tuple #[.agg #[.int .i64 (2000 + (j : Int)), .int .i64 ((i : Int) + 1 + 1), .int .i64 1], .int .i64 0]) ∧ Below W.heap.size W w') := h2
  clear hp h1 h2
  have hq : ∀ W : World, (Op.equalIn 10000 24 (.agg #[.int .i64 (2000 + (j : Int)), .int .i64 ((i : Int) + 1 + 1), .int .i64 1]) (.agg #[.int .i64 (2000 + (j : Int)), .int .i64 ((i : Int) + 1 + 1), .int .i64 1])).run Try.prog W = .ok true W := fun W => eqDate _ _ _ W
  have e2 : decide ((n : Int) - c + 1 < 28) = false := by simp; omega
  have e3 : decide (31 < (n : Int) - c + 1) = false := by simp; omega
  have e4 : ((i : Int) + 1 == 12) = false := by simp; omega
  clear h11
  have H0B : Hid (Below w.heap.size w w) := Below.refl _ _
  go_enter Try.func3, Try.ntmps3
  go_wp2_with fail
  refine (HP.out _).mono ?_
  rintro e w0 ⟨rfl, hw0⟩
  have hw1 := hw0.symm
  subst hw1
  clear hw0
  go_wp2_with fail
  refine (H1.out _).mono ?_
  rintro e w1 ⟨rfl, hb1⟩
  have H1B : Hid (Below w.heap.size w w1) := bel_step H0B.out hb1
  have H2a : Hid (Blk (w1.alloc (.cells #[.int .i64 (2000 + (j : Int)), .int .i64 ((i : Int) + 1), .int .i64 ((n : Int) - c + 1)] 24)) (w1.heap.size) #[.int .i64 (2000 + (j : Int)), .int .i64 ((i : Int) + 1), .int .i64 ((n : Int) - c + 1)] 24) := (Blk.new w1 _ _)
  have H2B : Hid (Below w.heap.size w (w1.alloc (.cells #[.int .i64 (2000 + (j : Int)), .int .i64 ((i : Int) + 1), .int .i64 ((n : Int) - c + 1)] 24))) := (H1B.out).alloc (Nat.le_trans H1B.out.size (by simp)) _
  have L20 : Hid (w.heap.size ≤ w1.heap.size) := H1B.out.size
  clear H0B H1B hb1 H1
  go_wp2_with (first
    | (refine wp_whole rfl 24 _ rfl (w1.heap.size) rfl 24 #[.int .i64 (2000 + (j : Int)), .int .i64 ((i : Int) + 1), .int .i64 ((n : Int) - c + 1)] _ H2a.out Try.underlying24 rfl (by kernel_rfl) ?_)
    | (refine wp_wholeG (by rfl) 24 _ rfl (w1.heap.size) rfl 24 #[.int .i64 (2000 + (j : Int)), .int .i64 ((i : Int) + 1), .int .i64 ((n : Int) - c + 1)] _ H2a.out Try.underlying24 rfl (by kernel_rfl) ?_)
    | fail)
  refine (H2.out _).mono ?_
  rintro e w2 ⟨rfl, hb2⟩
  have H3a : Hid (Blk w2 (w1.heap.size) #[.int .i64 (2000 + (j : Int)), .int .i64 ((i : Int) + 1), .int .i64 ((n : Int) - c + 1)] 24) := H2a.out.next hb2
  have H3B : Hid (Below w.heap.size w w2) := bel_step H2B.out hb2
  have H4a : Hid (Blk (w2.alloc (.cells #[.int .i64 (2000 + (j : Int)), .int .i64 ((i : Int) + 1 + 1), .int .i64 1] 24)) (w1.heap.size) #[.int .i64 (2000 + (j : Int)), .int .i64 ((i : Int) + 1), .int .i64 ((n : Int) - c + 1)] 24) := (H3a.out).alloc _
  have H4b : Hid (Blk (w2.alloc (.cells #[.int .i64 (2000 + (j : Int)), .int .i64 ((i : Int) + 1 + 1), .int .i64 1] 24)) (w2.heap.size) #[.int .i64 (2000 + (j : Int)), .int .i64 ((i : Int) + 1 + 1), .int .i64 1] 24) := (Blk.new w2 _ _)
  have L4ba : Hid (w1.heap.size < w2.heap.size) := Nat.lt_of_lt_of_le H3a.out.lt (by simp)
  have H4B : Hid (Below w.heap.size w (w2.alloc (.cells #[.int .i64 (2000 + (j : Int)), .int .i64 ((i : Int) + 1 + 1), .int .i64 1] 24))) := (H3B.out).alloc (Nat.le_trans H3B.out.size (by simp)) _
  have L40 : Hid (w.heap.size ≤ w2.heap.size) := H3B.out.size
  clear H2a H2B H3a H3B hb2 H2
  have q_a_0 : (w2.alloc (.cells #[.int .i64 (2000 + (j : Int)), .int .i64 ((i : Int) + 1 + 1), .int .i64 1] 24)).cell? ⟨w1.heap.size, 0, none⟩ = some (.int .i64 (2000 + (j : Int))) := H4a.out.cell 0
  have q_a_1 : (w2.alloc (.cells #[.int .i64 (2000 + (j : Int)), .int .i64 ((i : Int) + 1 + 1), .int .i64 1] 24)).cell? ⟨w1.heap.size, 1, none⟩ = some (.int .i64 ((i : Int) + 1)) := H4a.out.cell 1
  have q_a_2 : (w2.alloc (.cells #[.int .i64 (2000 + (j : Int)), .int .i64 ((i : Int) + 1 + 1), .int .i64 1] 24)).cell? ⟨w1.heap.size, 2, none⟩ = some (.int .i64 ((n : Int) - c + 1)) := H4a.out.cell 2
  have q_b_2 : (w2.alloc (.cells #[.int .i64 (2000 + (j : Int)), .int .i64 ((i : Int) + 1 + 1), .int .i64 1] 24)).cell? ⟨w2.heap.size, 2, none⟩ = some (.int .i64 1) := H4b.out.cell 2
  go_wp2_with (first
    | (refine wp_whole rfl 24 _ rfl (w1.heap.size) rfl 24 #[.int .i64 (2000 + (j : Int)), .int .i64 ((i : Int) + 1), .int .i64 ((n : Int) - c + 1)] _ H4a.out Try.underlying24 rfl (by kernel_rfl) ?_)
    | (refine wp_wholeG (by rfl) 24 _ rfl (w1.heap.size) rfl 24 #[.int .i64 (2000 + (j : Int)), .int .i64 ((i : Int) + 1), .int .i64 ((n : Int) - c + 1)] _ H4a.out Try.underlying24 rfl (by kernel_rfl) ?_)
    | (refine wp_whole rfl 24 _ rfl (w2.heap.size) rfl 24 #[.int .i64 (2000 + (j : Int)), .int .i64 ((i : Int) + 1 + 1), .int .i64 1] _ H4b.out Try.underlying24 rfl (by kernel_rfl) ?_)
    | (refine wp_wholeG (by rfl) 24 _ rfl (w2.heap.size) rfl 24 #[.int .i64 (2000 + (j : Int)), .int .i64 ((i : Int) + 1 + 1), .int .i64 1] _ H4b.out Try.underlying24 rfl (by kernel_rfl) ?_)
    | fail)
  go_ret
  exact ⟨rfl, H4B.out⟩
theorem next_walk (K : KaDate) (x : Int) (w : World) (hx : (Lit.int .i64 x).wf = true) : Calls Try.prog 3 #[.int .i64 x] w fun e w' => e = .returned (.bool true) ∧ Below w.heap.size w w' := by
  have hp := pick_toNat x 73048 (by decide)
  have HP := fun W => picked_nat x 73048 W hx (by decide) (by decide)
  generalize (pick x ((73048 : Nat) : Int)).toNat = n at *
  obtain ⟨k, hk, hin⟩ := month_of (n : Int) (by omega) (by omega)
  have hb := mk_bd k
  have hcp := cd_pos k
  have hi1 := hin.1
  have hi2 := hin.2
  rw [cd_next] at hi2
  have H1 : ∀ W, Calls Try.prog 7 #[.int .i64 (n : Int)] W fun e w' => e = .returned (.tuple #[.agg #[.int .i64 (2000 + ((k / 12 : Nat) : Int)), .int .i64 (((k % 12 : Nat) : Int) + 1), .int .i64 ((n : Int) - cd k + 1)], .int .i64 0]) ∧ Below W.heap.size W w' := fun W => (K W (n : Int) (wf_in (by omega) (by omega))).mono fun e w' ⟨y, m, d, f, he, hi, hbb⟩ => by
    obtain ⟨rfl, rfl, rfl, rfl⟩ := date_at (by omega) (by omega) hi hin
    exact ⟨he, hbb⟩
  by_cases hlast : (n : Int) + 1 < cd k + mk k
  · have hin2 : InMon ((n : Int) + 1) k := ⟨by omega, by rw [cd_next]; exact hlast⟩
    refine next_A x n (k / 12) (k % 12) (cd k) w (by omega) (by omega) (by omega) hcp hi1 (by omega) HP H1 (fun W => (K W ((n : Int) + 1) (wf_in (by omega) (by omega))).mono fun e w' ⟨y, m, d, f, he, hi, hbb⟩ => ?_)
    obtain ⟨rfl, rfl, rfl, rfl⟩ := date_at (by omega) (by omega) hi hin2
    rw [show (n : Int) + 1 - cd k + 1 = (n : Int) - cd k + 1 + 1 by omega] at he
    exact ⟨he, hbb⟩
  · have hb2 := mk_bd (k + 1)
    have hin2 : InMon ((n : Int) + 1) (k + 1) := ⟨by rw [cd_next]; omega, by rw [cd_next, cd_next]; omega⟩
    have hcd : cd (k + 1) = (n : Int) + 1 := by rw [cd_next]; omega
    by_cases h11 : k % 12 = 11
    · refine next_B x n (k / 12) (k % 12) (cd k) w (by omega) (by omega) (by omega) hcp hi1 (by omega) (by omega) h11 HP H1 (fun W => (K W ((n : Int) + 1) (wf_in (by omega) (by omega))).mono fun e w' ⟨y, m, d, f, he, hi, hbb⟩ => ?_)
      obtain ⟨rfl, rfl, rfl, rfl⟩ := date_at (by omega) (by omega) hi hin2
      rw [hcd, show (2000 + (((k + 1) / 12 : Nat) : Int)) = 2000 + ((k / 12 : Nat) : Int) + 1 by omega, show (((k + 1) % 12 : Nat) : Int) + 1 = 1 by omega, show (n : Int) + 1 - ((n : Int) + 1) + 1 = 1 by omega] at he
      exact ⟨he, hbb⟩
    · refine next_C x n (k / 12) (k % 12) (cd k) w (by omega) (by omega) (by omega) hcp hi1 (by omega) (by omega) (by omega) HP H1 (fun W => (K W ((n : Int) + 1) (wf_in (by omega) (by omega))).mono fun e w' ⟨y, m, d, f, he, hi, hbb⟩ => ?_)
      obtain ⟨rfl, rfl, rfl, rfl⟩ := date_at (by omega) (by omega) hi hin2
      rw [hcd, show (2000 + (((k + 1) / 12 : Nat) : Int)) = 2000 + ((k / 12 : Nat) : Int) by omega, show (((k + 1) % 12 : Nat) : Int) + 1 = ((k % 12 : Nat) : Int) + 1 + 1 by omega, show (n : Int) + 1 - ((n : Int) + 1) + 1 = 1 by omega] at he
      exact ⟨he, hbb⟩

end Go.Proofs.Ytgeemnoefhnlnab.cal
