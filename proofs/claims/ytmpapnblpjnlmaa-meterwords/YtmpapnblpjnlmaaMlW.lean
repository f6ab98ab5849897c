/- The statement of words. -/
import Derived.Test.YtmpapnblpjnlmaaMjW
import Derived.Test.YtmpapnblpjnlmaaMtE
import Derived.Test.YtmpapnblpjnlmaaWSame
import Derived.Test.YtmpapnblpjnlmaaMtV
namespace Go.Proofs.Ytmpapnblpjnlmaa.met
open Go.RowKit Go.Proofs.Ytmpapnblpjnlmaa.cell
set_option maxRecDepth 100000
set_option linter.unusedVariables false
set_option linter.unusedSimpArgs false

theorem WordsIs.few {m : Mt} {l : List Int} {e : Int} (h : WordsIs m l e) : l.length ≤ 5 := by
  rcases h with ⟨_, rfl, _⟩ | ⟨_, rfl, _⟩
  · show 5 ≤ 5; omega
  · exact Nat.zero_le _
set_option maxHeartbeats 1000000 in
theorem words_walk {I : World → Prop} (hI : Inv I) (KW : KWords I) (m : Mt) (w : World) (h0 : I w) (hb : m.b < 18446744073709551616) : Calls Try.prog 5 #[m.v] w fun e w' => e = .returned (.bool true) ∧ Below w.heap.size w w' := by
  have H1 : Hid (∀ W, Below w.heap.size w W → Calls Try.prog 12 #[m.v] W fun e w' => WordsPost W m e w') := fun W hB => KW W m (hI.from h0 hB) hb
  have H2 : Hid (∀ W, Calls Try.prog 13 #[m.v] W fun e w' => WordsPost W m e w') := fun W => worded_any m W hb
  clear KW hI h0 hb
  obtain ⟨me, rev, cr, h, b, bad, lock⟩ := m
  unfold Mt.v Mt.cells at *
  simp only [] at H1 H2 ⊢
  have HM0 : Hid (Blk (w.alloc (.cells #[.int .i64 me, .int .i64 rev, .int .i64 cr, .int .i64 h, .int .u64 (b : Int), .int .i64 bad, .int .i64 lock] 26)) w.heap.size #[.int .i64 me, .int .i64 rev, .int .i64 cr, .int .i64 h, .int .u64 (b : Int), .int .i64 bad, .int .i64 lock] 26) := Blk.new _ _ _
  have HW0 : Hid (Below w.heap.size w (w.alloc (.cells #[.int .i64 me, .int .i64 rev, .int .i64 cr, .int .i64 h, .int .u64 (b : Int), .int .i64 bad, .int .i64 lock] 26))) := (Below.refl _ _).alloc (Nat.le_refl _) _
  go_enter Try.func5, Try.ntmps5
  go_wp2_with (first
    | (refine wp_whole rfl 26 _ rfl (w.heap.size) rfl 26 #[.int .i64 me, .int .i64 rev, .int .i64 cr, .int .i64 h, .int .u64 (b : Int), .int .i64 bad, .int .i64 lock] _ HM0.out Try.underlying26 rfl (by kernel_rfl) ?_)
    | fail)
  refine (H1.out _ HW0.out).mono ?_
  rintro e w1 ⟨a1, n1, cap1, z1, f1, rfl, hr1, hn1, hc1, hi1, hw1⟩
  have HI1 : Hid (WordsIs ⟨me, rev, cr, h, b, bad, lock⟩ z1 f1) := hi1
  have HR1 : Hid (RowU w1 a1 n1 z1) := hr1
  have HW1 : Hid (Below w.heap.size w w1) := bel_step HW0.out hw1
  have HM1 : Hid (Blk w1 w.heap.size #[.int .i64 me, .int .i64 rev, .int .i64 cr, .int .i64 h, .int .u64 (b : Int), .int .i64 bad, .int .i64 lock] 26) := HM0.out.next hw1
  clear hr1 hn1 hc1 hi1 hw1 H1 HM0 HW0
  go_wp2_with (first
    | (refine wp_whole rfl 26 _ rfl (w.heap.size) rfl 26 #[.int .i64 me, .int .i64 rev, .int .i64 cr, .int .i64 h, .int .u64 (b : Int), .int .i64 bad, .int .i64 lock] _ HM1.out Try.underlying26 rfl (by kernel_rfl) ?_)
    | fail)
  refine (H2.out _).mono ?_
  rintro e w2 ⟨a2, n2, cap2, z2, f2, rfl, hr2, hn2, hc2, hi2, hw2⟩
  obtain ⟨rfl, rfl⟩ := HI1.out.one hi2
  obtain rfl : n1 = n2 := HR1.out.1.symm.trans hr2.1
  have hf : (f1 == f1) = true := beq_self_eq_true f1
  have HW2 : Hid (Below w.heap.size w w2) := bel_step HW1.out hw2
  have HS : Hid (Calls Try.prog 14 #[.slice a1 n1 cap1, .slice a2 n1 cap2] w2 fun e w' => e = .returned (.bool true) ∧ Below w2.heap.size w2 w') := words_law a1 a2 n1 cap1 cap2 z1 w2 (HR1.out.below hw2) hr2 (by have := hi2.few; rw [hr2.1] at this; unfold maxLen; omega)
  clear hr2 hn2 hc2 hi2 hw2 H2 HM1 HR1 HI1 HW1
  go_wp2_with fail
  refine HS.out.mono ?_
  rintro e w3 ⟨rfl, hw3⟩
  have HF : Hid (Below w.heap.size w w3) := bel_step HW2.out hw3
  clear hw3
  go_wp2_with fail
  go_ret
  exact ⟨rfl, HF.out⟩

end Go.Proofs.Ytmpapnblpjnlmaa.met
