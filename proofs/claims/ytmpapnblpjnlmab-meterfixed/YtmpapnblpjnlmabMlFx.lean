/- A meter that is read has just these words. -/
import Derived.Test.YtmpapnblpjnlmabMjW
import Derived.Test.YtmpapnblpjnlmabMjR
import Derived.Test.YtmpapnblpjnlmabMtE
import Derived.Test.YtmpapnblpjnlmabMtSm
import Derived.Test.YtmpapnblpjnlmabClSameK
namespace Go.Proofs.Ytmpapnblpjnlmab.met
open Go.RowKit Go.Proofs.Ytmpapnblpjnlmab.cell
set_option maxRecDepth 100000
set_option linter.unusedVariables false
set_option linter.unusedSimpArgs false

theorem allOr_five {zs : List Int} (h : (allOr zs).length = 5) : allOr zs = zs := by
  unfold allOr at *
  by_cases e : zs = []
  · rw [if_pos e] at h; simp at h
  · rw [if_neg e]
theorem allOr_word {zs : List Int} (h : ∀ x ∈ zs, 0 ≤ x ∧ x < 4294967296) : ∀ x ∈ allOr zs, 0 ≤ x ∧ x < 4294967296 := by
  unfold allOr
  split
  · intro x hx; simp at hx; subst hx; decide
  · exact h
set_option maxHeartbeats 1000000 in
theorem fixed_walk {I : World → Prop} (hI : Inv I) (KW : KWords I) (KR : KRead I) (a : Option Addr) (n cap : Nat) (l : List Int) (w : World) (h0 : I w) (hr : RowU w a n l) (hs : n * 4 ≤ 140737488351232) (hl : ∀ x ∈ l, 0 ≤ x ∧ x < 4294967296) :
    Calls Try.prog 3 #[.slice a n cap] w fun e w' => e = .returned (.bool true) ∧ Below w.heap.size w w' := by
  have HSM : Hid (Calls Try.prog 6 #[.slice a n cap, .int .i64 (n : Int)] w fun e w' => GaveA w (allOr l) e w') := some_all a n cap l w hr hs
  have HRD : Hid (∀ W a1 n1 cap1, Below w.heap.size w W → RowU W a1 n1 (allOr l) → (a1 = none → cap1 = 0) → Calls Try.prog 5 #[.slice a1 n1 cap1] W fun e w' => ReadPost W (allOr l) e w') := fun W a1 n1 cap1 hB h1 h2 => KR W a1 n1 cap1 (allOr l) (hI.from h0 hB) h1 h2 (allOr_word hl)
  have HWD : Hid (∀ W (m : Mt), Below w.heap.size w W → m.b < 18446744073709551616 → Calls Try.prog 7 #[m.v] W fun e w' => WordsPost W m e w') := fun W m hB hb => KW W m (hI.from h0 hB) hb
  have HR : Hid (RowU w a n l ∧ n ≤ maxLen) := ⟨hr, by unfold maxLen; omega⟩
  have HLW : Hid (∀ x ∈ l, 0 ≤ x ∧ x < 4294967296) := hl
  clear KW KR hI h0 hr hl
  go_enter Try.func3, Try.ntmps3
  go_wp2_with fail
  refine HSM.out.mono ?_
  rintro e w1 ⟨v, rfl, hv, hb1⟩
  obtain ⟨a1, cap1, rfl, hr1, hn1, _⟩ := hv.row
  obtain ⟨n1, hN1⟩ : ∃ n1, (allOr l).length = n1 := ⟨_, rfl⟩
  rw [hN1] at hr1
  rw [hN1]
  have HR1 : Hid (RowU w1 a1 n1 (allOr l) ∧ (a1 = none → cap1 = 0)) := ⟨hr1, hn1⟩
  have HW1 : Hid (Below w.heap.size w w1) := hb1
  clear hv hr1 hn1 hN1 hb1 HSM
  go_wp2_with fail
  refine (HRD.out _ _ _ _ HW1.out HR1.out.1 HR1.out.2).mono ?_
  rintro e w2 ⟨m1, f1, rfl, hi, hb2⟩
  have HW2 : Hid (Below w.heap.size w w2) := bel_step HW1.out hb2
  clear hb2 HR1 HW1
  rcases hi with ⟨_, rfl, rfl⟩ | ⟨_, _, rfl, rfl⟩ | ⟨h5, hm, rfl, rfl⟩
  · skip
    have HG : Hid (Blk (w2.alloc (.cells #[.int .i64 0, .int .i64 0, .int .i64 0, .int .i64 0, .int .u64 0, .int .i64 0, .int .i64 0] 27)) w2.heap.size #[.int .i64 0, .int .i64 0, .int .i64 0, .int .i64 0, .int .u64 0, .int .i64 0, .int .i64 0] 27) := Blk.new _ _ _
    have HWF : Hid (Below w.heap.size w (w2.alloc (.cells #[.int .i64 0, .int .i64 0, .int .i64 0, .int .i64 0, .int .u64 0, .int .i64 0, .int .i64 0] 27))) := HW2.out.alloc HW2.out.size _
    have hq : ∀ W : World, (Op.equalIn 10000 27 (.agg #[.int .i64 0, .int .i64 0, .int .i64 0, .int .i64 0, .int .u64 0, .int .i64 0, .int .i64 0]) (.agg #[.int .i64 0, .int .i64 0, .int .i64 0, .int .i64 0, .int .u64 0, .int .i64 0, .int .i64 0])).run Try.prog W = .ok true W := fun W => eqMt _ _ _ _ _ _ _ W
    clear HW2 HRD HWD HR
    unfold mt0 Mt.v Mt.cells
    simp only []
    go_wp2_with (first
      | (refine wp_whole rfl 27 _ rfl (w2.heap.size) rfl 27 #[.int .i64 0, .int .i64 0, .int .i64 0, .int .i64 0, .int .u64 0, .int .i64 0, .int .i64 0] _ HG.out Try.underlying27 rfl (by kernel_rfl) ?_)
      | fail)
    go_ret
    exact ⟨rfl, HWF.out⟩
  · skip
    have HG : Hid (Blk (w2.alloc (.cells #[.int .i64 0, .int .i64 0, .int .i64 0, .int .i64 0, .int .u64 0, .int .i64 0, .int .i64 0] 27)) w2.heap.size #[.int .i64 0, .int .i64 0, .int .i64 0, .int .i64 0, .int .u64 0, .int .i64 0, .int .i64 0] 27) := Blk.new _ _ _
    have HWF : Hid (Below w.heap.size w (w2.alloc (.cells #[.int .i64 0, .int .i64 0, .int .i64 0, .int .i64 0, .int .u64 0, .int .i64 0, .int .i64 0] 27))) := HW2.out.alloc HW2.out.size _
    have hq : ∀ W : World, (Op.equalIn 10000 27 (.agg #[.int .i64 0, .int .i64 0, .int .i64 0, .int .i64 0, .int .u64 0, .int .i64 0, .int .i64 0]) (.agg #[.int .i64 0, .int .i64 0, .int .i64 0, .int .i64 0, .int .u64 0, .int .i64 0, .int .i64 0])).run Try.prog W = .ok true W := fun W => eqMt _ _ _ _ _ _ _ W
    clear HW2 HRD HWD HR
    unfold mt0 Mt.v Mt.cells
    simp only []
    go_wp2_with (first
      | (refine wp_whole rfl 27 _ rfl (w2.heap.size) rfl 27 #[.int .i64 0, .int .i64 0, .int .i64 0, .int .i64 0, .int .u64 0, .int .i64 0, .int .i64 0] _ HG.out Try.underlying27 rfl (by kernel_rfl) ?_)
      | fail)
    go_ret
    exact ⟨rfl, HWF.out⟩
  · skip
    have hA : allOr l = l := allOr_five (by omega)
    rw [hA] at h5 hm ⊢
    have hwd : wds (rdL l) = l := wds_rdL (by omega) HLW.out
    have HWI : Hid (WordsIs (rdL l) l 0) := by
      have := WordsIs.ok hm
      rw [hwd] at this
      exact this
    have HLB : Hid ((rdL l).b < 18446744073709551616) := by
      have e5 := list5 (show l.length = 5 by omega)
      have h3 := HLW.out (l.getD 3 0) (by rw [e5]; simp)
      have h4 := HLW.out (l.getD 4 0) (by rw [e5]; simp)
      show (l.getD 4 0 * 4294967296 + l.getD 3 0).toNat < 18446744073709551616
      omega
    have HWM : Hid (∀ W, Below w.heap.size w W → Calls Try.prog 7 #[(rdL l).v] W fun e w' => WordsPost W (rdL l) e w') := fun W hB => HWD.out W (rdL l) hB HLB.out
    clear h5 hm hA hwd HLB HWD HRD HLW
    generalize rdL l = m at *
    obtain ⟨me1, rev1, cr1, h1, b1, bad1, lock1⟩ := m
    unfold Mt.v Mt.cells at *
    simp only [] at HWM ⊢
    have HG : Hid (Blk (w2.alloc (.cells #[.int .i64 me1, .int .i64 rev1, .int .i64 cr1, .int .i64 h1, .int .u64 (b1 : Int), .int .i64 bad1, .int .i64 lock1] 27)) w2.heap.size #[.int .i64 me1, .int .i64 rev1, .int .i64 cr1, .int .i64 h1, .int .u64 (b1 : Int), .int .i64 bad1, .int .i64 lock1] 27) := Blk.new _ _ _
    have HWF : Hid (Below w.heap.size w (w2.alloc (.cells #[.int .i64 me1, .int .i64 rev1, .int .i64 cr1, .int .i64 h1, .int .u64 (b1 : Int), .int .i64 bad1, .int .i64 lock1] 27))) := HW2.out.alloc HW2.out.size _
    clear HW2
    go_wp2_with (first
      | (refine wp_whole rfl 27 _ rfl (w2.heap.size) rfl 27 #[.int .i64 me1, .int .i64 rev1, .int .i64 cr1, .int .i64 h1, .int .u64 (b1 : Int), .int .i64 bad1, .int .i64 lock1] _ HG.out Try.underlying27 rfl (by kernel_rfl) ?_)
      | fail)
    refine (HWM.out _ HWF.out).mono ?_
    rintro e w3 ⟨a3, n3, cap3, z3, f3, rfl, hr3, _, _, hi3, hb3⟩
    obtain ⟨rfl, rfl⟩ := HWI.out.one hi3
    have hB3 := bel_step HWF.out hb3
    obtain rfl : n = n3 := by rw [← HR.out.1.1, ← hr3.1]
    have HS3 : Hid (Calls Try.prog 8 #[.slice a3 n cap3, .slice a n cap] w3 fun e w' => e = .returned (.bool true) ∧ Below w3.heap.size w3 w') := words_keep a3 a n cap3 cap l w3 hr3 (HR.out.1.below hB3) HR.out.2
    have HW3 : Hid (Below w.heap.size w w3) := hB3
    clear hr3 hi3 hb3 hB3 HWI HWM HG HWF HR
    go_wp2_with fail
    refine HS3.out.mono ?_
    rintro e w4 ⟨rfl, hb4⟩
    have HF : Hid (Below w.heap.size w w4) := bel_step HW3.out hb4
    clear hb4
    go_wp2_with fail
    go_ret
    exact ⟨rfl, HF.out⟩

end Go.Proofs.Ytmpapnblpjnlmab.met
