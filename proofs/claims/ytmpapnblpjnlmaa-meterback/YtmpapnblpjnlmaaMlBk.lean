/- A meter is read from its words as it was. -/
import Derived.Test.YtmpapnblpjnlmaaMjW
import Derived.Test.YtmpapnblpjnlmaaMjR
import Derived.Test.YtmpapnblpjnlmaaMtE
import Derived.Test.YtmpapnblpjnlmaaLetG
namespace Go.Proofs.Ytmpapnblpjnlmaa.met
open Go.RowKit Go.Proofs.Ytmpapnblpjnlmaa.cell
set_option maxRecDepth 100000
set_option linter.unusedVariables false
set_option linter.unusedSimpArgs false

theorem wds_word {m : Mt} (h : m.may) (hb : m.b < 18446744073709551616) : ∀ x ∈ wds m, 0 ≤ x ∧ x < 4294967296 := by
  have h1 := four_bd h; have h2 := may_high h; have h3 := h.cr
  intro x hx
  simp only [wds, List.mem_cons, List.not_mem_nil, or_false] at hx
  rcases hx with rfl | rfl | rfl | rfl | rfl <;> omega
set_option maxHeartbeats 1000000 in
theorem back_walk {I : World → Prop} (hI : Inv I) (KW : KWords I) (KR : KRead I) (m : Mt) (w : World) (h0 : I w) (hb : m.b < 18446744073709551616) : Calls Try.prog 7 #[m.v] w fun e w' => e = .returned (.bool true) ∧ Below w.heap.size w w' := by
  have H1 : Hid (∀ W, Below w.heap.size w W → Calls Try.prog 12 #[m.v] W fun e w' => WordsPost W m e w') := fun W hB => KW W m (hI.from h0 hB) hb
  have H2 : Hid (∀ W a n cap, m.may → Below w.heap.size w W → RowU W a n (wds m) → (a = none → cap = 0) → Calls Try.prog 16 #[.slice a n cap] W fun e w' => e = .returned (.tuple #[m.v, .int .i64 0]) ∧ Below W.heap.size W w') := fun W a n cap hm hB h1 h2 =>
    (KR W a n cap (wds m) (hI.from h0 hB) h1 h2 (wds_word hm hb)).mono fun e w' ⟨m', f, he, hi, hw⟩ => by
      have hok : ReadIs (wds m) m 0 := by
        have := ReadIs.ok (l := wds m) (fun h => h rfl) (by rw [rdL_wds hm]; exact hm)
        rw [rdL_wds hm] at this
        exact this
      obtain ⟨rfl, rfl⟩ := hok.one hi
      exact ⟨he, hw⟩
  clear KW KR hI h0 hb
  obtain ⟨me, rev, cr, h, b, bad, lock⟩ := m
  unfold Mt.v Mt.cells at *
  simp only [] at H1 H2 ⊢
  have HM0 : Hid (Blk (w.alloc (.cells #[.int .i64 me, .int .i64 rev, .int .i64 cr, .int .i64 h, .int .u64 (b : Int), .int .i64 bad, .int .i64 lock] 26)) w.heap.size #[.int .i64 me, .int .i64 rev, .int .i64 cr, .int .i64 h, .int .u64 (b : Int), .int .i64 bad, .int .i64 lock] 26) := Blk.new _ _ _
  have HW0 : Hid (Below w.heap.size w (w.alloc (.cells #[.int .i64 me, .int .i64 rev, .int .i64 cr, .int .i64 h, .int .u64 (b : Int), .int .i64 bad, .int .i64 lock] 26))) := (Below.refl _ _).alloc (Nat.le_refl _) _
  go_enter Try.func7, Try.ntmps7
  go_wp2_with (first
    | (refine wp_whole rfl 26 _ rfl (w.heap.size) rfl 26 #[.int .i64 me, .int .i64 rev, .int .i64 cr, .int .i64 h, .int .u64 (b : Int), .int .i64 bad, .int .i64 lock] _ HM0.out Try.underlying26 rfl (by kernel_rfl) ?_)
    | fail)
  refine (H1.out _ HW0.out).mono ?_
  rintro e w1 ⟨a1, n1, cap1, z1, f1, rfl, hr1, hn1, hc1, hi1, hw1⟩
  have HW1 : Hid (Below w.heap.size w w1) := bel_step HW0.out hw1
  have HM1 : Hid (Blk w1 w.heap.size #[.int .i64 me, .int .i64 rev, .int .i64 cr, .int .i64 h, .int .u64 (b : Int), .int .i64 bad, .int .i64 lock] 26) := HM0.out.next hw1
  clear hc1 hw1 H1 HM0 HW0
  rcases hi1 with ⟨hm, rfl, rfl⟩ | ⟨hm, rfl, rfl⟩
  · skip
    have HRD : Hid (Calls Try.prog 16 #[.slice a1 n1 cap1] w1 fun e w' => e = .returned (.tuple #[.agg #[.int .i64 me, .int .i64 rev, .int .i64 cr, .int .i64 h, .int .u64 (b : Int), .int .i64 bad, .int .i64 lock], .int .i64 0]) ∧ Below w1.heap.size w1 w') := H2.out w1 a1 n1 cap1 hm HW1.out hr1 hn1
    clear hr1 hn1 hm H2
    go_wp2_with fail
    refine HRD.out.mono ?_
    rintro e w2 ⟨rfl, hw2⟩
    have HM2 : Hid (Blk (w2.alloc (.cells #[.int .i64 me, .int .i64 rev, .int .i64 cr, .int .i64 h, .int .u64 (b : Int), .int .i64 bad, .int .i64 lock] 26)) w.heap.size #[.int .i64 me, .int .i64 rev, .int .i64 cr, .int .i64 h, .int .u64 (b : Int), .int .i64 bad, .int .i64 lock] 26) := (HM1.out.next hw2).alloc _
    have HG2 : Hid (Blk (w2.alloc (.cells #[.int .i64 me, .int .i64 rev, .int .i64 cr, .int .i64 h, .int .u64 (b : Int), .int .i64 bad, .int .i64 lock] 26)) w2.heap.size #[.int .i64 me, .int .i64 rev, .int .i64 cr, .int .i64 h, .int .u64 (b : Int), .int .i64 bad, .int .i64 lock] 26) := Blk.new _ _ _
    have HW2 : Hid (Below w.heap.size w (w2.alloc (.cells #[.int .i64 me, .int .i64 rev, .int .i64 cr, .int .i64 h, .int .u64 (b : Int), .int .i64 bad, .int .i64 lock] 26))) := (bel_step HW1.out hw2).alloc (bel_step HW1.out hw2).size _
    have hq : ∀ W : World, (Op.equalIn 10000 26 (.agg #[.int .i64 me, .int .i64 rev, .int .i64 cr, .int .i64 h, .int .u64 (b : Int), .int .i64 bad, .int .i64 lock]) (.agg #[.int .i64 me, .int .i64 rev, .int .i64 cr, .int .i64 h, .int .u64 (b : Int), .int .i64 bad, .int .i64 lock])).run Try.prog W = .ok true W := fun W => eqMt _ _ _ _ _ _ _ W
    clear hw2 HRD HM1 HW1
    go_wp2_with (first
      | (refine wp_wholeG (by rfl) 26 _ rfl (w.heap.size) rfl 26 #[.int .i64 me, .int .i64 rev, .int .i64 cr, .int .i64 h, .int .u64 (b : Int), .int .i64 bad, .int .i64 lock] _ HM2.out Try.underlying26 rfl (by kernel_rfl) ?_)
      | (refine wp_wholeG (by rfl) 26 _ rfl (w2.heap.size) rfl 26 #[.int .i64 me, .int .i64 rev, .int .i64 cr, .int .i64 h, .int .u64 (b : Int), .int .i64 bad, .int .i64 lock] _ HG2.out Try.underlying26 rfl (by kernel_rfl) ?_)
      | fail)
    go_ret
    exact ⟨rfl, HW2.out⟩
  · obtain rfl : 0 = n1 := hr1.1
    clear hr1 hn1 hm H2
    go_wp2_with fail
    go_ret
    exact ⟨rfl, HW1.out⟩

end Go.Proofs.Ytmpapnblpjnlmaa.met
