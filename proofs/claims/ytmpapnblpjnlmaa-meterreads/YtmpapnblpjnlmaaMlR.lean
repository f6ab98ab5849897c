/- The statement of reading. -/
import Derived.Test.YtmpapnblpjnlmaaMjR
import Derived.Test.YtmpapnblpjnlmaaMtE
import Derived.Test.YtmpapnblpjnlmaaWSame
import Derived.Test.YtmpapnblpjnlmaaClCopy
import Derived.Test.YtmpapnblpjnlmaaMtX
namespace Go.Proofs.Ytmpapnblpjnlmaa.met
open Go.RowKit Go.Proofs.Ytmpapnblpjnlmaa.cell
set_option maxRecDepth 100000
set_option linter.unusedVariables false
set_option linter.unusedSimpArgs false

set_option maxHeartbeats 1000000 in
theorem reads_walk {I : World → Prop} (hI : Inv I) (KR : KRead I) (a : Option Addr) (n cap : Nat) (l : List Int) (w : World) (h0 : I w) (hr : RowU w a n l) (hn : a = none → cap = 0) (hs : n * 4 ≤ 140737488351232) (hl : ∀ x ∈ l, 0 ≤ x ∧ x < 4294967296) :
    Calls Try.prog 6 #[.slice a n cap] w fun e w' => e = .returned (.bool true) ∧ Below w.heap.size w w' := by
  have HC : Hid (Calls Try.prog 15 #[.slice a n cap] w fun e w' => GaveU w l e w') := words_any a n cap l w hr hn hs
  have H1 : Hid (∀ W a1 n1 cap1, Below w.heap.size w W → RowU W a1 n1 l → (a1 = none → cap1 = 0) → Calls Try.prog 16 #[.slice a1 n1 cap1] W fun e w' => ReadPost W l e w') := fun W a1 n1 cap1 hB h1 h2 => KR W a1 n1 cap1 l (hI.from h0 hB) h1 h2 hl
  have H2 : Hid (∀ W, Below w.heap.size w W → Calls Try.prog 17 #[.slice a n cap] W fun e w' => ReadPost W l e w') := fun W hB => mread_any a n cap l W (hr.below hB) hl
  have HR : Hid (RowU w a n l) := hr
  have HSZ : Hid (n ≤ maxLen) := by show n ≤ maxLen; unfold maxLen; omega
  clear KR hI h0 hr hl hs hn
  go_enter Try.func6, Try.ntmps6
  go_wp2_with fail
  refine HC.out.mono ?_
  rintro e w1 ⟨v, rfl, hv, hw1⟩
  obtain ⟨a1, cap1, rfl, hr1, hn1, _⟩ := hv.row
  have hL : l.length = n := HR.out.1
  rw [hL] at hr1
  rw [hL]
  have HR1 : Hid (RowU w1 a1 n l ∧ (a1 = none → cap1 = 0)) := ⟨hr1, hn1⟩
  have HW1 : Hid (Below w.heap.size w w1) := hw1
  clear hv hr1 hn1 hw1 HC hL
  go_wp2_with fail
  refine (H1.out _ _ _ _ HW1.out HR1.out.1 HR1.out.2).mono ?_
  rintro e w2 ⟨m1, f1, rfl, hi, hw2⟩
  have HBI : Hid (ReadIs l m1 f1) := hi
  have HR2 : Hid (RowU w2 a1 n l) := HR1.out.1.below hw2
  have HW2 : Hid (Below w.heap.size w w2) := bel_step HW1.out hw2
  clear hi hw2 H1 HR1 HW1
  obtain ⟨me1, rev1, cr1, h1, b1, bad1, lock1⟩ := m1
  unfold Mt.v Mt.cells
  simp only []
  have HG1 : Hid (Blk (w2.alloc (.cells #[.int .i64 me1, .int .i64 rev1, .int .i64 cr1, .int .i64 h1, .int .u64 (b1 : Int), .int .i64 bad1, .int .i64 lock1] 26)) w2.heap.size #[.int .i64 me1, .int .i64 rev1, .int .i64 cr1, .int .i64 h1, .int .u64 (b1 : Int), .int .i64 bad1, .int .i64 lock1] 26) := Blk.new _ _ _
  have HWA : Hid (Below w.heap.size w (w2.alloc (.cells #[.int .i64 me1, .int .i64 rev1, .int .i64 cr1, .int .i64 h1, .int .u64 (b1 : Int), .int .i64 bad1, .int .i64 lock1] 26))) := HW2.out.alloc HW2.out.size _
  have HRA : Hid (RowU (w2.alloc (.cells #[.int .i64 me1, .int .i64 rev1, .int .i64 cr1, .int .i64 h1, .int .u64 (b1 : Int), .int .i64 bad1, .int .i64 lock1] 26)) a1 n l) := HR2.out.below ((Below.refl _ _).alloc (Nat.le_refl _) _)
  clear HR2 HW2
  go_wp2_with fail
  refine (H2.out _ HWA.out).mono ?_
  rintro e w3 ⟨m2, f2, rfl, hi, hw3⟩
  obtain ⟨rfl, rfl⟩ := HBI.out.one hi
  have hW3 := bel_step HWA.out hw3
  have HW3 : Hid (Below w.heap.size w (w3.alloc (.cells #[.int .i64 me1, .int .i64 rev1, .int .i64 cr1, .int .i64 h1, .int .u64 (b1 : Int), .int .i64 bad1, .int .i64 lock1] 26))) := hW3.alloc hW3.size _
  have HG3 : Hid (Blk (w3.alloc (.cells #[.int .i64 me1, .int .i64 rev1, .int .i64 cr1, .int .i64 h1, .int .u64 (b1 : Int), .int .i64 bad1, .int .i64 lock1] 26)) w2.heap.size #[.int .i64 me1, .int .i64 rev1, .int .i64 cr1, .int .i64 h1, .int .u64 (b1 : Int), .int .i64 bad1, .int .i64 lock1] 26) := (HG1.out.next hw3).alloc _
  have HG4 : Hid (Blk (w3.alloc (.cells #[.int .i64 me1, .int .i64 rev1, .int .i64 cr1, .int .i64 h1, .int .u64 (b1 : Int), .int .i64 bad1, .int .i64 lock1] 26)) w3.heap.size #[.int .i64 me1, .int .i64 rev1, .int .i64 cr1, .int .i64 h1, .int .u64 (b1 : Int), .int .i64 bad1, .int .i64 lock1] 26) := Blk.new _ _ _
  have hq : ∀ W : World, (Op.equalIn 10000 26 (.agg #[.int .i64 me1, .int .i64 rev1, .int .i64 cr1, .int .i64 h1, .int .u64 (b1 : Int), .int .i64 bad1, .int .i64 lock1]) (.agg #[.int .i64 me1, .int .i64 rev1, .int .i64 cr1, .int .i64 h1, .int .u64 (b1 : Int), .int .i64 bad1, .int .i64 lock1])).run Try.prog W = .ok true W := fun W => eqMt _ _ _ _ _ _ _ W
  have hf : (f1 == f1) = true := beq_self_eq_true f1
  have HS : Hid (Calls Try.prog 14 #[.slice a1 n cap1, .slice a n cap] (w3.alloc (.cells #[.int .i64 me1, .int .i64 rev1, .int .i64 cr1, .int .i64 h1, .int .u64 (b1 : Int), .int .i64 bad1, .int .i64 lock1] 26)) fun e w' => e = .returned (.bool true) ∧ Below (w3.alloc (.cells #[.int .i64 me1, .int .i64 rev1, .int .i64 cr1, .int .i64 h1, .int .u64 (b1 : Int), .int .i64 bad1, .int .i64 lock1] 26)).heap.size (w3.alloc (.cells #[.int .i64 me1, .int .i64 rev1, .int .i64 cr1, .int .i64 h1, .int .u64 (b1 : Int), .int .i64 bad1, .int .i64 lock1] 26)) w') := words_law a1 a n cap1 cap l _ ((HRA.out.below hw3).below ((Below.refl _ _).alloc (Nat.le_refl _) _)) (HR.out.below HW3.out) HSZ.out
  clear hi hw3 hW3 H2 HG1 HWA HRA HBI HR
  unfold Mt.v Mt.cells
  simp only []
  go_wp2_with (first
    | (refine wp_whole rfl 26 _ rfl (w2.heap.size) rfl 26 #[.int .i64 me1, .int .i64 rev1, .int .i64 cr1, .int .i64 h1, .int .u64 (b1 : Int), .int .i64 bad1, .int .i64 lock1] _ HG3.out Try.underlying26 rfl (by kernel_rfl) ?_)
    | (refine wp_whole rfl 26 _ rfl (w3.heap.size) rfl 26 #[.int .i64 me1, .int .i64 rev1, .int .i64 cr1, .int .i64 h1, .int .u64 (b1 : Int), .int .i64 bad1, .int .i64 lock1] _ HG4.out Try.underlying26 rfl (by kernel_rfl) ?_)
    | fail)
  refine HS.out.mono ?_
  rintro e w4 ⟨rfl, hw4⟩
  have HF : Hid (Below w.heap.size w w4) := bel_step HW3.out hw4
  clear hw4
  go_wp2_with fail
  go_ret
  exact ⟨rfl, HF.out⟩

end Go.Proofs.Ytmpapnblpjnlmaa.met
