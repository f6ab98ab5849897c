/- The statement of keying. -/
import Derived.Test.YtmpapnblpjnlmaaDoorMjK
import Derived.Test.YtmpapnblpjnlmaaDoorMtE
import Derived.Test.YtmpapnblpjnlmaaDoorMtK
import Derived.Test.YtmpapnblpjnlmaaDoorOrSm
import Derived.Test.YtmpapnblpjnlmaaDoorMtB3
namespace Go.Proofs.YtmpapnblpjnlmaaDoor.met
open Go.RowKit Go.Proofs.YtmpapnblpjnlmaaDoor.ora
set_option maxRecDepth 100000
set_option linter.unusedVariables false
set_option linter.unusedSimpArgs false

set_option maxHeartbeats 2000000 in
theorem keys_walk {I : World → Prop} (hI : Inv I) (KK : KKey I) (m : Mt) (a : Option Addr) (n cap : Nat) (l : List Pr) (c i am t : Int) (w : World) (h0 : I w) (hb : m.b < 18446744073709551616) (hc : Came w a n cap l) :
    Calls Tryd.prog 3 #[m.v, .agg #[.slice a n cap], .agg #[.int .i64 c, .int .i64 i, .int .i64 am, .int .i64 t]] w fun e w' => e = .returned (.bool true) ∧ Below w.heap.size w w' := by
  have HI := B3.new m c i am t hc
  have HCP : Hid (∀ W, Came W a n cap l → Calls Tryd.prog 4 #[.agg #[.slice a n cap]] W fun e w' => Copied W n l e w') := fun W h => oracles_row a n cap l W h
  have H1 : Hid (∀ W a' cap', Below w.heap.size w W → Came W a' n cap' l → Calls Tryd.prog 5 #[m.v, .agg #[.slice a' n cap'], .agg #[.int .i64 c, .int .i64 i, .int .i64 am, .int .i64 t]] W fun e w' => KeyPost W m l c i am t e w') := fun W a' cap' hB h => KK W m a' n cap' l c i am t (hI.from h0 hB) hb h.row h.nil h.le
  have H2 : Hid (∀ W, Came W a n cap l → Calls Tryd.prog 6 #[m.v, .agg #[.slice a n cap], .agg #[.int .i64 c, .int .i64 i, .int .i64 am, .int .i64 t]] W fun e w' => KeyPost W m l c i am t e w') := fun W h => keyed_any m a n cap l c i am t W h.row hb
  have HS : Hid (∀ W a' cap', Came W a' n cap' l → Came W a n cap l → Calls Tryd.prog 7 #[.agg #[.slice a' n cap'], .agg #[.slice a n cap]] W fun e w' => e = .returned (.bool true) ∧ Below W.heap.size W w') := fun W a' cap' h h' => same_any a' a n cap' cap l W h.row h'.row h.small
  clear KK hI h0 hb hc
  obtain ⟨me, rev, cr, h, b, bad, lock⟩ := m
  unfold Mt.v at *
  have HI0 : Hid (B3 w (((w.alloc (.cells #[.int .i64 me, .int .i64 rev, .int .i64 cr, .int .i64 h, .int .u64 (b : Int), .int .i64 bad, .int .i64 lock] 26)).alloc (.cells #[.slice a n cap] 29)).alloc (.cells #[.int .i64 c, .int .i64 i, .int .i64 am, .int .i64 t] 31)) ⟨me, rev, cr, h, b, bad, lock⟩ a n cap l c i am t) := HI
  clear HI
  unfold Mt.cells at *
  simp only [] at H1 H2 ⊢
  have o0 := HI0.out.ora.cell 0
  go_enter Tryd.func3, Tryd.ntmps3
  go_wp2_with fail
  refine (HCP.out _ HI0.out.came).mono ?_
  rintro e w1 ⟨a1, cap1, rfl, h1, hb1⟩
  have HI1 : Hid (B3 w (w1.alloc (.cells #[.slice a1 n cap1] 29)) ⟨me, rev, cr, h, b, bad, lock⟩ a n cap l c i am t) := (HI0.out.next hb1).alloc _
  have HC1 : Hid (Blk (w1.alloc (.cells #[.slice a1 n cap1] 29)) w1.heap.size #[.slice a1 n cap1] 29 ∧ Came (w1.alloc (.cells #[.slice a1 n cap1] 29)) a1 n cap1 l) := ⟨Blk.new _ _ _, h1.below ((Below.refl _ _).alloc (Nat.le_refl _) _)⟩
  have HM1 : Hid (Blk (w1.alloc (.cells #[.slice a1 n cap1] 29)) w.heap.size #[.int .i64 me, .int .i64 rev, .int .i64 cr, .int .i64 h, .int .u64 (b : Int), .int .i64 bad, .int .i64 lock] 26) := HI1.out.met
  have HT1 : Hid (Blk (w1.alloc (.cells #[.slice a1 n cap1] 29)) (w.heap.size + 2) #[.int .i64 c, .int .i64 i, .int .i64 am, .int .i64 t] 31) := HI1.out.tok
  clear h1 hb1 o0 HI0 HCP
  have p0 := HC1.out.1.cell 0
  go_wp2_with (first
    | (refine wp_whole rfl 26 _ rfl (w.heap.size) rfl 26 #[.int .i64 me, .int .i64 rev, .int .i64 cr, .int .i64 h, .int .u64 (b : Int), .int .i64 bad, .int .i64 lock] _ HM1.out Tryd.underlying26 rfl (by kernel_rfl) ?_)
    | (refine wp_whole rfl 31 _ rfl (w.heap.size + 2) rfl 31 #[.int .i64 c, .int .i64 i, .int .i64 am, .int .i64 t] _ HT1.out Tryd.underlying31 rfl (by kernel_rfl) ?_)
    | fail)
  refine (H1.out _ _ _ HI1.out.bel HC1.out.2).mono ?_
  rintro e w2 ⟨m1, x1, f1, rfl, hk1, hb2⟩
  have HKI : Hid (KeyIs ⟨me, rev, cr, h, b, bad, lock⟩ l c i am t (bodyI c i am) m1 x1 f1) := hk1
  obtain ⟨me1, rev1, cr1, h1, b1, bad1, lock1⟩ := m1
  unfold Mt.v Mt.cells
  simp only []
  have HI2 : Hid (B3 w (w2.alloc (.cells #[.int .i64 me1, .int .i64 rev1, .int .i64 cr1, .int .i64 h1, .int .u64 (b1 : Int), .int .i64 bad1, .int .i64 lock1] 26)) ⟨me, rev, cr, h, b, bad, lock⟩ a n cap l c i am t) := (HI1.out.next hb2).alloc _
  have HC2 : Hid (Blk (w2.alloc (.cells #[.int .i64 me1, .int .i64 rev1, .int .i64 cr1, .int .i64 h1, .int .u64 (b1 : Int), .int .i64 bad1, .int .i64 lock1] 26)) w1.heap.size #[.slice a1 n cap1] 29 ∧ Came (w2.alloc (.cells #[.int .i64 me1, .int .i64 rev1, .int .i64 cr1, .int .i64 h1, .int .u64 (b1 : Int), .int .i64 bad1, .int .i64 lock1] 26)) a1 n cap1 l) := ⟨(HC1.out.1.next hb2).alloc _, (HC1.out.2.below hb2).below ((Below.refl _ _).alloc (Nat.le_refl _) _)⟩
  have HG2 : Hid (Blk (w2.alloc (.cells #[.int .i64 me1, .int .i64 rev1, .int .i64 cr1, .int .i64 h1, .int .u64 (b1 : Int), .int .i64 bad1, .int .i64 lock1] 26)) w2.heap.size #[.int .i64 me1, .int .i64 rev1, .int .i64 cr1, .int .i64 h1, .int .u64 (b1 : Int), .int .i64 bad1, .int .i64 lock1] 26) := Blk.new _ _ _
  have HM2 : Hid (Blk (w2.alloc (.cells #[.int .i64 me1, .int .i64 rev1, .int .i64 cr1, .int .i64 h1, .int .u64 (b1 : Int), .int .i64 bad1, .int .i64 lock1] 26)) w.heap.size #[.int .i64 me, .int .i64 rev, .int .i64 cr, .int .i64 h, .int .u64 (b : Int), .int .i64 bad, .int .i64 lock] 26) := HI2.out.met
  have HT2 : Hid (Blk (w2.alloc (.cells #[.int .i64 me1, .int .i64 rev1, .int .i64 cr1, .int .i64 h1, .int .u64 (b1 : Int), .int .i64 bad1, .int .i64 lock1] 26)) (w.heap.size + 2) #[.int .i64 c, .int .i64 i, .int .i64 am, .int .i64 t] 31) := HI2.out.tok
  clear hk1 hb2 p0 HI1 HC1 HM1 HT1 H1
  generalize w1.heap.size = g1 at *
  have o0 := HI2.out.ora.cell 0
  go_wp2_with (first
    | (refine wp_whole rfl 26 _ rfl (w.heap.size) rfl 26 #[.int .i64 me, .int .i64 rev, .int .i64 cr, .int .i64 h, .int .u64 (b : Int), .int .i64 bad, .int .i64 lock] _ HM2.out Tryd.underlying26 rfl (by kernel_rfl) ?_)
    | (refine wp_whole rfl 31 _ rfl (w.heap.size + 2) rfl 31 #[.int .i64 c, .int .i64 i, .int .i64 am, .int .i64 t] _ HT2.out Tryd.underlying31 rfl (by kernel_rfl) ?_)
    | fail)
  refine (H2.out _ HI2.out.came).mono ?_
  rintro e w3 ⟨m2, x2, f2, rfl, hk2, hb3⟩
  obtain ⟨rfl, rfl, rfl⟩ := HKI.out.one hk2
  have HI3 : Hid (B3 w (w3.alloc (.cells #[.int .i64 me1, .int .i64 rev1, .int .i64 cr1, .int .i64 h1, .int .u64 (b1 : Int), .int .i64 bad1, .int .i64 lock1] 26)) ⟨me, rev, cr, h, b, bad, lock⟩ a n cap l c i am t) := (HI2.out.next hb3).alloc _
  have HC3 : Hid (Blk (w3.alloc (.cells #[.int .i64 me1, .int .i64 rev1, .int .i64 cr1, .int .i64 h1, .int .u64 (b1 : Int), .int .i64 bad1, .int .i64 lock1] 26)) g1 #[.slice a1 n cap1] 29 ∧ Came (w3.alloc (.cells #[.int .i64 me1, .int .i64 rev1, .int .i64 cr1, .int .i64 h1, .int .u64 (b1 : Int), .int .i64 bad1, .int .i64 lock1] 26)) a1 n cap1 l) := ⟨(HC2.out.1.next hb3).alloc _, (HC2.out.2.below hb3).below ((Below.refl _ _).alloc (Nat.le_refl _) _)⟩
  have HG3 : Hid (Blk (w3.alloc (.cells #[.int .i64 me1, .int .i64 rev1, .int .i64 cr1, .int .i64 h1, .int .u64 (b1 : Int), .int .i64 bad1, .int .i64 lock1] 26)) w2.heap.size #[.int .i64 me1, .int .i64 rev1, .int .i64 cr1, .int .i64 h1, .int .u64 (b1 : Int), .int .i64 bad1, .int .i64 lock1] 26) := (HG2.out.next hb3).alloc _
  have HG4 : Hid (Blk (w3.alloc (.cells #[.int .i64 me1, .int .i64 rev1, .int .i64 cr1, .int .i64 h1, .int .u64 (b1 : Int), .int .i64 bad1, .int .i64 lock1] 26)) w3.heap.size #[.int .i64 me1, .int .i64 rev1, .int .i64 cr1, .int .i64 h1, .int .u64 (b1 : Int), .int .i64 bad1, .int .i64 lock1] 26) := Blk.new _ _ _
  have HS3 : Hid (Calls Tryd.prog 7 #[.agg #[.slice a1 n cap1], .agg #[.slice a n cap]] (w3.alloc (.cells #[.int .i64 me1, .int .i64 rev1, .int .i64 cr1, .int .i64 h1, .int .u64 (b1 : Int), .int .i64 bad1, .int .i64 lock1] 26)) fun e w' => e = .returned (.bool true) ∧ Below (w3.alloc (.cells #[.int .i64 me1, .int .i64 rev1, .int .i64 cr1, .int .i64 h1, .int .u64 (b1 : Int), .int .i64 bad1, .int .i64 lock1] 26)).heap.size (w3.alloc (.cells #[.int .i64 me1, .int .i64 rev1, .int .i64 cr1, .int .i64 h1, .int .u64 (b1 : Int), .int .i64 bad1, .int .i64 lock1] 26)) w') := HS.out _ _ _ HC3.out.2 HI3.out.came
  have hq : ∀ W : World, (Op.equalIn 10000 26 (.agg #[.int .i64 me1, .int .i64 rev1, .int .i64 cr1, .int .i64 h1, .int .u64 (b1 : Int), .int .i64 bad1, .int .i64 lock1]) (.agg #[.int .i64 me1, .int .i64 rev1, .int .i64 cr1, .int .i64 h1, .int .u64 (b1 : Int), .int .i64 bad1, .int .i64 lock1])).run Tryd.prog W = .ok true W := fun W => eqMt _ _ _ _ _ _ _ W
  have hf : (f1 == f1) = true := beq_self_eq_true f1
  have hx : (x1 == x1) = true := beq_self_eq_true x1
  clear hk2 hb3 o0 HI2 HC2 HG2 HM2 HT2 H2 HKI HS
  have o0 := HI3.out.ora.cell 0
  have p0 := HC3.out.1.cell 0
  unfold Mt.v Mt.cells
  simp only []
  go_wp2_with (first
    | (refine wp_whole rfl 26 _ rfl (w2.heap.size) rfl 26 #[.int .i64 me1, .int .i64 rev1, .int .i64 cr1, .int .i64 h1, .int .u64 (b1 : Int), .int .i64 bad1, .int .i64 lock1] _ HG3.out Tryd.underlying26 rfl (by kernel_rfl) ?_)
    | (refine wp_whole rfl 26 _ rfl (w3.heap.size) rfl 26 #[.int .i64 me1, .int .i64 rev1, .int .i64 cr1, .int .i64 h1, .int .u64 (b1 : Int), .int .i64 bad1, .int .i64 lock1] _ HG4.out Tryd.underlying26 rfl (by kernel_rfl) ?_)
    | fail)
  refine HS3.out.mono ?_
  rintro e w4 ⟨rfl, hw4⟩
  have HF : Hid (Below w.heap.size w w4) := bel_step HI3.out.bel hw4
  clear hw4
  go_wp2_with fail
  go_ret
  exact ⟨rfl, HF.out⟩

end Go.Proofs.YtmpapnblpjnlmaaDoor.met
