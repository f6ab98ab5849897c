/- A refusal changes neither credit nor numbers nor key. -/
import Derived.Test.YtmpapnblpjnlmabDoorMjK
import Derived.Test.YtmpapnblpjnlmabDoorMtE
import Derived.Test.YtmpapnblpjnlmabDoorLetG
import Derived.Test.YtmpapnblpjnlmabDoorMtB3
import Derived.Test.YtmpapnblpjnlmabDoorMtQ
namespace Go.Proofs.YtmpapnblpjnlmabDoor.met
open Go.RowKit Go.Proofs.YtmpapnblpjnlmabDoor.ora
set_option maxRecDepth 100000
set_option linter.unusedVariables false
set_option linter.unusedSimpArgs false

set_option maxHeartbeats 4000000 in
theorem refuses_walk {I : World → Prop} (hI : Inv I) (KK : KKey I) (m : Mt) (a : Option Addr) (n cap : Nat) (l : List Pr) (c i am t : Int) (w : World) (h0 : I w) (hb : m.b < 18446744073709551616) (hc : Came w a n cap l) :
    Calls Tryd.prog 5 #[m.v, .agg #[.slice a n cap], .agg #[.int .i64 c, .int .i64 i, .int .i64 am, .int .i64 t]] w fun e w' => e = .returned (.bool true) ∧ Below w.heap.size w w' := by
  have HI := B3.new m c i am t hc
  have H1 : Hid (∀ W, Below w.heap.size w W → Came W a n cap l → Calls Tryd.prog 9 #[m.v, .agg #[.slice a n cap], .agg #[.int .i64 c, .int .i64 i, .int .i64 am, .int .i64 t]] W fun e w' => KeyPost W m l c i am t e w') := fun W hB h => KK W m a n cap l c i am t (hI.from h0 hB) hb h.row h.nil h.le
  clear KK hI h0 hb hc
  obtain ⟨me, rev, cr, h, b, bad, lock⟩ := m
  unfold Mt.v at *
  have HI0 : Hid (B3 w (((w.alloc (.cells #[.int .i64 me, .int .i64 rev, .int .i64 cr, .int .i64 h, .int .u64 (b : Int), .int .i64 bad, .int .i64 lock] 30)).alloc (.cells #[.slice a n cap] 34)).alloc (.cells #[.int .i64 c, .int .i64 i, .int .i64 am, .int .i64 t] 35)) ⟨me, rev, cr, h, b, bad, lock⟩ a n cap l c i am t) := HI
  clear HI
  unfold Mt.cells at *
  simp only [] at H1 ⊢
  have o0 := HI0.out.ora.cell 0
  have HM0 : Hid (Blk (((w.alloc (.cells #[.int .i64 me, .int .i64 rev, .int .i64 cr, .int .i64 h, .int .u64 (b : Int), .int .i64 bad, .int .i64 lock] 30)).alloc (.cells #[.slice a n cap] 34)).alloc (.cells #[.int .i64 c, .int .i64 i, .int .i64 am, .int .i64 t] 35)) w.heap.size #[.int .i64 me, .int .i64 rev, .int .i64 cr, .int .i64 h, .int .u64 (b : Int), .int .i64 bad, .int .i64 lock] 30) := HI0.out.met
  have HT0 : Hid (Blk (((w.alloc (.cells #[.int .i64 me, .int .i64 rev, .int .i64 cr, .int .i64 h, .int .u64 (b : Int), .int .i64 bad, .int .i64 lock] 30)).alloc (.cells #[.slice a n cap] 34)).alloc (.cells #[.int .i64 c, .int .i64 i, .int .i64 am, .int .i64 t] 35)) (w.heap.size + 2) #[.int .i64 c, .int .i64 i, .int .i64 am, .int .i64 t] 35) := HI0.out.tok
  go_enter Tryd.func5, Tryd.ntmps5
  go_wp2_with (first
    | (refine wp_whole rfl 30 _ rfl (w.heap.size) rfl 30 #[.int .i64 me, .int .i64 rev, .int .i64 cr, .int .i64 h, .int .u64 (b : Int), .int .i64 bad, .int .i64 lock] _ HM0.out Tryd.underlying30 rfl (by kernel_rfl) ?_)
    | (refine wp_whole rfl 35 _ rfl (w.heap.size + 2) rfl 35 #[.int .i64 c, .int .i64 i, .int .i64 am, .int .i64 t] _ HT0.out Tryd.underlying35 rfl (by kernel_rfl) ?_)
    | fail)
  refine (H1.out _ HI0.out.bel HI0.out.came).mono ?_
  rintro e w1 ⟨m1, x1, f1, rfl, hk, hb1⟩
  have HI1 : Hid (B3 w w1 ⟨me, rev, cr, h, b, bad, lock⟩ a n cap l c i am t) := HI0.out.next hb1
  have hkind := hk.kinds
  clear hk hb1 o0 HM0 HT0 HI0 H1
  rcases hkind with ⟨rfl, rfl, rfl⟩ | ⟨rfl, k1, k2, k3, k4, k5⟩ | ⟨rfl, rfl, k1, k2, k3⟩ | ⟨hbt, rfl, rfl, hmay⟩
  · unfold mt0 Mt.v Mt.cells
    simp only []
    have HG : Hid (Blk (w1.alloc (.cells #[.int .i64 0, .int .i64 0, .int .i64 0, .int .i64 0, .int .u64 0, .int .i64 0, .int .i64 0] 30)) w1.heap.size #[.int .i64 0, .int .i64 0, .int .i64 0, .int .i64 0, .int .u64 0, .int .i64 0, .int .i64 0] 30) := Blk.new _ _ _
    have HI2 : Hid (B3 w (w1.alloc (.cells #[.int .i64 0, .int .i64 0, .int .i64 0, .int .i64 0, .int .u64 0, .int .i64 0, .int .i64 0] 30)) ⟨me, rev, cr, h, b, bad, lock⟩ a n cap l c i am t) := HI1.out.alloc _
    have hq : ∀ W : World, (Op.equalIn 10000 30 (.agg #[.int .i64 0, .int .i64 0, .int .i64 0, .int .i64 0, .int .u64 0, .int .i64 0, .int .i64 0]) (.agg #[.int .i64 0, .int .i64 0, .int .i64 0, .int .i64 0, .int .u64 0, .int .i64 0, .int .i64 0])).run Tryd.prog W = .ok true W := fun W => eqMt _ _ _ _ _ _ _ W
    clear HI1
    go_wp2_with (first
      | (refine wp_whole rfl 30 _ rfl (w1.heap.size) rfl 30 #[.int .i64 0, .int .i64 0, .int .i64 0, .int .i64 0, .int .u64 0, .int .i64 0, .int .i64 0] _ HG.out Tryd.underlying30 rfl (by kernel_rfl) ?_)
      | fail)
    go_ret
    exact ⟨rfl, HI2.out.bel⟩
  · obtain ⟨me1, rev1, cr1, h1, b1, bad1, lock1⟩ := m1
    unfold Mt.v Mt.cells
    simp only [] at k1 k2 k4 k5 ⊢
    obtain ⟨k40, k41⟩ := k4
    obtain ⟨k50, k51⟩ := k5
    have HG : Hid (Blk (w1.alloc (.cells #[.int .i64 me1, .int .i64 rev1, .int .i64 cr1, .int .i64 h1, .int .u64 (b1 : Int), .int .i64 bad1, .int .i64 lock1] 30)) w1.heap.size #[.int .i64 me1, .int .i64 rev1, .int .i64 cr1, .int .i64 h1, .int .u64 (b1 : Int), .int .i64 bad1, .int .i64 lock1] 30) := Blk.new _ _ _
    have HI2 : Hid (B3 w (w1.alloc (.cells #[.int .i64 me1, .int .i64 rev1, .int .i64 cr1, .int .i64 h1, .int .u64 (b1 : Int), .int .i64 bad1, .int .i64 lock1] 30)) ⟨me, rev, cr, h, b, bad, lock⟩ a n cap l c i am t) := HI1.out.alloc _
    have q1 : decide (rev ≤ rev1) = true := by simp [k1]
    have g1 : (w1.alloc (.cells #[.int .i64 me1, .int .i64 rev1, .int .i64 cr1, .int .i64 h1, .int .u64 (b1 : Int), .int .i64 bad1, .int .i64 lock1] 30)).cell? ⟨w1.heap.size, 1, none⟩ = some (.int .i64 rev1) := HG.out.cell 1
    have g2 : (w1.alloc (.cells #[.int .i64 me1, .int .i64 rev1, .int .i64 cr1, .int .i64 h1, .int .u64 (b1 : Int), .int .i64 bad1, .int .i64 lock1] 30)).cell? ⟨w1.heap.size, 2, none⟩ = some (.int .i64 cr1) := HG.out.cell 2
    have m1 : (w1.alloc (.cells #[.int .i64 me1, .int .i64 rev1, .int .i64 cr1, .int .i64 h1, .int .u64 (b1 : Int), .int .i64 bad1, .int .i64 lock1] 30)).cell? ⟨w.heap.size, 1, none⟩ = some (.int .i64 rev) := HI2.out.met.cell 1
    have m2 : (w1.alloc (.cells #[.int .i64 me1, .int .i64 rev1, .int .i64 cr1, .int .i64 h1, .int .u64 (b1 : Int), .int .i64 bad1, .int .i64 lock1] 30)).cell? ⟨w.heap.size, 2, none⟩ = some (.int .i64 cr) := HI2.out.met.cell 2
    have t0 : (w1.alloc (.cells #[.int .i64 me1, .int .i64 rev1, .int .i64 cr1, .int .i64 h1, .int .u64 (b1 : Int), .int .i64 bad1, .int .i64 lock1] 30)).cell? ⟨w.heap.size + 2, 0, none⟩ = some (.int .i64 c) := HI2.out.tok.cell 0
    by_cases hx : 0 < x1
    · have q2 : (x1 == cr1 - cr) = true := by simp; omega
      have q3 : (c == 0) = true := by simp [k3.2 hx]
      have q4 : decide (0 < x1) = true := by simp [hx]
      have q5 : 0 < cr1 - cr := by omega
      have q6 : decide (0 < cr1 - cr) = true := by simp; omega
      clear HI1 k1 k2 k3 HG hx
      go_wp2_with fail
      go_ret
      exact ⟨rfl, HI2.out.bel⟩
    · have hx0 : x1 = 0 := by omega
      have q3 : (c == 0) = false := by simp only [beq_eq_false_iff_ne, ne_eq]; intro h; exact hx (k3.1 h)
      have q5 : cr1 - cr ≤ 0 := by omega
      have q6 : decide (0 < cr1 - cr) = false := by simp; omega
      clear HI1 k1 k2 k3 HG hx
      subst hx0
      go_wp2_with fail
      go_ret
      exact ⟨rfl, HI2.out.bel⟩
  · unfold Mt.v Mt.cells
    simp only []
    have HG : Hid (Blk (w1.alloc (.cells #[.int .i64 me, .int .i64 rev, .int .i64 cr, .int .i64 h, .int .u64 (b : Int), .int .i64 bad, .int .i64 lock] 30)) w1.heap.size #[.int .i64 me, .int .i64 rev, .int .i64 cr, .int .i64 h, .int .u64 (b : Int), .int .i64 bad, .int .i64 lock] 30) := Blk.new _ _ _
    have HI2 : Hid (B3 w (w1.alloc (.cells #[.int .i64 me, .int .i64 rev, .int .i64 cr, .int .i64 h, .int .u64 (b : Int), .int .i64 bad, .int .i64 lock] 30)) ⟨me, rev, cr, h, b, bad, lock⟩ a n cap l c i am t) := HI1.out.alloc _
    have HM2 : Hid (Blk (w1.alloc (.cells #[.int .i64 me, .int .i64 rev, .int .i64 cr, .int .i64 h, .int .u64 (b : Int), .int .i64 bad, .int .i64 lock] 30)) w.heap.size #[.int .i64 me, .int .i64 rev, .int .i64 cr, .int .i64 h, .int .u64 (b : Int), .int .i64 bad, .int .i64 lock] 30) := HI2.out.met
    have hq : ∀ W : World, (Op.equalIn 10000 30 (.agg #[.int .i64 me, .int .i64 rev, .int .i64 cr, .int .i64 h, .int .u64 (b : Int), .int .i64 bad, .int .i64 lock]) (.agg #[.int .i64 me, .int .i64 rev, .int .i64 cr, .int .i64 h, .int .u64 (b : Int), .int .i64 bad, .int .i64 lock])).run Tryd.prog W = .ok true W := fun W => eqMt _ _ _ _ _ _ _ W
    have q1 : (f1 == 5) = false := by simp [k2]
    have q2 : (f1 == 0) = false := by simp [k1]
    have q3 : (f1 != 12) = true := by simp [k3]
    clear HI1 k1 k2 k3
    go_wp2_with (first
      | (refine wp_whole rfl 30 _ rfl (w1.heap.size) rfl 30 #[.int .i64 me, .int .i64 rev, .int .i64 cr, .int .i64 h, .int .u64 (b : Int), .int .i64 bad, .int .i64 lock] _ HG.out Tryd.underlying30 rfl (by kernel_rfl) ?_)
      | (refine wp_whole rfl 30 _ rfl (w.heap.size) rfl 30 #[.int .i64 me, .int .i64 rev, .int .i64 cr, .int .i64 h, .int .u64 (b : Int), .int .i64 bad, .int .i64 lock] _ HM2.out Tryd.underlying30 rfl (by kernel_rfl) ?_)
      | fail)
    go_ret
    exact ⟨rfl, HI2.out.bel⟩
  · have hbd := hmay.bad
    have hlk := hmay.lock
    have hne := hmay.one
    simp only [] at hbd hlk hne
    obtain ⟨bd0, bd1⟩ := hbd
    clear hmay
    by_cases h4 : bad = 4
    · have hm1 : m1 = ⟨me, rev, cr, h, b, 0, 30⟩ := by rw [hbt]; unfold badTry; simp only []; rw [if_pos (by omega)]
      subst hm1
      unfold Mt.v Mt.cells
      simp only []
      have q4 : (bad == 4) = true := by simp [h4]
      have HG : Hid (Blk ((w1.alloc (.cells #[.int .i64 me, .int .i64 rev, .int .i64 cr, .int .i64 h, .int .u64 (b : Int), .int .i64 0, .int .i64 30] 30)).alloc (.cells #[.int .i64 me, .int .i64 rev, .int .i64 cr, .int .i64 h, .int .u64 (b : Int), .int .i64 0, .int .i64 30] 30)) w1.heap.size #[.int .i64 me, .int .i64 rev, .int .i64 cr, .int .i64 h, .int .u64 (b : Int), .int .i64 0, .int .i64 30] 30) := (Blk.new _ _ _).alloc _
      have HS : Hid (Blk ((w1.alloc (.cells #[.int .i64 me, .int .i64 rev, .int .i64 cr, .int .i64 h, .int .u64 (b : Int), .int .i64 0, .int .i64 30] 30)).alloc (.cells #[.int .i64 me, .int .i64 rev, .int .i64 cr, .int .i64 h, .int .u64 (b : Int), .int .i64 0, .int .i64 30] 30)) (w1.heap.size + 1) #[.int .i64 me, .int .i64 rev, .int .i64 cr, .int .i64 h, .int .u64 (b : Int), .int .i64 0, .int .i64 30] 30) := Blk.new1 w1 _ _ _
      have HGA : Hid (Blk (w1.alloc (.cells #[.int .i64 me, .int .i64 rev, .int .i64 cr, .int .i64 h, .int .u64 (b : Int), .int .i64 0, .int .i64 30] 30)) w1.heap.size #[.int .i64 me, .int .i64 rev, .int .i64 cr, .int .i64 h, .int .u64 (b : Int), .int .i64 0, .int .i64 30] 30) := Blk.new _ _ _
      have HI2 : Hid (B3 w ((w1.alloc (.cells #[.int .i64 me, .int .i64 rev, .int .i64 cr, .int .i64 h, .int .u64 (b : Int), .int .i64 0, .int .i64 30] 30)).alloc (.cells #[.int .i64 me, .int .i64 rev, .int .i64 cr, .int .i64 h, .int .u64 (b : Int), .int .i64 0, .int .i64 30] 30)) ⟨me, rev, cr, h, b, bad, lock⟩ a n cap l c i am t) := (HI1.out.alloc _).alloc _
      have HSZ : Hid (w.heap.size + 3 ≤ w1.heap.size) := HI1.out.size
      have m5 : ((w1.alloc (.cells #[.int .i64 me, .int .i64 rev, .int .i64 cr, .int .i64 h, .int .u64 (b : Int), .int .i64 0, .int .i64 30] 30)).alloc (.cells #[.int .i64 me, .int .i64 rev, .int .i64 cr, .int .i64 h, .int .u64 (b : Int), .int .i64 0, .int .i64 30] 30)).cell? ⟨w.heap.size, 5, none⟩ = some (.int .i64 bad) := HI2.out.met.cell 5
      clear HI1 hbt h4
      go_wp2_with (first
        | (refine wp_whole rfl 30 _ rfl (w1.heap.size) rfl 30 #[.int .i64 me, .int .i64 rev, .int .i64 cr, .int .i64 h, .int .u64 (b : Int), .int .i64 0, .int .i64 30] _ HGA.out Tryd.underlying30 rfl (by kernel_rfl) ?_)
        | (refine wp_let1 rfl 3 _ _ rfl (w1.heap.size + 1) 5 rfl .i64 bad rfl (by kernel_rfl) #[.int .i64 me, .int .i64 rev, .int .i64 cr, .int .i64 h, .int .u64 (b : Int), .int .i64 0, .int .i64 30] 30 HS.out (by simp) ?_)
        | fail)
      intro W3 hU3
      have hsz := HSZ.out
      have H3 : Hid (Blk W3 w.heap.size #[.int .i64 me, .int .i64 rev, .int .i64 cr, .int .i64 h, .int .u64 (b : Int), .int .i64 bad, .int .i64 lock] 30 ∧ Blk W3 w1.heap.size #[.int .i64 me, .int .i64 rev, .int .i64 cr, .int .i64 h, .int .u64 (b : Int), .int .i64 0, .int .i64 30] 30 ∧ Below w.heap.size w W3) := ⟨hU3.keep HI2.out.met (by omega), hU3.keep HG.out (by omega), hU3.bel _ _ (by omega) HI2.out.bel⟩
      have HS3 : Hid (Blk W3 (w1.heap.size + 1) #[.int .i64 me, .int .i64 rev, .int .i64 cr, .int .i64 h, .int .u64 (b : Int), .int .i64 bad, .int .i64 30] 30) := hU3.blk
      clear hU3 HI2 HG HS HGA m5 hsz
      have m6 : W3.cell? ⟨w.heap.size, 6, none⟩ = some (.int .i64 lock) := H3.out.1.cell 6
      go_wp2_with (first
        | (refine wp_let1 rfl 3 _ _ rfl (w1.heap.size + 1) 6 rfl .i64 lock rfl (by kernel_rfl) #[.int .i64 me, .int .i64 rev, .int .i64 cr, .int .i64 h, .int .u64 (b : Int), .int .i64 bad, .int .i64 30] 30 HS3.out (by simp) ?_)
        | fail)
      intro W4 hU4
      have hsz := HSZ.out
      have HM4 : Hid (Blk W4 w.heap.size #[.int .i64 me, .int .i64 rev, .int .i64 cr, .int .i64 h, .int .u64 (b : Int), .int .i64 bad, .int .i64 lock] 30) := hU4.keep H3.out.1 (by omega)
      have HS4 : Hid (Blk W4 (w1.heap.size + 1) #[.int .i64 me, .int .i64 rev, .int .i64 cr, .int .i64 h, .int .u64 (b : Int), .int .i64 bad, .int .i64 lock] 30) := hU4.blk
      have HW4 : Hid (Below w.heap.size w W4) := hU4.bel _ _ (by omega) H3.out.2.2
      have hG4 : Blk W4 w1.heap.size #[.int .i64 me, .int .i64 rev, .int .i64 cr, .int .i64 h, .int .u64 (b : Int), .int .i64 0, .int .i64 30] 30 := hU4.keep H3.out.2.1 (by omega)
      have n5 : W4.cell? ⟨w1.heap.size, 5, none⟩ = some (.int .i64 0) := hG4.cell 5
      have n6 : W4.cell? ⟨w1.heap.size, 6, none⟩ = some (.int .i64 30) := hG4.cell 6
      have p5 : W4.cell? ⟨w.heap.size, 5, none⟩ = some (.int .i64 bad) := HM4.out.cell 5
      have p6 : W4.cell? ⟨w.heap.size, 6, none⟩ = some (.int .i64 lock) := HM4.out.cell 6
      have hq : ∀ W : World, (Op.equalIn 10000 30 (.agg #[.int .i64 me, .int .i64 rev, .int .i64 cr, .int .i64 h, .int .u64 (b : Int), .int .i64 bad, .int .i64 lock]) (.agg #[.int .i64 me, .int .i64 rev, .int .i64 cr, .int .i64 h, .int .u64 (b : Int), .int .i64 bad, .int .i64 lock])).run Tryd.prog W = .ok true W := fun W => eqMt _ _ _ _ _ _ _ W
      clear hU4 H3 HS3 hG4 hsz m6
      generalize w1.heap.size = G at *
      go_wp2_with (first
        | (refine wp_wholeG (by rfl) 30 _ rfl (G + 1) rfl 30 #[.int .i64 me, .int .i64 rev, .int .i64 cr, .int .i64 h, .int .u64 (b : Int), .int .i64 bad, .int .i64 lock] _ HS4.out Tryd.underlying30 rfl (by kernel_rfl) ?_)
        | (refine wp_wholeG (by rfl) 30 _ rfl (w.heap.size) rfl 30 #[.int .i64 me, .int .i64 rev, .int .i64 cr, .int .i64 h, .int .u64 (b : Int), .int .i64 bad, .int .i64 lock] _ HM4.out Tryd.underlying30 rfl (by kernel_rfl) ?_)
        | fail)
      go_ret
      exact ⟨rfl, HW4.out⟩
    · have hm1 : m1 = ⟨me, rev, cr, h, b, bad + 1, lock⟩ := by rw [hbt]; unfold badTry; simp only []; rw [if_neg (by omega)]
      subst hm1
      unfold Mt.v Mt.cells
      simp only []
      have q4 : (bad == 4) = false := by simp [h4]
      have HG : Hid (Blk ((w1.alloc (.cells #[.int .i64 me, .int .i64 rev, .int .i64 cr, .int .i64 h, .int .u64 (b : Int), .int .i64 (bad + 1), .int .i64 lock] 30)).alloc (.cells #[.int .i64 me, .int .i64 rev, .int .i64 cr, .int .i64 h, .int .u64 (b : Int), .int .i64 (bad + 1), .int .i64 lock] 30)) w1.heap.size #[.int .i64 me, .int .i64 rev, .int .i64 cr, .int .i64 h, .int .u64 (b : Int), .int .i64 (bad + 1), .int .i64 lock] 30) := (Blk.new _ _ _).alloc _
      have HS : Hid (Blk ((w1.alloc (.cells #[.int .i64 me, .int .i64 rev, .int .i64 cr, .int .i64 h, .int .u64 (b : Int), .int .i64 (bad + 1), .int .i64 lock] 30)).alloc (.cells #[.int .i64 me, .int .i64 rev, .int .i64 cr, .int .i64 h, .int .u64 (b : Int), .int .i64 (bad + 1), .int .i64 lock] 30)) (w1.heap.size + 1) #[.int .i64 me, .int .i64 rev, .int .i64 cr, .int .i64 h, .int .u64 (b : Int), .int .i64 (bad + 1), .int .i64 lock] 30) := Blk.new1 w1 _ _ _
      have HGA : Hid (Blk (w1.alloc (.cells #[.int .i64 me, .int .i64 rev, .int .i64 cr, .int .i64 h, .int .u64 (b : Int), .int .i64 (bad + 1), .int .i64 lock] 30)) w1.heap.size #[.int .i64 me, .int .i64 rev, .int .i64 cr, .int .i64 h, .int .u64 (b : Int), .int .i64 (bad + 1), .int .i64 lock] 30) := Blk.new _ _ _
      have HI2 : Hid (B3 w ((w1.alloc (.cells #[.int .i64 me, .int .i64 rev, .int .i64 cr, .int .i64 h, .int .u64 (b : Int), .int .i64 (bad + 1), .int .i64 lock] 30)).alloc (.cells #[.int .i64 me, .int .i64 rev, .int .i64 cr, .int .i64 h, .int .u64 (b : Int), .int .i64 (bad + 1), .int .i64 lock] 30)) ⟨me, rev, cr, h, b, bad, lock⟩ a n cap l c i am t) := (HI1.out.alloc _).alloc _
      have HSZ : Hid (w.heap.size + 3 ≤ w1.heap.size) := HI1.out.size
      have m5 : ((w1.alloc (.cells #[.int .i64 me, .int .i64 rev, .int .i64 cr, .int .i64 h, .int .u64 (b : Int), .int .i64 (bad + 1), .int .i64 lock] 30)).alloc (.cells #[.int .i64 me, .int .i64 rev, .int .i64 cr, .int .i64 h, .int .u64 (b : Int), .int .i64 (bad + 1), .int .i64 lock] 30)).cell? ⟨w.heap.size, 5, none⟩ = some (.int .i64 bad) := HI2.out.met.cell 5
      clear HI1 hbt h4
      go_wp2_with (first
        | (refine wp_whole rfl 30 _ rfl (w1.heap.size) rfl 30 #[.int .i64 me, .int .i64 rev, .int .i64 cr, .int .i64 h, .int .u64 (b : Int), .int .i64 (bad + 1), .int .i64 lock] _ HGA.out Tryd.underlying30 rfl (by kernel_rfl) ?_)
        | (refine wp_let1 rfl 3 _ _ rfl (w1.heap.size + 1) 5 rfl .i64 bad rfl (by kernel_rfl) #[.int .i64 me, .int .i64 rev, .int .i64 cr, .int .i64 h, .int .u64 (b : Int), .int .i64 (bad + 1), .int .i64 lock] 30 HS.out (by simp) ?_)
        | fail)
      intro W3 hU3
      have hsz := HSZ.out
      have H3 : Hid (Blk W3 w.heap.size #[.int .i64 me, .int .i64 rev, .int .i64 cr, .int .i64 h, .int .u64 (b : Int), .int .i64 bad, .int .i64 lock] 30 ∧ Blk W3 w1.heap.size #[.int .i64 me, .int .i64 rev, .int .i64 cr, .int .i64 h, .int .u64 (b : Int), .int .i64 (bad + 1), .int .i64 lock] 30 ∧ Below w.heap.size w W3) := ⟨hU3.keep HI2.out.met (by omega), hU3.keep HG.out (by omega), hU3.bel _ _ (by omega) HI2.out.bel⟩
      have HS3 : Hid (Blk W3 (w1.heap.size + 1) #[.int .i64 me, .int .i64 rev, .int .i64 cr, .int .i64 h, .int .u64 (b : Int), .int .i64 bad, .int .i64 lock] 30) := hU3.blk
      clear hU3 HI2 HG HS HGA m5 hsz
      have m6 : W3.cell? ⟨w.heap.size, 6, none⟩ = some (.int .i64 lock) := H3.out.1.cell 6
      go_wp2_with (first
        | (refine wp_let1 rfl 3 _ _ rfl (w1.heap.size + 1) 6 rfl .i64 lock rfl (by kernel_rfl) #[.int .i64 me, .int .i64 rev, .int .i64 cr, .int .i64 h, .int .u64 (b : Int), .int .i64 bad, .int .i64 lock] 30 HS3.out (by simp) ?_)
        | fail)
      intro W4 hU4
      have hsz := HSZ.out
      have HM4 : Hid (Blk W4 w.heap.size #[.int .i64 me, .int .i64 rev, .int .i64 cr, .int .i64 h, .int .u64 (b : Int), .int .i64 bad, .int .i64 lock] 30) := hU4.keep H3.out.1 (by omega)
      have HS4 : Hid (Blk W4 (w1.heap.size + 1) #[.int .i64 me, .int .i64 rev, .int .i64 cr, .int .i64 h, .int .u64 (b : Int), .int .i64 bad, .int .i64 lock] 30) := hU4.blk
      have HW4 : Hid (Below w.heap.size w W4) := hU4.bel _ _ (by omega) H3.out.2.2
      have hG4 : Blk W4 w1.heap.size #[.int .i64 me, .int .i64 rev, .int .i64 cr, .int .i64 h, .int .u64 (b : Int), .int .i64 (bad + 1), .int .i64 lock] 30 := hU4.keep H3.out.2.1 (by omega)
      have n5 : W4.cell? ⟨w1.heap.size, 5, none⟩ = some (.int .i64 (bad + 1)) := hG4.cell 5
      have n6 : W4.cell? ⟨w1.heap.size, 6, none⟩ = some (.int .i64 lock) := hG4.cell 6
      have p5 : W4.cell? ⟨w.heap.size, 5, none⟩ = some (.int .i64 bad) := HM4.out.cell 5
      have p6 : W4.cell? ⟨w.heap.size, 6, none⟩ = some (.int .i64 lock) := HM4.out.cell 6
      have hq : ∀ W : World, (Op.equalIn 10000 30 (.agg #[.int .i64 me, .int .i64 rev, .int .i64 cr, .int .i64 h, .int .u64 (b : Int), .int .i64 bad, .int .i64 lock]) (.agg #[.int .i64 me, .int .i64 rev, .int .i64 cr, .int .i64 h, .int .u64 (b : Int), .int .i64 bad, .int .i64 lock])).run Tryd.prog W = .ok true W := fun W => eqMt _ _ _ _ _ _ _ W
      have e5 : (bad + 1 == bad + 1) = true := by simp
      have e6 : (lock == lock) = true := by simp
      clear hU4 H3 HS3 hG4 hsz m6
      generalize w1.heap.size = G at *
      go_wp2_with (first
        | (refine wp_wholeG (by rfl) 30 _ rfl (G + 1) rfl 30 #[.int .i64 me, .int .i64 rev, .int .i64 cr, .int .i64 h, .int .u64 (b : Int), .int .i64 bad, .int .i64 lock] _ HS4.out Tryd.underlying30 rfl (by kernel_rfl) ?_)
        | (refine wp_wholeG (by rfl) 30 _ rfl (w.heap.size) rfl 30 #[.int .i64 me, .int .i64 rev, .int .i64 cr, .int .i64 h, .int .u64 (b : Int), .int .i64 bad, .int .i64 lock] _ HM4.out Tryd.underlying30 rfl (by kernel_rfl) ?_)
        | fail)
      go_ret
      exact ⟨rfl, HW4.out⟩

end Go.Proofs.YtmpapnblpjnlmabDoor.met
