/- Meters: the document's words of a meter. -/
import Derived.Test.YtgipkpkjoicehaaMtR
import Derived.Test.YtgipkpkjoicehaaMtDW
namespace Go.Proofs.Ytgipkpkjoicehaa.met
open Go.RowKit Go.Proofs.Ytgipkpkjoicehaa.cell
set_option maxRecDepth 100000
set_option linter.unusedVariables false

set_option maxHeartbeats 2000000 in
theorem worded_any (m : Mt) (w : World) (hb : m.b < 18446744073709551616) : Calls Try.prog 36 #[m.v] w fun e w' => WordsPost w m e w' := by
  have HMM : Hid (∀ W, Calls Try.prog 34 #[m.v] W fun e w' => Told W m.may e w') := fun W => mmay_any m W hb
  have hN := Blk.new w m.cells 33
  have HB0 : Hid (Below w.heap.size w (w.alloc (.cells m.cells 33))) := (Below.refl _ _).alloc (Nat.le_refl _) _
  obtain ⟨me, rev, cr, h, b, bad, lock⟩ := m
  unfold Mt.v at *
  unfold Mt.cells at *
  simp only [] at HMM HB0 hN hb ⊢
  have c0 := hN.cell 0
  have c1 := hN.cell 1
  have c2 := hN.cell 2
  have c3 := hN.cell 3
  have c4 := hN.cell 4
  have c5 := hN.cell 5
  have c6 := hN.cell 6
  have HN : Hid (Blk (w.alloc (.cells #[.int .i64 me, .int .i64 rev, .int .i64 cr, .int .i64 h, .int .u64 (b : Int), .int .i64 bad, .int .i64 lock] 33)) w.heap.size #[.int .i64 me, .int .i64 rev, .int .i64 cr, .int .i64 h, .int .u64 (b : Int), .int .i64 bad, .int .i64 lock] 33) := hN
  clear hN
  go_enter Try.func36, Try.ntmps36
  go_wp2_with fail
  refine (HMM.out _).mono ?_
  rintro e w1 ⟨r, rfl, hr, hb1⟩
  have hM := HN.out.next hb1
  have HB1 : Hid (Below w.heap.size w w1) := bel_step HB0.out hb1
  clear c0 c1 c2 c3 c4 c5 c6 HN hb1 HB0 HMM
  have c0 := hM.cell 0
  have c1 := hM.cell 1
  have c2 := hM.cell 2
  have c3 := hM.cell 3
  have c4 := hM.cell 4
  have c5 := hM.cell 5
  have c6 := hM.cell 6
  clear hM
  cases r with
  | false =>
    have HM : Hid (¬ Mt.may ⟨me, rev, cr, h, b, bad, lock⟩) := fun hm => by have := hr.2 hm; cases this
    clear hr
    go_wp2_with fail
    go_ret2
    exact ⟨none, 0, 0, [], 5, rfl, RowU.nil _ _, fun _ => rfl, Nat.le_refl _, WordsIs.state HM.out, HB1.out⟩
  | true =>
    have hm := hr.1 rfl
    have HM : Hid (Mt.may ⟨me, rev, cr, h, b, bad, lock⟩) := hm
    obtain ⟨m0, m1⟩ := hm.me
    obtain ⟨r0, r1⟩ := hm.rev
    obtain ⟨k0, k1⟩ := hm.cr
    obtain ⟨b0, b1⟩ := hm.bad
    obtain ⟨l0, l1⟩ := hm.lock
    obtain ⟨g0, g1⟩ := may_high hm
    simp only [] at m0 m1 r0 r1 k0 k1 b0 b1 l0 l1 g0 g1
    have HW : Hid (WordsIs ⟨me, rev, cr, h, b, bad, lock⟩ [cr, me + 256 * (rev + 256 * (bad + 256 * lock)), h, (b : Int) % 4294967296, (b : Int) / 4294967296] 0) := by
      have := WordsIs.ok hm
      exact this
    clear hr hm
    go_wp2_with fail
    go_ret2
    exact ⟨_, 5, 5, _, 0, rfl, row5 w1 _ _ _ _ _ _, (fun h => by cases h), Nat.le_refl _, HW.out, HB1.out.alloc HB1.out.size _⟩

end Go.Proofs.Ytgipkpkjoicehaa.met
