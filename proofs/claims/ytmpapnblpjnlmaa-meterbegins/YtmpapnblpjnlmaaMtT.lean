/- Meters: the document's beginning and ticking. -/
import Derived.Test.YtmpapnblpjnlmaaMtR
import Derived.Test.YtmpapnblpjnlmaaLet
import Derived.Deep.RegionHeld
namespace Go.Proofs.Ytmpapnblpjnlmaa.met
open Go.RowKit
set_option maxRecDepth 100000
set_option linter.unusedVariables false

theorem begun_any (me : Int) (w : World) : Calls Try.prog 9 #[.int .i64 me] w fun e w' => BeginPost w me e w' := by
  have HO0 : Hid (Blk (w.alloc (.cells #[.int .i64 0, .int .i64 0, .int .i64 0, .int .i64 0, .int .u64 0, .int .i64 0, .int .i64 0] 26)) w.heap.size #[.int .i64 0, .int .i64 0, .int .i64 0, .int .i64 0, .int .u64 0, .int .i64 0, .int .i64 0] 26) := Blk.new w _ _
  have HB0 : Hid (Below w.heap.size w (w.alloc (.cells #[.int .i64 0, .int .i64 0, .int .i64 0, .int .i64 0, .int .u64 0, .int .i64 0, .int .i64 0] 26))) := (Below.refl _ _).alloc (Nat.le_refl _) _
  have HIN : Hid (∀ W, Calls Try.prog 19 #[.int .i64 me, .int .i64 0, .int .i64 49] W fun e w' => e = .returned (.bool (decide (0 ≤ me ∧ me ≤ 49))) ∧ w' = W) := fun W => in_told me 0 49 W
  by_cases hm : 0 ≤ me ∧ me ≤ 49
  · rw [decide_eq_true hm] at HIN
    have HBI : Hid (BeginIs me ⟨me, 0, 0, 0, 0, 0, 0⟩ 0) := BeginIs.ok hm
    clear hm
    go_enter Try.func9, Try.ntmps9
    go_wp2_with fail
    refine (HIN.out _).mono ?_
    rintro e w1 ⟨rfl, rfl⟩
    have HOU : Hid (Blk (w.alloc (.cells #[.int .i64 0, .int .i64 0, .int .i64 0, .int .i64 0, .int .u64 0, .int .i64 0, .int .i64 0] 26)) (w.heap.size) #[.int .i64 0, .int .i64 0, .int .i64 0, .int .i64 0, .int .u64 0, .int .i64 0, .int .i64 0] 26) := HO0.out
    have HBE : Hid (Below w.heap.size w (w.alloc (.cells #[.int .i64 0, .int .i64 0, .int .i64 0, .int .i64 0, .int .u64 0, .int .i64 0, .int .i64 0] 26))) := HB0.out
    have HF : Hid (BeginIs me ⟨me, 0, 0, 0, 0, 0, 0⟩ 0) := HBI.out
    clear HIN HO0 HB0
    go_wp2_with (first
      | (refine wp_letAll rfl 26 _ _ rfl (w.heap.size) rfl #[.int .i64 me, .int .i64 0, .int .i64 0, .int .i64 0, .int .u64 0, .int .i64 0, .int .i64 0] rfl (by kernel_rfl) (by simp [Value.oneCell']) #[.int .i64 0, .int .i64 0, .int .i64 0, .int .i64 0, .int .u64 0, .int .i64 0, .int .i64 0] 26 HOU.out rfl ?_)
      | fail)
    intro WF hUF
    have R0 : Hid (WF.cell? ⟨w.heap.size, 0, none⟩ = some (.int .i64 me)) := hUF.blk.cell 0
    have R1 : Hid (WF.cell? ⟨w.heap.size, 1, none⟩ = some (.int .i64 0)) := hUF.blk.cell 1
    have R2 : Hid (WF.cell? ⟨w.heap.size, 2, none⟩ = some (.int .i64 0)) := hUF.blk.cell 2
    have R3 : Hid (WF.cell? ⟨w.heap.size, 3, none⟩ = some (.int .i64 0)) := hUF.blk.cell 3
    have R4 : Hid (WF.cell? ⟨w.heap.size, 4, none⟩ = some (.int .u64 0)) := hUF.blk.cell 4
    have R5 : Hid (WF.cell? ⟨w.heap.size, 5, none⟩ = some (.int .i64 0)) := hUF.blk.cell 5
    have R6 : Hid (WF.cell? ⟨w.heap.size, 6, none⟩ = some (.int .i64 0)) := hUF.blk.cell 6
    have HB : Hid (Below w.heap.size w WF) := hUF.bel _ _ (by omega) HBE.out
    clear hUF HOU HBE
    go_wp2_with fail
    exact bodyPost_ret (v := .tuple #[.agg #[.int .i64 me, .int .i64 0, .int .i64 0, .int .i64 0, .int .u64 0, .int .i64 0, .int .i64 0], .int .i64 0]) (by simp [results, Try.results9, R0.out, R1.out, R2.out, R3.out, R4.out, R5.out, R6.out, go_sem]) rfl ⟨⟨me, 0, 0, 0, 0, 0, 0⟩, 0, rfl, HF.out, HB.out⟩
  · rw [decide_eq_false hm] at HIN
    have HBI : Hid (BeginIs me ⟨0, 0, 0, 0, 0, 0, 0⟩ 2) := BeginIs.range hm
    clear hm
    go_enter Try.func9, Try.ntmps9
    go_wp2_with fail
    refine (HIN.out _).mono ?_
    rintro e w1 ⟨rfl, rfl⟩
    have HOU : Hid (Blk (w.alloc (.cells #[.int .i64 0, .int .i64 0, .int .i64 0, .int .i64 0, .int .u64 0, .int .i64 0, .int .i64 0] 26)) (w.heap.size) #[.int .i64 0, .int .i64 0, .int .i64 0, .int .i64 0, .int .u64 0, .int .i64 0, .int .i64 0] 26) := HO0.out
    have HBE : Hid (Below w.heap.size w (w.alloc (.cells #[.int .i64 0, .int .i64 0, .int .i64 0, .int .i64 0, .int .u64 0, .int .i64 0, .int .i64 0] 26))) := HB0.out
    have HF : Hid (BeginIs me ⟨0, 0, 0, 0, 0, 0, 0⟩ 2) := HBI.out
    clear HIN HO0 HB0
    go_wp2_with (first
      | (refine wp_letAll rfl 26 _ _ rfl (w.heap.size) rfl #[.int .i64 0, .int .i64 0, .int .i64 0, .int .i64 0, .int .u64 0, .int .i64 0, .int .i64 0] rfl (by kernel_rfl) (by simp [Value.oneCell']) #[.int .i64 0, .int .i64 0, .int .i64 0, .int .i64 0, .int .u64 0, .int .i64 0, .int .i64 0] 26 HOU.out rfl ?_)
      | fail)
    intro WF hUF
    have R0 : Hid (WF.cell? ⟨w.heap.size, 0, none⟩ = some (.int .i64 0)) := hUF.blk.cell 0
    have R1 : Hid (WF.cell? ⟨w.heap.size, 1, none⟩ = some (.int .i64 0)) := hUF.blk.cell 1
    have R2 : Hid (WF.cell? ⟨w.heap.size, 2, none⟩ = some (.int .i64 0)) := hUF.blk.cell 2
    have R3 : Hid (WF.cell? ⟨w.heap.size, 3, none⟩ = some (.int .i64 0)) := hUF.blk.cell 3
    have R4 : Hid (WF.cell? ⟨w.heap.size, 4, none⟩ = some (.int .u64 0)) := hUF.blk.cell 4
    have R5 : Hid (WF.cell? ⟨w.heap.size, 5, none⟩ = some (.int .i64 0)) := hUF.blk.cell 5
    have R6 : Hid (WF.cell? ⟨w.heap.size, 6, none⟩ = some (.int .i64 0)) := hUF.blk.cell 6
    have HB : Hid (Below w.heap.size w WF) := hUF.bel _ _ (by omega) HBE.out
    clear hUF HOU HBE
    go_wp2_with fail
    exact bodyPost_ret (v := .tuple #[.agg #[.int .i64 0, .int .i64 0, .int .i64 0, .int .i64 0, .int .u64 0, .int .i64 0, .int .i64 0], .int .i64 2]) (by simp [results, Try.results9, R0.out, R1.out, R2.out, R3.out, R4.out, R5.out, R6.out, go_sem]) rfl ⟨⟨0, 0, 0, 0, 0, 0, 0⟩, 2, rfl, HF.out, HB.out⟩

/-- The boxes: the meter that came in, the one that goes out, empty as yet. -/
structure Bt (w wr : World) (m : Mt) : Prop where
  met : Blk wr w.heap.size m.cells 26
  out : Blk wr (w.heap.size + 1) #[.int .i64 0, .int .i64 0, .int .i64 0, .int .i64 0, .int .u64 0, .int .i64 0, .int .i64 0] 26
  bel : Below w.heap.size w wr
  size : w.heap.size + 2 ≤ wr.heap.size
theorem Bt.next {w wr w' : World} {m : Mt} (h : Bt w wr m) (hb : Below wr.heap.size wr w') : Bt w w' m := ⟨h.met.next hb, h.out.next hb, bel_step h.bel hb, Nat.le_trans h.size hb.size⟩
theorem Bt.alloc {w wr : World} {m : Mt} (h : Bt w wr m) (o : Obj) : Bt w (wr.alloc o) m := h.next ((Below.refl _ _).alloc (Nat.le_refl _) _)
theorem Bt.new (w : World) (m : Mt) : Bt w ((w.alloc (.cells m.cells 26)).alloc (.cells #[.int .i64 0, .int .i64 0, .int .i64 0, .int .i64 0, .int .u64 0, .int .i64 0, .int .i64 0] 26)) m :=
  ⟨(Blk.new w _ _).alloc _, Blk.new1 w _ _ _, ((Below.refl _ _).alloc (Nat.le_refl _) _).alloc (by simp) _, by simp⟩
theorem Bt.upd {w wr W : World} {m : Mt} {g : Nat} {cs : Array Value} {t : TypeId} (h : Bt w wr m) (hu : Upd wr W g cs t) (hg : w.heap.size + 2 ≤ g) : Bt w W m :=
  ⟨hu.keep h.met (by omega), hu.keep h.out (by omega), hu.bel _ _ (by omega) h.bel, by rw [hu.size]; exact h.size⟩

set_option maxHeartbeats 4000000 in
theorem ticked_any (m : Mt) (ld : Int) (w : World) (hb : m.b < 18446744073709551616) : Calls Try.prog 11 #[m.v, .int .i64 ld] w fun e w' => TickPost w m ld e w' := by
  have HB0 := Bt.new w m
  have HMM : Hid (∀ W, Calls Try.prog 20 #[m.v] W fun e w' => Told W m.may e w') := fun W => mmay_any m W hb
  have HIN : Hid (∀ W, Calls Try.prog 19 #[.int .i64 ld, .int .i64 0, .int .i64 1000] W fun e w' => e = .returned (.bool (decide (0 ≤ ld ∧ ld ≤ 1000))) ∧ w' = W) := fun W => in_told ld 0 1000 W
  clear hb
  obtain ⟨me, rev, cr, h, b, bad, lock⟩ := m
  unfold Mt.v at *
  unfold Mt.cells at *
  simp only [] at HB0 HMM ⊢
  have HI : Hid (Bt w ((w.alloc (.cells #[.int .i64 me, .int .i64 rev, .int .i64 cr, .int .i64 h, .int .u64 (b : Int), .int .i64 bad, .int .i64 lock] 26)).alloc (.cells #[.int .i64 0, .int .i64 0, .int .i64 0, .int .i64 0, .int .u64 0, .int .i64 0, .int .i64 0] 26)) ⟨me, rev, cr, h, b, bad, lock⟩) := HB0
  have HM0 : Hid (Blk ((w.alloc (.cells #[.int .i64 me, .int .i64 rev, .int .i64 cr, .int .i64 h, .int .u64 (b : Int), .int .i64 bad, .int .i64 lock] 26)).alloc (.cells #[.int .i64 0, .int .i64 0, .int .i64 0, .int .i64 0, .int .u64 0, .int .i64 0, .int .i64 0] 26)) w.heap.size #[.int .i64 me, .int .i64 rev, .int .i64 cr, .int .i64 h, .int .u64 (b : Int), .int .i64 bad, .int .i64 lock] 26) := HI.out.met
  clear HB0
  go_enter Try.func11, Try.ntmps11
  go_wp2_with (first
    | (refine wp_whole rfl 26 _ rfl w.heap.size rfl 26 #[.int .i64 me, .int .i64 rev, .int .i64 cr, .int .i64 h, .int .u64 (b : Int), .int .i64 bad, .int .i64 lock] _ HM0.out Try.underlying26 rfl (by kernel_rfl) ?_)
    | fail)
  refine (HMM.out _).mono ?_
  rintro e w1 ⟨r1, rfl, hr1, hb1⟩
  have HI1 : Hid (Bt w w1 ⟨me, rev, cr, h, b, bad, lock⟩) := HI.out.next hb1
  have HM1 : Hid (Blk w1 w.heap.size #[.int .i64 me, .int .i64 rev, .int .i64 cr, .int .i64 h, .int .u64 (b : Int), .int .i64 bad, .int .i64 lock] 26) := HI1.out.met
  clear hb1 HI HM0
  cases r1 with
  | false =>
    have HOU : Hid (Blk w1 (w.heap.size + 1) #[.int .i64 0, .int .i64 0, .int .i64 0, .int .i64 0, .int .u64 0, .int .i64 0, .int .i64 0] 26) := HI1.out.out
    have HBE : Hid (Below w.heap.size w w1) := HI1.out.bel
    have HF : Hid (TickIs ⟨me, rev, cr, h, b, bad, lock⟩ ld ⟨0, 0, 0, 0, 0, 0, 0⟩ 0 5) := TickIs.state fun hx => by have := hr1.2 hx; cases this
    clear hr1 HI1 HM1 HMM HIN
    go_wp2_with (first
      | (refine wp_letAll rfl 26 _ _ rfl (w.heap.size + 1) rfl #[.int .i64 0, .int .i64 0, .int .i64 0, .int .i64 0, .int .u64 0, .int .i64 0, .int .i64 0] rfl (by kernel_rfl) (by simp [Value.oneCell']) #[.int .i64 0, .int .i64 0, .int .i64 0, .int .i64 0, .int .u64 0, .int .i64 0, .int .i64 0] 26 HOU.out rfl ?_)
      | fail)
    intro WF hUF
    have R0 : Hid (WF.cell? ⟨w.heap.size + 1, 0, none⟩ = some (.int .i64 0)) := hUF.blk.cell 0
    have R1 : Hid (WF.cell? ⟨w.heap.size + 1, 1, none⟩ = some (.int .i64 0)) := hUF.blk.cell 1
    have R2 : Hid (WF.cell? ⟨w.heap.size + 1, 2, none⟩ = some (.int .i64 0)) := hUF.blk.cell 2
    have R3 : Hid (WF.cell? ⟨w.heap.size + 1, 3, none⟩ = some (.int .i64 0)) := hUF.blk.cell 3
    have R4 : Hid (WF.cell? ⟨w.heap.size + 1, 4, none⟩ = some (.int .u64 0)) := hUF.blk.cell 4
    have R5 : Hid (WF.cell? ⟨w.heap.size + 1, 5, none⟩ = some (.int .i64 0)) := hUF.blk.cell 5
    have R6 : Hid (WF.cell? ⟨w.heap.size + 1, 6, none⟩ = some (.int .i64 0)) := hUF.blk.cell 6
    have HB : Hid (Below w.heap.size w WF) := hUF.bel _ _ (by omega) HBE.out
    clear hUF HOU HBE
    go_wp2_with fail
    exact bodyPost_ret (v := .tuple #[.agg #[.int .i64 0, .int .i64 0, .int .i64 0, .int .i64 0, .int .u64 0, .int .i64 0, .int .i64 0], .int .i64 0, .int .i64 5]) (by simp [results, Try.results11, R0.out, R1.out, R2.out, R3.out, R4.out, R5.out, R6.out, go_sem]) rfl ⟨⟨0, 0, 0, 0, 0, 0, 0⟩, 0, 5, rfl, HF.out, HB.out⟩
  | true =>
    have HMY : Hid (Mt.may ⟨me, rev, cr, h, b, bad, lock⟩) := hr1.1 rfl
    clear hr1 HMM
    by_cases hl : 0 ≤ ld ∧ ld ≤ 1000
    · rw [decide_eq_true hl] at HIN
      have HOK : Hid (TickIs ⟨me, rev, cr, h, b, bad, lock⟩ ld (ticked ⟨me, rev, cr, h, b, bad, lock⟩ ld) (burnt ⟨me, rev, cr, h, b, bad, lock⟩ ld) 0) := TickIs.ok HMY.out hl
      have hcr := HMY.out.cr
      have hlo := HMY.out.lock
      simp only [] at hcr hlo
      obtain ⟨cr0, cr1⟩ := hcr
      obtain ⟨lo0, lo1⟩ := hlo
      obtain ⟨ld0, ld1⟩ := hl
      have HI2 : Hid (Bt w (w1.alloc (.cells #[.int .i64 me, .int .i64 rev, .int .i64 cr, .int .i64 h, .int .u64 (b : Int), .int .i64 bad, .int .i64 lock] 26)) ⟨me, rev, cr, h, b, bad, lock⟩) := HI1.out.alloc _
      have HG2 : Hid (Blk (w1.alloc (.cells #[.int .i64 me, .int .i64 rev, .int .i64 cr, .int .i64 h, .int .u64 (b : Int), .int .i64 bad, .int .i64 lock] 26)) w1.heap.size #[.int .i64 me, .int .i64 rev, .int .i64 cr, .int .i64 h, .int .u64 (b : Int), .int .i64 bad, .int .i64 lock] 26) := Blk.new _ _ _
      have HLT : Hid (w.heap.size + 2 ≤ w1.heap.size) := HI1.out.size
      have g6 : (w1.alloc (.cells #[.int .i64 me, .int .i64 rev, .int .i64 cr, .int .i64 h, .int .u64 (b : Int), .int .i64 bad, .int .i64 lock] 26)).cell? ⟨w1.heap.size, 6, none⟩ = some (.int .i64 lock) := HG2.out.cell 6
      clear HMY
      by_cases hlk : 0 < lock
      · have q1 : decide (0 < lock) = true := by simp [hlk]
        go_wp2_with fail
        refine (HIN.out _).mono ?_
        rintro e w2 ⟨rfl, rfl⟩
        go_wp2_with (first
          | (refine wp_whole rfl 26 _ rfl w.heap.size rfl 26 #[.int .i64 me, .int .i64 rev, .int .i64 cr, .int .i64 h, .int .u64 (b : Int), .int .i64 bad, .int .i64 lock] _ HM1.out Try.underlying26 rfl (by kernel_rfl) ?_)
          | (refine wp_let1 rfl 3 _ _ rfl w2.heap.size 6 rfl .i64 (lock - 1) rfl (by kernel_rfl) #[.int .i64 me, .int .i64 rev, .int .i64 cr, .int .i64 h, .int .u64 (b : Int), .int .i64 bad, .int .i64 lock] 26 HG2.out (by simp) ?_)
          | fail)
        intro W3 hU3
        have HI3 : Hid (Bt w W3 ⟨me, rev, cr, h, b, bad, lock⟩) := HI2.out.upd hU3 HLT.out
        have HG3 : Hid (Blk W3 w2.heap.size #[.int .i64 me, .int .i64 rev, .int .i64 cr, .int .i64 h, .int .u64 (b : Int), .int .i64 bad, .int .i64 (lock - 1)] 26) := hU3.blk
        clear hU3 g6 HI2 HG2 HI1 HM1 HIN
        generalize w2.heap.size = g at *
        have c2 : W3.cell? ⟨w.heap.size, 2, none⟩ = some (.int .i64 cr) := HI3.out.met.cell 2
        by_cases hcl : cr ≤ ld
        · have q2 : decide (cr ≤ ld) = true := by simp; omega
          have HTI : Hid (TickIs ⟨me, rev, cr, h, b, bad, lock⟩ ld ⟨me, rev, 0, h, b, bad, lock - 1⟩ cr 0) := by
            have := HOK.out
            rw [ticked, burnt] at this
            simp only [if_pos hcl, if_pos hlk] at this
            exact this
          clear hcl
          go_wp2_with (first
            | (refine wp_let1 rfl 3 _ _ rfl g 2 rfl .i64 0 rfl (by kernel_rfl) #[.int .i64 me, .int .i64 rev, .int .i64 cr, .int .i64 h, .int .u64 (b : Int), .int .i64 bad, .int .i64 (lock - 1)] 26 HG3.out (by simp) ?_)
            | fail)
          intro WE hUE
          have HIE : Hid (Bt w WE ⟨me, rev, cr, h, b, bad, lock⟩) := HI3.out.upd hUE HLT.out
          have HGE : Hid (Blk WE (g) #[.int .i64 me, .int .i64 rev, .int .i64 0, .int .i64 h, .int .u64 (b : Int), .int .i64 bad, .int .i64 (lock - 1)] 26) := hUE.blk
          clear hUE c2 HG3 HI3
          have e2 : WE.cell? ⟨w.heap.size, 2, none⟩ = some (.int .i64 cr) := HIE.out.met.cell 2
          go_wp2_with fail
          refine wp_region_held_drew (S := (fun v => Blk v g #[.int .i64 me, .int .i64 rev, .int .i64 0, .int .i64 h, .int .u64 (b : Int), .int .i64 bad, .int .i64 (lock - 1)] 26 ∧ Blk v w.heap.size #[.int .i64 me, .int .i64 rev, .int .i64 cr, .int .i64 h, .int .u64 (b : Int), .int .i64 bad, .int .i64 lock] 26)) (by kernel_rfl) ⟨HGE.out, HIE.out.met⟩ (fun hHeld => ?_)
          refine take_at 0 29 _ _ rfl rfl (by kernel_rfl) (by kernel_rfl) (by kernel_rfl) (fun _ _ _ h => h) (yieldsIf_whole (by rfl) 26 _ rfl g rfl 26 #[.int .i64 me, .int .i64 rev, .int .i64 0, .int .i64 h, .int .u64 (b : Int), .int .i64 bad, .int .i64 (lock - 1)] _ (fun v hv => hv.1) Try.underlying26 rfl (by kernel_rfl)) hHeld ?_
          simp only [Act.put, List.setIfInBounds_toArray, List.set_cons_zero, List.set_cons_succ]
          refine take_at 1 30 (.pointer (some ⟨w.heap.size, 2, none⟩)) _ rfl rfl (by kernel_rfl) (by kernel_rfl) (by kernel_rfl) (fun _ _ _ h => h) (Or.inl ⟨by rfl, fun v hv => by go_simp⟩) hHeld ?_
          simp only [Act.put, List.setIfInBounds_toArray, List.set_cons_zero, List.set_cons_succ]
          refine take_at 2 31 (.int .i64 cr) _ rfl rfl (by kernel_rfl) (by kernel_rfl) (by kernel_rfl) (fun _ _ _ h => h) (Or.inl ⟨by rfl, fun v hv => by have h2 : v.cell? ⟨w.heap.size, 2, none⟩ = some (.int .i64 cr) := hv.2.cell 2; clear hv; go_simp⟩) hHeld ?_
          simp only [Act.put, List.setIfInBounds_toArray, List.set_cons_zero, List.set_cons_succ]
          refine wpAnyH_ready (rs := [3]) (by kernel_rfl) (by simp) (AllReadyH.cons rfl (fun K hK => ?_) AllReadyH.nil)
          rw [if_pos (by rfl)]
          refine wp_letOp 26 _ _ rfl (w.heap.size + 1) rfl #[.int .i64 me, .int .i64 rev, .int .i64 0, .int .i64 h, .int .u64 (b : Int), .int .i64 bad, .int .i64 (lock - 1)] rfl (by kernel_rfl) (by simp [Value.oneCell']) #[.int .i64 0, .int .i64 0, .int .i64 0, .int .i64 0, .int .u64 0, .int .i64 0, .int .i64 0] 26 (Blk.drew HIE.out.out 1) rfl rfl ?_
          intro WZ hUZ
          have hlt := HLT.out
          refine hK.out _ _ ⟨hUZ.keep (Blk.drew HGE.out 1) (by omega), hUZ.keep (Blk.drew HIE.out.met 1) (by omega)⟩ (fun hHeld => ?_)
          refine take_at 4 5 (.int .i64 cr) _ rfl rfl (by kernel_rfl) (by kernel_rfl) (by kernel_rfl) (fun _ _ _ h => h) (Or.inl ⟨by rfl, fun v hv => by go_simp⟩) hHeld ?_
          simp only [Act.put, List.setIfInBounds_toArray, List.set_cons_zero, List.set_cons_succ]
          refine take_at 5 6 (.int .i64 0) _ rfl rfl (by kernel_rfl) (by kernel_rfl) (by kernel_rfl) (fun _ _ _ h => h) (Or.inl ⟨by rfl, fun v hv => by go_simp⟩) hHeld ?_
          simp only [Act.put, List.setIfInBounds_toArray, List.set_cons_zero, List.set_cons_succ]
          refine wpAnyH_done (by kernel_rfl) ?_ _
          have R0 : Hid (WZ.cell? ⟨w.heap.size + 1, 0, none⟩ = some (.int .i64 me)) := hUZ.blk.cell 0
          have R1 : Hid (WZ.cell? ⟨w.heap.size + 1, 1, none⟩ = some (.int .i64 rev)) := hUZ.blk.cell 1
          have R2 : Hid (WZ.cell? ⟨w.heap.size + 1, 2, none⟩ = some (.int .i64 0)) := hUZ.blk.cell 2
          have R3 : Hid (WZ.cell? ⟨w.heap.size + 1, 3, none⟩ = some (.int .i64 h)) := hUZ.blk.cell 3
          have R4 : Hid (WZ.cell? ⟨w.heap.size + 1, 4, none⟩ = some (.int .u64 (b : Int))) := hUZ.blk.cell 4
          have R5 : Hid (WZ.cell? ⟨w.heap.size + 1, 5, none⟩ = some (.int .i64 bad)) := hUZ.blk.cell 5
          have R6 : Hid (WZ.cell? ⟨w.heap.size + 1, 6, none⟩ = some (.int .i64 (lock - 1))) := hUZ.blk.cell 6
          have HB : Hid (Below w.heap.size w WZ) := hUZ.bel _ _ (by omega) (bel_drew HIE.out.bel 1)
          clear hUZ HIE HGE hlt hHeld hK
          go_wp2_with fail
          exact bodyPost_ret (v := .tuple #[.agg #[.int .i64 me, .int .i64 rev, .int .i64 0, .int .i64 h, .int .u64 (b : Int), .int .i64 bad, .int .i64 (lock - 1)], .int .i64 cr, .int .i64 0]) (by simp [results, Try.results11, R0.out, R1.out, R2.out, R3.out, R4.out, R5.out, R6.out, go_sem]) rfl ⟨⟨me, rev, 0, h, b, bad, lock - 1⟩, cr, 0, rfl, HTI.out, HB.out⟩
        · have q2 : decide (cr ≤ ld) = false := by simp; omega
          have HTI : Hid (TickIs ⟨me, rev, cr, h, b, bad, lock⟩ ld ⟨me, rev, cr - ld, h, b, bad, lock - 1⟩ ld 0) := by
            have := HOK.out
            rw [ticked, burnt] at this
            simp only [if_neg hcl, if_pos hlk] at this
            exact this
          clear hcl
          go_wp2_with (first
            | (refine wp_let1 rfl 3 _ _ rfl g 2 rfl .i64 (cr - ld) rfl (by kernel_rfl) #[.int .i64 me, .int .i64 rev, .int .i64 cr, .int .i64 h, .int .u64 (b : Int), .int .i64 bad, .int .i64 (lock - 1)] 26 HG3.out (by simp) ?_)
            | fail)
          intro WE hUE
          have HIE : Hid (Bt w WE ⟨me, rev, cr, h, b, bad, lock⟩) := HI3.out.upd hUE HLT.out
          have HGE : Hid (Blk WE (g) #[.int .i64 me, .int .i64 rev, .int .i64 (cr - ld), .int .i64 h, .int .u64 (b : Int), .int .i64 bad, .int .i64 (lock - 1)] 26) := hUE.blk
          clear hUE c2 HG3 HI3
          have e2 : WE.cell? ⟨w.heap.size, 2, none⟩ = some (.int .i64 cr) := HIE.out.met.cell 2
          have HOU : Hid (Blk WE (w.heap.size + 1) #[.int .i64 0, .int .i64 0, .int .i64 0, .int .i64 0, .int .u64 0, .int .i64 0, .int .i64 0] 26) := HIE.out.out
          have HBE : Hid (Below w.heap.size w WE) := HIE.out.bel
          have HF : Hid (TickIs ⟨me, rev, cr, h, b, bad, lock⟩ ld ⟨me, rev, cr - ld, h, b, bad, lock - 1⟩ ld 0) := HTI.out
          clear HIE HTI HOK
          go_wp2_with (first
            | (refine wp_whole rfl 26 _ rfl g rfl 26 #[.int .i64 me, .int .i64 rev, .int .i64 (cr - ld), .int .i64 h, .int .u64 (b : Int), .int .i64 bad, .int .i64 (lock - 1)] _ HGE.out Try.underlying26 rfl (by kernel_rfl) ?_)
            | (refine wp_letAll rfl 26 _ _ rfl (w.heap.size + 1) rfl #[.int .i64 me, .int .i64 rev, .int .i64 (cr - ld), .int .i64 h, .int .u64 (b : Int), .int .i64 bad, .int .i64 (lock - 1)] rfl (by kernel_rfl) (by simp [Value.oneCell']) #[.int .i64 0, .int .i64 0, .int .i64 0, .int .i64 0, .int .u64 0, .int .i64 0, .int .i64 0] 26 HOU.out rfl ?_)
            | fail)
          intro WF hUF
          have R0 : Hid (WF.cell? ⟨w.heap.size + 1, 0, none⟩ = some (.int .i64 me)) := hUF.blk.cell 0
          have R1 : Hid (WF.cell? ⟨w.heap.size + 1, 1, none⟩ = some (.int .i64 rev)) := hUF.blk.cell 1
          have R2 : Hid (WF.cell? ⟨w.heap.size + 1, 2, none⟩ = some (.int .i64 (cr - ld))) := hUF.blk.cell 2
          have R3 : Hid (WF.cell? ⟨w.heap.size + 1, 3, none⟩ = some (.int .i64 h)) := hUF.blk.cell 3
          have R4 : Hid (WF.cell? ⟨w.heap.size + 1, 4, none⟩ = some (.int .u64 (b : Int))) := hUF.blk.cell 4
          have R5 : Hid (WF.cell? ⟨w.heap.size + 1, 5, none⟩ = some (.int .i64 bad)) := hUF.blk.cell 5
          have R6 : Hid (WF.cell? ⟨w.heap.size + 1, 6, none⟩ = some (.int .i64 (lock - 1))) := hUF.blk.cell 6
          have HB : Hid (Below w.heap.size w WF) := hUF.bel _ _ (by omega) HBE.out
          clear hUF HOU HBE
          go_wp2_with fail
          exact bodyPost_ret (v := .tuple #[.agg #[.int .i64 me, .int .i64 rev, .int .i64 (cr - ld), .int .i64 h, .int .u64 (b : Int), .int .i64 bad, .int .i64 (lock - 1)], .int .i64 ld, .int .i64 0]) (by simp [results, Try.results11, R0.out, R1.out, R2.out, R3.out, R4.out, R5.out, R6.out, go_sem]) rfl ⟨⟨me, rev, cr - ld, h, b, bad, lock - 1⟩, ld, 0, rfl, HF.out, HB.out⟩
      · have q1 : decide (0 < lock) = false := by simp; omega
        have c2 : (w1.alloc (.cells #[.int .i64 me, .int .i64 rev, .int .i64 cr, .int .i64 h, .int .u64 (b : Int), .int .i64 bad, .int .i64 lock] 26)).cell? ⟨w.heap.size, 2, none⟩ = some (.int .i64 cr) := HI2.out.met.cell 2
        by_cases hcl : cr ≤ ld
        · have q2 : decide (cr ≤ ld) = true := by simp; omega
          have HTI : Hid (TickIs ⟨me, rev, cr, h, b, bad, lock⟩ ld ⟨me, rev, 0, h, b, bad, lock⟩ cr 0) := by
            have := HOK.out
            rw [ticked, burnt] at this
            simp only [if_pos hcl, if_neg (show ¬ 0 < lock by omega)] at this
            exact this
          clear hcl
          go_wp2_with fail
          refine (HIN.out _).mono ?_
          rintro e w2 ⟨rfl, rfl⟩
          go_wp2_with (first
            | (refine wp_whole rfl 26 _ rfl w.heap.size rfl 26 #[.int .i64 me, .int .i64 rev, .int .i64 cr, .int .i64 h, .int .u64 (b : Int), .int .i64 bad, .int .i64 lock] _ HM1.out Try.underlying26 rfl (by kernel_rfl) ?_)
            | (refine wp_let1 rfl 3 _ _ rfl w2.heap.size 2 rfl .i64 0 rfl (by kernel_rfl) #[.int .i64 me, .int .i64 rev, .int .i64 cr, .int .i64 h, .int .u64 (b : Int), .int .i64 bad, .int .i64 lock] 26 HG2.out (by simp) ?_)
            | fail)
          intro WE hUE
          have HIE : Hid (Bt w WE ⟨me, rev, cr, h, b, bad, lock⟩) := HI2.out.upd hUE HLT.out
          have HGE : Hid (Blk WE (w2.heap.size) #[.int .i64 me, .int .i64 rev, .int .i64 0, .int .i64 h, .int .u64 (b : Int), .int .i64 bad, .int .i64 lock] 26) := hUE.blk
          clear hUE c2 HG2 HI2
          clear HI1 HM1 HIN g6
          generalize w2.heap.size = g at *
          have e2 : WE.cell? ⟨w.heap.size, 2, none⟩ = some (.int .i64 cr) := HIE.out.met.cell 2
          go_wp2_with fail
          refine wp_region_held_drew (S := (fun v => Blk v g #[.int .i64 me, .int .i64 rev, .int .i64 0, .int .i64 h, .int .u64 (b : Int), .int .i64 bad, .int .i64 lock] 26 ∧ Blk v w.heap.size #[.int .i64 me, .int .i64 rev, .int .i64 cr, .int .i64 h, .int .u64 (b : Int), .int .i64 bad, .int .i64 lock] 26)) (by kernel_rfl) ⟨HGE.out, HIE.out.met⟩ (fun hHeld => ?_)
          refine take_at 0 29 _ _ rfl rfl (by kernel_rfl) (by kernel_rfl) (by kernel_rfl) (fun _ _ _ h => h) (yieldsIf_whole (by rfl) 26 _ rfl g rfl 26 #[.int .i64 me, .int .i64 rev, .int .i64 0, .int .i64 h, .int .u64 (b : Int), .int .i64 bad, .int .i64 lock] _ (fun v hv => hv.1) Try.underlying26 rfl (by kernel_rfl)) hHeld ?_
          simp only [Act.put, List.setIfInBounds_toArray, List.set_cons_zero, List.set_cons_succ]
          refine take_at 1 30 (.pointer (some ⟨w.heap.size, 2, none⟩)) _ rfl rfl (by kernel_rfl) (by kernel_rfl) (by kernel_rfl) (fun _ _ _ h => h) (Or.inl ⟨by rfl, fun v hv => by go_simp⟩) hHeld ?_
          simp only [Act.put, List.setIfInBounds_toArray, List.set_cons_zero, List.set_cons_succ]
          refine take_at 2 31 (.int .i64 cr) _ rfl rfl (by kernel_rfl) (by kernel_rfl) (by kernel_rfl) (fun _ _ _ h => h) (Or.inl ⟨by rfl, fun v hv => by have h2 : v.cell? ⟨w.heap.size, 2, none⟩ = some (.int .i64 cr) := hv.2.cell 2; clear hv; go_simp⟩) hHeld ?_
          simp only [Act.put, List.setIfInBounds_toArray, List.set_cons_zero, List.set_cons_succ]
          refine wpAnyH_ready (rs := [3]) (by kernel_rfl) (by simp) (AllReadyH.cons rfl (fun K hK => ?_) AllReadyH.nil)
          rw [if_pos (by rfl)]
          refine wp_letOp 26 _ _ rfl (w.heap.size + 1) rfl #[.int .i64 me, .int .i64 rev, .int .i64 0, .int .i64 h, .int .u64 (b : Int), .int .i64 bad, .int .i64 lock] rfl (by kernel_rfl) (by simp [Value.oneCell']) #[.int .i64 0, .int .i64 0, .int .i64 0, .int .i64 0, .int .u64 0, .int .i64 0, .int .i64 0] 26 (Blk.drew HIE.out.out 1) rfl rfl ?_
          intro WZ hUZ
          have hlt := HLT.out
          refine hK.out _ _ ⟨hUZ.keep (Blk.drew HGE.out 1) (by omega), hUZ.keep (Blk.drew HIE.out.met 1) (by omega)⟩ (fun hHeld => ?_)
          refine take_at 4 5 (.int .i64 cr) _ rfl rfl (by kernel_rfl) (by kernel_rfl) (by kernel_rfl) (fun _ _ _ h => h) (Or.inl ⟨by rfl, fun v hv => by go_simp⟩) hHeld ?_
          simp only [Act.put, List.setIfInBounds_toArray, List.set_cons_zero, List.set_cons_succ]
          refine take_at 5 6 (.int .i64 0) _ rfl rfl (by kernel_rfl) (by kernel_rfl) (by kernel_rfl) (fun _ _ _ h => h) (Or.inl ⟨by rfl, fun v hv => by go_simp⟩) hHeld ?_
          simp only [Act.put, List.setIfInBounds_toArray, List.set_cons_zero, List.set_cons_succ]
          refine wpAnyH_done (by kernel_rfl) ?_ _
          have R0 : Hid (WZ.cell? ⟨w.heap.size + 1, 0, none⟩ = some (.int .i64 me)) := hUZ.blk.cell 0
          have R1 : Hid (WZ.cell? ⟨w.heap.size + 1, 1, none⟩ = some (.int .i64 rev)) := hUZ.blk.cell 1
          have R2 : Hid (WZ.cell? ⟨w.heap.size + 1, 2, none⟩ = some (.int .i64 0)) := hUZ.blk.cell 2
          have R3 : Hid (WZ.cell? ⟨w.heap.size + 1, 3, none⟩ = some (.int .i64 h)) := hUZ.blk.cell 3
          have R4 : Hid (WZ.cell? ⟨w.heap.size + 1, 4, none⟩ = some (.int .u64 (b : Int))) := hUZ.blk.cell 4
          have R5 : Hid (WZ.cell? ⟨w.heap.size + 1, 5, none⟩ = some (.int .i64 bad)) := hUZ.blk.cell 5
          have R6 : Hid (WZ.cell? ⟨w.heap.size + 1, 6, none⟩ = some (.int .i64 lock)) := hUZ.blk.cell 6
          have HB : Hid (Below w.heap.size w WZ) := hUZ.bel _ _ (by omega) (bel_drew HIE.out.bel 1)
          clear hUZ HIE HGE hlt hHeld hK
          go_wp2_with fail
          exact bodyPost_ret (v := .tuple #[.agg #[.int .i64 me, .int .i64 rev, .int .i64 0, .int .i64 h, .int .u64 (b : Int), .int .i64 bad, .int .i64 lock], .int .i64 cr, .int .i64 0]) (by simp [results, Try.results11, R0.out, R1.out, R2.out, R3.out, R4.out, R5.out, R6.out, go_sem]) rfl ⟨⟨me, rev, 0, h, b, bad, lock⟩, cr, 0, rfl, HTI.out, HB.out⟩
        · have q2 : decide (cr ≤ ld) = false := by simp; omega
          have HTI : Hid (TickIs ⟨me, rev, cr, h, b, bad, lock⟩ ld ⟨me, rev, cr - ld, h, b, bad, lock⟩ ld 0) := by
            have := HOK.out
            rw [ticked, burnt] at this
            simp only [if_neg hcl, if_neg (show ¬ 0 < lock by omega)] at this
            exact this
          clear hcl
          go_wp2_with fail
          refine (HIN.out _).mono ?_
          rintro e w2 ⟨rfl, rfl⟩
          go_wp2_with (first
            | (refine wp_whole rfl 26 _ rfl w.heap.size rfl 26 #[.int .i64 me, .int .i64 rev, .int .i64 cr, .int .i64 h, .int .u64 (b : Int), .int .i64 bad, .int .i64 lock] _ HM1.out Try.underlying26 rfl (by kernel_rfl) ?_)
            | (refine wp_let1 rfl 3 _ _ rfl w2.heap.size 2 rfl .i64 (cr - ld) rfl (by kernel_rfl) #[.int .i64 me, .int .i64 rev, .int .i64 cr, .int .i64 h, .int .u64 (b : Int), .int .i64 bad, .int .i64 lock] 26 HG2.out (by simp) ?_)
            | fail)
          intro WE hUE
          have HIE : Hid (Bt w WE ⟨me, rev, cr, h, b, bad, lock⟩) := HI2.out.upd hUE HLT.out
          have HGE : Hid (Blk WE (w2.heap.size) #[.int .i64 me, .int .i64 rev, .int .i64 (cr - ld), .int .i64 h, .int .u64 (b : Int), .int .i64 bad, .int .i64 lock] 26) := hUE.blk
          clear hUE c2 HG2 HI2
          clear HI1 HM1 HIN g6
          generalize w2.heap.size = g at *
          have e2 : WE.cell? ⟨w.heap.size, 2, none⟩ = some (.int .i64 cr) := HIE.out.met.cell 2
          have HOU : Hid (Blk WE (w.heap.size + 1) #[.int .i64 0, .int .i64 0, .int .i64 0, .int .i64 0, .int .u64 0, .int .i64 0, .int .i64 0] 26) := HIE.out.out
          have HBE : Hid (Below w.heap.size w WE) := HIE.out.bel
          have HF : Hid (TickIs ⟨me, rev, cr, h, b, bad, lock⟩ ld ⟨me, rev, cr - ld, h, b, bad, lock⟩ ld 0) := HTI.out
          clear HIE HTI HOK
          go_wp2_with (first
            | (refine wp_whole rfl 26 _ rfl g rfl 26 #[.int .i64 me, .int .i64 rev, .int .i64 (cr - ld), .int .i64 h, .int .u64 (b : Int), .int .i64 bad, .int .i64 lock] _ HGE.out Try.underlying26 rfl (by kernel_rfl) ?_)
            | (refine wp_letAll rfl 26 _ _ rfl (w.heap.size + 1) rfl #[.int .i64 me, .int .i64 rev, .int .i64 (cr - ld), .int .i64 h, .int .u64 (b : Int), .int .i64 bad, .int .i64 lock] rfl (by kernel_rfl) (by simp [Value.oneCell']) #[.int .i64 0, .int .i64 0, .int .i64 0, .int .i64 0, .int .u64 0, .int .i64 0, .int .i64 0] 26 HOU.out rfl ?_)
            | fail)
          intro WF hUF
          have R0 : Hid (WF.cell? ⟨w.heap.size + 1, 0, none⟩ = some (.int .i64 me)) := hUF.blk.cell 0
          have R1 : Hid (WF.cell? ⟨w.heap.size + 1, 1, none⟩ = some (.int .i64 rev)) := hUF.blk.cell 1
          have R2 : Hid (WF.cell? ⟨w.heap.size + 1, 2, none⟩ = some (.int .i64 (cr - ld))) := hUF.blk.cell 2
          have R3 : Hid (WF.cell? ⟨w.heap.size + 1, 3, none⟩ = some (.int .i64 h)) := hUF.blk.cell 3
          have R4 : Hid (WF.cell? ⟨w.heap.size + 1, 4, none⟩ = some (.int .u64 (b : Int))) := hUF.blk.cell 4
          have R5 : Hid (WF.cell? ⟨w.heap.size + 1, 5, none⟩ = some (.int .i64 bad)) := hUF.blk.cell 5
          have R6 : Hid (WF.cell? ⟨w.heap.size + 1, 6, none⟩ = some (.int .i64 lock)) := hUF.blk.cell 6
          have HB : Hid (Below w.heap.size w WF) := hUF.bel _ _ (by omega) HBE.out
          clear hUF HOU HBE
          go_wp2_with fail
          exact bodyPost_ret (v := .tuple #[.agg #[.int .i64 me, .int .i64 rev, .int .i64 (cr - ld), .int .i64 h, .int .u64 (b : Int), .int .i64 bad, .int .i64 lock], .int .i64 ld, .int .i64 0]) (by simp [results, Try.results11, R0.out, R1.out, R2.out, R3.out, R4.out, R5.out, R6.out, go_sem]) rfl ⟨⟨me, rev, cr - ld, h, b, bad, lock⟩, ld, 0, rfl, HF.out, HB.out⟩
    · rw [decide_eq_false hl] at HIN
      have HTI : Hid (TickIs ⟨me, rev, cr, h, b, bad, lock⟩ ld ⟨me, rev, cr, h, b, bad, lock⟩ 0 2) := TickIs.range HMY.out hl
      clear hl HMY
      go_wp2_with fail
      refine (HIN.out _).mono ?_
      rintro e w2 ⟨rfl, rfl⟩
      have HOU : Hid (Blk w2 (w.heap.size + 1) #[.int .i64 0, .int .i64 0, .int .i64 0, .int .i64 0, .int .u64 0, .int .i64 0, .int .i64 0] 26) := HI1.out.out
      have HBE : Hid (Below w.heap.size w w2) := HI1.out.bel
      have HF : Hid (TickIs ⟨me, rev, cr, h, b, bad, lock⟩ ld ⟨me, rev, cr, h, b, bad, lock⟩ 0 2) := HTI.out
      clear HI1 HTI HIN
      go_wp2_with (first
        | (refine wp_whole rfl 26 _ rfl w.heap.size rfl 26 #[.int .i64 me, .int .i64 rev, .int .i64 cr, .int .i64 h, .int .u64 (b : Int), .int .i64 bad, .int .i64 lock] _ HM1.out Try.underlying26 rfl (by kernel_rfl) ?_)
        | (refine wp_letAll rfl 26 _ _ rfl (w.heap.size + 1) rfl #[.int .i64 me, .int .i64 rev, .int .i64 cr, .int .i64 h, .int .u64 (b : Int), .int .i64 bad, .int .i64 lock] rfl (by kernel_rfl) (by simp [Value.oneCell']) #[.int .i64 0, .int .i64 0, .int .i64 0, .int .i64 0, .int .u64 0, .int .i64 0, .int .i64 0] 26 HOU.out rfl ?_)
        | fail)
      intro WF hUF
      have R0 : Hid (WF.cell? ⟨w.heap.size + 1, 0, none⟩ = some (.int .i64 me)) := hUF.blk.cell 0
      have R1 : Hid (WF.cell? ⟨w.heap.size + 1, 1, none⟩ = some (.int .i64 rev)) := hUF.blk.cell 1
      have R2 : Hid (WF.cell? ⟨w.heap.size + 1, 2, none⟩ = some (.int .i64 cr)) := hUF.blk.cell 2
      have R3 : Hid (WF.cell? ⟨w.heap.size + 1, 3, none⟩ = some (.int .i64 h)) := hUF.blk.cell 3
      have R4 : Hid (WF.cell? ⟨w.heap.size + 1, 4, none⟩ = some (.int .u64 (b : Int))) := hUF.blk.cell 4
      have R5 : Hid (WF.cell? ⟨w.heap.size + 1, 5, none⟩ = some (.int .i64 bad)) := hUF.blk.cell 5
      have R6 : Hid (WF.cell? ⟨w.heap.size + 1, 6, none⟩ = some (.int .i64 lock)) := hUF.blk.cell 6
      have HB : Hid (Below w.heap.size w WF) := hUF.bel _ _ (by omega) HBE.out
      clear hUF HOU HBE
      go_wp2_with fail
      exact bodyPost_ret (v := .tuple #[.agg #[.int .i64 me, .int .i64 rev, .int .i64 cr, .int .i64 h, .int .u64 (b : Int), .int .i64 bad, .int .i64 lock], .int .i64 0, .int .i64 2]) (by simp [results, Try.results11, R0.out, R1.out, R2.out, R3.out, R4.out, R5.out, R6.out, go_sem]) rfl ⟨⟨me, rev, cr, h, b, bad, lock⟩, 0, 2, rfl, HF.out, HB.out⟩

end Go.Proofs.Ytmpapnblpjnlmaa.met
