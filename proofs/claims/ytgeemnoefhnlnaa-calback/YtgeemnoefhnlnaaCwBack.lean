/- Each day has one date, each date one day. -/
import Derived.Test.YtgeemnoefhnlnaaKaDay
import Derived.Test.YtgeemnoefhnlnaaKaDate
import Derived.Test.YtgeemnoefhnlnaaCkPick
import Derived.Test.YtgeemnoefhnlnaaCaWf
import Derived.Test.YtgeemnoefhnlnaaLetG
namespace Go.Proofs.Ytgeemnoefhnlnaa.cal
open Go.RowKit Go.Proofs.Ytgeemnoefhnlnaa.check
set_option maxRecDepth 100000
set_option linter.unusedVariables false
set_option linter.unusedSimpArgs false

set_option maxHeartbeats 1000000 in
theorem back_walk (K1 : KaDay) (K2 : KaDate) (x : Int) (w : World) (hx : (Lit.int .i64 x).wf = true) : Calls Try.prog 8 #[.int .i64 x] w fun e w' => e = .returned (.bool true) ∧ Below w.heap.size w w' := by
  have hp := pick_toNat x 73049 (by decide)
  have HP : Hid (∀ W, Calls Try.prog 19 #[.int .i64 x, .int .i64 73049] W fun e w' => e = .returned (.int .i64 (((pick x ((73049 : Nat) : Int)).toNat : Nat) : Int)) ∧ w' = W) := fun W => picked_nat x 73049 W hx (by decide) (by decide)
  generalize (pick x ((73049 : Nat) : Int)).toNat = n at *
  have HD : Hid (∀ W, Calls Try.prog 11 #[.int .i64 (n : Int)] W fun e w' => ∃ y m d, e = .returned (.tuple #[.agg #[.int .i64 y, .int .i64 m, .int .i64 d], .int .i64 0]) ∧ DateIs (n : Int) y m d 0 ∧ Below W.heap.size W w') := fun W => (K2 W (n : Int) (wf_in (by omega) (by omega))).mono fun e w' ⟨y, m, d, f, he, hi, hb⟩ => by
    rcases hi with ⟨h1, h2, rfl⟩ | ⟨h1, _⟩
    · exact ⟨y, m, d, he, .inl ⟨h1, h2, rfl⟩, hb⟩
    · exact absurd ⟨by omega, by omega⟩ h1
  have HB : Hid (∀ W y m d, DateIs (n : Int) y m d 0 → Calls Try.prog 9 #[.agg #[.int .i64 y, .int .i64 m, .int .i64 d]] W fun e w' => e = .returned (.tuple #[.int .i64 (n : Int), .int .i64 0]) ∧ Below W.heap.size W w') := fun W y m d hi => by
    have hb := date_back hi
    have hv : Valid y m d := by
      rcases hb with ⟨h, _⟩ | ⟨_, _, e⟩
      · exact h
      · exact absurd e (by decide)
    have hl := ml_bd y m
    refine (K1 W y m d (wf_in (by have := hv.1; omega) (by have := hv.1; omega)) (wf_in (by have := hv.2.1; omega) (by have := hv.2.1; omega)) (wf_in (by have := hv.2.2; omega) (by have := hv.2.2; omega))).mono ?_
    rintro e w' ⟨x, f, rfl, h, hbb⟩
    obtain ⟨rfl, rfl⟩ := h.one hb
    exact ⟨rfl, hbb⟩
  clear K1 K2 hx hp
  have H0B : Hid (Below w.heap.size w w) := Below.refl _ _
  go_enter Try.func8, Try.ntmps8
  go_wp2_with fail
  refine (HP.out _).mono ?_
  rintro e w0 ⟨rfl, hw0⟩
  have hw1 := hw0.symm
  subst hw1
  clear hw0
  go_wp2_with fail
  refine (HD.out _).mono ?_
  rintro e w1 ⟨y1, m1, d1, rfl, hi1, hb1⟩
  have H1B : Hid (Below w.heap.size w w1) := bel_step H0B.out hb1
  have HI : Hid (DateIs (n : Int) y1 m1 d1 0) := hi1
  have H2a : Hid (Blk (w1.alloc (.cells #[.int .i64 y1, .int .i64 m1, .int .i64 d1] 23)) (w1.heap.size) #[.int .i64 y1, .int .i64 m1, .int .i64 d1] 23) := (Blk.new w1 _ _)
  have H2B : Hid (Below w.heap.size w (w1.alloc (.cells #[.int .i64 y1, .int .i64 m1, .int .i64 d1] 23))) := (H1B.out).alloc (Nat.le_trans H1B.out.size (by simp)) _
  have L20 : Hid (w.heap.size ≤ w1.heap.size) := H1B.out.size
  clear H0B H1B hb1 hi1 HD
  go_wp2_with (first
    | (refine wp_whole rfl 23 _ rfl (w1.heap.size) rfl 23 #[.int .i64 y1, .int .i64 m1, .int .i64 d1] _ H2a.out Try.underlying23 rfl (by kernel_rfl) ?_)
    | (refine wp_wholeG (by rfl) 23 _ rfl (w1.heap.size) rfl 23 #[.int .i64 y1, .int .i64 m1, .int .i64 d1] _ H2a.out Try.underlying23 rfl (by kernel_rfl) ?_)
    | fail)
  refine (HB.out _ _ _ _ HI.out).mono ?_
  rintro e w2 ⟨rfl, hb2⟩
  have H3a : Hid (Blk w2 (w1.heap.size) #[.int .i64 y1, .int .i64 m1, .int .i64 d1] 23) := H2a.out.next hb2
  have H3B : Hid (Below w.heap.size w w2) := bel_step H2B.out hb2
  clear H2a H2B hb2 HB
  have e1 : ((n : Int) == (n : Int)) = true := by simp
  go_wp2_with fail
  go_ret
  exact ⟨rfl, H3B.out⟩

end Go.Proofs.Ytgeemnoefhnlnaa.cal
