/- A meter at work: a bad try, and the deeds of tokens. -/
import Derived.Test.YtgipkpkjoicehabDoorMpC
namespace Go.Proofs.YtgipkpkjoicehabDoor.met
open Go.RowKit
set_option maxRecDepth 100000
set_option linter.unusedVariables false
set_option linter.unusedSimpArgs false

/-- What a deed gives. -/
def Deed (w : World) (g : Nat) (m : Mt) (no : Prop) (f x : Int) (m' : Mt) (e : Ending) (w' : World) : Prop :=
  Chg w w' g ∧ ((no ∧ e = .returned (.tuple #[.int .i64 0, .int .i64 f]) ∧ Wk w' g m) ∨ (¬ no ∧ e = .returned (.tuple #[.int .i64 x, .int .i64 0]) ∧ Wk w' g m'))
set_option maxHeartbeats 1000000 in
theorem pbad (g : Nat) (m : Mt) (w : World) (hw : Wk w g m) (h0 : 0 ≤ m.bad ∧ m.bad ≤ 4) : Calls Tryd.prog 88 #[.pointer (some ⟨g, 0, none⟩)] w fun e w' => e = .returned (.tuple #[]) ∧ Wk w' g (badTry m) ∧ Chg w w' g := by
  obtain ⟨me, rev, cr, h, b, bad, lock⟩ := m
  simp only [] at h0
  have HI : Hid (Blk w g #[.int .i64 me, .int .i64 rev, .int .i64 cr, .int .i64 h, .int .u64 (b : Int), .int .i64 bad, .int .i64 lock] 100) := hw
  have q5 : w.cell? ⟨g, 5, none⟩ = some (.int .i64 bad) := HI.out.cell 5
  obtain ⟨B, hB⟩ : ∃ B, B = bad + 1 := ⟨_, rfl⟩
  have hwr : IntKind.i64.wrap (bad + 1) = B := by rw [hB, IntKind.wrap_i64]; omega
  have HE : Hid (B = bad + 1) := hB
  have HL : Hid (bad ≤ 4) := h0.2
  clear hw h0 hB
  go_enter Tryd.func88, Tryd.ntmps88
  go_wp2_with (first | (refine wp_let1 rfl 3 _ _ rfl g 5 rfl .i64 B rfl (by kernel_rfl) #[.int .i64 me, .int .i64 rev, .int .i64 cr, .int .i64 h, .int .u64 (b : Int), .int .i64 bad, .int .i64 lock] 100 HI.out (by simp) ?_) | fail)
  intro W1 hU1
  have HI1 : Hid (Blk W1 g #[.int .i64 me, .int .i64 rev, .int .i64 cr, .int .i64 h, .int .u64 (b : Int), .int .i64 B, .int .i64 lock] 100) := hU1.blk
  have HC1 : Hid (Chg w W1 g) := .upd hU1
  have q5' : W1.cell? ⟨g, 5, none⟩ = some (.int .i64 B) := HI1.out.cell 5
  clear hU1 q5 HI hwr
  by_cases h5 : B = 5
  · have hq : (B == 5) = true := by simp [h5]
    have HT : Hid (badTry ⟨me, rev, cr, h, b, bad, lock⟩ = ⟨me, rev, cr, h, b, 0, 30⟩) := by
      show _ = _
      have := HE.out
      unfold badTry; simp only []; rw [if_pos (by omega)]
    clear h5 HE
    go_wp2_with (first | (refine wp_let1 rfl 3 _ _ rfl g 5 rfl .i64 0 rfl (by kernel_rfl) #[.int .i64 me, .int .i64 rev, .int .i64 cr, .int .i64 h, .int .u64 (b : Int), .int .i64 B, .int .i64 lock] 100 HI1.out (by simp) ?_) | fail)
    intro W2 hU2
    have HI2 : Hid (Blk W2 g #[.int .i64 me, .int .i64 rev, .int .i64 cr, .int .i64 h, .int .u64 (b : Int), .int .i64 0, .int .i64 lock] 100) := hU2.blk
    have HC2 : Hid (Chg w W2 g) := HC1.out.trans (.upd hU2)
    clear hU2 q5' HI1 HC1
    go_wp2_with (first | (refine wp_let1 rfl 3 _ _ rfl g 6 rfl .i64 30 rfl (by kernel_rfl) #[.int .i64 me, .int .i64 rev, .int .i64 cr, .int .i64 h, .int .u64 (b : Int), .int .i64 0, .int .i64 lock] 100 HI2.out (by simp) ?_) | fail)
    intro W3 hU3
    have HI3 : Hid (Blk W3 g #[.int .i64 me, .int .i64 rev, .int .i64 cr, .int .i64 h, .int .u64 (b : Int), .int .i64 0, .int .i64 30] 100) := hU3.blk
    have HC3 : Hid (Chg w W3 g) := HC2.out.trans (.upd hU3)
    clear hU3 HI2 HC2
    go_wp2_with fail
    go_end0
    exact ⟨rfl, by rw [HT.out]; exact HI3.out, HC3.out⟩
  · have hq : (B == 5) = false := by simp [h5]
    have HT : Hid (badTry ⟨me, rev, cr, h, b, bad, lock⟩ = ⟨me, rev, cr, h, b, B, lock⟩) := by
      show _ = _
      have := HE.out
      unfold badTry; simp only []; rw [if_neg (by have := HL.out; omega), ← this]
    clear h5 HE
    go_wp2_with fail
    go_end0
    exact ⟨rfl, by rw [HT.out]; exact HI1.out, HC1.out⟩
set_option maxHeartbeats 1000000 in
theorem pfill (g : Nat) (m : Mt) (am : Int) (w : World) (hw : Wk w g m) (h0 : 0 ≤ m.cr ∧ m.cr ≤ 99999999) (h1 : 0 ≤ am ∧ am ≤ 2097151) : Calls Tryd.prog 94 #[.pointer (some ⟨g, 0, none⟩), .int .i64 am] w fun e w' => Deed w g m (99999999 - m.cr < am) 15 am { m with cr := m.cr + am } e w' := by
  obtain ⟨me, rev, cr, h, b, bad, lock⟩ := m
  simp only [] at h0 ⊢
  have HI : Hid (Blk w g #[.int .i64 me, .int .i64 rev, .int .i64 cr, .int .i64 h, .int .u64 (b : Int), .int .i64 bad, .int .i64 lock] 100) := hw
  have q2 : w.cell? ⟨g, 2, none⟩ = some (.int .i64 cr) := HI.out.cell 2
  obtain ⟨S, hS⟩ : ∃ S, S = cr + am := ⟨_, rfl⟩
  have hwr : IntKind.i64.wrap (cr + am) = S := by rw [hS, IntKind.wrap_i64]; omega
  by_cases hx : 99999999 - cr < am
  · have HX : Hid (99999999 - cr < am) := hx
    have hd : decide (99999999 < S) = true := by simp; omega
    clear hw h0 h1 hS hx
    go_enter Tryd.func94, Tryd.ntmps94
    go_wp2_with fail
    go_ret2
    exact ⟨Chg.refl _ _, .inl ⟨HX.out, rfl, HI.out⟩⟩
  · have HX : Hid (¬ 99999999 - cr < am) := hx
    have hd : decide (99999999 < S) = false := by simp; omega
    have HE : Hid (S = cr + am) := hS
    clear hw h0 h1 hS hx
    go_enter Tryd.func94, Tryd.ntmps94
    go_wp2_with (first | (refine wp_let1 rfl 3 _ _ rfl g 2 rfl .i64 S rfl (by kernel_rfl) #[.int .i64 me, .int .i64 rev, .int .i64 cr, .int .i64 h, .int .u64 (b : Int), .int .i64 bad, .int .i64 lock] 100 HI.out (by simp) ?_) | fail)
    intro W1 hU1
    have HI1 : Hid (Blk W1 g #[.int .i64 me, .int .i64 rev, .int .i64 S, .int .i64 h, .int .u64 (b : Int), .int .i64 bad, .int .i64 lock] 100) := hU1.blk
    have HC1 : Hid (Chg w W1 g) := .upd hU1
    clear hU1 q2 HI hwr hd
    go_wp2_with fail
    go_ret2
    exact ⟨HC1.out, .inr ⟨(by have := HX.out; omega), rfl, by rw [← HE.out]; exact HI1.out⟩⟩
set_option maxHeartbeats 1000000 in
theorem pempty (g : Nat) (m : Mt) (am : Int) (w : World) (hw : Wk w g m) : Calls Tryd.prog 95 #[.pointer (some ⟨g, 0, none⟩), .int .i64 am] w fun e w' => Deed w g m False 1 0 { m with cr := 0 } e w' := by
  obtain ⟨me, rev, cr, h, b, bad, lock⟩ := m
  have HI : Hid (Blk w g #[.int .i64 me, .int .i64 rev, .int .i64 cr, .int .i64 h, .int .u64 (b : Int), .int .i64 bad, .int .i64 lock] 100) := hw
  clear hw
  go_enter Tryd.func95, Tryd.ntmps95
  go_wp2_with (first | (refine wp_let1 rfl 3 _ _ rfl g 2 rfl .i64 0 rfl (by kernel_rfl) #[.int .i64 me, .int .i64 rev, .int .i64 cr, .int .i64 h, .int .u64 (b : Int), .int .i64 bad, .int .i64 lock] 100 HI.out (by simp) ?_) | fail)
  intro W1 hU1
  have HI1 : Hid (Blk W1 g #[.int .i64 me, .int .i64 rev, .int .i64 0, .int .i64 h, .int .u64 (b : Int), .int .i64 bad, .int .i64 lock] 100) := hU1.blk
  have HC1 : Hid (Chg w W1 g) := .upd hU1
  clear hU1 HI
  go_wp2_with fail
  go_ret2
  exact ⟨HC1.out, .inr ⟨id, rfl, HI1.out⟩⟩
set_option maxHeartbeats 1000000 in
theorem prekey (g : Nat) (m : Mt) (am : Int) (w : World) (hw : Wk w g m) : Calls Tryd.prog 96 #[.pointer (some ⟨g, 0, none⟩), .int .i64 am] w fun e w' => Deed w g m (am ≤ m.rev) 24 0 { m with rev := am } e w' := by
  obtain ⟨me, rev, cr, h, b, bad, lock⟩ := m
  simp only []
  have HI : Hid (Blk w g #[.int .i64 me, .int .i64 rev, .int .i64 cr, .int .i64 h, .int .u64 (b : Int), .int .i64 bad, .int .i64 lock] 100) := hw
  have q1 : w.cell? ⟨g, 1, none⟩ = some (.int .i64 rev) := HI.out.cell 1
  clear hw
  by_cases hx : am ≤ rev
  · have HX : Hid (am ≤ rev) := hx
    have hd : decide (am ≤ rev) = true := by simp [hx]
    clear hx
    go_enter Tryd.func96, Tryd.ntmps96
    go_wp2_with fail
    go_ret2
    exact ⟨Chg.refl _ _, .inl ⟨HX.out, rfl, HI.out⟩⟩
  · have HX : Hid (¬ am ≤ rev) := hx
    have hd : decide (am ≤ rev) = false := by simp; omega
    clear hx
    go_enter Tryd.func96, Tryd.ntmps96
    go_wp2_with (first | (refine wp_let1 rfl 3 _ _ rfl g 1 rfl .i64 am rfl (by kernel_rfl) #[.int .i64 me, .int .i64 rev, .int .i64 cr, .int .i64 h, .int .u64 (b : Int), .int .i64 bad, .int .i64 lock] 100 HI.out (by simp) ?_) | fail)
    intro W1 hU1
    have HI1 : Hid (Blk W1 g #[.int .i64 me, .int .i64 am, .int .i64 cr, .int .i64 h, .int .u64 (b : Int), .int .i64 bad, .int .i64 lock] 100) := hU1.blk
    have HC1 : Hid (Chg w W1 g) := .upd hU1
    clear hU1 q1 HI hd
    go_wp2_with fail
    go_ret2
    exact ⟨HC1.out, .inr ⟨(by have := HX.out; omega), rfl, HI1.out⟩⟩
theorem pdeed0 (g : Nat) (w : World) : Calls Tryd.prog 90 #[.pointer (some ⟨g, 0, none⟩), .int .i64 0] w fun e w' => e = .returned (.func (.func 94) #[.pointer (some ⟨g, 0, none⟩)] #[]) ∧ w' = w := by
  go_enter Tryd.func90, Tryd.ntmps90
  go_wp2_with fail
  go_ret
  exact ⟨rfl, rfl⟩
theorem pdeed1 (g : Nat) (w : World) : Calls Tryd.prog 90 #[.pointer (some ⟨g, 0, none⟩), .int .i64 1] w fun e w' => e = .returned (.func (.func 95) #[.pointer (some ⟨g, 0, none⟩)] #[]) ∧ w' = w := by
  go_enter Tryd.func90, Tryd.ntmps90
  go_wp2_with fail
  go_ret
  exact ⟨rfl, rfl⟩
theorem pdeed2 (g : Nat) (w : World) : Calls Tryd.prog 90 #[.pointer (some ⟨g, 0, none⟩), .int .i64 2] w fun e w' => e = .returned (.func (.func 96) #[.pointer (some ⟨g, 0, none⟩)] #[]) ∧ w' = w := by
  go_enter Tryd.func90, Tryd.ntmps90
  go_wp2_with fail
  go_ret
  exact ⟨rfl, rfl⟩

end Go.Proofs.YtgipkpkjoicehabDoor.met
