/- order.Read. -/
import Derived.Test.YtlianhienbhbgaaDoorOdG
namespace Go.Proofs.YtlianhienbhbgaaDoor.odr
open Go.RowKit
set_option maxRecDepth 100000
set_option linter.unusedVariables false
set_option linter.unusedSimpArgs false

def ReadIs (s : ByteArray) (y : Ac) (f : Int) : Prop := (120 < s.size ∧ y = ac0 ∧ f = 1) ∨ (s.size ≤ 120 ∧ Good s.data.toList y ∧ f = 0) ∨ (s.size ≤ 120 ∧ (∀ x, ¬ Good s.data.toList x) ∧ y = ac0 ∧ f = 3)
theorem read_one {s : ByteArray} {y y' : Ac} {f f' : Int} (h : ReadIs s y f) (h' : ReadIs s y' f') : y = y' ∧ f = f' := by
  rcases h with ⟨h1, rfl, rfl⟩ | ⟨h1, hg, rfl⟩ | ⟨h1, hn, rfl, rfl⟩ <;> rcases h' with ⟨h1', rfl, rfl⟩ | ⟨h1', hg', rfl⟩ | ⟨h1', hn', rfl, rfl⟩
  · exact ⟨rfl, rfl⟩
  · omega
  · omega
  · omega
  · exact ⟨good_one hg hg', rfl⟩
  · exact absurd hg (hn' _)
  · omega
  · exact absurd hg' (hn _)
  · exact ⟨rfl, rfl⟩
/-- What reading gives back. -/
def ReadPost (w : World) (s : ByteArray) (e : Ending) (w' : World) : Prop := ∃ y f, e = .returned (.tuple #[y.v, .int .i64 f]) ∧ ReadIs s y f ∧ Below w.heap.size w w'
theorem guess_t (l : List UInt8) : (guess l).t.size ≤ l.length := by
  have h0 : (gHead l).2.length ≤ l.length := by
    unfold gHead
    split
    · have := (cut_size (Lib.trimPrefix l [99, 117, 116, 32])).2
      have := trim_size l [99, 117, 116, 32]
      unfold numB
      simp only
      omega
    · exact Nat.le_refl _
  unfold guess gBody
  simp only
  split
  · have h1 := (cut_size (gHead l).2).2
    have h2 := step_size (hM (kindL (cutB (gHead l).2).1)) (cutB (gHead l).2).2.1
    have h3 := step_size (hA (kindL (cutB (gHead l).2).1)) (stepN (hM (kindL (cutB (gHead l).2).1)) (cutB (gHead l).2).2.1).2
    have h4 := step_size (hB (kindL (cutB (gHead l).2).1)) (stepN (hA (kindL (cutB (gHead l).2).1)) (stepN (hM (kindL (cutB (gHead l).2).1)) (cutB (gHead l).2).2.1).2).2
    have h5 := step_size (hC (kindL (cutB (gHead l).2).1)) (stepN (hB (kindL (cutB (gHead l).2).1)) (stepN (hA (kindL (cutB (gHead l).2).1)) (stepN (hM (kindL (cutB (gHead l).2).1)) (cutB (gHead l).2).2.1).2).2).2
    exact Nat.le_trans (Nat.le_of_eq (ba_size _)) (Nat.le_trans h5 (Nat.le_trans h4 (Nat.le_trans h3 (Nat.le_trans h2 (Nat.le_trans h1 h0)))))
  · exact Nat.zero_le _
theorem read_yes {s : ByteArray} {y : Ac} (h : s.size ≤ 120) (h1 : err y = 0) (h2 : shown y = s.data.toList) : ReadIs s y 0 := .inr (.inl ⟨h, ⟨h1, by rw [← shown_0 h1]; exact h2⟩, rfl⟩)
theorem read_no {s : ByteArray} {y : Ac} (h : s.size ≤ 120) (hy : guess s.data.toList = y) (hn : err y ≠ 0 ∨ shown y ≠ s.data.toList) : ReadIs s ac0 3 := .inr (.inr ⟨h, fun x hx => by
  have e := guess_back hx
  rw [hy] at e
  subst e
  rcases hn with hn | hn
  · exact hn hx.1
  · exact hn (by rw [shown_0 hx.1]; exact hx.2), rfl, rfl⟩)

set_option maxHeartbeats 2000000 in
theorem pread (s : ByteArray) (w : World) (hr : RTab w) : Calls Tryd.prog 9 #[.string s] w fun e w' => ReadPost w s e w' := by
  unfold ReadPost
  have HZ0 : Hid (Blk (w.alloc (.cells #[.int .i64 0, .int .i64 0, .int .i64 0, .int .i64 0, .int .i64 0, .string ⟨#[]⟩, .int .i64 0] 23)) w.heap.size #[.int .i64 0, .int .i64 0, .int .i64 0, .int .i64 0, .int .i64 0, .string ⟨#[]⟩, .int .i64 0] 23) := Blk.new _ _ _
  have HB0 : Hid (Below w.heap.size w (w.alloc (.cells #[.int .i64 0, .int .i64 0, .int .i64 0, .int .i64 0, .int .i64 0, .string ⟨#[]⟩, .int .i64 0] 23))) := (Below.refl _ _).alloc (Nat.le_refl _) _
  by_cases hs : 120 < s.size
  · have HRI : Hid (ReadIs s ac0 1) := .inl ⟨hs, rfl, rfl⟩
    have hd : decide ((120 : Int) < (s.size : Int)) = true := by simp; omega
    clear hs hr
    go_enter Tryd.func9, Tryd.ntmps9
    go_upto_region 1 with fail
    generalize (w.alloc (.cells #[.int .i64 0, .int .i64 0, .int .i64 0, .int .i64 0, .int .i64 0, .string ⟨#[]⟩, .int .i64 0] 23)) = W0 at *
    go_wp2_with (first | (refine wp_letAll rfl 23 _ _ rfl w.heap.size rfl #[.int .i64 0, .int .i64 0, .int .i64 0, .int .i64 0, .int .i64 0, .string ⟨#[]⟩, .int .i64 0] rfl (by kernel_rfl) (by simp [Value.oneCell']) #[.int .i64 0, .int .i64 0, .int .i64 0, .int .i64 0, .int .i64 0, .string ⟨#[]⟩, .int .i64 0] 23 HZ0.out rfl ?_) | fail)
    intro WF hUF
    have HBF : Hid (Below w.heap.size w WF) := hUF.bel _ _ (Nat.le_refl _) HB0.out
    have R0 : Hid (WF.cell? ⟨w.heap.size, 0, none⟩ = some (.int .i64 0)) := hUF.blk.cell 0
    have R1 : Hid (WF.cell? ⟨w.heap.size, 1, none⟩ = some (.int .i64 0)) := hUF.blk.cell 1
    have R2 : Hid (WF.cell? ⟨w.heap.size, 2, none⟩ = some (.int .i64 0)) := hUF.blk.cell 2
    have R3 : Hid (WF.cell? ⟨w.heap.size, 3, none⟩ = some (.int .i64 0)) := hUF.blk.cell 3
    have R4 : Hid (WF.cell? ⟨w.heap.size, 4, none⟩ = some (.int .i64 0)) := hUF.blk.cell 4
    have R5 : Hid (WF.cell? ⟨w.heap.size, 5, none⟩ = some (.string ⟨#[]⟩)) := hUF.blk.cell 5
    have R6 : Hid (WF.cell? ⟨w.heap.size, 6, none⟩ = some (.int .i64 0)) := hUF.blk.cell 6
    clear hUF
    go_wp2_with fail
    exact bodyPost_ret (v := .tuple #[.agg #[.int .i64 0, .int .i64 0, .int .i64 0, .int .i64 0, .int .i64 0, .string ⟨#[]⟩, .int .i64 0], .int .i64 1]) (by simp [results, Tryd.results9, R0.out, R1.out, R2.out, R3.out, R4.out, R5.out, R6.out, go_sem]) rfl ⟨ac0, 1, rfl, HRI.out, HBF.out⟩
  · have hd : decide ((120 : Int) < (s.size : Int)) = false := by simp; omega
    have hl : s.data.toList.length = s.size := Array.length_toList
    have hba : ba s.data.toList = s := rfl
    have HGU : Hid (∀ W, Below w.heap.size w W → Calls Tryd.prog 20 #[.string s] W fun e w' => e = .returned (guess s.data.toList).v ∧ Below W.heap.size W w') := fun W hW => by
      have h := pguess s.data.toList W (by omega) (hr.below hW)
      rw [hba] at h
      exact h
    obtain ⟨y, hy⟩ : ∃ y, guess s.data.toList = y := ⟨_, rfl⟩
    have hty : y.t.size ≤ 140737488354304 := by have := guess_t s.data.toList; rw [hy] at this; omega
    have HSH : Hid (∀ W, Below w.heap.size w W → Calls Tryd.prog 7 #[y.v] W fun e w' => e = .returned (.tuple #[.string (ba (shown y)), .int .i64 (err y)]) ∧ Below W.heap.size W w') := fun W hW => pshow y W (hr.below hW).o (hr.below hW).p hty
    have HRY : Hid (err y = 0 → shown y = s.data.toList → ReadIs s y 0) := read_yes (by omega)
    have HRN : Hid (err y ≠ 0 ∨ shown y ≠ s.data.toList → ReadIs s ac0 3) := read_no (by omega) hy
    rw [hy] at HGU
    clear hy hty hr hs hl hba
    generalize err y = E at *
    obtain ⟨SH, hSH⟩ : ∃ l, shown y = l := ⟨_, rfl⟩
    rw [hSH] at HSH HRY HRN
    clear hSH
    obtain ⟨k, me, a, b, c, t, cut⟩ := y
    unfold Ac.v Ac.cells at HGU HSH
    simp only at HGU HSH
    go_enter Tryd.func9, Tryd.ntmps9
    go_upto_region 1 with fail
    generalize (w.alloc (.cells #[.int .i64 0, .int .i64 0, .int .i64 0, .int .i64 0, .int .i64 0, .string ⟨#[]⟩, .int .i64 0] 23)) = W0 at *
    go_wp2_with fail
    refine (HGU.out _ HB0.out).mono ?_
    rintro e W1 ⟨rfl, hb1⟩
    have HZ1 : Hid (Blk (W1.alloc (.cells #[.int .i64 k, .int .i64 me, .int .i64 a, .int .i64 b, .int .i64 c, .string t, .int .i64 cut] 23)) w.heap.size #[.int .i64 0, .int .i64 0, .int .i64 0, .int .i64 0, .int .i64 0, .string ⟨#[]⟩, .int .i64 0] 23) := (HZ0.out.next hb1).alloc _
    have HX1 : Hid (Blk (W1.alloc (.cells #[.int .i64 k, .int .i64 me, .int .i64 a, .int .i64 b, .int .i64 c, .string t, .int .i64 cut] 23)) W1.heap.size #[.int .i64 k, .int .i64 me, .int .i64 a, .int .i64 b, .int .i64 c, .string t, .int .i64 cut] 23) := Blk.new _ _ _
    have HB1 : Hid (Below w.heap.size w (W1.alloc (.cells #[.int .i64 k, .int .i64 me, .int .i64 a, .int .i64 b, .int .i64 c, .string t, .int .i64 cut] 23))) := (bel_step HB0.out hb1).alloc (bel_step HB0.out hb1).size _
    clear HZ0 HB0 hb1 HGU
    go_upto_region 4 with fail
    generalize W1.alloc (.cells #[.int .i64 k, .int .i64 me, .int .i64 a, .int .i64 b, .int .i64 c, .string t, .int .i64 cut] 23) = W2 at *
    generalize W1.heap.size = g at *
    go_wp2_with (first | (refine wp_whole rfl 23 _ rfl g rfl 23 _ _ HX1.out Tryd.underlying23 rfl (by kernel_rfl) ?_) | fail)
    refine (HSH.out _ HB1.out).mono ?_
    rintro e W3 ⟨rfl, hb3⟩
    have HZ3 : Hid (Blk W3 w.heap.size #[.int .i64 0, .int .i64 0, .int .i64 0, .int .i64 0, .int .i64 0, .string ⟨#[]⟩, .int .i64 0] 23) := HZ1.out.next hb3
    have HX3 : Hid (Blk W3 g #[.int .i64 k, .int .i64 me, .int .i64 a, .int .i64 b, .int .i64 c, .string t, .int .i64 cut] 23) := HX1.out.next hb3
    have HB3 : Hid (Below w.heap.size w W3) := bel_step HB1.out hb3
    clear HZ1 HX1 HB1 hb3 HSH
    by_cases hE : E = 0
    · have hq1 : (E != 0) = false := by simpa using hE
      by_cases hS : SH = s.data.toList
      · have HRI : Hid (ReadIs s ⟨k, me, a, b, c, t, cut⟩ 0) := HRY.out hE hS
        have hq2 : ((ba SH).toList == s.toList) = true := by rw [hS]; simp [ba]
        clear HRY HRN hE hS
        go_upto_region 7 with fail
        go_wp2_with (first | (refine wp_whole rfl 23 _ rfl g rfl 23 _ _ HX3.out Tryd.underlying23 rfl (by kernel_rfl) ?_) | (refine wp_letAll rfl 23 _ _ rfl w.heap.size rfl #[.int .i64 k, .int .i64 me, .int .i64 a, .int .i64 b, .int .i64 c, .string t, .int .i64 cut] rfl (by kernel_rfl) (by simp [Value.oneCell']) #[.int .i64 0, .int .i64 0, .int .i64 0, .int .i64 0, .int .i64 0, .string ⟨#[]⟩, .int .i64 0] 23 HZ3.out rfl ?_) | fail)
        intro WF hUF
        have HBF : Hid (Below w.heap.size w WF) := hUF.bel _ _ (Nat.le_refl _) HB3.out
        have R0 : Hid (WF.cell? ⟨w.heap.size, 0, none⟩ = some (.int .i64 k)) := hUF.blk.cell 0
        have R1 : Hid (WF.cell? ⟨w.heap.size, 1, none⟩ = some (.int .i64 me)) := hUF.blk.cell 1
        have R2 : Hid (WF.cell? ⟨w.heap.size, 2, none⟩ = some (.int .i64 a)) := hUF.blk.cell 2
        have R3 : Hid (WF.cell? ⟨w.heap.size, 3, none⟩ = some (.int .i64 b)) := hUF.blk.cell 3
        have R4 : Hid (WF.cell? ⟨w.heap.size, 4, none⟩ = some (.int .i64 c)) := hUF.blk.cell 4
        have R5 : Hid (WF.cell? ⟨w.heap.size, 5, none⟩ = some (.string t)) := hUF.blk.cell 5
        have R6 : Hid (WF.cell? ⟨w.heap.size, 6, none⟩ = some (.int .i64 cut)) := hUF.blk.cell 6
        clear hUF
        go_wp2_with fail
        exact bodyPost_ret (v := .tuple #[.agg #[.int .i64 k, .int .i64 me, .int .i64 a, .int .i64 b, .int .i64 c, .string t, .int .i64 cut], .int .i64 0]) (by simp [results, Tryd.results9, R0.out, R1.out, R2.out, R3.out, R4.out, R5.out, R6.out, go_sem]) rfl ⟨⟨k, me, a, b, c, t, cut⟩, 0, rfl, HRI.out, HBF.out⟩
      · have HRI : Hid (ReadIs s ac0 3) := HRN.out (.inr hS)
        have hq2 : ((ba SH).toList == s.toList) = false := by
          rw [ls_eq, ls_eq, ba_list, beq_eq_false_iff_ne]; exact hS
        clear HRY HRN hE hS HX3
        go_wp2_with (first | (refine wp_letAll rfl 23 _ _ rfl w.heap.size rfl #[.int .i64 0, .int .i64 0, .int .i64 0, .int .i64 0, .int .i64 0, .string ⟨#[]⟩, .int .i64 0] rfl (by kernel_rfl) (by simp [Value.oneCell']) #[.int .i64 0, .int .i64 0, .int .i64 0, .int .i64 0, .int .i64 0, .string ⟨#[]⟩, .int .i64 0] 23 HZ3.out rfl ?_) | fail)
        intro WF hUF
        have HBF : Hid (Below w.heap.size w WF) := hUF.bel _ _ (Nat.le_refl _) HB3.out
        have R0 : Hid (WF.cell? ⟨w.heap.size, 0, none⟩ = some (.int .i64 0)) := hUF.blk.cell 0
        have R1 : Hid (WF.cell? ⟨w.heap.size, 1, none⟩ = some (.int .i64 0)) := hUF.blk.cell 1
        have R2 : Hid (WF.cell? ⟨w.heap.size, 2, none⟩ = some (.int .i64 0)) := hUF.blk.cell 2
        have R3 : Hid (WF.cell? ⟨w.heap.size, 3, none⟩ = some (.int .i64 0)) := hUF.blk.cell 3
        have R4 : Hid (WF.cell? ⟨w.heap.size, 4, none⟩ = some (.int .i64 0)) := hUF.blk.cell 4
        have R5 : Hid (WF.cell? ⟨w.heap.size, 5, none⟩ = some (.string ⟨#[]⟩)) := hUF.blk.cell 5
        have R6 : Hid (WF.cell? ⟨w.heap.size, 6, none⟩ = some (.int .i64 0)) := hUF.blk.cell 6
        clear hUF
        go_wp2_with fail
        exact bodyPost_ret (v := .tuple #[.agg #[.int .i64 0, .int .i64 0, .int .i64 0, .int .i64 0, .int .i64 0, .string ⟨#[]⟩, .int .i64 0], .int .i64 3]) (by simp [results, Tryd.results9, R0.out, R1.out, R2.out, R3.out, R4.out, R5.out, R6.out, go_sem]) rfl ⟨ac0, 3, rfl, HRI.out, HBF.out⟩
    · have hq1 : (E != 0) = true := by simpa using hE
      have HRI : Hid (ReadIs s ac0 3) := HRN.out (.inl hE)
      clear HRY HRN hE HX3
      go_wp2_with (first | (refine wp_letAll rfl 23 _ _ rfl w.heap.size rfl #[.int .i64 0, .int .i64 0, .int .i64 0, .int .i64 0, .int .i64 0, .string ⟨#[]⟩, .int .i64 0] rfl (by kernel_rfl) (by simp [Value.oneCell']) #[.int .i64 0, .int .i64 0, .int .i64 0, .int .i64 0, .int .i64 0, .string ⟨#[]⟩, .int .i64 0] 23 HZ3.out rfl ?_) | fail)
      intro WF hUF
      have HBF : Hid (Below w.heap.size w WF) := hUF.bel _ _ (Nat.le_refl _) HB3.out
      have R0 : Hid (WF.cell? ⟨w.heap.size, 0, none⟩ = some (.int .i64 0)) := hUF.blk.cell 0
      have R1 : Hid (WF.cell? ⟨w.heap.size, 1, none⟩ = some (.int .i64 0)) := hUF.blk.cell 1
      have R2 : Hid (WF.cell? ⟨w.heap.size, 2, none⟩ = some (.int .i64 0)) := hUF.blk.cell 2
      have R3 : Hid (WF.cell? ⟨w.heap.size, 3, none⟩ = some (.int .i64 0)) := hUF.blk.cell 3
      have R4 : Hid (WF.cell? ⟨w.heap.size, 4, none⟩ = some (.int .i64 0)) := hUF.blk.cell 4
      have R5 : Hid (WF.cell? ⟨w.heap.size, 5, none⟩ = some (.string ⟨#[]⟩)) := hUF.blk.cell 5
      have R6 : Hid (WF.cell? ⟨w.heap.size, 6, none⟩ = some (.int .i64 0)) := hUF.blk.cell 6
      clear hUF
      go_wp2_with fail
      exact bodyPost_ret (v := .tuple #[.agg #[.int .i64 0, .int .i64 0, .int .i64 0, .int .i64 0, .int .i64 0, .string ⟨#[]⟩, .int .i64 0], .int .i64 3]) (by simp [results, Tryd.results9, R0.out, R1.out, R2.out, R3.out, R4.out, R5.out, R6.out, go_sem]) rfl ⟨ac0, 3, rfl, HRI.out, HBF.out⟩

end Go.Proofs.YtlianhienbhbgaaDoor.odr
