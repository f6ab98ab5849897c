/- Why a token may not be: what flaw gives back. -/
import Derived.Test.YtlicdeppfhmfjaaGreatDoorTkFlaw
import Derived.Test.YtlicdeppfhmfjaaGreatDoorBlk
import Derived.Test.YtlicdeppfhmfjaaGreatDoorWq
import Derived.Deep.RegionWith
namespace Go.Proofs.YtlicdeppfhmfjaaGreatDoor.token
open Go.RowKit
set_option linter.unusedSimpArgs false

/-- What lies ready when the bounds are looked at. -/
structure Rdy (w W : World) (c i a t : Int) : Prop where
  below : Below w.heap.size w W
  b0 : W.cell? ⟨w.heap.size, 0, none⟩ = some (.int .i64 c)
  b1 : W.cell? ⟨w.heap.size, 1, none⟩ = some (.int .i64 i)
  b2 : W.cell? ⟨w.heap.size, 2, none⟩ = some (.int .i64 a)
  b3 : W.cell? ⟨w.heap.size, 3, none⟩ = some (.int .i64 t)
  i0 : W.cell? ⟨w.heap.size + 1, 0, none⟩ = some (.int .i64 1)
  i1 : W.cell? ⟨w.heap.size + 1, 1, none⟩ = some (.int .i64 1048575)
  t0 : W.cell? ⟨w.heap.size + 1 + 1, 0, none⟩ = some (.int .i64 0)
  t1 : W.cell? ⟨w.heap.size + 1 + 1, 1, none⟩ = some (.int .i64 65535)

theorem rdy_of (w : World) (c i a t : Int) : Rdy w (((w.alloc (.cells #[.int .i64 c, .int .i64 i, .int .i64 a, .int .i64 t] 51)).alloc (.cells #[.int .i64 1, .int .i64 1048575] 139)).alloc (.cells #[.int .i64 0, .int .i64 65535] 139)) c i a t := by
  have h0 := ((Blk.new w #[.int .i64 c, .int .i64 i, .int .i64 a, .int .i64 t] 51).alloc (.cells #[.int .i64 1, .int .i64 1048575] 139)).alloc (.cells #[.int .i64 0, .int .i64 65535] 139)
  have h1 := (Blk.new1 w (.cells #[.int .i64 c, .int .i64 i, .int .i64 a, .int .i64 t] 51) #[.int .i64 1, .int .i64 1048575] 139).alloc (.cells #[.int .i64 0, .int .i64 65535] 139)
  have h2 := Blk.new2 w (.cells #[.int .i64 c, .int .i64 i, .int .i64 a, .int .i64 t] 51) (.cells #[.int .i64 1, .int .i64 1048575] 139) #[.int .i64 0, .int .i64 65535] 139
  exact ⟨((((Below.refl _ _).alloc (Nat.le_refl _) _).alloc (by simp) _).alloc (by simp; omega) _), h0.cell 0, h0.cell 1, h0.cell 2, h0.cell 3, h1.cell 0, h1.cell 1, h2.cell 0, h2.cell 1⟩

theorem flaw_class (c i a t : Int) (w : World) (h : c < 0 ∨ 3 < c) :
    Calls Tryz.prog 57 #[.agg #[.int .i64 c, .int .i64 i, .int .i64 a, .int .i64 t]] w fun e w' => e = .returned (.int .i64 9) ∧ Below w.heap.size w w' := by
  have hb : Below w.heap.size w (w.alloc (.cells #[.int .i64 c, .int .i64 i, .int .i64 a, .int .i64 t] 51)) := (Below.refl _ _).alloc (Nat.le_refl _) _
  by_cases h0 : c < 0
  · clear h
    go_enter Tryz.func57, Tryz.ntmps57
    go_wp2
    go_ret
    exact ⟨rfl, hb⟩
  · have h1 : 0 ≤ c := by omega
    have h2 : 4 ≤ c := by omega
    clear h
    go_enter Tryz.func57, Tryz.ntmps57
    go_wp2
    go_ret
    exact ⟨rfl, hb⟩

set_option maxHeartbeats 4000000 in
theorem flaw_in (c : Nat) (lo hi i a t : Int) (w : World) (hc : c < 4) (g0 : w.cell? ⟨1, c * 2, none⟩ = some (.int .i64 lo)) (g1 : w.cell? ⟨1, c * 2 + 1, none⟩ = some (.int .i64 hi)) :
    Calls Tryz.prog 57 #[.agg #[.int .i64 (c : Int), .int .i64 i, .int .i64 a, .int .i64 t]] w fun e w' => e = .returned (.int .i64 (if hasI 1 1048575 i && (hasI lo hi a && hasI 0 65535 t) then 0 else 2)) ∧ Below w.heap.size w w' := by
  have HR : Hid (Rdy w (((w.alloc (.cells #[.int .i64 (c : Int), .int .i64 i, .int .i64 a, .int .i64 t] 51)).alloc (.cells #[.int .i64 1, .int .i64 1048575] 139)).alloc (.cells #[.int .i64 0, .int .i64 65535] 139)) c i a t) := rdy_of w c i a t
  have g0' := HR.out.below.cell (World.block_lt_of_cell? w _ g0)
  rw [g0] at g0'
  have g1' := HR.out.below.cell (World.block_lt_of_cell? w _ g1)
  rw [g1] at g1'
  have HI : Hid (∀ W, Calls Tryz.prog 95 #[.agg #[.int .i64 1, .int .i64 1048575], .int .i64 i] W fun e w' => e = .returned (.bool (hasI 1 1048575 i)) ∧ Below W.heap.size W w') := fun W => has_any _ _ _ W
  have HA : Hid (∀ W, Calls Tryz.prog 95 #[.agg #[.int .i64 lo, .int .i64 hi], .int .i64 a] W fun e w' => e = .returned (.bool (hasI lo hi a)) ∧ Below W.heap.size W w') := fun W => has_any _ _ _ W
  have HU : Hid (∀ W, Calls Tryz.prog 95 #[.agg #[.int .i64 0, .int .i64 65535], .int .i64 t] W fun e w' => e = .returned (.bool (hasI 0 65535 t)) ∧ Below W.heap.size W w') := fun W => has_any _ _ _ W
  clear g0 g1
  have c0 : ¬ (c : Int) < 0 := by omega
  have c1 : ¬ 4 ≤ (c : Int) := by omega
  have c2 : (c : Int) < 4 := by omega
  generalize hasI 1 1048575 i = bi at *
  generalize hasI lo hi a = ba at *
  generalize hasI 0 65535 t = bt at *
  cases bi with
  | false =>
    go_enter Tryz.func57, Tryz.ntmps57
    go_wp2_with fail
    generalize (((w.alloc (.cells #[.int .i64 (c : Int), .int .i64 i, .int .i64 a, .int .i64 t] 51)).alloc (.cells #[.int .i64 1, .int .i64 1048575] 139)).alloc (.cells #[.int .i64 0, .int .i64 65535] 139)) = W at *
    have k0 := cell_regrown HR.out.b0
    have k1 := cell_regrown HR.out.b1
    have k2 := cell_regrown HR.out.b2
    have k3 := cell_regrown HR.out.b3
    have k4 := cell_regrown HR.out.i0
    have k5 := cell_regrown HR.out.i1
    have k6 := cell_regrown HR.out.t0
    have k7 := cell_regrown HR.out.t1
    have k8 := cell_regrown g0'
    have k9 := cell_regrown g1'
    have HB : Hid (Below w.heap.size w W) := HR.out.below
    clear HR g0' g1'
    refine wq_below (by kernel_rfl) (by kernel_rfl) ?_
    iterate 3 (refine wq_step (fun K hK => ?_); go_simp; refine hK _ ?_; clear hK K)
    refine wq_step (fun K hK => ?_)
    go_simp
    apply Exists.intro
    refine ⟨fun _ => ?_, hK _ ?_⟩
    exact Calls.regrown_of (HI.out _)
    clear hK K
    iterate 2 (refine wq_step (fun K hK => ?_); go_simp; refine hK _ ?_; clear hK K)
    iterate 8 (refine wq_skip (by kernel_rfl) ?_; simp only [Act.put, List.setIfInBounds_toArray, List.set_cons_zero, List.set_cons_succ])
    iterate 2 (refine wq_step (fun K hK => ?_); go_simp; refine hK _ ?_; clear hK K)
    iterate 5 (refine wq_skip (by kernel_rfl) ?_; simp only [Act.put, List.setIfInBounds_toArray, List.set_cons_zero, List.set_cons_succ])
    iterate 1 (refine wq_step (fun K hK => ?_); go_simp; refine hK _ ?_; clear hK K)
    refine wq_nil ?_
    intro _ hw'
    obtain ⟨⟨dq, osq⟩, hw''⟩ := hw'
    subst hw''
    go_wp2_with fail
    go_ret
    exact ⟨rfl, HB.out.trans ((below_regrown W dq osq).mono HB.out.size)⟩
  | true =>
    cases ba with
    | false =>
      go_enter Tryz.func57, Tryz.ntmps57
      go_wp2_with fail
      generalize (((w.alloc (.cells #[.int .i64 (c : Int), .int .i64 i, .int .i64 a, .int .i64 t] 51)).alloc (.cells #[.int .i64 1, .int .i64 1048575] 139)).alloc (.cells #[.int .i64 0, .int .i64 65535] 139)) = W at *
      have k0 := cell_regrown HR.out.b0
      have k1 := cell_regrown HR.out.b1
      have k2 := cell_regrown HR.out.b2
      have k3 := cell_regrown HR.out.b3
      have k4 := cell_regrown HR.out.i0
      have k5 := cell_regrown HR.out.i1
      have k6 := cell_regrown HR.out.t0
      have k7 := cell_regrown HR.out.t1
      have k8 := cell_regrown g0'
      have k9 := cell_regrown g1'
      have HB : Hid (Below w.heap.size w W) := HR.out.below
      clear HR g0' g1'
      refine wq_below (by kernel_rfl) (by kernel_rfl) ?_
      iterate 3 (refine wq_step (fun K hK => ?_); go_simp; refine hK _ ?_; clear hK K)
      refine wq_step (fun K hK => ?_)
      go_simp
      apply Exists.intro
      refine ⟨fun _ => ?_, hK _ ?_⟩
      exact Calls.regrown_of (HI.out _)
      clear hK K
      iterate 8 (refine wq_step (fun K hK => ?_); go_simp; refine hK _ ?_; clear hK K)
      refine wq_step (fun K hK => ?_)
      go_simp
      apply Exists.intro
      refine ⟨fun _ => ?_, hK _ ?_⟩
      exact Calls.regrown_of (HA.out _)
      clear hK K
      iterate 3 (refine wq_step (fun K hK => ?_); go_simp; refine hK _ ?_; clear hK K)
      iterate 5 (refine wq_skip (by kernel_rfl) ?_; simp only [Act.put, List.setIfInBounds_toArray, List.set_cons_zero, List.set_cons_succ])
      iterate 1 (refine wq_step (fun K hK => ?_); go_simp; refine hK _ ?_; clear hK K)
      refine wq_nil ?_
      intro _ hw'
      obtain ⟨⟨dq, osq⟩, hw''⟩ := hw'
      subst hw''
      go_wp2_with fail
      go_ret
      exact ⟨rfl, HB.out.trans ((below_regrown W dq osq).mono HB.out.size)⟩
    | true =>
      cases bt with
      | false =>
        go_enter Tryz.func57, Tryz.ntmps57
        go_wp2_with fail
        generalize (((w.alloc (.cells #[.int .i64 (c : Int), .int .i64 i, .int .i64 a, .int .i64 t] 51)).alloc (.cells #[.int .i64 1, .int .i64 1048575] 139)).alloc (.cells #[.int .i64 0, .int .i64 65535] 139)) = W at *
        have k0 := cell_regrown HR.out.b0
        have k1 := cell_regrown HR.out.b1
        have k2 := cell_regrown HR.out.b2
        have k3 := cell_regrown HR.out.b3
        have k4 := cell_regrown HR.out.i0
        have k5 := cell_regrown HR.out.i1
        have k6 := cell_regrown HR.out.t0
        have k7 := cell_regrown HR.out.t1
        have k8 := cell_regrown g0'
        have k9 := cell_regrown g1'
        have HB : Hid (Below w.heap.size w W) := HR.out.below
        clear HR g0' g1'
        refine wq_below (by kernel_rfl) (by kernel_rfl) ?_
        iterate 3 (refine wq_step (fun K hK => ?_); go_simp; refine hK _ ?_; clear hK K)
        refine wq_step (fun K hK => ?_)
        go_simp
        apply Exists.intro
        refine ⟨fun _ => ?_, hK _ ?_⟩
        exact Calls.regrown_of (HI.out _)
        clear hK K
        iterate 8 (refine wq_step (fun K hK => ?_); go_simp; refine hK _ ?_; clear hK K)
        refine wq_step (fun K hK => ?_)
        go_simp
        apply Exists.intro
        refine ⟨fun _ => ?_, hK _ ?_⟩
        exact Calls.regrown_of (HA.out _)
        clear hK K
        iterate 6 (refine wq_step (fun K hK => ?_); go_simp; refine hK _ ?_; clear hK K)
        refine wq_step (fun K hK => ?_)
        go_simp
        apply Exists.intro
        refine ⟨fun _ => ?_, hK _ ?_⟩
        exact Calls.regrown_of (HU.out _)
        clear hK K
        iterate 2 (refine wq_step (fun K hK => ?_); go_simp; refine hK _ ?_; clear hK K)
        refine wq_nil ?_
        intro _ hw'
        obtain ⟨⟨dq, osq⟩, hw''⟩ := hw'
        subst hw''
        go_wp2_with fail
        go_ret
        exact ⟨rfl, HB.out.trans ((below_regrown W dq osq).mono HB.out.size)⟩
      | true =>
        go_enter Tryz.func57, Tryz.ntmps57
        go_wp2_with fail
        generalize (((w.alloc (.cells #[.int .i64 (c : Int), .int .i64 i, .int .i64 a, .int .i64 t] 51)).alloc (.cells #[.int .i64 1, .int .i64 1048575] 139)).alloc (.cells #[.int .i64 0, .int .i64 65535] 139)) = W at *
        have k0 := cell_regrown HR.out.b0
        have k1 := cell_regrown HR.out.b1
        have k2 := cell_regrown HR.out.b2
        have k3 := cell_regrown HR.out.b3
        have k4 := cell_regrown HR.out.i0
        have k5 := cell_regrown HR.out.i1
        have k6 := cell_regrown HR.out.t0
        have k7 := cell_regrown HR.out.t1
        have k8 := cell_regrown g0'
        have k9 := cell_regrown g1'
        have HB : Hid (Below w.heap.size w W) := HR.out.below
        clear HR g0' g1'
        refine wq_below (by kernel_rfl) (by kernel_rfl) ?_
        iterate 3 (refine wq_step (fun K hK => ?_); go_simp; refine hK _ ?_; clear hK K)
        refine wq_step (fun K hK => ?_)
        go_simp
        apply Exists.intro
        refine ⟨fun _ => ?_, hK _ ?_⟩
        exact Calls.regrown_of (HI.out _)
        clear hK K
        iterate 8 (refine wq_step (fun K hK => ?_); go_simp; refine hK _ ?_; clear hK K)
        refine wq_step (fun K hK => ?_)
        go_simp
        apply Exists.intro
        refine ⟨fun _ => ?_, hK _ ?_⟩
        exact Calls.regrown_of (HA.out _)
        clear hK K
        iterate 6 (refine wq_step (fun K hK => ?_); go_simp; refine hK _ ?_; clear hK K)
        refine wq_step (fun K hK => ?_)
        go_simp
        apply Exists.intro
        refine ⟨fun _ => ?_, hK _ ?_⟩
        exact Calls.regrown_of (HU.out _)
        clear hK K
        iterate 2 (refine wq_step (fun K hK => ?_); go_simp; refine hK _ ?_; clear hK K)
        refine wq_nil ?_
        intro _ hw'
        obtain ⟨⟨dq, osq⟩, hw''⟩ := hw'
        subst hw''
        go_wp2_with fail
        go_ret
        exact ⟨rfl, HB.out.trans ((below_regrown W dq osq).mono HB.out.size)⟩

theorem flaw_any (c i a t : Int) (w : World) (ht : TTab w) :
    Calls Tryz.prog 57 #[.agg #[.int .i64 c, .int .i64 i, .int .i64 a, .int .i64 t]] w fun e w' => e = .returned (.int .i64 (flawT c i a t)) ∧ Below w.heap.size w w' := by
  by_cases h : c < 0 ∨ 3 < c
  · rw [flawT_class h]; exact flaw_class c i a t w h
  · have h8 := ht.amounts.cell
    rw [flawT_in h]
    rcases (by omega : c = 0 ∨ c = 1 ∨ c = 2 ∨ c = 3) with rfl | rfl | rfl | rfl
    · exact flaw_in 0 1 2097151 i a t w (by omega) h8.1 h8.2.1
    · exact flaw_in 1 0 0 i a t w (by omega) h8.2.2.1 h8.2.2.2.1
    · exact flaw_in 2 1 15 i a t w (by omega) h8.2.2.2.2.1 h8.2.2.2.2.2.1
    · exact flaw_in 3 0 0 i a t w (by omega) h8.2.2.2.2.2.2.1 h8.2.2.2.2.2.2.2

end Go.Proofs.YtlicdeppfhmfjaaGreatDoor.token
