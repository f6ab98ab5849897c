/- What words.Cmp gives back. -/
import Derived.Test.YtlicdeppfhmfjaaGreatDoorTrio
import Derived.Test.YtlicdeppfhmfjaaGreatDoorEq3
namespace Go.Proofs.YtlicdeppfhmfjaaGreatDoor.words
open Go.RowKit

theorem nan_any (x : Int) (w : World) : Calls Tryz.prog 130 #[.int .u32 x] w fun e w' => e = .returned (.bool false) ∧ w' = w := by
  have h : (x != x) = false := by simp
  go_enter Tryz.func130, Tryz.ntmps130
  go_wp2
  go_ret
  exact ⟨rfl, rfl⟩

theorem compare_any (p q : Int) (w : World) : Calls Tryz.prog 91 #[.int .u32 p, .int .u32 q] w fun e w' => e = .returned (.int .i64 (cmp3 p q)) ∧ w' = w := by
  unfold cmp3
  by_cases h1 : p < q
  · rw [if_pos h1]
    go_enter Tryz.func91, Tryz.ntmps91
    go_wp2_with fail
    refine (nan_any _ _).mono ?_
    rintro e w ⟨rfl, rfl⟩
    go_wp2_with fail
    refine (nan_any _ _).mono ?_
    rintro e w ⟨rfl, rfl⟩
    go_wp2_with fail
    go_ret
    exact ⟨rfl, rfl⟩
  · rw [if_neg h1]
    by_cases h2 : q < p
    · rw [if_pos h2]
      go_enter Tryz.func91, Tryz.ntmps91
      go_wp2_with fail
      refine (nan_any _ _).mono ?_
      rintro e w ⟨rfl, rfl⟩
      go_wp2_with fail
      refine (nan_any _ _).mono ?_
      rintro e w ⟨rfl, rfl⟩
      go_wp2_with fail
      go_ret
      exact ⟨rfl, rfl⟩
    · rw [if_neg h2]
      go_enter Tryz.func91, Tryz.ntmps91
      go_wp2_with fail
      refine (nan_any _ _).mono ?_
      rintro e w ⟨rfl, rfl⟩
      go_wp2_with fail
      refine (nan_any _ _).mono ?_
      rintro e w ⟨rfl, rfl⟩
      go_wp2_with fail
      go_ret
      exact ⟨rfl, rfl⟩

theorem cmp3_self (x : Int) : cmp3 x x = 0 := by unfold cmp3; rw [if_neg (by omega), if_neg (by omega)]

/-- The first words, from above, that are unlike tell which number is greater. -/
theorem cmp_2 {x y : W3} (hx : x.ok) (hy : y.ok) (h : x.c ≠ y.c) : cmp3 x.val y.val = cmp3 x.c y.c := by
  obtain ⟨x1, x2, x3⟩ := hx
  obtain ⟨y1, y2, y3⟩ := hy
  unfold cmp3 W3.val
  repeat' split
  all_goals omega
theorem cmp_1 {x y : W3} (hx : x.ok) (hy : y.ok) (h2 : x.c = y.c) (h : x.b ≠ y.b) : cmp3 x.val y.val = cmp3 x.b y.b := by
  obtain ⟨x1, x2, x3⟩ := hx
  obtain ⟨y1, y2, y3⟩ := hy
  unfold cmp3 W3.val
  repeat' split
  all_goals omega
theorem cmp_0 {x y : W3} (h2 : x.c = y.c) (h1 : x.b = y.b) : cmp3 x.val y.val = cmp3 x.a y.a := by
  unfold cmp3 W3.val
  repeat' split
  all_goals omega

theorem bel2d (w : World) (o1 o2 : Obj) (n : Nat) : Below w.heap.size w (((w.alloc o1).alloc o2).drewN n) := below_drewN (bel2 w o1 o2) n

set_option maxHeartbeats 1000000 in
theorem cmp_any (x y : W3) (w : World) (hx : x.ok) (hy : y.ok) :
    Calls Tryz.prog 54 #[wv x, wv y] w fun e w' => e = .returned (.int .i64 (cmp3 x.val y.val)) ∧ Below w.heap.size w w' := by
  by_cases he : x = y
  · subst he
    rw [cmp3_self]
    have q := eq3_same x
    obtain ⟨x0, x1, x2⟩ := x
    clear hx hy
    go_enter Tryz.func54, Tryz.ntmps54
    go_wp2_with fail
    go_ret
    exact ⟨rfl, bel2 _ _ _⟩
  · have q := eq3_other he
    have k2 := cmp_2 hx hy
    have k1 := cmp_1 hx hy
    have k0 := cmp_0 (x := x) (y := y)
    have hne := agg_ne he
    obtain ⟨x0, x1, x2⟩ := x
    obtain ⟨y0, y1, y2⟩ := y
    simp only at q k2 k1 k0 hne
    generalize W3.val ⟨x0, x1, x2⟩ = X at *
    generalize W3.val ⟨y0, y1, y2⟩ = Y at *
    clear hx hy he
    by_cases h2 : x2 = y2
    · subst h2
      have d2 : (x2 == x2) = true := by simp
      by_cases h1 : x1 = y1
      · subst h1
        have d1 : (x1 == x1) = true := by simp
        have h0 : x0 ≠ y0 := fun e => hne ⟨e, rfl, rfl⟩
        have d0 : (x0 == y0) = false := by simpa using h0
        rw [k0 rfl rfl]
        clear k0 k1 k2 hne h0
        go_enter Tryz.func54, Tryz.ntmps54
        go_wp2_with fail
        refine wp_loop_rounds 3 ?_
        rw [rounds_succ]
        go_wp2_with fail
        go_quiet (fail)
        go_wp2_with fail
        rw [rounds_succ]
        go_wp2_with fail
        go_quiet (fail)
        go_wp2_with fail
        rw [rounds_succ]
        go_wp2_with fail
        go_quiet (fail)
        go_wp2_with fail
        go_quiet (first | (go_at_call 91; exact (compare_any _ _ _).mono fun _ _ h => ⟨h.1, _, h.2⟩))
        go_wp2_with fail
        go_ret
        exact ⟨rfl, by first | exact below_drewN (bel2d _ _ _ _) _ | exact below_drewN (below_drewN (bel2d _ _ _ _) _) _⟩
      · have d1 : (x1 == y1) = false := by simpa using h1
        rw [k1 rfl h1]
        clear k0 k1 k2 hne h1
        go_enter Tryz.func54, Tryz.ntmps54
        go_wp2_with fail
        refine wp_loop_rounds 3 ?_
        rw [rounds_succ]
        go_wp2_with fail
        go_quiet (fail)
        go_wp2_with fail
        rw [rounds_succ]
        go_wp2_with fail
        go_quiet (fail)
        go_wp2_with fail
        go_quiet (first | (go_at_call 91; exact (compare_any _ _ _).mono fun _ _ h => ⟨h.1, _, h.2⟩))
        go_wp2_with fail
        go_ret
        exact ⟨rfl, by first | exact below_drewN (bel2d _ _ _ _) _ | exact below_drewN (below_drewN (bel2d _ _ _ _) _) _⟩
    · have d2 : (x2 == y2) = false := by simpa using h2
      rw [k2 h2]
      clear k0 k1 k2 hne h2
      go_enter Tryz.func54, Tryz.ntmps54
      go_wp2_with fail
      refine wp_loop_rounds 3 ?_
      rw [rounds_succ]
      go_wp2_with fail
      go_quiet (fail)
      go_wp2_with fail
      go_quiet (first | (go_at_call 91; exact (compare_any _ _ _).mono fun _ _ h => ⟨h.1, _, h.2⟩))
      go_wp2_with fail
      go_ret
      exact ⟨rfl, by first | exact below_drewN (bel2d _ _ _ _) _ | exact below_drewN (below_drewN (bel2d _ _ _ _) _) _⟩

end Go.Proofs.YtlicdeppfhmfjaaGreatDoor.words
