/- Why a token may not be. -/
import Derived.Test.YtlicdeppfhmfjaaGreatDoorTkOpen
import Derived.Test.YtlicdeppfhmfjaaGreatDoorTkFlN
import Derived.Lib.QuietBelow
namespace Go.Proofs.YtlicdeppfhmfjaaGreatDoor.token
open Go.RowKit

theorem Eight.cell {w : World} {g : Nat} {a0 a1 a2 a3 a4 a5 a6 a7 : Int} (h : Eight w g a0 a1 a2 a3 a4 a5 a6 a7) :
    w.cell? ⟨g, 0, none⟩ = some (.int .i64 a0) ∧ w.cell? ⟨g, 1, none⟩ = some (.int .i64 a1) ∧ w.cell? ⟨g, 2, none⟩ = some (.int .i64 a2) ∧ w.cell? ⟨g, 3, none⟩ = some (.int .i64 a3) ∧
    w.cell? ⟨g, 4, none⟩ = some (.int .i64 a4) ∧ w.cell? ⟨g, 5, none⟩ = some (.int .i64 a5) ∧ w.cell? ⟨g, 6, none⟩ = some (.int .i64 a6) ∧ w.cell? ⟨g, 7, none⟩ = some (.int .i64 a7) := by
  obtain ⟨t, fr, h⟩ := h
  simp [World.cell?, h]

theorem has_any (lo hi n : Int) (w : World) :
    Calls Tryz.prog 95 #[.agg #[.int .i64 lo, .int .i64 hi], .int .i64 n] w fun e w' => e = .returned (.bool (hasI lo hi n)) ∧ Below w.heap.size w w' := by
  have hb : Below w.heap.size w (w.alloc (.cells #[.int .i64 lo, .int .i64 hi] 139)) := (Below.refl _ _).alloc (Nat.le_refl _) _
  by_cases h : lo ≤ n
  · have e : hasI lo hi n = decide (n ≤ hi) := by simp [hasI, h]
    rw [e]
    go_enter Tryz.func95, Tryz.ntmps95
    go_wp2
    go_ret
    exact ⟨rfl, hb⟩
  · have e : hasI lo hi n = false := by simp [hasI, h]
    have h' : n < lo := by omega
    rw [e]
    go_enter Tryz.func95, Tryz.ntmps95
    go_wp2
    go_ret
    exact ⟨rfl, hb⟩

end Go.Proofs.YtlicdeppfhmfjaaGreatDoor.token
