/- Why a token may not be. -/
import Derived.Test.YtmpjmcfgikmgnaaDoorTkOpen
import Derived.Test.YtmpjmcfgikmgnaaDoorTkN
import Derived.Lib.QuietBelow
namespace Go.Proofs.YtmpjmcfgikmgnaaDoor.token
open Go.RowKit

def hasI (lo hi n : Int) : Bool := decide (lo ≤ n) && decide (n ≤ hi)
def amLo (c : Int) : Int := if c = 0 then 1 else if c = 1 then 0 else if c = 2 then 1 else 0
def amHi (c : Int) : Int := if c = 0 then 2097151 else if c = 1 then 0 else if c = 2 then 15 else 0
/-- Why it may not be (P4.1). -/
def flawT (c i a t : Int) : Int := if c < 0 ∨ 3 < c then 9 else if hasI 1 1048575 i && (hasI (amLo c) (amHi c) a && hasI 0 65535 t) then 0 else 2

theorem flawT_class {c i a t : Int} (h : c < 0 ∨ 3 < c) : flawT c i a t = 9 := by unfold flawT; rw [if_pos h]
theorem flawT_in {c i a t : Int} (h : ¬ (c < 0 ∨ 3 < c)) : flawT c i a t = if hasI 1 1048575 i && (hasI (amLo c) (amHi c) a && hasI 0 65535 t) then 0 else 2 := by unfold flawT; rw [if_neg h]
theorem flawT_three (c i a t : Int) : flawT c i a t = 0 ∨ flawT c i a t = 2 ∨ flawT c i a t = 9 := by
  unfold flawT; split
  · exact .inr (.inr rfl)
  · split
    · exact .inl rfl
    · exact .inr (.inl rfl)
theorem hasI_yes {lo hi n : Int} : hasI lo hi n = true ↔ lo ≤ n ∧ n ≤ hi := by simp [hasI]
theorem flaw_tok {k : Tok} : flawT k.c k.i k.a k.t = 0 ↔ k.ok := by
  rw [← okB_ok]
  unfold flawT okB hasI amLo amHi
  rcases (by omega : k.c = 0 ∨ k.c = 1 ∨ k.c = 2 ∨ k.c = 3 ∨ 4 ≤ k.c) with h | h | h | h | h
  · simp [h]; omega
  · simp [h]; omega
  · simp [h]; omega
  · simp [h]; omega
  · have h1 : (3 : Int) < (k.c : Int) := by omega
    have h2 : ¬ k.c ≤ 3 := by omega
    simp [h1, h2]
/-- A token with no flaw is one of natural numbers. -/
theorem flaw_ok {c i a t : Int} (h : flawT c i a t = 0) : ∃ k : Tok, k.ok ∧ c = k.c ∧ i = k.i ∧ a = k.a ∧ t = k.t := by
  have hc : ¬ (c < 0 ∨ 3 < c) := by intro h0; rw [flawT_class h0] at h; cases h
  have h2 := h
  rw [flawT_in hc] at h2
  split at h2
  · rename_i h3
    simp only [Bool.and_eq_true, hasI_yes] at h3
    have h4 : 0 ≤ a := by
      have h5 := h3.2.1.1
      unfold amLo at h5
      split at h5
      · omega
      · split at h5
        · omega
        · split at h5 <;> omega
    obtain ⟨c', rfl⟩ := Int.eq_ofNat_of_zero_le (show 0 ≤ c by omega)
    obtain ⟨i', rfl⟩ := Int.eq_ofNat_of_zero_le (show 0 ≤ i by omega)
    obtain ⟨a', rfl⟩ := Int.eq_ofNat_of_zero_le h4
    obtain ⟨t', rfl⟩ := Int.eq_ofNat_of_zero_le (show 0 ≤ t by omega)
    exact ⟨⟨c', i', a', t'⟩, flaw_tok.1 h, rfl, rfl, rfl, rfl⟩
  · cases h2

theorem Eight.cell {w : World} {g : Nat} {a0 a1 a2 a3 a4 a5 a6 a7 : Int} (h : Eight w g a0 a1 a2 a3 a4 a5 a6 a7) :
    w.cell? ⟨g, 0, none⟩ = some (.int .i64 a0) ∧ w.cell? ⟨g, 1, none⟩ = some (.int .i64 a1) ∧ w.cell? ⟨g, 2, none⟩ = some (.int .i64 a2) ∧ w.cell? ⟨g, 3, none⟩ = some (.int .i64 a3) ∧
    w.cell? ⟨g, 4, none⟩ = some (.int .i64 a4) ∧ w.cell? ⟨g, 5, none⟩ = some (.int .i64 a5) ∧ w.cell? ⟨g, 6, none⟩ = some (.int .i64 a6) ∧ w.cell? ⟨g, 7, none⟩ = some (.int .i64 a7) := by
  obtain ⟨t, fr, h⟩ := h
  simp [World.cell?, h]

theorem has_any (lo hi n : Int) (w : World) :
    Calls Tryd.prog 41 #[.agg #[.int .i64 lo, .int .i64 hi], .int .i64 n] w fun e w' => e = .returned (.bool (hasI lo hi n)) ∧ Below w.heap.size w w' := by
  have hb : Below w.heap.size w (w.alloc (.cells #[.int .i64 lo, .int .i64 hi] 72)) := (Below.refl _ _).alloc (Nat.le_refl _) _
  by_cases h : lo ≤ n
  · have e : hasI lo hi n = decide (n ≤ hi) := by simp [hasI, h]
    rw [e]
    go_enter Tryd.func41, Tryd.ntmps41
    go_wp2
    go_ret
    exact ⟨rfl, hb⟩
  · have e : hasI lo hi n = false := by simp [hasI, h]
    have h' : n < lo := by omega
    rw [e]
    go_enter Tryd.func41, Tryd.ntmps41
    go_wp2
    go_ret
    exact ⟨rfl, hb⟩

end Go.Proofs.YtmpjmcfgikmgnaaDoor.token
