/- What digit, put and pressed give back. -/
import Derived.Test.YtkobdkkgkpgcbaaDoorKpMay
import Derived.OwnWalk
import Derived.BigRegion
import Derived.DataReads
import Derived.Lib.LaidTab
namespace Go.Proofs.YtkobdkkgkpgcbaaDoor.keypad
open Go.Proofs.YtkobdkkgkpgcbaaDoor.check
open Go.RowKit
set_option linter.unusedSimpArgs false

/-- The noughts of the scripts, in memory. -/
def NTab (w : World) : Prop := ∀ d, d < 6 → w.cell? ⟨0, d, none⟩ = some (.int .i32 ([48, 1632, 1776, 2406, 2534, 65296].getD d 0))
theorem NTab.below {w w' : World} (h : NTab w) (hb : Below w.heap.size w w') : NTab w' := fun d hd => by
  have h1 := h d hd
  rw [hb.cell (World.block_lt_of_cell? w _ h1)]; exact h1
theorem ntab_of {w : World} {name : String} (hg : Tryd.prog.globalNamed name = some 0) (h : Lib.TabIs Tryd.prog w name .i32 [48, 1632, 1776, 2406, 2534, 65296]) : NTab w := by
  unfold Lib.TabIs World.var? at h
  rw [hg] at h
  simp only [Option.bind_some] at h
  intro d hd
  split at h
  · rename_i cs t fr hc
    have hcs := Option.some.inj h
    simp only [World.cell?, hc]
    rw [hcs]
    have : ∀ d, d < 6 → (List.map (fun z => Value.int .i32 z) [48, 1632, 1776, 2406, 2534, 65296]).toArray[d]? = some (Value.int .i32 ([48, 1632, 1776, 2406, 2534, 65296].getD d 0)) := by
      intro d hd
      match d, hd with
      | 0, _ | 1, _ | 2, _ | 3, _ | 4, _ | 5, _ => rfl
    simpa using this d hd
  · cases h

/-- The nought of script number i. -/
def nt (i : Nat) : Int := [48, 1632, 1776, 2406, 2534, 65296].getD i 0
def tabV : Value := .agg #[.int .i32 48, .int .i32 1632, .int .i32 1776, .int .i32 2406, .int .i32 2534, .int .i32 65296]
theorem keyD_hit (r : Int) (i : Nat) (hi : i < 6) (h1 : nt i ≤ r) (h2 : r ≤ nt i + 9) : keyD r = r - nt i := by
  match i, hi with
  | 0, _ | 1, _ | 2, _ | 3, _ | 4, _ | 5, _ => simp only [nt, List.getD, List.getElem?_cons_zero, List.getElem?_cons_succ, Option.getD_some] at *; unfold keyD; repeat' split
                                               all_goals omega
theorem keyD_none (r : Int) (h : ∀ i, i < 6 → ¬ (nt i ≤ r ∧ r ≤ nt i + 9)) : keyD r = -1 := by
  have h0 := h 0 (by omega); have h1 := h 1 (by omega); have h2 := h 2 (by omega); have h3 := h 3 (by omega); have h4 := h 4 (by omega); have h5 := h 5 (by omega)
  simp only [nt, List.getD, List.getElem?_cons_zero, List.getElem?_cons_succ, Option.getD_some] at *
  unfold keyD
  repeat' split
  all_goals omega
theorem nt_bd (i : Nat) (hi : i < 6) : 48 ≤ nt i ∧ nt i ≤ 65296 := by
  match i, hi with
  | 0, _ | 1, _ | 2, _ | 3, _ | 4, _ | 5, _ => simp [nt]
theorem idxN (j : Nat) (hj : j < 6) (w : World) :
    (Instr.index 56 (.agg #[.int .i32 48, .int .i32 1632, .int .i32 1776, .int .i32 2406, .int .i32 2534, .int .i32 65296]) (.int .i64 (j : Int))).run Tryd.prog w = .ok (.int .i32 (nt j)) w := by
  rcases (by omega : j = 0 ∨ j = 1 ∨ j = 2 ∨ j = 3 ∨ j = 4 ∨ j = 5) with rfl | rfl | rfl | rfl | rfl | rfl
  · kernel_rfl
  · kernel_rfl
  · kernel_rfl
  · kernel_rfl
  · kernel_rfl
  · kernel_rfl

set_option maxHeartbeats 400000 in
theorem digit_any (r : Int) (w : World) (ht : NTab w) :
    Calls Tryd.prog 27 #[.int .i32 r] w fun e w' => (0 ≤ keyD r ∧ e = .returned (.tuple #[.int .i32 (keyD r), .bool true]) ∨ keyD r < 0 ∧ e = .returned (.tuple #[.int .i32 0, .bool false])) ∧ w' = w := by
  have c0 := ht 0 (by omega); have c1 := ht 1 (by omega); have c2 := ht 2 (by omega); have c3 := ht 3 (by omega); have c4 := ht 4 (by omega); have c5 := ht 5 (by omega)
  clear ht
  simp only [List.getD, List.getElem?_cons_zero, List.getElem?_cons_succ, Option.getD_some] at c0 c1 c2 c3 c4 c5
  go_enter Tryd.func27, Tryd.ntmps27
  go_wp2_with fail
  go_loop [7] (fun i => ∃ k : Nat, k ≤ 6 ∧ i = .int .i64 (k : Int) ∧ ∀ j, j < k → ¬ (nt j ≤ r ∧ r ≤ nt j + 9)) (fun i => 6 - (intOf i).toNat)
  case atStart => exact ⟨0, Nat.zero_le _, rfl, fun j hj => by omega⟩
  case round =>
    obtain ⟨k, hk, rfl, hno⟩ := hrel
    have HNO : Hid (∀ j, j < k → ¬ (nt j ≤ r ∧ r ≤ nt j + 9)) := hno
    clear hno
    by_cases hlt : k < 6
    · have HH : Hid (nt k ≤ r → r ≤ nt k + 9 → keyD r = r - nt k) := keyD_hit r k hlt
      have HS : Hid (¬ (nt k ≤ r ∧ r ≤ nt k + 9) → ∀ j, j < k + 1 → ¬ (nt j ≤ r ∧ r ≤ nt j + 9)) := fun h j hj => by
        by_cases hjk : j = k
        · rw [hjk]; exact h
        · exact HNO.out j (by omega)
      have hix := fun w => idxN k hlt w
      have hb := nt_bd k hlt
      obtain ⟨hb1, hb2⟩ := hb
      clear HNO hk
      generalize nt k = z at *
      by_cases ha : z ≤ r
      · by_cases hb : r ≤ z + 9
        · have HE : Hid (keyD r = r - z) := HH.out ha hb
          clear HH HS
          go_wp2_with fail
          go_ret2
          exact ⟨.inl ⟨by rw [HE.out]; omega, by rw [HE.out]; rfl⟩, rfl⟩
        · have HN := HS.out (fun h => hb h.2)
          have HN : Hid (_) := HN
          clear HH HS
          go_wp2_with fail
          go_round
          case rel => exact ⟨k + 1, by omega, by go_num, HN.out⟩
          case measure => simp [intOf]; omega
      · have HN := HS.out (fun h => ha h.1)
        have HN : Hid (_) := HN
        clear HH HS
        go_wp2_with fail
        go_round
        case rel => exact ⟨k + 1, by omega, by go_num, HN.out⟩
        case measure => simp [intOf]; omega
    · have HE : Hid (keyD r = -1) := keyD_none r (by have := HNO.out; rwa [show k = 6 by omega] at this)
      clear HNO
      go_wp2_with fail
      go_ret2
      exact ⟨.inr ⟨by rw [HE.out]; decide, rfl⟩, rfl⟩

end Go.Proofs.YtkobdkkgkpgcbaaDoor.keypad
