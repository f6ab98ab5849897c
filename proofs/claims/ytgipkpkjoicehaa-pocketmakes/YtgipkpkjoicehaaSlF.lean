/- Slots: fresh ones. -/
import Derived.Test.YtgipkpkjoicehaaSlP
namespace Go.Proofs.Ytgipkpkjoicehaa.slot
open Go.RowKit Go.Proofs.Ytgipkpkjoicehaa.cell
set_option maxRecDepth 100000
set_option linter.unusedVariables false

theorem fre_eq (n : Nat) : (List.replicate (2 * n + 2) (0 : Int)).set 0 1 = fre n := by
  rw [fre, show 2 * n + 2 = (2 * n + 1) + 1 by omega, List.replicate_succ]; rfl
theorem fre_len (n : Nat) : (fre n).length = 2 * n + 2 := by simp [fre]
set_option maxHeartbeats 1000000 in
theorem fresh_blk (n : Nat) (w : World) (h1 : 1 ≤ n) (h2 : n ≤ 64) :
    Calls Try.prog 17 #[.int .i64 (n : Int)] w fun e w' => ∃ g, e = .returned (.tuple #[.slice (some ⟨g, 0, none⟩) (2 * n + 2) (2 * n + 2), .int .i64 0]) ∧ Blk w' g (arr (fre n)) 45 ∧ w.heap.size ≤ g ∧ Below w.heap.size w w' := by
  have HM : Hid (∀ W, Calls Try.prog 28 #[.int .i64 (n : Int)] W fun e w' => e = .returned (.bool true) ∧ w' = W) := fun W => smay_yes _ W (by omega) (by omega)
  have hmk : ∀ W : World, (Instr.makeSlice 22 (.int .i64 (2 * ((n : Int) + 1))) (.int .i64 (2 * ((n : Int) + 1)))).run Try.prog W = .ok (.slice (some ⟨W.heap.size, 0, none⟩) (2 * n + 2) (2 * n + 2)) (W.alloc (.cells (arr (List.replicate (2 * n + 2) 0)) 45)) := fun W => by
    rw [show (2 * ((n : Int) + 1)) = ((2 * n + 2 : Nat) : Int) by omega]
    exact make_u32 (2 * n + 2) (by omega) W
  have hN := Blk.new w (arr (List.replicate (2 * n + 2) 0)) 45
  have k0 := Blk.word hN 0 (by simp)
  have k1 := hN.free 0
  have HS : Hid (Blk (w.alloc (.cells ((arr (List.replicate (2 * n + 2) 0)).setIfInBounds 0 (.int .u32 1)) 45)) w.heap.size (arr (fre n)) 45) := by
    show Blk _ _ _ _
    rw [arr_set, fre_eq]
    exact Blk.new _ _ _
  have HB : Hid (Below w.heap.size w (w.alloc (.cells ((arr (List.replicate (2 * n + 2) 0)).setIfInBounds 0 (.int .u32 1)) 45))) := (Below.refl _ _).alloc (Nat.le_refl _) _
  have HL : Hid ((fre n).length = 2 * n + 2) := fre_len n
  clear hN
  generalize (List.replicate (2 * n + 2) (0 : Int)).getD 0 0 = z at *
  generalize arr (List.replicate (2 * n + 2) 0) = A at *
  have hm0 : 0 < 2 * n + 2 := by omega
  generalize 2 * n + 2 = m at *
  go_enter Try.func17, Try.ntmps17
  go_wp2_with fail
  refine (HM.out _).mono ?_
  rintro e w1 ⟨rfl, rfl⟩
  go_wp2_with fail
  go_ret2
  exact ⟨w1.heap.size, rfl, HS.out, Nat.le_refl _, HB.out⟩
theorem fresh_cap (n : Nat) (w : World) (h1 : 1 ≤ n) (h2 : n ≤ 64) :
    Calls Try.prog 17 #[.int .i64 (n : Int)] w fun e w' => GaveC w (fre n) 0 e w' := by
  refine (fresh_blk n w h1 h2).mono ?_
  rintro e w' ⟨g, rfl, hg, _, hb⟩
  exact GaveC.mk (Blk.rowU hg (fre_len n)) (fun h => by cases h) (Nat.le_refl _) hb
theorem fresh_yes (n : Nat) (w : World) (h1 : 1 ≤ n) (h2 : n ≤ 64) :
    Calls Try.prog 17 #[.int .i64 (n : Int)] w fun e w' => GaveR w (fre n) 0 e w' := (fresh_cap n w h1 h2).mono fun _ _ h => h.gave
theorem fresh_no (n : Int) (w : World) (h : n < 1 ∨ 64 < n) :
    Calls Try.prog 17 #[.int .i64 n] w fun e w' => GaveR w [] 1 e w' := by
  have HM : Hid (∀ W, Calls Try.prog 28 #[.int .i64 n] W fun e w' => e = .returned (.bool false) ∧ w' = W) := fun W => smay_no _ W h
  clear h
  go_enter Try.func17, Try.ntmps17
  go_wp2_with fail
  refine (HM.out _).mono ?_
  rintro e w1 ⟨rfl, rfl⟩
  go_wp2_with fail
  go_ret2
  exact ⟨none, 0, rfl, RowU.nil _ _, fun _ => rfl, Below.refl _ _⟩

end Go.Proofs.Ytgipkpkjoicehaa.slot
