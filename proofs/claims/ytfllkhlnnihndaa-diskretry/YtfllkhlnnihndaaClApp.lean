/- cell.Apply: what it answers. -/
import Derived.Test.YtfllkhlnnihndaaClApply
import Derived.Test.YtfllkhlnnihndaaClGave
import Derived.Deep.RegionHeld
namespace Go.Proofs.Ytfllkhlnnihndaa.cell
open Go.RowKit
set_option maxRecDepth 100000
set_option linter.unusedVariables false

set_option maxHeartbeats 2000000 in
theorem apply_cap (a b : Option Addr) (n m c1 c2 k : Nat) (xs : List Int) (ls : List Wr) (w : World) (h1 : RowU w a n xs) (h2 : RowW w b m ls) (hn : 1 ≤ n) (hn2 : n ≤ 2048) (hm : m ≤ 4096) (hc : m ≤ c2) (hall : allN n ls = true) (hk : k ≤ m) :
    Calls Try.prog 21 #[.slice a n c1, .slice b m c2, .int .i64 (k : Int)] w fun e w' => GaveC w (wrt xs (ls.take k)) 0 e w' := by
  have HM : Hid (∀ W, Calls Try.prog 32 #[.int .i64 (n : Int)] W fun e w' => e = .returned (.bool true) ∧ w' = W) := fun W => may_yes _ W (by omega) (by omega)
  have hW := Blk.new w #[.slice a n c1] 22
  have HB : Hid (Below w.heap.size w (w.alloc (.cells #[.slice a n c1] 22))) := (Below.refl _ _).alloc (Nat.le_refl _) _
  have hx := hW.cell 0
  have HX : Hid (∀ W', Below (w.alloc (.cells #[.slice a n c1] 22)).heap.size (w.alloc (.cells #[.slice a n c1] 22)) W' → W'.cell? ⟨w.heap.size, 0, none⟩ = some (.slice a n c1)) := fun W' hb => (hW.next hb).cell 0
  have HC : Hid (Calls Try.prog 34 #[.slice b m c2, fv w.heap.size] (w.alloc (.cells #[.slice a n c1] 22)) fun e w' => e = .returned (.bool false) ∧ Below (w.alloc (.cells #[.slice a n c1] 22)).heap.size (w.alloc (.cells #[.slice a n c1] 22)) w') := by
    have h := contains_any w.heap.size n c1 m c2 a b ls (w.alloc (.cells #[.slice a n c1] 22)) hx hn2 (h2.below HB.out) hm
    rw [hall] at h; exact h
  have HW : Hid (∀ W, Below w.heap.size w W → Calls Try.prog 35 #[.slice a n c1, .slice b k k] W fun e w' => ∃ g, e = .returned (.slice (some ⟨g, 0, none⟩) n n) ∧ RowU w' (some ⟨g, 0, none⟩) n (wrt xs (ls.take k)) ∧ Below W.heap.size W w') := fun W hb =>
    written_any a b n k c1 k xs (ls.take k) W (h1.below hb) ((h2.below hb).cut hk) hn hn2 (by omega) (allN_take hall k)
  clear h1 h2 hall hW
  unfold fv at HC
  generalize wrt xs (ls.take k) = zs at *
  go_enter Try.func21, Try.ntmps21
  go_wp2_with fail
  refine (HM.out _).mono ?_
  rintro e w1 ⟨rfl, rfl⟩
  go_wp2_with fail
  refine HC.out.mono ?_
  rintro e w2 ⟨rfl, hb2⟩
  have hx2 := HX.out _ hb2
  have HB2 : Hid (Below w.heap.size w w2) := bel_step HB.out hb2
  have HWD : Hid (Calls Try.prog 35 #[.slice a n c1, .slice b k k] w2.drew fun e w' => ∃ g, e = .returned (.slice (some ⟨g, 0, none⟩) n n) ∧ RowU w' (some ⟨g, 0, none⟩) n zs ∧ Below w2.heap.size w2.drew w') := HW.out _ HB2.out.drew
  have KS : Hid (w2.drew.cell? ⟨w.heap.size, 0, none⟩ = some (.slice a n c1)) := hx2
  have hGl : w.heap.size < w2.drew.heap.size := World.block_lt_of_cell? w2 _ hx2
  have HGL : Hid (w.heap.size < w2.heap.size) := hGl
  clear hb2 hx HC HM HX HW hGl
  have hkc : k ≤ c2 := by omega
  cases b with
  | none =>
    go_wp2_with fail
    go_region_held (fun v => v.cell? ⟨w.heap.size, 0, none⟩ = some (.slice a n c1))
      (first | with_reducible exact KS.out | with_reducible exact K1.out)
      (first
        | (go_at_call 35; with_reducible refine HWD.out.mono ?_; rintro e w3 ⟨g, rfl, hr3, hb3⟩
           have K1 : Hid (w3.cell? ⟨w.heap.size, 0, none⟩ = some (.slice a n c1)) := (hb3.cell (p := ⟨w.heap.size, 0, none⟩) HGL.out).trans hx2
           have HF : Hid (RowU w3 (some ⟨g, 0, none⟩) n zs ∧ Below w.heap.size w w3) := ⟨hr3, bel_step HB2.out.drew hb3⟩
           clear hr3 hb3))
    all_goals go_wp2_with fail
    all_goals
      go_ret2
      exact GaveC.mk HF.out.1 (fun h => by cases h) (Nat.le_refl _) HF.out.2
  | some y =>
    go_wp2_with fail
    go_region_held (fun v => v.cell? ⟨w.heap.size, 0, none⟩ = some (.slice a n c1))
      (first | with_reducible exact KS.out | with_reducible exact K1.out)
      (first
        | (go_at_call 35; with_reducible refine HWD.out.mono ?_; rintro e w3 ⟨g, rfl, hr3, hb3⟩
           have K1 : Hid (w3.cell? ⟨w.heap.size, 0, none⟩ = some (.slice a n c1)) := (hb3.cell (p := ⟨w.heap.size, 0, none⟩) HGL.out).trans hx2
           have HF : Hid (RowU w3 (some ⟨g, 0, none⟩) n zs ∧ Below w.heap.size w w3) := ⟨hr3, bel_step HB2.out.drew hb3⟩
           clear hr3 hb3))
    all_goals go_wp2_with fail
    all_goals
      go_ret2
      exact GaveC.mk HF.out.1 (fun h => by cases h) (Nat.le_refl _) HF.out.2

theorem apply_yes (a b : Option Addr) (n m c1 c2 k : Nat) (xs : List Int) (ls : List Wr) (w : World) (h1 : RowU w a n xs) (h2 : RowW w b m ls) (hn : 1 ≤ n) (hn2 : n ≤ 2048) (hm : m ≤ 4096) (hc : m ≤ c2) (hall : allN n ls = true) (hk : k ≤ m) :
    Calls Try.prog 21 #[.slice a n c1, .slice b m c2, .int .i64 (k : Int)] w fun e w' => GaveR w (wrt xs (ls.take k)) 0 e w' :=
  (apply_cap a b n m c1 c2 k xs ls w h1 h2 hn hn2 hm hc hall hk).mono fun _ _ h => h.gave

set_option maxHeartbeats 2000000 in
theorem apply_size (a b : Option Addr) (n m c1 c2 : Nat) (k : Int) (w : World) (h : n = 0 ∨ 2048 < n ∨ 4096 < m) :
    Calls Try.prog 21 #[.slice a n c1, .slice b m c2, .int .i64 k] w fun e w' => GaveR w [] 1 e w' := by
  have hx := (Blk.new w #[.slice a n c1] 22).cell 0
  have HB : Hid (Below w.heap.size w (w.alloc (.cells #[.slice a n c1] 22))) := (Below.refl _ _).alloc (Nat.le_refl _) _
  by_cases h0 : n = 0 ∨ 2048 < n
  · have HM : Hid (∀ W, Calls Try.prog 32 #[.int .i64 (n : Int)] W fun e w' => e = .returned (.bool false) ∧ w' = W) := fun W => may_no _ W (by omega)
    clear h h0
    go_enter Try.func21, Try.ntmps21
    go_wp2_with fail
    refine (HM.out _).mono ?_
    rintro e w1 ⟨rfl, rfl⟩
    go_wp2_with fail
    go_ret2
    exact ⟨none, 0, rfl, RowU.nil _ _, fun _ => rfl, HB.out⟩
  · have HM : Hid (∀ W, Calls Try.prog 32 #[.int .i64 (n : Int)] W fun e w' => e = .returned (.bool true) ∧ w' = W) := fun W => may_yes _ W (by omega) (by omega)
    have h4 : decide ((4096 : Int) < (m : Int)) = true := by simp; omega
    clear h h0
    go_enter Try.func21, Try.ntmps21
    go_wp2_with fail
    refine (HM.out _).mono ?_
    rintro e w1 ⟨rfl, rfl⟩
    go_wp2_with fail
    go_ret2
    exact ⟨none, 0, rfl, RowU.nil _ _, fun _ => rfl, HB.out⟩

set_option maxHeartbeats 2000000 in
theorem apply_range (a b : Option Addr) (n m c1 c2 : Nat) (k : Int) (ls : List Wr) (w : World) (h2 : RowW w b m ls) (hn : 1 ≤ n) (hn2 : n ≤ 2048) (hm : m ≤ 4096) (hor : allN n ls = false ∨ k < 0 ∨ m < k) :
    Calls Try.prog 21 #[.slice a n c1, .slice b m c2, .int .i64 k] w fun e w' => GaveR w [] 2 e w' := by
  have HM : Hid (∀ W, Calls Try.prog 32 #[.int .i64 (n : Int)] W fun e w' => e = .returned (.bool true) ∧ w' = W) := fun W => may_yes _ W (by omega) (by omega)
  have hW := Blk.new w #[.slice a n c1] 22
  have HB : Hid (Below w.heap.size w (w.alloc (.cells #[.slice a n c1] 22))) := (Below.refl _ _).alloc (Nat.le_refl _) _
  have hx := hW.cell 0
  have h := contains_any w.heap.size n c1 m c2 a b ls (w.alloc (.cells #[.slice a n c1] 22)) hx hn2 (h2.below HB.out) hm
  unfold fv at h
  have h4 : decide ((4096 : Int) < (m : Int)) = false := by simp; omega
  clear h2 hW
  cases ha : allN n ls with
  | false =>
    rw [ha] at h
    have HC : Hid (Calls Try.prog 34 #[.slice b m c2, .func (.func 33) #[] #[.pointer (some ⟨w.heap.size, 0, none⟩)]] (w.alloc (.cells #[.slice a n c1] 22)) fun e w' => e = .returned (.bool true) ∧ Below (w.alloc (.cells #[.slice a n c1] 22)).heap.size (w.alloc (.cells #[.slice a n c1] 22)) w') := h
    clear h ha
    clear hor
    go_enter Try.func21, Try.ntmps21
    go_wp2_with fail
    refine (HM.out _).mono ?_
    rintro e w1 ⟨rfl, rfl⟩
    go_wp2_with fail
    refine HC.out.mono ?_
    rintro e w2 ⟨rfl, hb2⟩
    have HB2 : Hid (Below w.heap.size w w2) := bel_step HB.out hb2
    clear hb2 hx HC HM
    go_wp2_with fail
    go_ret2
    exact ⟨none, 0, rfl, RowU.nil _ _, fun _ => rfl, HB2.out⟩
  | true =>
    rw [ha] at h
    have HC : Hid (Calls Try.prog 34 #[.slice b m c2, .func (.func 33) #[] #[.pointer (some ⟨w.heap.size, 0, none⟩)]] (w.alloc (.cells #[.slice a n c1] 22)) fun e w' => e = .returned (.bool false) ∧ Below (w.alloc (.cells #[.slice a n c1] 22)).heap.size (w.alloc (.cells #[.slice a n c1] 22)) w') := h
    clear h
    rw [ha] at hor
    clear ha
    by_cases h0 : k < 0
    · clear hor
      go_enter Try.func21, Try.ntmps21
      go_wp2_with fail
      refine (HM.out _).mono ?_
      rintro e w1 ⟨rfl, rfl⟩
      go_wp2_with fail
      refine HC.out.mono ?_
      rintro e w2 ⟨rfl, hb2⟩
      have HB2 : Hid (Below w.heap.size w w2) := bel_step HB.out hb2
      clear hb2 hx HC HM
      go_wp2_with fail
      go_ret2
      exact ⟨none, 0, rfl, RowU.nil _ _, fun _ => rfl, HB2.out⟩
    · have h5 : decide ((m : Int) < k) = true := by rcases hor with h | h | h; cases h; omega; simpa using h
      have h6 : decide (k < 0) = false := by simpa using h0
      clear hor
      go_enter Try.func21, Try.ntmps21
      go_wp2_with fail
      refine (HM.out _).mono ?_
      rintro e w1 ⟨rfl, rfl⟩
      go_wp2_with fail
      refine HC.out.mono ?_
      rintro e w2 ⟨rfl, hb2⟩
      have HB2 : Hid (Below w.heap.size w w2) := bel_step HB.out hb2
      clear hb2 hx HC HM
      go_wp2_with fail
      go_ret2
      exact ⟨none, 0, rfl, RowU.nil _ _, fun _ => rfl, HB2.out⟩

end Go.Proofs.Ytfllkhlnnihndaa.cell
