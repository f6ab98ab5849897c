/- What differs: the program's answer, and the document's. -/
import Derived.Test.YtiipnokmiknfoaaClBlank
namespace Go.Proofs.Ytiipnokmiknfoaa.cell
open Go.RowKit
set_option maxRecDepth 100000

/-- Writes and an answer were given back. -/
def GaveL (w : World) (ls : List Wr) (c : Int) (e : Ending) (w' : World) : Prop :=
  ∃ v, e = .returned (.tuple #[v, .int .i64 c]) ∧ Lw w' w.heap.size v ls ∧ Below w.heap.size w w'
theorem GaveL.mk {w w' : World} {ls : List Wr} {c : Int} {v : Value} (h : Lw w' w.heap.size v ls) (hb : Below w.heap.size w w') : GaveL w ls c (.returned (.tuple #[v, .int .i64 c])) w' := ⟨v, rfl, h, hb⟩
theorem pair_cell (w : World) (p d : Int) : (w.alloc (.cells #[.int .i64 p, .int .u32 d] 42)).cell? ⟨w.heap.size, 0, none⟩ = some (.int .i64 p) ∧ (w.alloc (.cells #[.int .i64 p, .int .u32 d] 42)).cell? ⟨w.heap.size, 1, none⟩ = some (.int .u32 d) :=
  ⟨(Blk.new w _ _).cell 0, (Blk.new w _ _).cell 1⟩

set_option maxHeartbeats 2000000 in
theorem diff_yes (a b : Option Addr) (n c1 c2 : Nat) (xs ys : List Int) (w : World) (h1 : RowU w a n xs) (h2 : RowU w b n ys) (hn : 1 ≤ n) (hn2 : n ≤ 2048) :
    Calls Try.prog 16 #[.slice a n c1, .slice b n c2] w fun e w' => GaveL w (dif xs ys n) 0 e w' := by
  have HM : Hid (∀ W, Calls Try.prog 21 #[.int .i64 (n : Int)] W fun e w' => e = .returned (.bool true) ∧ w' = W) := fun W => may_yes _ W (by omega) (by omega)
  have hne : ((n : Int) != (n : Int)) = false := by simp
  obtain ⟨b1, o1, rfl, l1, hc1⟩ := h1.at (by omega)
  obtain ⟨b2, o2, rfl, l2, hc2⟩ := h2.at (by omega)
  have HC1 : Hid (∀ wr, Below w.heap.size w wr → ∀ k, k < n → wr.cell? ⟨b1, o1 + k, none⟩ = some (.int .u32 (xs.getD k 0))) := fun wr hb k hk => (hb.cell (p := ⟨b1, o1 + k, none⟩) l1).trans (hc1 k hk)
  have HC2 : Hid (∀ wr, Below w.heap.size w wr → ∀ k, k < n → wr.cell? ⟨b2, o2 + k, none⟩ = some (.int .u32 (ys.getD k 0))) := fun wr hb k hk => (hb.cell (p := ⟨b2, o2 + k, none⟩) l2).trans (hc2 k hk)
  clear h1 h2 hc1 hc2 l1 l2
  go_enter Try.func16, Try.ntmps16
  go_wp2_with fail
  refine (HM.out _).mono ?_
  rintro e w1 ⟨rfl, rfl⟩
  go_wp2_with fail
  go_loopw [6, 22] (fun v i wr => ∃ (k : Nat) (V : Value), V = v ∧ k ≤ n ∧ i = .int .i64 (k : Int) ∧ Lw wr w1.heap.size V (dif xs ys k) ∧ Below w1.heap.size w1 wr) (fun _ i _ => n - (intOf i).toNat)
  case atStart => exact ⟨0, _, rfl, Nat.zero_le _, rfl, Lw.zero _ _, Below.refl _ _⟩
  case round =>
    obtain ⟨k, V, hV, hk, rfl, hown, hb⟩ := hrel
    subst hV
    have HO : Hid (Lw wr w1.heap.size V (dif xs ys k)) := hown
    have HB : Hid (Below w1.heap.size w1 wr) := hb
    clear hown hb
    by_cases hlt : k < n
    · have g1 := HC1.out wr HB.out k hlt
      have g2 := HC2.out wr HB.out k hlt
      by_cases he : xs.getD k 0 = ys.getD k 0
      · have HD : Hid (dif xs ys (k + 1) = dif xs ys k) := dif_same he
        rw [he] at g1
        clear he
        generalize ys.getD k 0 = z at *
        have hz : (z != z) = false := by simp
        go_wp2_with fail
        go_roundw
        case rel => exact ⟨k + 1, _, rfl, by omega, by go_num, by rw [HD.out]; exact HO.out, HB.out⟩
        case measure => simp [intOf]; omega
      · have HD : Hid (dif xs ys (k + 1) = dif xs ys k ++ [⟨(k : Int), ys.getD k 0⟩]) := dif_other he
        have hz : (xs.getD k 0 != ys.getD k 0) = true := by simpa using he
        have HLN : Hid ((dif xs ys k).length ≤ 1000000) := by have := dif_len xs ys k; show _ ≤ _; omega
        clear he
        generalize xs.getD k 0 = x at *
        generalize ys.getD k 0 = y at *
        have HG : Hid ((wr.alloc (.cells #[.int .i64 (k : Int), .int .u32 y] 42)).cell? ⟨wr.heap.size, 0, none⟩ = some (.int .i64 (k : Int)) ∧ (wr.alloc (.cells #[.int .i64 (k : Int), .int .u32 y] 42)).cell? ⟨wr.heap.size, 1, none⟩ = some (.int .u32 y)) := pair_cell wr (k : Int) y
        have HOA : Hid (Lw (wr.alloc (.cells #[.int .i64 (k : Int), .int .u32 y] 42)) w1.heap.size V (dif xs ys k)) := HO.out.alloc _
        have HSZ : Hid (w1.heap.size ≤ (wr.alloc (.cells #[.int .i64 (k : Int), .int .u32 y] 42)).heap.size) := by have := HB.out.size; show _ ≤ _; simp; omega
        go_wp2_with (first
          | (at_builtin; refine wp_write rfl _ _ rfl w1.heap.size wr.heap.size _ (dif xs ys k) ⟨(k : Int), y⟩ rfl rfl HOA.out HG.out HLN.out HSZ.out ?_)
          | go_in)
        intro v' w4 hL4 hg4
        have HL4 : Hid (Lw w4 w1.heap.size v' (dif xs ys (k + 1))) := by rw [HD.out]; exact hL4
        have HB4 : Hid (Below w1.heap.size w1 w4) := own_bel HOA.out hg4 (HB.out.alloc HB.out.size _) (Nat.le_refl _) HSZ.out
        clear hL4 hg4 HOA HO HB HG HSZ HD
        go_wp2_with fail
        go_roundw
        case rel => exact ⟨k + 1, _, rfl, by omega, by go_num, HL4.out, HB4.out⟩
        case measure => simp [intOf]; omega
    · obtain rfl : k = n := by omega
      go_wp2_with fail
      go_ret2
      exact GaveL.mk HO.out HB.out

theorem diff_no (a b : Option Addr) (n m c1 c2 : Nat) (w : World) (h : n = 0 ∨ 2048 < n ∨ n ≠ m) :
    Calls Try.prog 16 #[.slice a n c1, .slice b m c2] w fun e w' => GaveL w [] 1 e w' := by
  by_cases h0 : n = 0 ∨ 2048 < n
  · have HM : Hid (∀ W, Calls Try.prog 21 #[.int .i64 (n : Int)] W fun e w' => e = .returned (.bool false) ∧ w' = W) := fun W => may_no _ W (by omega)
    clear h h0
    go_enter Try.func16, Try.ntmps16
    go_wp2_with fail
    refine (HM.out _).mono ?_
    rintro e w1 ⟨rfl, rfl⟩
    go_wp2_with fail
    go_ret2
    exact GaveL.mk (Lw.zero _ _) (Below.refl _ _)
  · have HM : Hid (∀ W, Calls Try.prog 21 #[.int .i64 (n : Int)] W fun e w' => e = .returned (.bool true) ∧ w' = W) := fun W => may_yes _ W (by omega) (by omega)
    have hne : ((n : Int) != (m : Int)) = true := by simp; omega
    clear h h0
    go_enter Try.func16, Try.ntmps16
    go_wp2_with fail
    refine (HM.out _).mono ?_
    rintro e w1 ⟨rfl, rfl⟩
    go_wp2_with fail
    go_ret2
    exact GaveL.mk (Lw.zero _ _) (Below.refl _ _)

end Go.Proofs.Ytiipnokmiknfoaa.cell
