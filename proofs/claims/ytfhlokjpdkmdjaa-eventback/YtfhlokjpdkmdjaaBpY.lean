/- The event of words, in the program. -/
import Derived.Test.YtfhlokjpdkmdjaaBkD
import Derived.Test.YtfhlokjpdkmdjaaWRow
import Derived.Test.YtfhlokjpdkmdjaaBlk
import Derived.Test.YtfhlokjpdkmdjaaLet
import Derived.Deep.DeepCutAuto
namespace Go.Proofs.Ytfhlokjpdkmdjaa.book
open Go.RowKit Go.Proofs.Ytfhlokjpdkmdjaa.cell
set_option maxRecDepth 100000
set_option linter.unusedVariables false
set_option linter.unusedSimpArgs false

/-- The first k numbers, the others 0. -/
def cellsK (l : List Int) (k : Nat) : Array Value := ((l.take k ++ List.replicate (13 - k) 0).map (fun x => Value.int .i64 x)).toArray
theorem cellsK_size (l : List Int) (h : l.length = 13) (k : Nat) (hk : k ≤ 13) : (cellsK l k).size = 13 := by simp [cellsK, h]; omega
theorem cellsK_next (l : List Int) (h : l.length = 13) (k : Nat) (hk : k < 13) : (cellsK l k).setIfInBounds k (.int .i64 (l.getD k 0)) = cellsK l (k + 1) := by
  match l, h with
  | [a0, a1, a2, a3, a4, a5, a6, a7, a8, a9, a10, a11, a12], _ =>
    match k, hk with
    | 0, _ => rfl
    | 1, _ => rfl
    | 2, _ => rfl
    | 3, _ => rfl
    | 4, _ => rfl
    | 5, _ => rfl
    | 6, _ => rfl
    | 7, _ => rfl
    | 8, _ => rfl
    | 9, _ => rfl
    | 10, _ => rfl
    | 11, _ => rfl
    | 12, _ => rfl
theorem cellsK_zero (l : List Int) : cellsK l 0 = #[.int .i64 0, .int .i64 0, .int .i64 0, .int .i64 0, .int .i64 0, .int .i64 0, .int .i64 0, .int .i64 0, .int .i64 0, .int .i64 0, .int .i64 0, .int .i64 0, .int .i64 0] := rfl
theorem cellsK_all (l : List Int) (h : l.length = 13) : cellsK l 13 = (evOf l).cs := by
  match l, h with
  | [a0, a1, a2, a3, a4, a5, a6, a7, a8, a9, a10, a11, a12], _ => rfl
theorem indexP_0 (g : Nat) (W : World) : (Instr.index 93 (.agg #[.pointer (some ⟨g, 0, none⟩), .pointer (some ⟨g, 1, none⟩), .pointer (some ⟨g, 2, none⟩), .pointer (some ⟨g, 3, none⟩), .pointer (some ⟨g, 4, none⟩), .pointer (some ⟨g, 5, none⟩), .pointer (some ⟨g, 6, none⟩), .pointer (some ⟨g, 7, none⟩), .pointer (some ⟨g, 8, none⟩), .pointer (some ⟨g, 9, none⟩), .pointer (some ⟨g, 10, none⟩), .pointer (some ⟨g, 11, none⟩), .pointer (some ⟨g, 12, none⟩)]) (.int .i64 0)).run Try.prog W = .ok (.pointer (some ⟨g, 0, none⟩)) W := by kernel_rfl
theorem indexP_1 (g : Nat) (W : World) : (Instr.index 93 (.agg #[.pointer (some ⟨g, 0, none⟩), .pointer (some ⟨g, 1, none⟩), .pointer (some ⟨g, 2, none⟩), .pointer (some ⟨g, 3, none⟩), .pointer (some ⟨g, 4, none⟩), .pointer (some ⟨g, 5, none⟩), .pointer (some ⟨g, 6, none⟩), .pointer (some ⟨g, 7, none⟩), .pointer (some ⟨g, 8, none⟩), .pointer (some ⟨g, 9, none⟩), .pointer (some ⟨g, 10, none⟩), .pointer (some ⟨g, 11, none⟩), .pointer (some ⟨g, 12, none⟩)]) (.int .i64 1)).run Try.prog W = .ok (.pointer (some ⟨g, 1, none⟩)) W := by kernel_rfl
theorem indexP_2 (g : Nat) (W : World) : (Instr.index 93 (.agg #[.pointer (some ⟨g, 0, none⟩), .pointer (some ⟨g, 1, none⟩), .pointer (some ⟨g, 2, none⟩), .pointer (some ⟨g, 3, none⟩), .pointer (some ⟨g, 4, none⟩), .pointer (some ⟨g, 5, none⟩), .pointer (some ⟨g, 6, none⟩), .pointer (some ⟨g, 7, none⟩), .pointer (some ⟨g, 8, none⟩), .pointer (some ⟨g, 9, none⟩), .pointer (some ⟨g, 10, none⟩), .pointer (some ⟨g, 11, none⟩), .pointer (some ⟨g, 12, none⟩)]) (.int .i64 2)).run Try.prog W = .ok (.pointer (some ⟨g, 2, none⟩)) W := by kernel_rfl
theorem indexP_3 (g : Nat) (W : World) : (Instr.index 93 (.agg #[.pointer (some ⟨g, 0, none⟩), .pointer (some ⟨g, 1, none⟩), .pointer (some ⟨g, 2, none⟩), .pointer (some ⟨g, 3, none⟩), .pointer (some ⟨g, 4, none⟩), .pointer (some ⟨g, 5, none⟩), .pointer (some ⟨g, 6, none⟩), .pointer (some ⟨g, 7, none⟩), .pointer (some ⟨g, 8, none⟩), .pointer (some ⟨g, 9, none⟩), .pointer (some ⟨g, 10, none⟩), .pointer (some ⟨g, 11, none⟩), .pointer (some ⟨g, 12, none⟩)]) (.int .i64 3)).run Try.prog W = .ok (.pointer (some ⟨g, 3, none⟩)) W := by kernel_rfl
theorem indexP_4 (g : Nat) (W : World) : (Instr.index 93 (.agg #[.pointer (some ⟨g, 0, none⟩), .pointer (some ⟨g, 1, none⟩), .pointer (some ⟨g, 2, none⟩), .pointer (some ⟨g, 3, none⟩), .pointer (some ⟨g, 4, none⟩), .pointer (some ⟨g, 5, none⟩), .pointer (some ⟨g, 6, none⟩), .pointer (some ⟨g, 7, none⟩), .pointer (some ⟨g, 8, none⟩), .pointer (some ⟨g, 9, none⟩), .pointer (some ⟨g, 10, none⟩), .pointer (some ⟨g, 11, none⟩), .pointer (some ⟨g, 12, none⟩)]) (.int .i64 4)).run Try.prog W = .ok (.pointer (some ⟨g, 4, none⟩)) W := by kernel_rfl
theorem indexP_5 (g : Nat) (W : World) : (Instr.index 93 (.agg #[.pointer (some ⟨g, 0, none⟩), .pointer (some ⟨g, 1, none⟩), .pointer (some ⟨g, 2, none⟩), .pointer (some ⟨g, 3, none⟩), .pointer (some ⟨g, 4, none⟩), .pointer (some ⟨g, 5, none⟩), .pointer (some ⟨g, 6, none⟩), .pointer (some ⟨g, 7, none⟩), .pointer (some ⟨g, 8, none⟩), .pointer (some ⟨g, 9, none⟩), .pointer (some ⟨g, 10, none⟩), .pointer (some ⟨g, 11, none⟩), .pointer (some ⟨g, 12, none⟩)]) (.int .i64 5)).run Try.prog W = .ok (.pointer (some ⟨g, 5, none⟩)) W := by kernel_rfl
theorem indexP_6 (g : Nat) (W : World) : (Instr.index 93 (.agg #[.pointer (some ⟨g, 0, none⟩), .pointer (some ⟨g, 1, none⟩), .pointer (some ⟨g, 2, none⟩), .pointer (some ⟨g, 3, none⟩), .pointer (some ⟨g, 4, none⟩), .pointer (some ⟨g, 5, none⟩), .pointer (some ⟨g, 6, none⟩), .pointer (some ⟨g, 7, none⟩), .pointer (some ⟨g, 8, none⟩), .pointer (some ⟨g, 9, none⟩), .pointer (some ⟨g, 10, none⟩), .pointer (some ⟨g, 11, none⟩), .pointer (some ⟨g, 12, none⟩)]) (.int .i64 6)).run Try.prog W = .ok (.pointer (some ⟨g, 6, none⟩)) W := by kernel_rfl
theorem indexP_7 (g : Nat) (W : World) : (Instr.index 93 (.agg #[.pointer (some ⟨g, 0, none⟩), .pointer (some ⟨g, 1, none⟩), .pointer (some ⟨g, 2, none⟩), .pointer (some ⟨g, 3, none⟩), .pointer (some ⟨g, 4, none⟩), .pointer (some ⟨g, 5, none⟩), .pointer (some ⟨g, 6, none⟩), .pointer (some ⟨g, 7, none⟩), .pointer (some ⟨g, 8, none⟩), .pointer (some ⟨g, 9, none⟩), .pointer (some ⟨g, 10, none⟩), .pointer (some ⟨g, 11, none⟩), .pointer (some ⟨g, 12, none⟩)]) (.int .i64 7)).run Try.prog W = .ok (.pointer (some ⟨g, 7, none⟩)) W := by kernel_rfl
theorem indexP_8 (g : Nat) (W : World) : (Instr.index 93 (.agg #[.pointer (some ⟨g, 0, none⟩), .pointer (some ⟨g, 1, none⟩), .pointer (some ⟨g, 2, none⟩), .pointer (some ⟨g, 3, none⟩), .pointer (some ⟨g, 4, none⟩), .pointer (some ⟨g, 5, none⟩), .pointer (some ⟨g, 6, none⟩), .pointer (some ⟨g, 7, none⟩), .pointer (some ⟨g, 8, none⟩), .pointer (some ⟨g, 9, none⟩), .pointer (some ⟨g, 10, none⟩), .pointer (some ⟨g, 11, none⟩), .pointer (some ⟨g, 12, none⟩)]) (.int .i64 8)).run Try.prog W = .ok (.pointer (some ⟨g, 8, none⟩)) W := by kernel_rfl
theorem indexP_9 (g : Nat) (W : World) : (Instr.index 93 (.agg #[.pointer (some ⟨g, 0, none⟩), .pointer (some ⟨g, 1, none⟩), .pointer (some ⟨g, 2, none⟩), .pointer (some ⟨g, 3, none⟩), .pointer (some ⟨g, 4, none⟩), .pointer (some ⟨g, 5, none⟩), .pointer (some ⟨g, 6, none⟩), .pointer (some ⟨g, 7, none⟩), .pointer (some ⟨g, 8, none⟩), .pointer (some ⟨g, 9, none⟩), .pointer (some ⟨g, 10, none⟩), .pointer (some ⟨g, 11, none⟩), .pointer (some ⟨g, 12, none⟩)]) (.int .i64 9)).run Try.prog W = .ok (.pointer (some ⟨g, 9, none⟩)) W := by kernel_rfl
theorem indexP_10 (g : Nat) (W : World) : (Instr.index 93 (.agg #[.pointer (some ⟨g, 0, none⟩), .pointer (some ⟨g, 1, none⟩), .pointer (some ⟨g, 2, none⟩), .pointer (some ⟨g, 3, none⟩), .pointer (some ⟨g, 4, none⟩), .pointer (some ⟨g, 5, none⟩), .pointer (some ⟨g, 6, none⟩), .pointer (some ⟨g, 7, none⟩), .pointer (some ⟨g, 8, none⟩), .pointer (some ⟨g, 9, none⟩), .pointer (some ⟨g, 10, none⟩), .pointer (some ⟨g, 11, none⟩), .pointer (some ⟨g, 12, none⟩)]) (.int .i64 10)).run Try.prog W = .ok (.pointer (some ⟨g, 10, none⟩)) W := by kernel_rfl
theorem indexP_11 (g : Nat) (W : World) : (Instr.index 93 (.agg #[.pointer (some ⟨g, 0, none⟩), .pointer (some ⟨g, 1, none⟩), .pointer (some ⟨g, 2, none⟩), .pointer (some ⟨g, 3, none⟩), .pointer (some ⟨g, 4, none⟩), .pointer (some ⟨g, 5, none⟩), .pointer (some ⟨g, 6, none⟩), .pointer (some ⟨g, 7, none⟩), .pointer (some ⟨g, 8, none⟩), .pointer (some ⟨g, 9, none⟩), .pointer (some ⟨g, 10, none⟩), .pointer (some ⟨g, 11, none⟩), .pointer (some ⟨g, 12, none⟩)]) (.int .i64 11)).run Try.prog W = .ok (.pointer (some ⟨g, 11, none⟩)) W := by kernel_rfl
theorem indexP_12 (g : Nat) (W : World) : (Instr.index 93 (.agg #[.pointer (some ⟨g, 0, none⟩), .pointer (some ⟨g, 1, none⟩), .pointer (some ⟨g, 2, none⟩), .pointer (some ⟨g, 3, none⟩), .pointer (some ⟨g, 4, none⟩), .pointer (some ⟨g, 5, none⟩), .pointer (some ⟨g, 6, none⟩), .pointer (some ⟨g, 7, none⟩), .pointer (some ⟨g, 8, none⟩), .pointer (some ⟨g, 9, none⟩), .pointer (some ⟨g, 10, none⟩), .pointer (some ⟨g, 11, none⟩), .pointer (some ⟨g, 12, none⟩)]) (.int .i64 12)).run Try.prog W = .ok (.pointer (some ⟨g, 12, none⟩)) W := by kernel_rfl
theorem indexP (g : Nat) (k : Nat) (hk : k < 13) (W : World) : (Instr.index 93 (.agg #[.pointer (some ⟨g, 0, none⟩), .pointer (some ⟨g, 1, none⟩), .pointer (some ⟨g, 2, none⟩), .pointer (some ⟨g, 3, none⟩), .pointer (some ⟨g, 4, none⟩), .pointer (some ⟨g, 5, none⟩), .pointer (some ⟨g, 6, none⟩), .pointer (some ⟨g, 7, none⟩), .pointer (some ⟨g, 8, none⟩), .pointer (some ⟨g, 9, none⟩), .pointer (some ⟨g, 10, none⟩), .pointer (some ⟨g, 11, none⟩), .pointer (some ⟨g, 12, none⟩)]) (.int .i64 (k : Int))).run Try.prog W = .ok (.pointer (some ⟨g, k, none⟩)) W := by
  match k, hk with
  | 0, _ => exact indexP_0 g W
  | 1, _ => exact indexP_1 g W
  | 2, _ => exact indexP_2 g W
  | 3, _ => exact indexP_3 g W
  | 4, _ => exact indexP_4 g W
  | 5, _ => exact indexP_5 g W
  | 6, _ => exact indexP_6 g W
  | 7, _ => exact indexP_7 g W
  | 8, _ => exact indexP_8 g W
  | 9, _ => exact indexP_9 g W
  | 10, _ => exact indexP_10 g W
  | 11, _ => exact indexP_11 g W
  | 12, _ => exact indexP_12 g W
set_option maxHeartbeats 4000000 in
theorem bevent (a : Option Addr) (cap : Nat) (l : List Int) (w : World) (hr : RowU w a 13 l) (hm : ∀ x ∈ l, 0 ≤ x ∧ x < 4294967296) : Calls Try.prog 31 #[.slice a 13 cap] w fun e w' => e = .returned (evOf l).v ∧ Below w.heap.size w w' := by
  have hlen := hr.1
  obtain ⟨b, off, rfl, lb, hc⟩ := hr.at (by decide)
  have HM : Hid (∀ k, k < 13 → 0 ≤ l.getD k 0 ∧ l.getD k 0 < 4294967296) := fun k hk => hm _ (by
    have hl : k < l.length := by omega
    rw [show l.getD k 0 = l[k] by simp [List.getD, List.getElem?_eq_getElem hl]]
    exact List.getElem_mem _)
  have HC : Hid (∀ W, Below w.heap.size w W → ∀ k, k < 13 → W.cell? ⟨b, off + k, none⟩ = some (.int .u32 (l.getD k 0))) := fun W hB k hk => (hB.cell (p := ⟨b, off + k, none⟩) lb).trans (hc k hk)
  have HIX : Hid (∀ k : Nat, k < 13 → ∀ W, (Instr.index 93 (.agg #[.pointer (some ⟨w.heap.size + 1, 0, none⟩), .pointer (some ⟨w.heap.size + 1, 1, none⟩), .pointer (some ⟨w.heap.size + 1, 2, none⟩), .pointer (some ⟨w.heap.size + 1, 3, none⟩), .pointer (some ⟨w.heap.size + 1, 4, none⟩), .pointer (some ⟨w.heap.size + 1, 5, none⟩), .pointer (some ⟨w.heap.size + 1, 6, none⟩), .pointer (some ⟨w.heap.size + 1, 7, none⟩), .pointer (some ⟨w.heap.size + 1, 8, none⟩), .pointer (some ⟨w.heap.size + 1, 9, none⟩), .pointer (some ⟨w.heap.size + 1, 10, none⟩), .pointer (some ⟨w.heap.size + 1, 11, none⟩), .pointer (some ⟨w.heap.size + 1, 12, none⟩)]) (.int .i64 (k : Int))).run Try.prog W = .ok (.pointer (some ⟨w.heap.size + 1, k, none⟩)) W) := fun k hk W => indexP _ k hk W
  have HL : Hid (l.length = 13) := hlen
  clear hm hc hr lb hlen
  have HR0 : Hid (Blk (((w.alloc (.cells #[.int .i64 0, .int .i64 0, .int .i64 0, .int .i64 0, .int .i64 0, .int .i64 0, .int .i64 0, .int .i64 0, .int .i64 0, .int .i64 0, .int .i64 0, .int .i64 0, .int .i64 0] 27)).alloc (.cells #[.int .i64 0, .int .i64 0, .int .i64 0, .int .i64 0, .int .i64 0, .int .i64 0, .int .i64 0, .int .i64 0, .int .i64 0, .int .i64 0, .int .i64 0, .int .i64 0, .int .i64 0] 27)).alloc (.cells #[.pointer (some ⟨w.heap.size + 1, 0, none⟩), .pointer (some ⟨w.heap.size + 1, 1, none⟩), .pointer (some ⟨w.heap.size + 1, 2, none⟩), .pointer (some ⟨w.heap.size + 1, 3, none⟩), .pointer (some ⟨w.heap.size + 1, 4, none⟩), .pointer (some ⟨w.heap.size + 1, 5, none⟩), .pointer (some ⟨w.heap.size + 1, 6, none⟩), .pointer (some ⟨w.heap.size + 1, 7, none⟩), .pointer (some ⟨w.heap.size + 1, 8, none⟩), .pointer (some ⟨w.heap.size + 1, 9, none⟩), .pointer (some ⟨w.heap.size + 1, 10, none⟩), .pointer (some ⟨w.heap.size + 1, 11, none⟩), .pointer (some ⟨w.heap.size + 1, 12, none⟩)] 93)) w.heap.size #[.int .i64 0, .int .i64 0, .int .i64 0, .int .i64 0, .int .i64 0, .int .i64 0, .int .i64 0, .int .i64 0, .int .i64 0, .int .i64 0, .int .i64 0, .int .i64 0, .int .i64 0] 27) := ((Blk.new _ _ _).alloc _).alloc _
  have HV0 : Hid (Blk (((w.alloc (.cells #[.int .i64 0, .int .i64 0, .int .i64 0, .int .i64 0, .int .i64 0, .int .i64 0, .int .i64 0, .int .i64 0, .int .i64 0, .int .i64 0, .int .i64 0, .int .i64 0, .int .i64 0] 27)).alloc (.cells #[.int .i64 0, .int .i64 0, .int .i64 0, .int .i64 0, .int .i64 0, .int .i64 0, .int .i64 0, .int .i64 0, .int .i64 0, .int .i64 0, .int .i64 0, .int .i64 0, .int .i64 0] 27)).alloc (.cells #[.pointer (some ⟨w.heap.size + 1, 0, none⟩), .pointer (some ⟨w.heap.size + 1, 1, none⟩), .pointer (some ⟨w.heap.size + 1, 2, none⟩), .pointer (some ⟨w.heap.size + 1, 3, none⟩), .pointer (some ⟨w.heap.size + 1, 4, none⟩), .pointer (some ⟨w.heap.size + 1, 5, none⟩), .pointer (some ⟨w.heap.size + 1, 6, none⟩), .pointer (some ⟨w.heap.size + 1, 7, none⟩), .pointer (some ⟨w.heap.size + 1, 8, none⟩), .pointer (some ⟨w.heap.size + 1, 9, none⟩), .pointer (some ⟨w.heap.size + 1, 10, none⟩), .pointer (some ⟨w.heap.size + 1, 11, none⟩), .pointer (some ⟨w.heap.size + 1, 12, none⟩)] 93)) (w.heap.size + 1) #[.int .i64 0, .int .i64 0, .int .i64 0, .int .i64 0, .int .i64 0, .int .i64 0, .int .i64 0, .int .i64 0, .int .i64 0, .int .i64 0, .int .i64 0, .int .i64 0, .int .i64 0] 27) := (Blk.new1 _ _ _ _).alloc _
  have HP0 : Hid (Blk (((w.alloc (.cells #[.int .i64 0, .int .i64 0, .int .i64 0, .int .i64 0, .int .i64 0, .int .i64 0, .int .i64 0, .int .i64 0, .int .i64 0, .int .i64 0, .int .i64 0, .int .i64 0, .int .i64 0] 27)).alloc (.cells #[.int .i64 0, .int .i64 0, .int .i64 0, .int .i64 0, .int .i64 0, .int .i64 0, .int .i64 0, .int .i64 0, .int .i64 0, .int .i64 0, .int .i64 0, .int .i64 0, .int .i64 0] 27)).alloc (.cells #[.pointer (some ⟨w.heap.size + 1, 0, none⟩), .pointer (some ⟨w.heap.size + 1, 1, none⟩), .pointer (some ⟨w.heap.size + 1, 2, none⟩), .pointer (some ⟨w.heap.size + 1, 3, none⟩), .pointer (some ⟨w.heap.size + 1, 4, none⟩), .pointer (some ⟨w.heap.size + 1, 5, none⟩), .pointer (some ⟨w.heap.size + 1, 6, none⟩), .pointer (some ⟨w.heap.size + 1, 7, none⟩), .pointer (some ⟨w.heap.size + 1, 8, none⟩), .pointer (some ⟨w.heap.size + 1, 9, none⟩), .pointer (some ⟨w.heap.size + 1, 10, none⟩), .pointer (some ⟨w.heap.size + 1, 11, none⟩), .pointer (some ⟨w.heap.size + 1, 12, none⟩)] 93)) (w.heap.size + 1 + 1) #[.pointer (some ⟨w.heap.size + 1, 0, none⟩), .pointer (some ⟨w.heap.size + 1, 1, none⟩), .pointer (some ⟨w.heap.size + 1, 2, none⟩), .pointer (some ⟨w.heap.size + 1, 3, none⟩), .pointer (some ⟨w.heap.size + 1, 4, none⟩), .pointer (some ⟨w.heap.size + 1, 5, none⟩), .pointer (some ⟨w.heap.size + 1, 6, none⟩), .pointer (some ⟨w.heap.size + 1, 7, none⟩), .pointer (some ⟨w.heap.size + 1, 8, none⟩), .pointer (some ⟨w.heap.size + 1, 9, none⟩), .pointer (some ⟨w.heap.size + 1, 10, none⟩), .pointer (some ⟨w.heap.size + 1, 11, none⟩), .pointer (some ⟨w.heap.size + 1, 12, none⟩)] 93) := Blk.new2 _ _ _ _ _
  have HB0 : Hid (Below w.heap.size w (((w.alloc (.cells #[.int .i64 0, .int .i64 0, .int .i64 0, .int .i64 0, .int .i64 0, .int .i64 0, .int .i64 0, .int .i64 0, .int .i64 0, .int .i64 0, .int .i64 0, .int .i64 0, .int .i64 0] 27)).alloc (.cells #[.int .i64 0, .int .i64 0, .int .i64 0, .int .i64 0, .int .i64 0, .int .i64 0, .int .i64 0, .int .i64 0, .int .i64 0, .int .i64 0, .int .i64 0, .int .i64 0, .int .i64 0] 27)).alloc (.cells #[.pointer (some ⟨w.heap.size + 1, 0, none⟩), .pointer (some ⟨w.heap.size + 1, 1, none⟩), .pointer (some ⟨w.heap.size + 1, 2, none⟩), .pointer (some ⟨w.heap.size + 1, 3, none⟩), .pointer (some ⟨w.heap.size + 1, 4, none⟩), .pointer (some ⟨w.heap.size + 1, 5, none⟩), .pointer (some ⟨w.heap.size + 1, 6, none⟩), .pointer (some ⟨w.heap.size + 1, 7, none⟩), .pointer (some ⟨w.heap.size + 1, 8, none⟩), .pointer (some ⟨w.heap.size + 1, 9, none⟩), .pointer (some ⟨w.heap.size + 1, 10, none⟩), .pointer (some ⟨w.heap.size + 1, 11, none⟩), .pointer (some ⟨w.heap.size + 1, 12, none⟩)] 93))) := (((Below.refl _ _).alloc (Nat.le_refl _) _).alloc (by simp) _).alloc (by simp; omega) _
  go_enter Try.func31, Try.ntmps31
  go_upto_region 3 with fail
  generalize (((w.alloc (.cells #[.int .i64 0, .int .i64 0, .int .i64 0, .int .i64 0, .int .i64 0, .int .i64 0, .int .i64 0, .int .i64 0, .int .i64 0, .int .i64 0, .int .i64 0, .int .i64 0, .int .i64 0] 27)).alloc (.cells #[.int .i64 0, .int .i64 0, .int .i64 0, .int .i64 0, .int .i64 0, .int .i64 0, .int .i64 0, .int .i64 0, .int .i64 0, .int .i64 0, .int .i64 0, .int .i64 0, .int .i64 0] 27)).alloc (.cells #[.pointer (some ⟨w.heap.size + 1, 0, none⟩), .pointer (some ⟨w.heap.size + 1, 1, none⟩), .pointer (some ⟨w.heap.size + 1, 2, none⟩), .pointer (some ⟨w.heap.size + 1, 3, none⟩), .pointer (some ⟨w.heap.size + 1, 4, none⟩), .pointer (some ⟨w.heap.size + 1, 5, none⟩), .pointer (some ⟨w.heap.size + 1, 6, none⟩), .pointer (some ⟨w.heap.size + 1, 7, none⟩), .pointer (some ⟨w.heap.size + 1, 8, none⟩), .pointer (some ⟨w.heap.size + 1, 9, none⟩), .pointer (some ⟨w.heap.size + 1, 10, none⟩), .pointer (some ⟨w.heap.size + 1, 11, none⟩), .pointer (some ⟨w.heap.size + 1, 12, none⟩)] 93)) = W0 at *
  have p0 : W0.cell? ⟨w.heap.size + 1 + 1, 0, none⟩ = some (.pointer (some ⟨w.heap.size + 1, 0, none⟩)) := HP0.out.cell 0
  have p1 : W0.cell? ⟨w.heap.size + 1 + 1, 1, none⟩ = some (.pointer (some ⟨w.heap.size + 1, 1, none⟩)) := HP0.out.cell 1
  have p2 : W0.cell? ⟨w.heap.size + 1 + 1, 2, none⟩ = some (.pointer (some ⟨w.heap.size + 1, 2, none⟩)) := HP0.out.cell 2
  have p3 : W0.cell? ⟨w.heap.size + 1 + 1, 3, none⟩ = some (.pointer (some ⟨w.heap.size + 1, 3, none⟩)) := HP0.out.cell 3
  have p4 : W0.cell? ⟨w.heap.size + 1 + 1, 4, none⟩ = some (.pointer (some ⟨w.heap.size + 1, 4, none⟩)) := HP0.out.cell 4
  have p5 : W0.cell? ⟨w.heap.size + 1 + 1, 5, none⟩ = some (.pointer (some ⟨w.heap.size + 1, 5, none⟩)) := HP0.out.cell 5
  have p6 : W0.cell? ⟨w.heap.size + 1 + 1, 6, none⟩ = some (.pointer (some ⟨w.heap.size + 1, 6, none⟩)) := HP0.out.cell 6
  have p7 : W0.cell? ⟨w.heap.size + 1 + 1, 7, none⟩ = some (.pointer (some ⟨w.heap.size + 1, 7, none⟩)) := HP0.out.cell 7
  have p8 : W0.cell? ⟨w.heap.size + 1 + 1, 8, none⟩ = some (.pointer (some ⟨w.heap.size + 1, 8, none⟩)) := HP0.out.cell 8
  have p9 : W0.cell? ⟨w.heap.size + 1 + 1, 9, none⟩ = some (.pointer (some ⟨w.heap.size + 1, 9, none⟩)) := HP0.out.cell 9
  have p10 : W0.cell? ⟨w.heap.size + 1 + 1, 10, none⟩ = some (.pointer (some ⟨w.heap.size + 1, 10, none⟩)) := HP0.out.cell 10
  have p11 : W0.cell? ⟨w.heap.size + 1 + 1, 11, none⟩ = some (.pointer (some ⟨w.heap.size + 1, 11, none⟩)) := HP0.out.cell 11
  have p12 : W0.cell? ⟨w.heap.size + 1 + 1, 12, none⟩ = some (.pointer (some ⟨w.heap.size + 1, 12, none⟩)) := HP0.out.cell 12
  go_wp2_with fail
  clear HP0 p0 p1 p2 p3 p4 p5 p6 p7 p8 p9 p10 p11 p12
  go_loopw [31] (fun v31 wr => ∃ (k : Nat), k ≤ 13 ∧ v31 = .int .i64 (k : Int) ∧ Blk wr w.heap.size #[.int .i64 0, .int .i64 0, .int .i64 0, .int .i64 0, .int .i64 0, .int .i64 0, .int .i64 0, .int .i64 0, .int .i64 0, .int .i64 0, .int .i64 0, .int .i64 0, .int .i64 0] 27 ∧ Blk wr (w.heap.size + 1) (cellsK l k) 27 ∧ Below w.heap.size w wr) (fun v31 _ => 13 - (intOf v31).toNat)
  case atStart => exact ⟨0, Nat.zero_le _, rfl, HR0.out, HV0.out, HB0.out⟩
  case round =>
    obtain ⟨k, hk, rfl, hR, hV, hbl⟩ := hrel
    have HR : Hid (Blk wr w.heap.size #[.int .i64 0, .int .i64 0, .int .i64 0, .int .i64 0, .int .i64 0, .int .i64 0, .int .i64 0, .int .i64 0, .int .i64 0, .int .i64 0, .int .i64 0, .int .i64 0, .int .i64 0] 27) := hR
    have HV : Hid (Blk wr (w.heap.size + 1) (cellsK l k) 27) := hV
    have HBL : Hid (Below w.heap.size w wr) := hbl
    clear hR hV hbl HR0 HV0 HB0
    by_cases hkm : k < 13
    · have hix := HIX.out k hkm
      have hz := HM.out k hkm
      have hcl := HC.out wr HBL.out k hkm
      have HNX : Hid ((cellsK l k).setIfInBounds k (.int .i64 (l.getD k 0)) = cellsK l (k + 1)) := cellsK_next l HL.out k hkm
      have hks : k < (cellsK l k).size := by rw [cellsK_size l HL.out k hk]; exact hkm
      clear HIX HM HC
      generalize l.getD k 0 = z at *
      have hwz : IntKind.i64.wrap z = z := by rw [IntKind.wrap_i64]; omega
      have hdl : decide ((k : Int) < 13) = true := decide_eq_true (by omega)
      have hb13 : (0 : Int) ≤ (k : Int) ∧ (k : Int) < ((13 : Nat) : Int) := by omega
      clear hz
      go_wp2_with (first | (refine wp_let1 rfl 3 _ _ rfl (w.heap.size + 1) k rfl .i64 z rfl (by kernel_rfl) (cellsK l k) 27 HV.out hks ?_) | fail)
      intro W3 hU
      have H3 : Hid (Blk W3 (w.heap.size + 1) (cellsK l (k + 1)) 27) := by show Blk _ _ _ _; rw [← HNX.out]; exact hU.blk
      have HR3 : Hid (Blk W3 w.heap.size #[.int .i64 0, .int .i64 0, .int .i64 0, .int .i64 0, .int .i64 0, .int .i64 0, .int .i64 0, .int .i64 0, .int .i64 0, .int .i64 0, .int .i64 0, .int .i64 0, .int .i64 0] 27) := hU.keep HR.out (by omega)
      have HB3 : Hid (Below w.heap.size w W3) := hU.bel _ _ (by omega) HBL.out
      clear hU hcl
      go_wp2_with fail
      go_roundw
      case rel => exact ⟨k + 1, by omega, by go_num, HR3.out, H3.out, HB3.out⟩
      case measure => simp [intOf]; omega
    · obtain rfl : k = 13 := by omega
      have hdl : decide (((13 : Nat) : Int) < 13) = false := decide_eq_false (by omega)
      have HFN : Hid (Blk wr (w.heap.size + 1) (evOf l).cs 27) := by
        show Blk _ _ _ _
        rw [← cellsK_all l HL.out]; exact HV.out
      clear HV
      obtain ⟨v, hv⟩ : ∃ v, v = evOf l := ⟨_, rfl⟩
      have HVE : Hid (v = evOf l) := hv
      rw [← hv] at HFN
      clear hv
      unfold Ev.cs at HFN
      have c0 : wr.cell? ⟨w.heap.size + 1, 0, none⟩ = some (.int .i64 v.kd) := HFN.out.cell 0
      have c1 : wr.cell? ⟨w.heap.size + 1, 1, none⟩ = some (.int .i64 v.me) := HFN.out.cell 1
      have c2 : wr.cell? ⟨w.heap.size + 1, 2, none⟩ = some (.int .i64 v.mo) := HFN.out.cell 2
      have c3 : wr.cell? ⟨w.heap.size + 1, 3, none⟩ = some (.int .i64 v.id) := HFN.out.cell 3
      have c4 : wr.cell? ⟨w.heap.size + 1, 4, none⟩ = some (.int .i64 v.te) := HFN.out.cell 4
      have c5 : wr.cell? ⟨w.heap.size + 1, 5, none⟩ = some (.int .i64 v.de) := HFN.out.cell 5
      have c6 : wr.cell? ⟨w.heap.size + 1, 6, none⟩ = some (.int .i64 v.fe) := HFN.out.cell 6
      have c7 : wr.cell? ⟨w.heap.size + 1, 7, none⟩ = some (.int .i64 v.pr) := HFN.out.cell 7
      have c8 : wr.cell? ⟨w.heap.size + 1, 8, none⟩ = some (.int .i64 v.ch) := HFN.out.cell 8
      have c9 : wr.cell? ⟨w.heap.size + 1, 9, none⟩ = some (.int .i64 v.un) := HFN.out.cell 9
      have c10 : wr.cell? ⟨w.heap.size + 1, 10, none⟩ = some (.int .i64 v.tg) := HFN.out.cell 10
      have c11 : wr.cell? ⟨w.heap.size + 1, 11, none⟩ = some (.int .i64 v.ow) := HFN.out.cell 11
      have c12 : wr.cell? ⟨w.heap.size + 1, 12, none⟩ = some (.int .i64 v.bp) := HFN.out.cell 12
      go_wp2_with (first | (refine wp_letAll rfl 27 _ _ rfl w.heap.size rfl #[.int .i64 v.kd, .int .i64 v.me, .int .i64 v.mo, .int .i64 v.id, .int .i64 v.te, .int .i64 v.de, .int .i64 v.fe, .int .i64 v.pr, .int .i64 v.ch, .int .i64 v.un, .int .i64 v.tg, .int .i64 v.ow, .int .i64 v.bp] rfl (by kernel_rfl) (by simp [Value.oneCell']) #[.int .i64 0, .int .i64 0, .int .i64 0, .int .i64 0, .int .i64 0, .int .i64 0, .int .i64 0, .int .i64 0, .int .i64 0, .int .i64 0, .int .i64 0, .int .i64 0, .int .i64 0] 27 HR.out rfl ?_) | fail)
      intro W3 hU
      have HRV : Hid (Blk W3 w.heap.size #[.int .i64 v.kd, .int .i64 v.me, .int .i64 v.mo, .int .i64 v.id, .int .i64 v.te, .int .i64 v.de, .int .i64 v.fe, .int .i64 v.pr, .int .i64 v.ch, .int .i64 v.un, .int .i64 v.tg, .int .i64 v.ow, .int .i64 v.bp] 27) := hU.blk
      have HB3 : Hid (Below w.heap.size w W3) := hU.bel _ _ (by omega) HBL.out
      clear hU c0 c1 c2 c3 c4 c5 c6 c7 c8 c9 c10 c11 c12
      have r0 : W3.cell? ⟨w.heap.size, 0, none⟩ = some (.int .i64 v.kd) := HRV.out.cell 0
      have r1 : W3.cell? ⟨w.heap.size, 1, none⟩ = some (.int .i64 v.me) := HRV.out.cell 1
      have r2 : W3.cell? ⟨w.heap.size, 2, none⟩ = some (.int .i64 v.mo) := HRV.out.cell 2
      have r3 : W3.cell? ⟨w.heap.size, 3, none⟩ = some (.int .i64 v.id) := HRV.out.cell 3
      have r4 : W3.cell? ⟨w.heap.size, 4, none⟩ = some (.int .i64 v.te) := HRV.out.cell 4
      have r5 : W3.cell? ⟨w.heap.size, 5, none⟩ = some (.int .i64 v.de) := HRV.out.cell 5
      have r6 : W3.cell? ⟨w.heap.size, 6, none⟩ = some (.int .i64 v.fe) := HRV.out.cell 6
      have r7 : W3.cell? ⟨w.heap.size, 7, none⟩ = some (.int .i64 v.pr) := HRV.out.cell 7
      have r8 : W3.cell? ⟨w.heap.size, 8, none⟩ = some (.int .i64 v.ch) := HRV.out.cell 8
      have r9 : W3.cell? ⟨w.heap.size, 9, none⟩ = some (.int .i64 v.un) := HRV.out.cell 9
      have r10 : W3.cell? ⟨w.heap.size, 10, none⟩ = some (.int .i64 v.tg) := HRV.out.cell 10
      have r11 : W3.cell? ⟨w.heap.size, 11, none⟩ = some (.int .i64 v.ow) := HRV.out.cell 11
      have r12 : W3.cell? ⟨w.heap.size, 12, none⟩ = some (.int .i64 v.bp) := HRV.out.cell 12
      go_wp2_with fail
      exact bodyPost_ret (v := .agg #[.int .i64 v.kd, .int .i64 v.me, .int .i64 v.mo, .int .i64 v.id, .int .i64 v.te, .int .i64 v.de, .int .i64 v.fe, .int .i64 v.pr, .int .i64 v.ch, .int .i64 v.un, .int .i64 v.tg, .int .i64 v.ow, .int .i64 v.bp]) (by simp [results, Try.results31, r0, r1, r2, r3, r4, r5, r6, r7, r8, r9, r10, r11, r12, go_sem]) rfl ⟨by rw [← HVE.out]; rfl, HB3.out⟩

end Go.Proofs.Ytfhlokjpdkmdjaa.book
