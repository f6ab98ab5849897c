import Derived.Test.YtomibnggmhjdfaaGreatVVCes19
import Derived.Test.YtomibnggmhjdfaaGreatVVCes32
set_option linter.unusedVariables false
set_option linter.unusedSimpArgs false
namespace Go.Proofs.YtomibnggmhjdfaaGreat
namespace book
open Go.RowKit cell
set_option maxRecDepth 100000
def cellsK (l : List Int) (k : Nat) : Array Value := ((l.take k ++ List.replicate (13 - k) 0).map (fun x => Value.int .i64 x)).toArray
theorem cellsK_size (l : List Int) (h : l.length = 13) (k : Nat) (hk : k ≤ 13) : (cellsK l k).size = 13 := by simp [cellsK, h]; omega
theorem cellsK_next (l : List Int) (h : l.length = 13) (k : Nat) (hk : k < 13) : (cellsK l k).setIfInBounds k (.int .i64 (l.getD k 0)) = cellsK l (k + 1) := by
 match l, h with
 | [a0, a1, a2, a3, a4, a5, a6, a7, a8, a9, a10, a11, a12], _ =>
  match k, hk with
  | 0, _ => rfl
  | 1, _ => rfl
  | 2, _ => rfl
  | 3, _ => rfl
  | 4, _ => rfl
  | 5, _ => rfl
  | 6, _ => rfl
  | 7, _ => rfl
  | 8, _ => rfl
  | 9, _ => rfl
  | 10, _ => rfl
  | 11, _ => rfl
  | 12, _ => rfl
theorem cellsK_all (l : List Int) (h : l.length = 13) : cellsK l 13 = (evOf l).cs := by
 match l, h with
 | [a0, a1, a2, a3, a4, a5, a6, a7, a8, a9, a10, a11, a12], _ => rfl
theorem indexP_0 (g : Nat) (W : World) : (Instr.index 149 (.agg #[.pointer (some ⟨g, 0, none⟩), .pointer (some ⟨g, 1, none⟩), .pointer (some ⟨g, 2, none⟩), .pointer (some ⟨g, 3, none⟩), .pointer (some ⟨g, 4, none⟩), .pointer (some ⟨g, 5, none⟩), .pointer (some ⟨g, 6, none⟩), .pointer (some ⟨g, 7, none⟩), .pointer (some ⟨g, 8, none⟩), .pointer (some ⟨g, 9, none⟩), .pointer (some ⟨g, 10, none⟩), .pointer (some ⟨g, 11, none⟩), .pointer (some ⟨g, 12, none⟩)]) (.int .i64 0)).run Tryz.prog W = .ok (.pointer (some ⟨g, 0, none⟩)) W := by kernel_rfl
theorem indexP_1 (g : Nat) (W : World) : (Instr.index 149 (.agg #[.pointer (some ⟨g, 0, none⟩), .pointer (some ⟨g, 1, none⟩), .pointer (some ⟨g, 2, none⟩), .pointer (some ⟨g, 3, none⟩), .pointer (some ⟨g, 4, none⟩), .pointer (some ⟨g, 5, none⟩), .pointer (some ⟨g, 6, none⟩), .pointer (some ⟨g, 7, none⟩), .pointer (some ⟨g, 8, none⟩), .pointer (some ⟨g, 9, none⟩), .pointer (some ⟨g, 10, none⟩), .pointer (some ⟨g, 11, none⟩), .pointer (some ⟨g, 12, none⟩)]) (.int .i64 1)).run Tryz.prog W = .ok (.pointer (some ⟨g, 1, none⟩)) W := by kernel_rfl
theorem indexP_2 (g : Nat) (W : World) : (Instr.index 149 (.agg #[.pointer (some ⟨g, 0, none⟩), .pointer (some ⟨g, 1, none⟩), .pointer (some ⟨g, 2, none⟩), .pointer (some ⟨g, 3, none⟩), .pointer (some ⟨g, 4, none⟩), .pointer (some ⟨g, 5, none⟩), .pointer (some ⟨g, 6, none⟩), .pointer (some ⟨g, 7, none⟩), .pointer (some ⟨g, 8, none⟩), .pointer (some ⟨g, 9, none⟩), .pointer (some ⟨g, 10, none⟩), .pointer (some ⟨g, 11, none⟩), .pointer (some ⟨g, 12, none⟩)]) (.int .i64 2)).run Tryz.prog W = .ok (.pointer (some ⟨g, 2, none⟩)) W := by kernel_rfl
theorem indexP_3 (g : Nat) (W : World) : (Instr.index 149 (.agg #[.pointer (some ⟨g, 0, none⟩), .pointer (some ⟨g, 1, none⟩), .pointer (some ⟨g, 2, none⟩), .pointer (some ⟨g, 3, none⟩), .pointer (some ⟨g, 4, none⟩), .pointer (some ⟨g, 5, none⟩), .pointer (some ⟨g, 6, none⟩), .pointer (some ⟨g, 7, none⟩), .pointer (some ⟨g, 8, none⟩), .pointer (some ⟨g, 9, none⟩), .pointer (some ⟨g, 10, none⟩), .pointer (some ⟨g, 11, none⟩), .pointer (some ⟨g, 12, none⟩)]) (.int .i64 3)).run Tryz.prog W = .ok (.pointer (some ⟨g, 3, none⟩)) W := by kernel_rfl
theorem indexP_4 (g : Nat) (W : World) : (Instr.index 149 (.agg #[.pointer (some ⟨g, 0, none⟩), .pointer (some ⟨g, 1, none⟩), .pointer (some ⟨g, 2, none⟩), .pointer (some ⟨g, 3, none⟩), .pointer (some ⟨g, 4, none⟩), .pointer (some ⟨g, 5, none⟩), .pointer (some ⟨g, 6, none⟩), .pointer (some ⟨g, 7, none⟩), .pointer (some ⟨g, 8, none⟩), .pointer (some ⟨g, 9, none⟩), .pointer (some ⟨g, 10, none⟩), .pointer (some ⟨g, 11, none⟩), .pointer (some ⟨g, 12, none⟩)]) (.int .i64 4)).run Tryz.prog W = .ok (.pointer (some ⟨g, 4, none⟩)) W := by kernel_rfl
theorem indexP_5 (g : Nat) (W : World) : (Instr.index 149 (.agg #[.pointer (some ⟨g, 0, none⟩), .pointer (some ⟨g, 1, none⟩), .pointer (some ⟨g, 2, none⟩), .pointer (some ⟨g, 3, none⟩), .pointer (some ⟨g, 4, none⟩), .pointer (some ⟨g, 5, none⟩), .pointer (some ⟨g, 6, none⟩), .pointer (some ⟨g, 7, none⟩), .pointer (some ⟨g, 8, none⟩), .pointer (some ⟨g, 9, none⟩), .pointer (some ⟨g, 10, none⟩), .pointer (some ⟨g, 11, none⟩), .pointer (some ⟨g, 12, none⟩)]) (.int .i64 5)).run Tryz.prog W = .ok (.pointer (some ⟨g, 5, none⟩)) W := by kernel_rfl
theorem indexP_6 (g : Nat) (W : World) : (Instr.index 149 (.agg #[.pointer (some ⟨g, 0, none⟩), .pointer (some ⟨g, 1, none⟩), .pointer (some ⟨g, 2, none⟩), .pointer (some ⟨g, 3, none⟩), .pointer (some ⟨g, 4, none⟩), .pointer (some ⟨g, 5, none⟩), .pointer (some ⟨g, 6, none⟩), .pointer (some ⟨g, 7, none⟩), .pointer (some ⟨g, 8, none⟩), .pointer (some ⟨g, 9, none⟩), .pointer (some ⟨g, 10, none⟩), .pointer (some ⟨g, 11, none⟩), .pointer (some ⟨g, 12, none⟩)]) (.int .i64 6)).run Tryz.prog W = .ok (.pointer (some ⟨g, 6, none⟩)) W := by kernel_rfl
theorem indexP_7 (g : Nat) (W : World) : (Instr.index 149 (.agg #[.pointer (some ⟨g, 0, none⟩), .pointer (some ⟨g, 1, none⟩), .pointer (some ⟨g, 2, none⟩), .pointer (some ⟨g, 3, none⟩), .pointer (some ⟨g, 4, none⟩), .pointer (some ⟨g, 5, none⟩), .pointer (some ⟨g, 6, none⟩), .pointer (some ⟨g, 7, none⟩), .pointer (some ⟨g, 8, none⟩), .pointer (some ⟨g, 9, none⟩), .pointer (some ⟨g, 10, none⟩), .pointer (some ⟨g, 11, none⟩), .pointer (some ⟨g, 12, none⟩)]) (.int .i64 7)).run Tryz.prog W = .ok (.pointer (some ⟨g, 7, none⟩)) W := by kernel_rfl
theorem indexP_8 (g : Nat) (W : World) : (Instr.index 149 (.agg #[.pointer (some ⟨g, 0, none⟩), .pointer (some ⟨g, 1, none⟩), .pointer (some ⟨g, 2, none⟩), .pointer (some ⟨g, 3, none⟩), .pointer (some ⟨g, 4, none⟩), .pointer (some ⟨g, 5, none⟩), .pointer (some ⟨g, 6, none⟩), .pointer (some ⟨g, 7, none⟩), .pointer (some ⟨g, 8, none⟩), .pointer (some ⟨g, 9, none⟩), .pointer (some ⟨g, 10, none⟩), .pointer (some ⟨g, 11, none⟩), .pointer (some ⟨g, 12, none⟩)]) (.int .i64 8)).run Tryz.prog W = .ok (.pointer (some ⟨g, 8, none⟩)) W := by kernel_rfl
theorem indexP_9 (g : Nat) (W : World) : (Instr.index 149 (.agg #[.pointer (some ⟨g, 0, none⟩), .pointer (some ⟨g, 1, none⟩), .pointer (some ⟨g, 2, none⟩), .pointer (some ⟨g, 3, none⟩), .pointer (some ⟨g, 4, none⟩), .pointer (some ⟨g, 5, none⟩), .pointer (some ⟨g, 6, none⟩), .pointer (some ⟨g, 7, none⟩), .pointer (some ⟨g, 8, none⟩), .pointer (some ⟨g, 9, none⟩), .pointer (some ⟨g, 10, none⟩), .pointer (some ⟨g, 11, none⟩), .pointer (some ⟨g, 12, none⟩)]) (.int .i64 9)).run Tryz.prog W = .ok (.pointer (some ⟨g, 9, none⟩)) W := by kernel_rfl
theorem indexP_10 (g : Nat) (W : World) : (Instr.index 149 (.agg #[.pointer (some ⟨g, 0, none⟩), .pointer (some ⟨g, 1, none⟩), .pointer (some ⟨g, 2, none⟩), .pointer (some ⟨g, 3, none⟩), .pointer (some ⟨g, 4, none⟩), .pointer (some ⟨g, 5, none⟩), .pointer (some ⟨g, 6, none⟩), .pointer (some ⟨g, 7, none⟩), .pointer (some ⟨g, 8, none⟩), .pointer (some ⟨g, 9, none⟩), .pointer (some ⟨g, 10, none⟩), .pointer (some ⟨g, 11, none⟩), .pointer (some ⟨g, 12, none⟩)]) (.int .i64 10)).run Tryz.prog W = .ok (.pointer (some ⟨g, 10, none⟩)) W := by kernel_rfl
theorem indexP_11 (g : Nat) (W : World) : (Instr.index 149 (.agg #[.pointer (some ⟨g, 0, none⟩), .pointer (some ⟨g, 1, none⟩), .pointer (some ⟨g, 2, none⟩), .pointer (some ⟨g, 3, none⟩), .pointer (some ⟨g, 4, none⟩), .pointer (some ⟨g, 5, none⟩), .pointer (some ⟨g, 6, none⟩), .pointer (some ⟨g, 7, none⟩), .pointer (some ⟨g, 8, none⟩), .pointer (some ⟨g, 9, none⟩), .pointer (some ⟨g, 10, none⟩), .pointer (some ⟨g, 11, none⟩), .pointer (some ⟨g, 12, none⟩)]) (.int .i64 11)).run Tryz.prog W = .ok (.pointer (some ⟨g, 11, none⟩)) W := by kernel_rfl
theorem indexP_12 (g : Nat) (W : World) : (Instr.index 149 (.agg #[.pointer (some ⟨g, 0, none⟩), .pointer (some ⟨g, 1, none⟩), .pointer (some ⟨g, 2, none⟩), .pointer (some ⟨g, 3, none⟩), .pointer (some ⟨g, 4, none⟩), .pointer (some ⟨g, 5, none⟩), .pointer (some ⟨g, 6, none⟩), .pointer (some ⟨g, 7, none⟩), .pointer (some ⟨g, 8, none⟩), .pointer (some ⟨g, 9, none⟩), .pointer (some ⟨g, 10, none⟩), .pointer (some ⟨g, 11, none⟩), .pointer (some ⟨g, 12, none⟩)]) (.int .i64 12)).run Tryz.prog W = .ok (.pointer (some ⟨g, 12, none⟩)) W := by kernel_rfl
theorem indexP (g : Nat) (k : Nat) (hk : k < 13) (W : World) : (Instr.index 149 (.agg #[.pointer (some ⟨g, 0, none⟩), .pointer (some ⟨g, 1, none⟩), .pointer (some ⟨g, 2, none⟩), .pointer (some ⟨g, 3, none⟩), .pointer (some ⟨g, 4, none⟩), .pointer (some ⟨g, 5, none⟩), .pointer (some ⟨g, 6, none⟩), .pointer (some ⟨g, 7, none⟩), .pointer (some ⟨g, 8, none⟩), .pointer (some ⟨g, 9, none⟩), .pointer (some ⟨g, 10, none⟩), .pointer (some ⟨g, 11, none⟩), .pointer (some ⟨g, 12, none⟩)]) (.int .i64 (k : Int))).run Tryz.prog W = .ok (.pointer (some ⟨g, k, none⟩)) W := by
 match k, hk with
 | 0, _ => exact indexP_0 g W
 | 1, _ => exact indexP_1 g W
 | 2, _ => exact indexP_2 g W
 | 3, _ => exact indexP_3 g W
 | 4, _ => exact indexP_4 g W
 | 5, _ => exact indexP_5 g W
 | 6, _ => exact indexP_6 g W
 | 7, _ => exact indexP_7 g W
 | 8, _ => exact indexP_8 g W
 | 9, _ => exact indexP_9 g W
 | 10, _ => exact indexP_10 g W
 | 11, _ => exact indexP_11 g W
 | 12, _ => exact indexP_12 g W
set_option maxHeartbeats 4000000 in
theorem bevent (a : Option Addr) (cap : Nat) (l : List Int) (w : World) (hr : RowU w a 13 l) (hm : ∀ x ∈ l, 0 ≤ x ∧ x < 4294967296) : Calls Tryz.prog 74 #[.slice a 13 cap] w fun e w' => e = .returned (evOf l).v ∧ Below w.heap.size w w' := by
 have hlen := hr.1
 obtain ⟨b, off, rfl, lb, hc⟩ := hr.at (by decide)
 have HM : Hid (∀ k, k < 13 → 0 ≤ l.getD k 0 ∧ l.getD k 0 < 4294967296) := fun k hk => hm _ (by
  have hl : k < l.length := by omega
  rw [show l.getD k 0 = l[k] by simp [List.getD, List.getElem?_eq_getElem hl]]
  exact List.getElem_mem _)
 have HC : Hid (∀ W, Below w.heap.size w W → ∀ k, k < 13 → W.cell? ⟨b, off + k, none⟩ = some (.int .u32 (l.getD k 0))) := fun W hB k hk => (hB.cell (p := ⟨b, off + k, none⟩) lb).trans (hc k hk)
 have HIX : Hid (∀ k : Nat, k < 13 → ∀ W, (Instr.index 149 (.agg #[.pointer (some ⟨w.heap.size + 1, 0, none⟩), .pointer (some ⟨w.heap.size + 1, 1, none⟩), .pointer (some ⟨w.heap.size + 1, 2, none⟩), .pointer (some ⟨w.heap.size + 1, 3, none⟩), .pointer (some ⟨w.heap.size + 1, 4, none⟩), .pointer (some ⟨w.heap.size + 1, 5, none⟩), .pointer (some ⟨w.heap.size + 1, 6, none⟩), .pointer (some ⟨w.heap.size + 1, 7, none⟩), .pointer (some ⟨w.heap.size + 1, 8, none⟩), .pointer (some ⟨w.heap.size + 1, 9, none⟩), .pointer (some ⟨w.heap.size + 1, 10, none⟩), .pointer (some ⟨w.heap.size + 1, 11, none⟩), .pointer (some ⟨w.heap.size + 1, 12, none⟩)]) (.int .i64 (k : Int))).run Tryz.prog W = .ok (.pointer (some ⟨w.heap.size + 1, k, none⟩)) W) := fun k hk W => indexP _ k hk W
 have HL : Hid (l.length = 13) := hlen
 clear hm hc hr lb hlen
 obtain ⟨W0, HWW, HR0, HV0, HP0, HB0, -⟩ := sh3 w #[.int .i64 0, .int .i64 0, .int .i64 0, .int .i64 0, .int .i64 0, .int .i64 0, .int .i64 0, .int .i64 0, .int .i64 0, .int .i64 0, .int .i64 0, .int .i64 0, .int .i64 0] 71 #[.int .i64 0, .int .i64 0, .int .i64 0, .int .i64 0, .int .i64 0, .int .i64 0, .int .i64 0, .int .i64 0, .int .i64 0, .int .i64 0, .int .i64 0, .int .i64 0, .int .i64 0] 71 #[.pointer (some ⟨w.heap.size + 1, 0, none⟩), .pointer (some ⟨w.heap.size + 1, 1, none⟩), .pointer (some ⟨w.heap.size + 1, 2, none⟩), .pointer (some ⟨w.heap.size + 1, 3, none⟩), .pointer (some ⟨w.heap.size + 1, 4, none⟩), .pointer (some ⟨w.heap.size + 1, 5, none⟩), .pointer (some ⟨w.heap.size + 1, 6, none⟩), .pointer (some ⟨w.heap.size + 1, 7, none⟩), .pointer (some ⟨w.heap.size + 1, 8, none⟩), .pointer (some ⟨w.heap.size + 1, 9, none⟩), .pointer (some ⟨w.heap.size + 1, 10, none⟩), .pointer (some ⟨w.heap.size + 1, 11, none⟩), .pointer (some ⟨w.heap.size + 1, 12, none⟩)] 149
 go_enter Tryz.func74, Tryz.ntmps74
 go_upto_region 3 with fail
 rw [HWW.out]
 clear HWW
 have p0 : W0.cell? ⟨w.heap.size + 1 + 1, 0, none⟩ = some (.pointer (some ⟨w.heap.size + 1, 0, none⟩)) := HP0.out.cell 0
 have p1 : W0.cell? ⟨w.heap.size + 1 + 1, 1, none⟩ = some (.pointer (some ⟨w.heap.size + 1, 1, none⟩)) := HP0.out.cell 1
 have p2 : W0.cell? ⟨w.heap.size + 1 + 1, 2, none⟩ = some (.pointer (some ⟨w.heap.size + 1, 2, none⟩)) := HP0.out.cell 2
 have p3 : W0.cell? ⟨w.heap.size + 1 + 1, 3, none⟩ = some (.pointer (some ⟨w.heap.size + 1, 3, none⟩)) := HP0.out.cell 3
 have p4 : W0.cell? ⟨w.heap.size + 1 + 1, 4, none⟩ = some (.pointer (some ⟨w.heap.size + 1, 4, none⟩)) := HP0.out.cell 4
 have p5 : W0.cell? ⟨w.heap.size + 1 + 1, 5, none⟩ = some (.pointer (some ⟨w.heap.size + 1, 5, none⟩)) := HP0.out.cell 5
 have p6 : W0.cell? ⟨w.heap.size + 1 + 1, 6, none⟩ = some (.pointer (some ⟨w.heap.size + 1, 6, none⟩)) := HP0.out.cell 6
 have p7 : W0.cell? ⟨w.heap.size + 1 + 1, 7, none⟩ = some (.pointer (some ⟨w.heap.size + 1, 7, none⟩)) := HP0.out.cell 7
 have p8 : W0.cell? ⟨w.heap.size + 1 + 1, 8, none⟩ = some (.pointer (some ⟨w.heap.size + 1, 8, none⟩)) := HP0.out.cell 8
 have p9 : W0.cell? ⟨w.heap.size + 1 + 1, 9, none⟩ = some (.pointer (some ⟨w.heap.size + 1, 9, none⟩)) := HP0.out.cell 9
 have p10 : W0.cell? ⟨w.heap.size + 1 + 1, 10, none⟩ = some (.pointer (some ⟨w.heap.size + 1, 10, none⟩)) := HP0.out.cell 10
 have p11 : W0.cell? ⟨w.heap.size + 1 + 1, 11, none⟩ = some (.pointer (some ⟨w.heap.size + 1, 11, none⟩)) := HP0.out.cell 11
 have p12 : W0.cell? ⟨w.heap.size + 1 + 1, 12, none⟩ = some (.pointer (some ⟨w.heap.size + 1, 12, none⟩)) := HP0.out.cell 12
 go_wp2_with fail
 clear HP0 p0 p1 p2 p3 p4 p5 p6 p7 p8 p9 p10 p11 p12
 go_loopw [31] (fun v31 wr => ∃ (k : Nat), k ≤ 13 ∧ v31 = .int .i64 (k : Int) ∧ Blk wr w.heap.size #[.int .i64 0, .int .i64 0, .int .i64 0, .int .i64 0, .int .i64 0, .int .i64 0, .int .i64 0, .int .i64 0, .int .i64 0, .int .i64 0, .int .i64 0, .int .i64 0, .int .i64 0] 71 ∧ Blk wr (w.heap.size + 1) (cellsK l k) 71 ∧ Below w.heap.size w wr) (fun v31 _ => 13 - (intOf v31).toNat)
 case atStart => exact ⟨0, Nat.zero_le _, rfl, HR0.out, HV0.out, HB0.out⟩
 case round =>
  obtain ⟨k, hk, rfl, hR, hV, hbl⟩ := hrel
  have HR : Hid (Blk wr w.heap.size #[.int .i64 0, .int .i64 0, .int .i64 0, .int .i64 0, .int .i64 0, .int .i64 0, .int .i64 0, .int .i64 0, .int .i64 0, .int .i64 0, .int .i64 0, .int .i64 0, .int .i64 0] 71) := hR
  have HV : Hid (Blk wr (w.heap.size + 1) (cellsK l k) 71) := hV
  have HBL : Hid (Below w.heap.size w wr) := hbl
  clear hR hV hbl HR0 HV0 HB0
  by_cases hkm : k < 13
  ·have hix := HIX.out k hkm
   have hz := HM.out k hkm
   have hcl := HC.out wr HBL.out k hkm
   have HNX : Hid ((cellsK l k).setIfInBounds k (.int .i64 (l.getD k 0)) = cellsK l (k + 1)) := cellsK_next l HL.out k hkm
   have hks : k < (cellsK l k).size := by rw [cellsK_size l HL.out k hk]; exact hkm
   clear HIX HM HC
   generalize l.getD k 0 = z at *
   have hwz : IntKind.i64.wrap z = z := by rw [IntKind.wrap_i64]; omega
   have hdl : decide ((k : Int) < 13) = true := decide_eq_true (by omega)
   have hb13 : (0 : Int) ≤ (k : Int) ∧ (k : Int) < ((13 : Nat) : Int) := by omega
   clear hz
   go_wp2_with (first | (refine wp_let1 rfl 3 _ _ rfl (w.heap.size + 1) k rfl .i64 z rfl (by kernel_rfl) (cellsK l k) 71 HV.out hks ?_) | fail)
   intro W3 hU
   have H3 : Hid (Blk W3 (w.heap.size + 1) (cellsK l (k + 1)) 71) := by show Blk _ _ _ _; rw [← HNX.out]; exact hU.blk
   have HR3 := shK hU HR (by omega)
   have HB3 := shV hU HBL (by omega)
   clear hU hcl
   go_wp2_with fail
   go_roundw
   case rel => exact ⟨k + 1, by omega, by go_num, HR3.out, H3.out, HB3.out⟩
   case measure => simp [intOf]; omega
  ·obtain rfl : k = 13 := by omega
   have hdl : decide (((13 : Nat) : Int) < 13) = false := decide_eq_false (by omega)
   have HFN : Hid (Blk wr (w.heap.size + 1) (evOf l).cs 71) := by
    show Blk _ _ _ _
    rw [← cellsK_all l HL.out]; exact HV.out
   clear HV
   obtain ⟨v, hv⟩ : ∃ v, v = evOf l := ⟨_, rfl⟩
   have HVE : Hid (v = evOf l) := hv
   rw [← hv] at HFN
   clear hv
   unfold Ev.cs at HFN
   have c0 : wr.cell? ⟨w.heap.size + 1, 0, none⟩ = some (.int .i64 v.kd) := HFN.out.cell 0
   have c1 : wr.cell? ⟨w.heap.size + 1, 1, none⟩ = some (.int .i64 v.me) := HFN.out.cell 1
   have c2 : wr.cell? ⟨w.heap.size + 1, 2, none⟩ = some (.int .i64 v.mo) := HFN.out.cell 2
   have c3 : wr.cell? ⟨w.heap.size + 1, 3, none⟩ = some (.int .i64 v.id) := HFN.out.cell 3
   have c4 : wr.cell? ⟨w.heap.size + 1, 4, none⟩ = some (.int .i64 v.te) := HFN.out.cell 4
   have c5 : wr.cell? ⟨w.heap.size + 1, 5, none⟩ = some (.int .i64 v.de) := HFN.out.cell 5
   have c6 : wr.cell? ⟨w.heap.size + 1, 6, none⟩ = some (.int .i64 v.fe) := HFN.out.cell 6
   have c7 : wr.cell? ⟨w.heap.size + 1, 7, none⟩ = some (.int .i64 v.pr) := HFN.out.cell 7
   have c8 : wr.cell? ⟨w.heap.size + 1, 8, none⟩ = some (.int .i64 v.ch) := HFN.out.cell 8
   have c9 : wr.cell? ⟨w.heap.size + 1, 9, none⟩ = some (.int .i64 v.un) := HFN.out.cell 9
   have c10 : wr.cell? ⟨w.heap.size + 1, 10, none⟩ = some (.int .i64 v.tg) := HFN.out.cell 10
   have c11 : wr.cell? ⟨w.heap.size + 1, 11, none⟩ = some (.int .i64 v.ow) := HFN.out.cell 11
   have c12 : wr.cell? ⟨w.heap.size + 1, 12, none⟩ = some (.int .i64 v.bp) := HFN.out.cell 12
   go_wp2_with (first | (refine zql rfl rfl rfl rfl zqu71 (by simp [Value.oneCell']) HR rfl ?_) | fail)
   intro W3 hU
   have HRV : Hid (Blk W3 w.heap.size #[.int .i64 v.kd, .int .i64 v.me, .int .i64 v.mo, .int .i64 v.id, .int .i64 v.te, .int .i64 v.de, .int .i64 v.fe, .int .i64 v.pr, .int .i64 v.ch, .int .i64 v.un, .int .i64 v.tg, .int .i64 v.ow, .int .i64 v.bp] 71) := hU.blk
   have HB3 := shV hU HBL (by omega)
   clear hU c0 c1 c2 c3 c4 c5 c6 c7 c8 c9 c10 c11 c12
   obtain ⟨r0, r1, r2, r3, r4, r5, r6, r7, r8, r9, r10, r11, r12⟩ := scl13 HRV
   go_wp2_with fail
   exact bodyPost_ret (v := .agg #[.int .i64 v.kd, .int .i64 v.me, .int .i64 v.mo, .int .i64 v.id, .int .i64 v.te, .int .i64 v.de, .int .i64 v.fe, .int .i64 v.pr, .int .i64 v.ch, .int .i64 v.un, .int .i64 v.tg, .int .i64 v.ow, .int .i64 v.bp]) (by simp [results, Tryz.results74, r0, r1, r2, r3, r4, r5, r6, r7, r8, r9, r10, r11, r12, go_sem]) rfl ⟨by rw [← HVE.out]; rfl, HB3.out⟩
end book
namespace acc
open tar (Du du0 Came RowD Ld PairT)
open Go.RowKit
set_option maxRecDepth 100000
set_option maxHeartbeats 1000000 in
theorem psell1 (B0 B1 B2 g : Nat) (x : Ac) (p : Option Addr) (len cap : Nat) (t : Tm) (pt : Option Addr) (lt ct : Nat) (te m : Int) (w : World) (hB0 : Blk w B0 #[.slice pt lt ct, .int .i64 t.ff, .int .i64 t.fb, .int .i64 t.db, .int .i64 t.al] 24) (hB1 : Blk w B1 #[.int .i64 te] 3) (hB2 : Blk w B2 #[.int .i64 m] 3) (hw : Blk w g (wcs x bi0 p len cap) 121) (hd : deb.Fresh w (g + 1) p len cap x.ds) (ha : AMay x) (ht : Came w pt lt ct t.ts) (hwf : wf4 t) (hfar : Far pt lt g) : Calls Tryz.prog 108 #[.pointer (some ⟨g, 0, none⟩), .pointer (some ⟨B0, 0, none⟩), .pointer (some ⟨B1, 0, none⟩), .pointer (some ⟨B2, 0, none⟩)] w fun e w' => WPost w g (Or0 (SellIs x t te m)) e w' := by
 have HIN : Hid (Calls Tryz.prog 109 #[.pointer (some ⟨g, 0, none⟩), .agg #[.slice pt lt ct, .int .i64 t.ff, .int .i64 t.fb, .int .i64 t.db, .int .i64 t.al], .int .i64 te, .int .i64 m] w fun e w' => WPost w g (Or0 (SellIs x t te m)) e w') := (psell g x p len cap t pt lt ct te m w hw hd ha ht hwf hfar).mono fun e w' h => h.w (Nat.le_of_lt hw.lt)
 have HK0 : Hid (Blk w B0 #[.slice pt lt ct, .int .i64 t.ff, .int .i64 t.fb, .int .i64 t.db, .int .i64 t.al] 24) := hB0
 have HK1 : Hid (Blk w B1 #[.int .i64 te] 3) := hB1
 have qB1 : w.cell? ⟨B1, 0, none⟩ = some (.int .i64 te) := hB1.cell 0
 have HK2 : Hid (Blk w B2 #[.int .i64 m] 3) := hB2
 have qB2 : w.cell? ⟨B2, 0, none⟩ = some (.int .i64 m) := hB2.cell 0
 clear hw ha hd ht hwf hfar
 go_enter Tryz.func108, Tryz.ntmps108
 go_wp2_with (first | (refine zqw rfl rfl rfl HK0 zqu24 ?_) | fail)
 refine HIN.out.mono ?_
 rintro e w1 hx
 have HX : Hid (WPost w g (Or0 (SellIs x t te m)) e w1) := hx
 obtain ⟨y, b, q, n, c, f, rfl, _⟩ := hx
 clear HIN
 go_wp2_with fail
 go_ret
 exact HX.out
set_option maxHeartbeats 4000000 in
theorem ksell : KcSell := by
 intro w x p len cap t pt lt ct te m ha ht hte hm
 unfold Ac.v Ac.cs Tm.v
 have H0d : Hid (Blk ((((((w.alloc (.cells #[.int .i64 x.me, .int .i64 x.rv, .int .i64 x.nx, .int .i64 x.mo, .int .i64 x.bo, .int .i64 x.fr, .slice p len cap] 59)).alloc (.cells #[.slice pt lt ct, .int .i64 t.ff, .int .i64 t.fb, .int .i64 t.db, .int .i64 t.al] 24)).alloc (.cells #[.int .i64 te] 3)).alloc (.cells #[.int .i64 m] 3)).alloc (.cells #[.int .i64 0, .int .i64 0, .int .i64 0, .int .i64 0, .int .i64 0, .int .i64 0, .slice none 0 0] 59)).alloc (.cells #[.int .i64 0, .int .i64 0, .int .i64 0, .int .i64 0, .int .i64 0, .int .i64 0, .int .i64 0] 69)) (w.heap.size) #[.int .i64 x.me, .int .i64 x.rv, .int .i64 x.nx, .int .i64 x.mo, .int .i64 x.bo, .int .i64 x.fr, .slice p len cap] 59) := (((((Blk.new w _ _).alloc _).alloc _).alloc _).alloc _).alloc _
 have H0t : Hid (Blk ((((((w.alloc (.cells #[.int .i64 x.me, .int .i64 x.rv, .int .i64 x.nx, .int .i64 x.mo, .int .i64 x.bo, .int .i64 x.fr, .slice p len cap] 59)).alloc (.cells #[.slice pt lt ct, .int .i64 t.ff, .int .i64 t.fb, .int .i64 t.db, .int .i64 t.al] 24)).alloc (.cells #[.int .i64 te] 3)).alloc (.cells #[.int .i64 m] 3)).alloc (.cells #[.int .i64 0, .int .i64 0, .int .i64 0, .int .i64 0, .int .i64 0, .int .i64 0, .slice none 0 0] 59)).alloc (.cells #[.int .i64 0, .int .i64 0, .int .i64 0, .int .i64 0, .int .i64 0, .int .i64 0, .int .i64 0] 69)) (w.heap.size + 1) #[.slice pt lt ct, .int .i64 t.ff, .int .i64 t.fb, .int .i64 t.db, .int .i64 t.al] 24) := ((((Blk.new1 w _ _ _).alloc _).alloc _).alloc _).alloc _
 have H0e : Hid (Blk ((((((w.alloc (.cells #[.int .i64 x.me, .int .i64 x.rv, .int .i64 x.nx, .int .i64 x.mo, .int .i64 x.bo, .int .i64 x.fr, .slice p len cap] 59)).alloc (.cells #[.slice pt lt ct, .int .i64 t.ff, .int .i64 t.fb, .int .i64 t.db, .int .i64 t.al] 24)).alloc (.cells #[.int .i64 te] 3)).alloc (.cells #[.int .i64 m] 3)).alloc (.cells #[.int .i64 0, .int .i64 0, .int .i64 0, .int .i64 0, .int .i64 0, .int .i64 0, .slice none 0 0] 59)).alloc (.cells #[.int .i64 0, .int .i64 0, .int .i64 0, .int .i64 0, .int .i64 0, .int .i64 0, .int .i64 0] 69)) (w.heap.size + 1 + 1) #[.int .i64 te] 3) := (((Blk.new2 w _ _ _ _).alloc _).alloc _).alloc _
 have H0m : Hid (Blk ((((((w.alloc (.cells #[.int .i64 x.me, .int .i64 x.rv, .int .i64 x.nx, .int .i64 x.mo, .int .i64 x.bo, .int .i64 x.fr, .slice p len cap] 59)).alloc (.cells #[.slice pt lt ct, .int .i64 t.ff, .int .i64 t.fb, .int .i64 t.db, .int .i64 t.al] 24)).alloc (.cells #[.int .i64 te] 3)).alloc (.cells #[.int .i64 m] 3)).alloc (.cells #[.int .i64 0, .int .i64 0, .int .i64 0, .int .i64 0, .int .i64 0, .int .i64 0, .slice none 0 0] 59)).alloc (.cells #[.int .i64 0, .int .i64 0, .int .i64 0, .int .i64 0, .int .i64 0, .int .i64 0, .int .i64 0] 69)) (w.heap.size + 1 + 1 + 1) #[.int .i64 m] 3) := ((Blk.new3 w _ _ _ _ _).alloc _).alloc _
 have H0r : Hid (Blk ((((((w.alloc (.cells #[.int .i64 x.me, .int .i64 x.rv, .int .i64 x.nx, .int .i64 x.mo, .int .i64 x.bo, .int .i64 x.fr, .slice p len cap] 59)).alloc (.cells #[.slice pt lt ct, .int .i64 t.ff, .int .i64 t.fb, .int .i64 t.db, .int .i64 t.al] 24)).alloc (.cells #[.int .i64 te] 3)).alloc (.cells #[.int .i64 m] 3)).alloc (.cells #[.int .i64 0, .int .i64 0, .int .i64 0, .int .i64 0, .int .i64 0, .int .i64 0, .slice none 0 0] 59)).alloc (.cells #[.int .i64 0, .int .i64 0, .int .i64 0, .int .i64 0, .int .i64 0, .int .i64 0, .int .i64 0] 69)) (w.heap.size + 1 + 1 + 1 + 1) #[.int .i64 0, .int .i64 0, .int .i64 0, .int .i64 0, .int .i64 0, .int .i64 0, .slice none 0 0] 59) := (blk_new4 w _ _ _ _ _ _).alloc _
 have H0l : Hid (Blk ((((((w.alloc (.cells #[.int .i64 x.me, .int .i64 x.rv, .int .i64 x.nx, .int .i64 x.mo, .int .i64 x.bo, .int .i64 x.fr, .slice p len cap] 59)).alloc (.cells #[.slice pt lt ct, .int .i64 t.ff, .int .i64 t.fb, .int .i64 t.db, .int .i64 t.al] 24)).alloc (.cells #[.int .i64 te] 3)).alloc (.cells #[.int .i64 m] 3)).alloc (.cells #[.int .i64 0, .int .i64 0, .int .i64 0, .int .i64 0, .int .i64 0, .int .i64 0, .slice none 0 0] 59)).alloc (.cells #[.int .i64 0, .int .i64 0, .int .i64 0, .int .i64 0, .int .i64 0, .int .i64 0, .int .i64 0] 69)) (w.heap.size + 1 + 1 + 1 + 1 + 1) #[.int .i64 0, .int .i64 0, .int .i64 0, .int .i64 0, .int .i64 0, .int .i64 0, .int .i64 0] 69) := blk_new5 w _ _ _ _ _ _ _
 have H0B : Hid (Below w.heap.size w ((((((w.alloc (.cells #[.int .i64 x.me, .int .i64 x.rv, .int .i64 x.nx, .int .i64 x.mo, .int .i64 x.bo, .int .i64 x.fr, .slice p len cap] 59)).alloc (.cells #[.slice pt lt ct, .int .i64 t.ff, .int .i64 t.fb, .int .i64 t.db, .int .i64 t.al] 24)).alloc (.cells #[.int .i64 te] 3)).alloc (.cells #[.int .i64 m] 3)).alloc (.cells #[.int .i64 0, .int .i64 0, .int .i64 0, .int .i64 0, .int .i64 0, .int .i64 0, .slice none 0 0] 59)).alloc (.cells #[.int .i64 0, .int .i64 0, .int .i64 0, .int .i64 0, .int .i64 0, .int .i64 0, .int .i64 0] 69))) := ((((((Below.refl w.heap.size w).alloc (by simp) _).alloc (by simp) _).alloc (by simp; omega) _).alloc (by simp; omega) _).alloc (by simp; omega) _).alloc (by simp; omega) _
 have H0R : Hid (Came ((((((w.alloc (.cells #[.int .i64 x.me, .int .i64 x.rv, .int .i64 x.nx, .int .i64 x.mo, .int .i64 x.bo, .int .i64 x.fr, .slice p len cap] 59)).alloc (.cells #[.slice pt lt ct, .int .i64 t.ff, .int .i64 t.fb, .int .i64 t.db, .int .i64 t.al] 24)).alloc (.cells #[.int .i64 te] 3)).alloc (.cells #[.int .i64 m] 3)).alloc (.cells #[.int .i64 0, .int .i64 0, .int .i64 0, .int .i64 0, .int .i64 0, .int .i64 0, .slice none 0 0] 59)).alloc (.cells #[.int .i64 0, .int .i64 0, .int .i64 0, .int .i64 0, .int .i64 0, .int .i64 0, .int .i64 0] 69)) p len cap x.ds) := ha.ds.below H0B.out
 have hs0 : w.heap.size + 1 + 1 + 1 + 1 + 1 < ((((((w.alloc (.cells #[.int .i64 x.me, .int .i64 x.rv, .int .i64 x.nx, .int .i64 x.mo, .int .i64 x.bo, .int .i64 x.fr, .slice p len cap] 59)).alloc (.cells #[.slice pt lt ct, .int .i64 t.ff, .int .i64 t.fb, .int .i64 t.db, .int .i64 t.al] 24)).alloc (.cells #[.int .i64 te] 3)).alloc (.cells #[.int .i64 m] 3)).alloc (.cells #[.int .i64 0, .int .i64 0, .int .i64 0, .int .i64 0, .int .i64 0, .int .i64 0, .slice none 0 0] 59)).alloc (.cells #[.int .i64 0, .int .i64 0, .int .i64 0, .int .i64 0, .int .i64 0, .int .i64 0, .int .i64 0] 69)).heap.size := H0l.out.lt
 generalize hWW : ((((((w.alloc (.cells #[.int .i64 x.me, .int .i64 x.rv, .int .i64 x.nx, .int .i64 x.mo, .int .i64 x.bo, .int .i64 x.fr, .slice p len cap] 59)).alloc (.cells #[.slice pt lt ct, .int .i64 t.ff, .int .i64 t.fb, .int .i64 t.db, .int .i64 t.al] 24)).alloc (.cells #[.int .i64 te] 3)).alloc (.cells #[.int .i64 m] 3)).alloc (.cells #[.int .i64 0, .int .i64 0, .int .i64 0, .int .i64 0, .int .i64 0, .int .i64 0, .slice none 0 0] 59)).alloc (.cells #[.int .i64 0, .int .i64 0, .int .i64 0, .int .i64 0, .int .i64 0, .int .i64 0, .int .i64 0] 69)) = W0 at *
 have HWW : Hid (((((((w.alloc (.cells #[.int .i64 x.me, .int .i64 x.rv, .int .i64 x.nx, .int .i64 x.mo, .int .i64 x.bo, .int .i64 x.fr, .slice p len cap] 59)).alloc (.cells #[.slice pt lt ct, .int .i64 t.ff, .int .i64 t.fb, .int .i64 t.db, .int .i64 t.al] 24)).alloc (.cells #[.int .i64 te] 3)).alloc (.cells #[.int .i64 m] 3)).alloc (.cells #[.int .i64 0, .int .i64 0, .int .i64 0, .int .i64 0, .int .i64 0, .int .i64 0, .slice none 0 0] 59)).alloc (.cells #[.int .i64 0, .int .i64 0, .int .i64 0, .int .i64 0, .int .i64 0, .int .i64 0, .int .i64 0] 69)) = W0) := hWW
 clear hWW
 go_enter Tryz.func102, Tryz.ntmps102
 go_upto_region 1 with fail
 rw [HWW.out]
 clear HWW
 have HXt : Hid (∀ W, Below W0.heap.size W0 W → Blk W (w.heap.size + 1) #[.slice pt lt ct, .int .i64 t.ff, .int .i64 t.fb, .int .i64 t.db, .int .i64 t.al] 24) := fun W hW => H0t.out.next hW
 have HXe : Hid (∀ W, Below W0.heap.size W0 W → Blk W (w.heap.size + 1 + 1) #[.int .i64 te] 3) := fun W hW => H0e.out.next hW
 have HXm : Hid (∀ W, Below W0.heap.size W0 W → Blk W (w.heap.size + 1 + 1 + 1) #[.int .i64 m] 3) := fun W hW => H0m.out.next hW
 have HTC : Hid (Came w pt lt ct t.ts) := ht.ts
 have HBW : Hid (Below w.heap.size w W0) := H0B.out
 have hbw : w.heap.size ≤ W0.heap.size := H0B.out.size
 have HWK : Hid (Calls Tryz.prog 44 #[.agg #[.int .i64 x.me, .int .i64 x.rv, .int .i64 x.nx, .int .i64 x.mo, .int .i64 x.bo, .int .i64 x.fr, .slice p len cap], .func (.func 108) #[] #[.pointer (some ⟨w.heap.size + 1, 0, none⟩), .pointer (some ⟨w.heap.size + 1 + 1, 0, none⟩), .pointer (some ⟨w.heap.size + 1 + 1 + 1, 0, none⟩)]] W0 fun e w' => BPost W0 (SellIs x t te m) e w') := by
  refine pwork 108 #[.pointer (some ⟨w.heap.size + 1, 0, none⟩), .pointer (some ⟨w.heap.size + 1 + 1, 0, none⟩), .pointer (some ⟨w.heap.size + 1 + 1 + 1, 0, none⟩)] (SellIs x t te m) x p len cap W0 H0R.out (fun h => .inl ⟨.inl ⟨h, rfl⟩, rfl, rfl⟩) (fun _ _ => by kernel_rfl) ?_
  intro hm W g p' cap' hB hg hblk hld
  have HFR : deb.Fresh W (g + 1) p' len cap' x.ds := by
   obtain ⟨a0, c0, hv, hfr⟩ := deb.ld_fresh hld hm.1
   injection hv with h1 h2 h3
   rw [h1, h2, h3]; exact hfr
  have hfar : Far pt lt g := fun hn y hy => by have := came_lt HTC.out hn y hy; omega
  exact psell1 _ _ _ g x p' len cap' t pt lt ct te m W (HXt.out W hB) (HXe.out W hB) (HXm.out W hB) hblk HFR hm (HTC.out.below (HBW.out.trans (hB.mono hbw))) ht.wf hfar
 clear ha ht HXt HXe HXm
 go_wp2_with (first
  | (refine zqw rfl rfl rfl H0d zqu59 ?_)
  | (refine zqw rfl rfl rfl H0t zqu24 ?_)
  | (refine wp_whole rfl 3 _ rfl _ rfl 3 _ _ H0e.out Tryz.underlying3 rfl (by kernel_rfl) ?_)
  | (refine wp_whole rfl 3 _ rfl _ rfl 3 _ _ H0m.out Tryz.underlying3 rfl (by kernel_rfl) ?_)
  | (refine zqw rfl rfl rfl H0r zqu59 ?_)
  | (refine zqw rfl rfl rfl H0l zqu69 ?_)
  | fail)
 refine HWK.out.mono ?_
 rintro e w1 ⟨b, l, pr, lr, cr, fz, rfl, hi, hf, hb1⟩
 have H1d := shN H0d hb1
 have H1t := shN H0t hb1
 have H1e := shN H0e hb1
 have H1m := shN H0m hb1
 have H1r := shN H0r hb1
 have H1l := shN H0l hb1
 have H1R : Hid (Came w1 p len cap x.ds) := H0R.out.below hb1
 have H1B := shB H0B hb1
 have hsw1 : W0.heap.size ≤ w1.heap.size := hb1.size
 clear hb1 H0d H0t H0e H0m H0r H0l H0R H0B
 unfold Ac.v Ac.cs Bi.v
 clear HWK
 have H2F : Hid (deb.Fresh w1 W0.heap.size pr lr cr b.ds) := hf
 have HUPF : Hid (0 < lr → ∀ y, pr = some y → y.block < w1.heap.size) := came_lt H2F.out.came
 have HV : Hid (SellIs x t te m b l fz) := hi
 clear hf hi
 go_wp2_with (first
  | (refine zql rfl rfl rfl rfl zqu59 (by simp [Value.oneCell']) H1r rfl ?_)
  | (refine zqw rfl rfl rfl H1d zqu59 ?_)
  | (refine zqw rfl rfl rfl H1t zqu24 ?_)
  | (refine wp_whole rfl 3 _ rfl _ rfl 3 _ _ H1e.out Tryz.underlying3 rfl (by kernel_rfl) ?_)
  | (refine wp_whole rfl 3 _ rfl _ rfl 3 _ _ H1m.out Tryz.underlying3 rfl (by kernel_rfl) ?_)
  | (refine zqw rfl rfl rfl H1r zqu59 ?_)
  | (refine zqw rfl rfl rfl H1l zqu69 ?_)
  | fail)
 intro W4 hU
 have H3d := shK hU H1d (by omega)
 have H3t := shK hU H1t (by omega)
 have H3e := shK hU H1e (by omega)
 have H3m := shK hU H1m (by omega)
 have H3r : Hid (Blk W4 (w.heap.size + 1 + 1 + 1 + 1) #[.int .i64 b.me, .int .i64 b.rv, .int .i64 b.nx, .int .i64 b.mo, .int .i64 b.bo, .int .i64 b.fr, .slice pr lr cr] 59) := hU.blk
 have H3l := shK hU H1l (by omega)
 have H3F : Hid (deb.Fresh W4 W0.heap.size pr lr cr b.ds) := fresh_updN H2F.out hU (fun hn y hy => by have f1 := H2F.out.new hn y hy; have f2 := HUPF.out hn y hy; omega)
 have H3B := shV hU H1B (by omega)
 have hsW4 : W4.heap.size = w1.heap.size := hU.size
 clear hU H1d H1t H1e H1m H1r H1l H2F H1B
 go_wp2_with (first
  | (refine zql rfl rfl rfl rfl zqu69 (by simp [Value.oneCell']) H3l rfl ?_)
  | (refine zqw rfl rfl rfl H3d zqu59 ?_)
  | (refine zqw rfl rfl rfl H3t zqu24 ?_)
  | (refine wp_whole rfl 3 _ rfl _ rfl 3 _ _ H3e.out Tryz.underlying3 rfl (by kernel_rfl) ?_)
  | (refine wp_whole rfl 3 _ rfl _ rfl 3 _ _ H3m.out Tryz.underlying3 rfl (by kernel_rfl) ?_)
  | (refine zqw rfl rfl rfl H3r zqu59 ?_)
  | (refine zqw rfl rfl rfl H3l zqu69 ?_)
  | fail)
 intro W5 hU
 have H4d := shK hU H3d (by omega)
 have H4t := shK hU H3t (by omega)
 have H4e := shK hU H3e (by omega)
 have H4m := shK hU H3m (by omega)
 have H4r := shK hU H3r (by omega)
 have H4l : Hid (Blk W5 (w.heap.size + 1 + 1 + 1 + 1 + 1) #[.int .i64 l.id, .int .i64 l.te, .int .i64 l.de, .int .i64 l.fe, .int .i64 l.pr, .int .i64 l.ch, .int .i64 l.un] 69) := hU.blk
 have H4F : Hid (deb.Fresh W5 W0.heap.size pr lr cr b.ds) := fresh_updN H3F.out hU (fun hn y hy => by have f1 := H3F.out.new hn y hy; have f2 := HUPF.out hn y hy; omega)
 have H4B := shV hU H3B (by omega)
 have hsW5 : W5.heap.size = W4.heap.size := hU.size
 clear hU H3d H3t H3e H3m H3r H3l H3F H3B
 obtain ⟨Rr0, Rr1, Rr2, Rr3, Rr4, Rr5, Rr6⟩ := shc7 H4r
 obtain ⟨Rl0, Rl1, Rl2, Rl3, Rl4, Rl5, Rl6⟩ := shc7 H4l
 go_wp2_with fail
 exact bodyPost_ret (v := .tuple #[.agg #[.int .i64 b.me, .int .i64 b.rv, .int .i64 b.nx, .int .i64 b.mo, .int .i64 b.bo, .int .i64 b.fr, .slice pr lr cr], .agg #[.int .i64 l.id, .int .i64 l.te, .int .i64 l.de, .int .i64 l.fe, .int .i64 l.pr, .int .i64 l.ch, .int .i64 l.un], .int .i64 fz]) (by simp [results, Tryz.results102, Rr0.out, Rr1.out, Rr2.out, Rr3.out, Rr4.out, Rr5.out, Rr6.out, Rl0.out, Rl1.out, Rl2.out, Rl3.out, Rl4.out, Rl5.out, Rl6.out, go_sem]) rfl ⟨b, l, pr, lr, cr, fz, rfl, HV.out, H4F.out.low (by omega), H4B.out⟩
end acc
end Go.Proofs.YtomibnggmhjdfaaGreat
