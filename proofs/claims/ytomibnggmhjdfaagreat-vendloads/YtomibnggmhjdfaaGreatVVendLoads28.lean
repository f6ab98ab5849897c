import Derived.Test.YtomibnggmhjdfaaGreatVVendLoads1
import Derived.Test.YtomibnggmhjdfaaGreatVVendLoads4
import Derived.Test.YtomibnggmhjdfaaGreatVVendLoads27
set_option linter.unusedVariables false
set_option linter.unusedSimpArgs false
namespace Go.Proofs.YtomibnggmhjdfaaGreat
namespace book
open Go.RowKit cell
set_option maxRecDepth 100000
def cellsK (l : List Int) (k : Nat) : Array Value := ((l.take k ++ List.replicate (13 - k) 0).map (fun x => Value.int .i64 x)).toArray
theorem cellsK_size (l : List Int) (h : l.length = 13) (k : Nat) (hk : k ≤ 13) : (cellsK l k).size = 13 := by simp [cellsK, h]; omega
theorem cellsK_next (l : List Int) (h : l.length = 13) (k : Nat) (hk : k < 13) : (cellsK l k).setIfInBounds k (.int .i64 (l.getD k 0)) = cellsK l (k + 1) := by
 match l, h with
 | [a0, a1, a2, a3, a4, a5, a6, a7, a8, a9, a10, a11, a12], _ =>
  match k, hk with
  | 0, _ => rfl
  | 1, _ => rfl
  | 2, _ => rfl
  | 3, _ => rfl
  | 4, _ => rfl
  | 5, _ => rfl
  | 6, _ => rfl
  | 7, _ => rfl
  | 8, _ => rfl
  | 9, _ => rfl
  | 10, _ => rfl
  | 11, _ => rfl
  | 12, _ => rfl
theorem cellsK_all (l : List Int) (h : l.length = 13) : cellsK l 13 = (evOf l).cs := by
 match l, h with
 | [a0, a1, a2, a3, a4, a5, a6, a7, a8, a9, a10, a11, a12], _ => rfl
theorem indexP_0 (g : Nat) (W : World) : (Instr.index 149 (.agg #[.pointer (some ⟨g, 0, none⟩), .pointer (some ⟨g, 1, none⟩), .pointer (some ⟨g, 2, none⟩), .pointer (some ⟨g, 3, none⟩), .pointer (some ⟨g, 4, none⟩), .pointer (some ⟨g, 5, none⟩), .pointer (some ⟨g, 6, none⟩), .pointer (some ⟨g, 7, none⟩), .pointer (some ⟨g, 8, none⟩), .pointer (some ⟨g, 9, none⟩), .pointer (some ⟨g, 10, none⟩), .pointer (some ⟨g, 11, none⟩), .pointer (some ⟨g, 12, none⟩)]) (.int .i64 0)).run Tryz.prog W = .ok (.pointer (some ⟨g, 0, none⟩)) W := by kernel_rfl
theorem indexP_1 (g : Nat) (W : World) : (Instr.index 149 (.agg #[.pointer (some ⟨g, 0, none⟩), .pointer (some ⟨g, 1, none⟩), .pointer (some ⟨g, 2, none⟩), .pointer (some ⟨g, 3, none⟩), .pointer (some ⟨g, 4, none⟩), .pointer (some ⟨g, 5, none⟩), .pointer (some ⟨g, 6, none⟩), .pointer (some ⟨g, 7, none⟩), .pointer (some ⟨g, 8, none⟩), .pointer (some ⟨g, 9, none⟩), .pointer (some ⟨g, 10, none⟩), .pointer (some ⟨g, 11, none⟩), .pointer (some ⟨g, 12, none⟩)]) (.int .i64 1)).run Tryz.prog W = .ok (.pointer (some ⟨g, 1, none⟩)) W := by kernel_rfl
theorem indexP_2 (g : Nat) (W : World) : (Instr.index 149 (.agg #[.pointer (some ⟨g, 0, none⟩), .pointer (some ⟨g, 1, none⟩), .pointer (some ⟨g, 2, none⟩), .pointer (some ⟨g, 3, none⟩), .pointer (some ⟨g, 4, none⟩), .pointer (some ⟨g, 5, none⟩), .pointer (some ⟨g, 6, none⟩), .pointer (some ⟨g, 7, none⟩), .pointer (some ⟨g, 8, none⟩), .pointer (some ⟨g, 9, none⟩), .pointer (some ⟨g, 10, none⟩), .pointer (some ⟨g, 11, none⟩), .pointer (some ⟨g, 12, none⟩)]) (.int .i64 2)).run Tryz.prog W = .ok (.pointer (some ⟨g, 2, none⟩)) W := by kernel_rfl
theorem indexP_3 (g : Nat) (W : World) : (Instr.index 149 (.agg #[.pointer (some ⟨g, 0, none⟩), .pointer (some ⟨g, 1, none⟩), .pointer (some ⟨g, 2, none⟩), .pointer (some ⟨g, 3, none⟩), .pointer (some ⟨g, 4, none⟩), .pointer (some ⟨g, 5, none⟩), .pointer (some ⟨g, 6, none⟩), .pointer (some ⟨g, 7, none⟩), .pointer (some ⟨g, 8, none⟩), .pointer (some ⟨g, 9, none⟩), .pointer (some ⟨g, 10, none⟩), .pointer (some ⟨g, 11, none⟩), .pointer (some ⟨g, 12, none⟩)]) (.int .i64 3)).run Tryz.prog W = .ok (.pointer (some ⟨g, 3, none⟩)) W := by kernel_rfl
theorem indexP_4 (g : Nat) (W : World) : (Instr.index 149 (.agg #[.pointer (some ⟨g, 0, none⟩), .pointer (some ⟨g, 1, none⟩), .pointer (some ⟨g, 2, none⟩), .pointer (some ⟨g, 3, none⟩), .pointer (some ⟨g, 4, none⟩), .pointer (some ⟨g, 5, none⟩), .pointer (some ⟨g, 6, none⟩), .pointer (some ⟨g, 7, none⟩), .pointer (some ⟨g, 8, none⟩), .pointer (some ⟨g, 9, none⟩), .pointer (some ⟨g, 10, none⟩), .pointer (some ⟨g, 11, none⟩), .pointer (some ⟨g, 12, none⟩)]) (.int .i64 4)).run Tryz.prog W = .ok (.pointer (some ⟨g, 4, none⟩)) W := by kernel_rfl
theorem indexP_5 (g : Nat) (W : World) : (Instr.index 149 (.agg #[.pointer (some ⟨g, 0, none⟩), .pointer (some ⟨g, 1, none⟩), .pointer (some ⟨g, 2, none⟩), .pointer (some ⟨g, 3, none⟩), .pointer (some ⟨g, 4, none⟩), .pointer (some ⟨g, 5, none⟩), .pointer (some ⟨g, 6, none⟩), .pointer (some ⟨g, 7, none⟩), .pointer (some ⟨g, 8, none⟩), .pointer (some ⟨g, 9, none⟩), .pointer (some ⟨g, 10, none⟩), .pointer (some ⟨g, 11, none⟩), .pointer (some ⟨g, 12, none⟩)]) (.int .i64 5)).run Tryz.prog W = .ok (.pointer (some ⟨g, 5, none⟩)) W := by kernel_rfl
theorem indexP_6 (g : Nat) (W : World) : (Instr.index 149 (.agg #[.pointer (some ⟨g, 0, none⟩), .pointer (some ⟨g, 1, none⟩), .pointer (some ⟨g, 2, none⟩), .pointer (some ⟨g, 3, none⟩), .pointer (some ⟨g, 4, none⟩), .pointer (some ⟨g, 5, none⟩), .pointer (some ⟨g, 6, none⟩), .pointer (some ⟨g, 7, none⟩), .pointer (some ⟨g, 8, none⟩), .pointer (some ⟨g, 9, none⟩), .pointer (some ⟨g, 10, none⟩), .pointer (some ⟨g, 11, none⟩), .pointer (some ⟨g, 12, none⟩)]) (.int .i64 6)).run Tryz.prog W = .ok (.pointer (some ⟨g, 6, none⟩)) W := by kernel_rfl
theorem indexP_7 (g : Nat) (W : World) : (Instr.index 149 (.agg #[.pointer (some ⟨g, 0, none⟩), .pointer (some ⟨g, 1, none⟩), .pointer (some ⟨g, 2, none⟩), .pointer (some ⟨g, 3, none⟩), .pointer (some ⟨g, 4, none⟩), .pointer (some ⟨g, 5, none⟩), .pointer (some ⟨g, 6, none⟩), .pointer (some ⟨g, 7, none⟩), .pointer (some ⟨g, 8, none⟩), .pointer (some ⟨g, 9, none⟩), .pointer (some ⟨g, 10, none⟩), .pointer (some ⟨g, 11, none⟩), .pointer (some ⟨g, 12, none⟩)]) (.int .i64 7)).run Tryz.prog W = .ok (.pointer (some ⟨g, 7, none⟩)) W := by kernel_rfl
theorem indexP_8 (g : Nat) (W : World) : (Instr.index 149 (.agg #[.pointer (some ⟨g, 0, none⟩), .pointer (some ⟨g, 1, none⟩), .pointer (some ⟨g, 2, none⟩), .pointer (some ⟨g, 3, none⟩), .pointer (some ⟨g, 4, none⟩), .pointer (some ⟨g, 5, none⟩), .pointer (some ⟨g, 6, none⟩), .pointer (some ⟨g, 7, none⟩), .pointer (some ⟨g, 8, none⟩), .pointer (some ⟨g, 9, none⟩), .pointer (some ⟨g, 10, none⟩), .pointer (some ⟨g, 11, none⟩), .pointer (some ⟨g, 12, none⟩)]) (.int .i64 8)).run Tryz.prog W = .ok (.pointer (some ⟨g, 8, none⟩)) W := by kernel_rfl
theorem indexP_9 (g : Nat) (W : World) : (Instr.index 149 (.agg #[.pointer (some ⟨g, 0, none⟩), .pointer (some ⟨g, 1, none⟩), .pointer (some ⟨g, 2, none⟩), .pointer (some ⟨g, 3, none⟩), .pointer (some ⟨g, 4, none⟩), .pointer (some ⟨g, 5, none⟩), .pointer (some ⟨g, 6, none⟩), .pointer (some ⟨g, 7, none⟩), .pointer (some ⟨g, 8, none⟩), .pointer (some ⟨g, 9, none⟩), .pointer (some ⟨g, 10, none⟩), .pointer (some ⟨g, 11, none⟩), .pointer (some ⟨g, 12, none⟩)]) (.int .i64 9)).run Tryz.prog W = .ok (.pointer (some ⟨g, 9, none⟩)) W := by kernel_rfl
theorem indexP_10 (g : Nat) (W : World) : (Instr.index 149 (.agg #[.pointer (some ⟨g, 0, none⟩), .pointer (some ⟨g, 1, none⟩), .pointer (some ⟨g, 2, none⟩), .pointer (some ⟨g, 3, none⟩), .pointer (some ⟨g, 4, none⟩), .pointer (some ⟨g, 5, none⟩), .pointer (some ⟨g, 6, none⟩), .pointer (some ⟨g, 7, none⟩), .pointer (some ⟨g, 8, none⟩), .pointer (some ⟨g, 9, none⟩), .pointer (some ⟨g, 10, none⟩), .pointer (some ⟨g, 11, none⟩), .pointer (some ⟨g, 12, none⟩)]) (.int .i64 10)).run Tryz.prog W = .ok (.pointer (some ⟨g, 10, none⟩)) W := by kernel_rfl
theorem indexP_11 (g : Nat) (W : World) : (Instr.index 149 (.agg #[.pointer (some ⟨g, 0, none⟩), .pointer (some ⟨g, 1, none⟩), .pointer (some ⟨g, 2, none⟩), .pointer (some ⟨g, 3, none⟩), .pointer (some ⟨g, 4, none⟩), .pointer (some ⟨g, 5, none⟩), .pointer (some ⟨g, 6, none⟩), .pointer (some ⟨g, 7, none⟩), .pointer (some ⟨g, 8, none⟩), .pointer (some ⟨g, 9, none⟩), .pointer (some ⟨g, 10, none⟩), .pointer (some ⟨g, 11, none⟩), .pointer (some ⟨g, 12, none⟩)]) (.int .i64 11)).run Tryz.prog W = .ok (.pointer (some ⟨g, 11, none⟩)) W := by kernel_rfl
theorem indexP_12 (g : Nat) (W : World) : (Instr.index 149 (.agg #[.pointer (some ⟨g, 0, none⟩), .pointer (some ⟨g, 1, none⟩), .pointer (some ⟨g, 2, none⟩), .pointer (some ⟨g, 3, none⟩), .pointer (some ⟨g, 4, none⟩), .pointer (some ⟨g, 5, none⟩), .pointer (some ⟨g, 6, none⟩), .pointer (some ⟨g, 7, none⟩), .pointer (some ⟨g, 8, none⟩), .pointer (some ⟨g, 9, none⟩), .pointer (some ⟨g, 10, none⟩), .pointer (some ⟨g, 11, none⟩), .pointer (some ⟨g, 12, none⟩)]) (.int .i64 12)).run Tryz.prog W = .ok (.pointer (some ⟨g, 12, none⟩)) W := by kernel_rfl
theorem indexP (g : Nat) (k : Nat) (hk : k < 13) (W : World) : (Instr.index 149 (.agg #[.pointer (some ⟨g, 0, none⟩), .pointer (some ⟨g, 1, none⟩), .pointer (some ⟨g, 2, none⟩), .pointer (some ⟨g, 3, none⟩), .pointer (some ⟨g, 4, none⟩), .pointer (some ⟨g, 5, none⟩), .pointer (some ⟨g, 6, none⟩), .pointer (some ⟨g, 7, none⟩), .pointer (some ⟨g, 8, none⟩), .pointer (some ⟨g, 9, none⟩), .pointer (some ⟨g, 10, none⟩), .pointer (some ⟨g, 11, none⟩), .pointer (some ⟨g, 12, none⟩)]) (.int .i64 (k : Int))).run Tryz.prog W = .ok (.pointer (some ⟨g, k, none⟩)) W := by
 match k, hk with
 | 0, _ => exact indexP_0 g W
 | 1, _ => exact indexP_1 g W
 | 2, _ => exact indexP_2 g W
 | 3, _ => exact indexP_3 g W
 | 4, _ => exact indexP_4 g W
 | 5, _ => exact indexP_5 g W
 | 6, _ => exact indexP_6 g W
 | 7, _ => exact indexP_7 g W
 | 8, _ => exact indexP_8 g W
 | 9, _ => exact indexP_9 g W
 | 10, _ => exact indexP_10 g W
 | 11, _ => exact indexP_11 g W
 | 12, _ => exact indexP_12 g W
set_option maxHeartbeats 4000000 in
theorem bevent (a : Option Addr) (cap : Nat) (l : List Int) (w : World) (hr : RowU w a 13 l) (hm : ∀ x ∈ l, 0 ≤ x ∧ x < 4294967296) : Calls Tryz.prog 74 #[.slice a 13 cap] w fun e w' => e = .returned (evOf l).v ∧ Below w.heap.size w w' := by
 have hlen := hr.1
 obtain ⟨b, off, rfl, lb, hc⟩ := hr.at (by decide)
 have HM : Hid (∀ k, k < 13 → 0 ≤ l.getD k 0 ∧ l.getD k 0 < 4294967296) := fun k hk => hm _ (by
  have hl : k < l.length := by omega
  rw [show l.getD k 0 = l[k] by simp [List.getD, List.getElem?_eq_getElem hl]]
  exact List.getElem_mem _)
 have HC : Hid (∀ W, Below w.heap.size w W → ∀ k, k < 13 → W.cell? ⟨b, off + k, none⟩ = some (.int .u32 (l.getD k 0))) := fun W hB k hk => (hB.cell (p := ⟨b, off + k, none⟩) lb).trans (hc k hk)
 have HIX : Hid (∀ k : Nat, k < 13 → ∀ W, (Instr.index 149 (.agg #[.pointer (some ⟨w.heap.size + 1, 0, none⟩), .pointer (some ⟨w.heap.size + 1, 1, none⟩), .pointer (some ⟨w.heap.size + 1, 2, none⟩), .pointer (some ⟨w.heap.size + 1, 3, none⟩), .pointer (some ⟨w.heap.size + 1, 4, none⟩), .pointer (some ⟨w.heap.size + 1, 5, none⟩), .pointer (some ⟨w.heap.size + 1, 6, none⟩), .pointer (some ⟨w.heap.size + 1, 7, none⟩), .pointer (some ⟨w.heap.size + 1, 8, none⟩), .pointer (some ⟨w.heap.size + 1, 9, none⟩), .pointer (some ⟨w.heap.size + 1, 10, none⟩), .pointer (some ⟨w.heap.size + 1, 11, none⟩), .pointer (some ⟨w.heap.size + 1, 12, none⟩)]) (.int .i64 (k : Int))).run Tryz.prog W = .ok (.pointer (some ⟨w.heap.size + 1, k, none⟩)) W) := fun k hk W => indexP _ k hk W
 have HL : Hid (l.length = 13) := hlen
 clear hm hc hr lb hlen
 obtain ⟨W0, HWW, HR0, HV0, HP0, HB0, -⟩ := sh3 w #[.int .i64 0, .int .i64 0, .int .i64 0, .int .i64 0, .int .i64 0, .int .i64 0, .int .i64 0, .int .i64 0, .int .i64 0, .int .i64 0, .int .i64 0, .int .i64 0, .int .i64 0] 71 #[.int .i64 0, .int .i64 0, .int .i64 0, .int .i64 0, .int .i64 0, .int .i64 0, .int .i64 0, .int .i64 0, .int .i64 0, .int .i64 0, .int .i64 0, .int .i64 0, .int .i64 0] 71 #[.pointer (some ⟨w.heap.size + 1, 0, none⟩), .pointer (some ⟨w.heap.size + 1, 1, none⟩), .pointer (some ⟨w.heap.size + 1, 2, none⟩), .pointer (some ⟨w.heap.size + 1, 3, none⟩), .pointer (some ⟨w.heap.size + 1, 4, none⟩), .pointer (some ⟨w.heap.size + 1, 5, none⟩), .pointer (some ⟨w.heap.size + 1, 6, none⟩), .pointer (some ⟨w.heap.size + 1, 7, none⟩), .pointer (some ⟨w.heap.size + 1, 8, none⟩), .pointer (some ⟨w.heap.size + 1, 9, none⟩), .pointer (some ⟨w.heap.size + 1, 10, none⟩), .pointer (some ⟨w.heap.size + 1, 11, none⟩), .pointer (some ⟨w.heap.size + 1, 12, none⟩)] 149
 go_enter Tryz.func74, Tryz.ntmps74
 go_upto_region 3 with fail
 rw [HWW.out]
 clear HWW
 have p0 : W0.cell? ⟨w.heap.size + 1 + 1, 0, none⟩ = some (.pointer (some ⟨w.heap.size + 1, 0, none⟩)) := HP0.out.cell 0
 have p1 : W0.cell? ⟨w.heap.size + 1 + 1, 1, none⟩ = some (.pointer (some ⟨w.heap.size + 1, 1, none⟩)) := HP0.out.cell 1
 have p2 : W0.cell? ⟨w.heap.size + 1 + 1, 2, none⟩ = some (.pointer (some ⟨w.heap.size + 1, 2, none⟩)) := HP0.out.cell 2
 have p3 : W0.cell? ⟨w.heap.size + 1 + 1, 3, none⟩ = some (.pointer (some ⟨w.heap.size + 1, 3, none⟩)) := HP0.out.cell 3
 have p4 : W0.cell? ⟨w.heap.size + 1 + 1, 4, none⟩ = some (.pointer (some ⟨w.heap.size + 1, 4, none⟩)) := HP0.out.cell 4
 have p5 : W0.cell? ⟨w.heap.size + 1 + 1, 5, none⟩ = some (.pointer (some ⟨w.heap.size + 1, 5, none⟩)) := HP0.out.cell 5
 have p6 : W0.cell? ⟨w.heap.size + 1 + 1, 6, none⟩ = some (.pointer (some ⟨w.heap.size + 1, 6, none⟩)) := HP0.out.cell 6
 have p7 : W0.cell? ⟨w.heap.size + 1 + 1, 7, none⟩ = some (.pointer (some ⟨w.heap.size + 1, 7, none⟩)) := HP0.out.cell 7
 have p8 : W0.cell? ⟨w.heap.size + 1 + 1, 8, none⟩ = some (.pointer (some ⟨w.heap.size + 1, 8, none⟩)) := HP0.out.cell 8
 have p9 : W0.cell? ⟨w.heap.size + 1 + 1, 9, none⟩ = some (.pointer (some ⟨w.heap.size + 1, 9, none⟩)) := HP0.out.cell 9
 have p10 : W0.cell? ⟨w.heap.size + 1 + 1, 10, none⟩ = some (.pointer (some ⟨w.heap.size + 1, 10, none⟩)) := HP0.out.cell 10
 have p11 : W0.cell? ⟨w.heap.size + 1 + 1, 11, none⟩ = some (.pointer (some ⟨w.heap.size + 1, 11, none⟩)) := HP0.out.cell 11
 have p12 : W0.cell? ⟨w.heap.size + 1 + 1, 12, none⟩ = some (.pointer (some ⟨w.heap.size + 1, 12, none⟩)) := HP0.out.cell 12
 go_wp2_with fail
 clear HP0 p0 p1 p2 p3 p4 p5 p6 p7 p8 p9 p10 p11 p12
 go_loopw [31] (fun v31 wr => ∃ (k : Nat), k ≤ 13 ∧ v31 = .int .i64 (k : Int) ∧ Blk wr w.heap.size #[.int .i64 0, .int .i64 0, .int .i64 0, .int .i64 0, .int .i64 0, .int .i64 0, .int .i64 0, .int .i64 0, .int .i64 0, .int .i64 0, .int .i64 0, .int .i64 0, .int .i64 0] 71 ∧ Blk wr (w.heap.size + 1) (cellsK l k) 71 ∧ Below w.heap.size w wr) (fun v31 _ => 13 - (intOf v31).toNat)
 case atStart => exact ⟨0, Nat.zero_le _, rfl, HR0.out, HV0.out, HB0.out⟩
 case round =>
  obtain ⟨k, hk, rfl, hR, hV, hbl⟩ := hrel
  have HR : Hid (Blk wr w.heap.size #[.int .i64 0, .int .i64 0, .int .i64 0, .int .i64 0, .int .i64 0, .int .i64 0, .int .i64 0, .int .i64 0, .int .i64 0, .int .i64 0, .int .i64 0, .int .i64 0, .int .i64 0] 71) := hR
  have HV : Hid (Blk wr (w.heap.size + 1) (cellsK l k) 71) := hV
  have HBL : Hid (Below w.heap.size w wr) := hbl
  clear hR hV hbl HR0 HV0 HB0
  by_cases hkm : k < 13
  ·have hix := HIX.out k hkm
   have hz := HM.out k hkm
   have hcl := HC.out wr HBL.out k hkm
   have HNX : Hid ((cellsK l k).setIfInBounds k (.int .i64 (l.getD k 0)) = cellsK l (k + 1)) := cellsK_next l HL.out k hkm
   have hks : k < (cellsK l k).size := by rw [cellsK_size l HL.out k hk]; exact hkm
   clear HIX HM HC
   generalize l.getD k 0 = z at *
   have hwz : IntKind.i64.wrap z = z := by rw [IntKind.wrap_i64]; omega
   have hdl : decide ((k : Int) < 13) = true := decide_eq_true (by omega)
   have hb13 : (0 : Int) ≤ (k : Int) ∧ (k : Int) < ((13 : Nat) : Int) := by omega
   clear hz
   go_wp2_with (first | (refine wp_let1 rfl 3 _ _ rfl (w.heap.size + 1) k rfl .i64 z rfl (by kernel_rfl) (cellsK l k) 71 HV.out hks ?_) | fail)
   intro W3 hU
   have H3 : Hid (Blk W3 (w.heap.size + 1) (cellsK l (k + 1)) 71) := by show Blk _ _ _ _; rw [← HNX.out]; exact hU.blk
   have HR3 := shK hU HR (by omega)
   have HB3 := shV hU HBL (by omega)
   clear hU hcl
   go_wp2_with fail
   go_roundw
   case rel => exact ⟨k + 1, by omega, by go_num, HR3.out, H3.out, HB3.out⟩
   case measure => simp [intOf]; omega
  ·obtain rfl : k = 13 := by omega
   have hdl : decide (((13 : Nat) : Int) < 13) = false := decide_eq_false (by omega)
   have HFN : Hid (Blk wr (w.heap.size + 1) (evOf l).cs 71) := by
    show Blk _ _ _ _
    rw [← cellsK_all l HL.out]; exact HV.out
   clear HV
   obtain ⟨v, hv⟩ : ∃ v, v = evOf l := ⟨_, rfl⟩
   have HVE : Hid (v = evOf l) := hv
   rw [← hv] at HFN
   clear hv
   unfold Ev.cs at HFN
   have c0 : wr.cell? ⟨w.heap.size + 1, 0, none⟩ = some (.int .i64 v.kd) := HFN.out.cell 0
   have c1 : wr.cell? ⟨w.heap.size + 1, 1, none⟩ = some (.int .i64 v.me) := HFN.out.cell 1
   have c2 : wr.cell? ⟨w.heap.size + 1, 2, none⟩ = some (.int .i64 v.mo) := HFN.out.cell 2
   have c3 : wr.cell? ⟨w.heap.size + 1, 3, none⟩ = some (.int .i64 v.id) := HFN.out.cell 3
   have c4 : wr.cell? ⟨w.heap.size + 1, 4, none⟩ = some (.int .i64 v.te) := HFN.out.cell 4
   have c5 : wr.cell? ⟨w.heap.size + 1, 5, none⟩ = some (.int .i64 v.de) := HFN.out.cell 5
   have c6 : wr.cell? ⟨w.heap.size + 1, 6, none⟩ = some (.int .i64 v.fe) := HFN.out.cell 6
   have c7 : wr.cell? ⟨w.heap.size + 1, 7, none⟩ = some (.int .i64 v.pr) := HFN.out.cell 7
   have c8 : wr.cell? ⟨w.heap.size + 1, 8, none⟩ = some (.int .i64 v.ch) := HFN.out.cell 8
   have c9 : wr.cell? ⟨w.heap.size + 1, 9, none⟩ = some (.int .i64 v.un) := HFN.out.cell 9
   have c10 : wr.cell? ⟨w.heap.size + 1, 10, none⟩ = some (.int .i64 v.tg) := HFN.out.cell 10
   have c11 : wr.cell? ⟨w.heap.size + 1, 11, none⟩ = some (.int .i64 v.ow) := HFN.out.cell 11
   have c12 : wr.cell? ⟨w.heap.size + 1, 12, none⟩ = some (.int .i64 v.bp) := HFN.out.cell 12
   go_wp2_with (first | (refine wp_letAll rfl 71 _ _ rfl _ rfl _ rfl (by kernel_rfl) (by simp [Value.oneCell']) _ 71 HR.out rfl ?_) | fail)
   intro W3 hU
   have HRV : Hid (Blk W3 w.heap.size #[.int .i64 v.kd, .int .i64 v.me, .int .i64 v.mo, .int .i64 v.id, .int .i64 v.te, .int .i64 v.de, .int .i64 v.fe, .int .i64 v.pr, .int .i64 v.ch, .int .i64 v.un, .int .i64 v.tg, .int .i64 v.ow, .int .i64 v.bp] 71) := hU.blk
   have HB3 := shV hU HBL (by omega)
   clear hU c0 c1 c2 c3 c4 c5 c6 c7 c8 c9 c10 c11 c12
   obtain ⟨r0, r1, r2, r3, r4, r5, r6, r7, r8, r9, r10, r11, r12⟩ := scl13 HRV
   go_wp2_with fail
   exact bodyPost_ret (v := .agg #[.int .i64 v.kd, .int .i64 v.me, .int .i64 v.mo, .int .i64 v.id, .int .i64 v.te, .int .i64 v.de, .int .i64 v.fe, .int .i64 v.pr, .int .i64 v.ch, .int .i64 v.un, .int .i64 v.tg, .int .i64 v.ow, .int .i64 v.bp]) (by simp [results, Tryz.results74, r0, r1, r2, r3, r4, r5, r6, r7, r8, r9, r10, r11, r12, go_sem]) rfl ⟨by rw [← HVE.out]; rfl, HB3.out⟩
end book
namespace book
open Go.RowKit cell
set_option maxRecDepth 100000
def DecGot (w : World) (l : List Int) (e : Ending) (w' : World) : Prop := ∃ v f, e = .returned (.tuple #[Ev.v v, .int .i64 f]) ∧ DecIs l v f ∧ Below w.heap.size w w'
def KDec : Prop := ∀ (W : World) (a : Option Addr) (n cap : Nat) (l : List Int), RowU W a n l → (a = none → cap = 0) → n ≤ cap → n * 4 ≤ 140737488351232 → (∀ x ∈ l, 0 ≤ x ∧ x < 4294967296) → Calls Tryz.prog 50 #[.slice a n cap] W fun e w' => DecGot W l e w'
end book
namespace book
open Go.RowKit cell
set_option maxRecDepth 100000
set_option maxHeartbeats 4000000 in
theorem kdec : KDec := by
 intro w a n cap l hr hnil hle hbytes hm
 have hmf : ∀ (fn : Fn) (first cap : Array Value) (w : World), (Instr.makeFunc fn first cap).run Tryz.prog w = .ok (.func fn first cap) w := fun _ _ _ _ => rfl
 have HLN : Hid (l.length = n) := hr.1
 have HR1 : Hid (Blk ((w.alloc (.cells #[.int .i64 0, .int .i64 0, .int .i64 0, .int .i64 0, .int .i64 0, .int .i64 0, .int .i64 0, .int .i64 0, .int .i64 0, .int .i64 0, .int .i64 0, .int .i64 0, .int .i64 0] 71)).alloc (.cells #[.int .i64 0] 30)) w.heap.size #[.int .i64 0, .int .i64 0, .int .i64 0, .int .i64 0, .int .i64 0, .int .i64 0, .int .i64 0, .int .i64 0, .int .i64 0, .int .i64 0, .int .i64 0, .int .i64 0, .int .i64 0] 71) := (Blk.new _ _ _).alloc _
 have HE1 : Hid (Blk ((w.alloc (.cells #[.int .i64 0, .int .i64 0, .int .i64 0, .int .i64 0, .int .i64 0, .int .i64 0, .int .i64 0, .int .i64 0, .int .i64 0, .int .i64 0, .int .i64 0, .int .i64 0, .int .i64 0] 71)).alloc (.cells #[.int .i64 0] 30)) (w.heap.size + 1) #[.int .i64 0] 30) := Blk.new1 _ _ _ _
 have HB1 : Hid (Below w.heap.size w ((w.alloc (.cells #[.int .i64 0, .int .i64 0, .int .i64 0, .int .i64 0, .int .i64 0, .int .i64 0, .int .i64 0, .int .i64 0, .int .i64 0, .int .i64 0, .int .i64 0, .int .i64 0, .int .i64 0] 71)).alloc (.cells #[.int .i64 0] 30))) := ((Below.refl _ _).alloc (Nat.le_refl _) _).alloc (by simp) _
 by_cases hn : n = 13
 case neg =>
  have nn : ((n : Int) != 13) = true := by simp; omega
  have HNL : Hid (l.length ≠ 13) := by show _ ≠ _; rw [HLN.out]; exact hn
  clear hn hr hm
  go_enter_defers Tryz.func50, Tryz.ntmps50
  go_upto_region 2 with fail
  generalize ((w.alloc (.cells #[.int .i64 0, .int .i64 0, .int .i64 0, .int .i64 0, .int .i64 0, .int .i64 0, .int .i64 0, .int .i64 0, .int .i64 0, .int .i64 0, .int .i64 0, .int .i64 0, .int .i64 0] 71)).alloc (.cells #[.int .i64 0] 30)) = W1 at *
  go_wp2_with (first | (refine wp_letAll rfl 71 _ _ rfl _ rfl _ rfl (by kernel_rfl) (by simp [Value.oneCell']) _ 71 HR1.out rfl ?_) | fail)
  intro W2 hU
  have HR2 : Hid (Blk W2 w.heap.size #[.int .i64 0, .int .i64 0, .int .i64 0, .int .i64 0, .int .i64 0, .int .i64 0, .int .i64 0, .int .i64 0, .int .i64 0, .int .i64 0, .int .i64 0, .int .i64 0, .int .i64 0] 71) := hU.blk
  have HE2 := shK hU HE1 (by omega)
  have HB2 : Hid (Below w.heap.size w W2) := hU.bel _ _ (Nat.le_refl _) HB1.out
  clear hU HR1 HE1 HB1
  go_wp2_with (first | (refine wp_let1 rfl 30 _ _ rfl (w.heap.size + 1) 0 rfl .i64 1 rfl (by kernel_rfl) #[.int .i64 0] 30 HE2.out (by decide) ?_) | fail)
  intro W3 hU
  have HR3 := shK hU HR2 (by omega)
  have r13 : W3.cell? ⟨w.heap.size + 1, 0, none⟩ = some (.int .i64 1) := hU.blk.cell 0
  have HB3 := shV hU HB2 (by omega)
  clear hU
  go_wp2_with fail
  obtain ⟨r0, r1, r2, r3, r4, r5, r6, r7, r8, r9, r10, r11, r12⟩ := scl13 HR3
  show Leaves _ _ _ _ [] .returning W3
  refine ⟨.tuple #[.agg #[.int .i64 0, .int .i64 0, .int .i64 0, .int .i64 0, .int .i64 0, .int .i64 0, .int .i64 0, .int .i64 0, .int .i64 0, .int .i64 0, .int .i64 0, .int .i64 0, .int .i64 0], .int .i64 1], by simp [results, Tryz.results50, r0, r1, r2, r3, r4, r5, r6, r7, r8, r9, r10, r11, r12, r13, go_sem], ?_⟩
  exact ⟨ev0, 1, rfl, .inl ⟨HNL.out, rfl, rfl⟩, HB3.out⟩
 subst hn
 have HEV : Hid (∀ W, Below w.heap.size w W → Calls Tryz.prog 74 #[.slice a 13 cap] W fun e w' => e = .returned (evOf l).v ∧ Below W.heap.size W w') := fun W hB => bevent a cap l W (hr.below hB) hm
 clear hr hm
 obtain ⟨v, hv⟩ : ∃ v, v = evOf l := ⟨_, rfl⟩
 have HVE : Hid (v = evOf l) := hv
 rw [← hv] at HEV
 clear hv
 have HMU : Hid (∀ W, Calls Tryz.prog 63 #[.agg #[.int .i64 v.kd, .int .i64 v.me, .int .i64 v.mo, .int .i64 v.id, .int .i64 v.te, .int .i64 v.de, .int .i64 v.fe, .int .i64 v.pr, .int .i64 v.ch, .int .i64 v.un, .int .i64 v.tg, .int .i64 v.ow, .int .i64 v.bp]] W fun e w' => MustPost W v e w') := fun W => bmust v W
 have nn : (((13 : Nat) : Int) != 13) = false := by decide
 go_enter_defers Tryz.func50, Tryz.ntmps50
 go_upto_region 4 with fail
 generalize ((w.alloc (.cells #[.int .i64 0, .int .i64 0, .int .i64 0, .int .i64 0, .int .i64 0, .int .i64 0, .int .i64 0, .int .i64 0, .int .i64 0, .int .i64 0, .int .i64 0, .int .i64 0, .int .i64 0] 71)).alloc (.cells #[.int .i64 0] 30)) = W1 at *
 have HE := HEV.out W1 HB1.out
 have HE' : Hid (Calls Tryz.prog 74 #[.slice a 13 cap] W1 fun e w' => e = .returned v.v ∧ Below W1.heap.size W1 w') := HE
 clear HE HEV
 go_wp2_with fail
 refine HE'.out.mono ?_
 rintro e W2 ⟨rfl, hb⟩
 have HR2 : Hid (Blk (W2.alloc (.cells #[.int .i64 v.kd, .int .i64 v.me, .int .i64 v.mo, .int .i64 v.id, .int .i64 v.te, .int .i64 v.de, .int .i64 v.fe, .int .i64 v.pr, .int .i64 v.ch, .int .i64 v.un, .int .i64 v.tg, .int .i64 v.ow, .int .i64 v.bp] 71)) w.heap.size #[.int .i64 0, .int .i64 0, .int .i64 0, .int .i64 0, .int .i64 0, .int .i64 0, .int .i64 0, .int .i64 0, .int .i64 0, .int .i64 0, .int .i64 0, .int .i64 0, .int .i64 0] 71) := (HR1.out.next hb).alloc _
 have HE2 : Hid (Blk (W2.alloc (.cells #[.int .i64 v.kd, .int .i64 v.me, .int .i64 v.mo, .int .i64 v.id, .int .i64 v.te, .int .i64 v.de, .int .i64 v.fe, .int .i64 v.pr, .int .i64 v.ch, .int .i64 v.un, .int .i64 v.tg, .int .i64 v.ow, .int .i64 v.bp] 71)) (w.heap.size + 1) #[.int .i64 0] 30) := (HE1.out.next hb).alloc _
 have HT2 : Hid (Blk (W2.alloc (.cells #[.int .i64 v.kd, .int .i64 v.me, .int .i64 v.mo, .int .i64 v.id, .int .i64 v.te, .int .i64 v.de, .int .i64 v.fe, .int .i64 v.pr, .int .i64 v.ch, .int .i64 v.un, .int .i64 v.tg, .int .i64 v.ow, .int .i64 v.bp] 71)) W2.heap.size #[.int .i64 v.kd, .int .i64 v.me, .int .i64 v.mo, .int .i64 v.id, .int .i64 v.te, .int .i64 v.de, .int .i64 v.fe, .int .i64 v.pr, .int .i64 v.ch, .int .i64 v.un, .int .i64 v.tg, .int .i64 v.ow, .int .i64 v.bp] 71) := Blk.new _ _ _
 have HB2 : Hid (Below w.heap.size w (W2.alloc (.cells #[.int .i64 v.kd, .int .i64 v.me, .int .i64 v.mo, .int .i64 v.id, .int .i64 v.te, .int .i64 v.de, .int .i64 v.fe, .int .i64 v.pr, .int .i64 v.ch, .int .i64 v.un, .int .i64 v.tg, .int .i64 v.ow, .int .i64 v.bp] 71))) := (bel_step HB1.out hb).alloc (bel_step HB1.out hb).size _
 have HG2 : Hid (w.heap.size + 1 < W2.heap.size) := (HE1.out.next hb).lt
 clear hb HR1 HE1 HB1 HE'
 unfold Ev.v
 go_upto_region 5 with fail
 generalize (W2.alloc (.cells #[.int .i64 v.kd, .int .i64 v.me, .int .i64 v.mo, .int .i64 v.id, .int .i64 v.te, .int .i64 v.de, .int .i64 v.fe, .int .i64 v.pr, .int .i64 v.ch, .int .i64 v.un, .int .i64 v.tg, .int .i64 v.ow, .int .i64 v.bp] 71)) = W3 at *
 generalize W2.heap.size = g at *
 obtain ⟨c0, c1, c2, c3, c4, c5, c6, c7, c8, c9, c10, c11, c12⟩ := scl13 HT2
 go_wp2_with fail
 refine (HMU.out _).mono ?_
 rintro e W4 ⟨hm, hb⟩
 have HR4 := shN HR2 hb
 have HE4 := shN HE2 hb
 have HT4 := shN HT2 hb
 have HB4 := shB HB2 hb
 clear hb HR2 HE2 HT2 HB2 HMU c0 c1 c2 c3 c4 c5 c6 c7 c8 c9 c10 c11 c12
 rcases hm with ⟨hm, rfl⟩ | ⟨hm, rfl⟩
 ·have HY : Hid (EMay v) := hm
  clear hm
  obtain ⟨c0, c1, c2, c3, c4, c5, c6, c7, c8, c9, c10, c11, c12⟩ := scl13 HT4
  go_wp2_with (first | (refine wp_letAll rfl 71 _ _ rfl _ rfl _ rfl (by kernel_rfl) (by simp [Value.oneCell']) _ 71 HR4.out rfl ?_) | fail)
  intro W5 hU
  have HR5 : Hid (Blk W5 w.heap.size #[.int .i64 v.kd, .int .i64 v.me, .int .i64 v.mo, .int .i64 v.id, .int .i64 v.te, .int .i64 v.de, .int .i64 v.fe, .int .i64 v.pr, .int .i64 v.ch, .int .i64 v.un, .int .i64 v.tg, .int .i64 v.ow, .int .i64 v.bp] 71) := hU.blk
  have HE5 := shK hU HE4 (by omega)
  have HB5 : Hid (Below w.heap.size w W5) := hU.bel _ _ (Nat.le_refl _) HB4.out
  clear hU HR4 HE4 HB4 HT4 c0 c1 c2 c3 c4 c5 c6 c7 c8 c9 c10 c11 c12
  go_wp2_with (first | (refine wp_let1 rfl 30 _ _ rfl (w.heap.size + 1) 0 rfl .i64 0 rfl (by kernel_rfl) #[.int .i64 0] 30 HE5.out (by decide) ?_) | fail)
  intro W6 hU
  have HR6 := shK hU HR5 (by omega)
  have HE6 : Hid (Blk W6 (w.heap.size + 1) #[.int .i64 0] 30) := hU.blk
  have HB6 := shV hU HB5 (by omega)
  clear hU HR5 HE5 HB5
  go_wp2_with fail
  refine leaves_cons (f := 73) (args := #[.pointer (some ⟨w.heap.size + 1, 0, none⟩)]) (by simp) (by simp [go_sem]) ?_
  refine (decode_idle (w.heap.size + 1) 0 _ HE6.out).mono ?_
  rintro e u' w5 ⟨rfl, hs, W, hb, hU⟩
  have HR7 : Blk w5 w.heap.size #[.int .i64 v.kd, .int .i64 v.me, .int .i64 v.mo, .int .i64 v.id, .int .i64 v.te, .int .i64 v.de, .int .i64 v.fe, .int .i64 v.pr, .int .i64 v.ch, .int .i64 v.un, .int .i64 v.tg, .int .i64 v.ow, .int .i64 v.bp] 71 := hU.keep (HR6.out.next hb) (by omega)
  have r13 : w5.cell? ⟨w.heap.size + 1, 0, none⟩ = some (.int .i64 0) := hU.blk.cell 0
  have HB7 : Below w.heap.size w w5 := hU.bel _ _ (by omega) (bel_step HB6.out hb)
  have r0 : w5.cell? ⟨w.heap.size, 0, none⟩ = some (.int .i64 v.kd) := HR7.cell 0
  have r1 : w5.cell? ⟨w.heap.size, 1, none⟩ = some (.int .i64 v.me) := HR7.cell 1
  have r2 : w5.cell? ⟨w.heap.size, 2, none⟩ = some (.int .i64 v.mo) := HR7.cell 2
  have r3 : w5.cell? ⟨w.heap.size, 3, none⟩ = some (.int .i64 v.id) := HR7.cell 3
  have r4 : w5.cell? ⟨w.heap.size, 4, none⟩ = some (.int .i64 v.te) := HR7.cell 4
  have r5 : w5.cell? ⟨w.heap.size, 5, none⟩ = some (.int .i64 v.de) := HR7.cell 5
  have r6 : w5.cell? ⟨w.heap.size, 6, none⟩ = some (.int .i64 v.fe) := HR7.cell 6
  have r7 : w5.cell? ⟨w.heap.size, 7, none⟩ = some (.int .i64 v.pr) := HR7.cell 7
  have r8 : w5.cell? ⟨w.heap.size, 8, none⟩ = some (.int .i64 v.ch) := HR7.cell 8
  have r9 : w5.cell? ⟨w.heap.size, 9, none⟩ = some (.int .i64 v.un) := HR7.cell 9
  have r10 : w5.cell? ⟨w.heap.size, 10, none⟩ = some (.int .i64 v.tg) := HR7.cell 10
  have r11 : w5.cell? ⟨w.heap.size, 11, none⟩ = some (.int .i64 v.ow) := HR7.cell 11
  have r12 : w5.cell? ⟨w.heap.size, 12, none⟩ = some (.int .i64 v.bp) := HR7.cell 12
  show Leaves _ _ _ _ [] (settle u') w5
  rw [hs]
  refine ⟨.tuple #[.agg #[.int .i64 v.kd, .int .i64 v.me, .int .i64 v.mo, .int .i64 v.id, .int .i64 v.te, .int .i64 v.de, .int .i64 v.fe, .int .i64 v.pr, .int .i64 v.ch, .int .i64 v.un, .int .i64 v.tg, .int .i64 v.ow, .int .i64 v.bp], .int .i64 0], by simp [results, Tryz.results50, r0, r1, r2, r3, r4, r5, r6, r7, r8, r9, r10, r11, r12, r13, go_sem], ?_⟩
  exact ⟨v, 0, rfl, .inr (.inr ⟨HLN.out, by rw [← HVE.out]; exact HY.out, HVE.out, rfl⟩), HB7⟩
 ·have HN : Hid (¬ EMay v) := hm
  clear hm
  refine leaves_cons (f := 73) (args := #[.pointer (some ⟨w.heap.size + 1, 0, none⟩)]) (by simp) (by simp [go_sem]) ?_
  refine (decode_caught (w.heap.size + 1) 0 5 _ HE4.out).mono ?_
  rintro e u' w5 ⟨rfl, hs, W, hb, hU⟩
  have HR7 : Blk w5 w.heap.size #[.int .i64 0, .int .i64 0, .int .i64 0, .int .i64 0, .int .i64 0, .int .i64 0, .int .i64 0, .int .i64 0, .int .i64 0, .int .i64 0, .int .i64 0, .int .i64 0, .int .i64 0] 71 := hU.keep (HR4.out.next hb) (by omega)
  have r13 : w5.cell? ⟨w.heap.size + 1, 0, none⟩ = some (.int .i64 5) := hU.blk.cell 0
  have HB7 : Below w.heap.size w w5 := hU.bel _ _ (by omega) (bel_step HB4.out hb)
  have r0 : w5.cell? ⟨w.heap.size, 0, none⟩ = some (.int .i64 0) := HR7.cell 0
  have r1 : w5.cell? ⟨w.heap.size, 1, none⟩ = some (.int .i64 0) := HR7.cell 1
  have r2 : w5.cell? ⟨w.heap.size, 2, none⟩ = some (.int .i64 0) := HR7.cell 2
  have r3 : w5.cell? ⟨w.heap.size, 3, none⟩ = some (.int .i64 0) := HR7.cell 3
  have r4 : w5.cell? ⟨w.heap.size, 4, none⟩ = some (.int .i64 0) := HR7.cell 4
  have r5 : w5.cell? ⟨w.heap.size, 5, none⟩ = some (.int .i64 0) := HR7.cell 5
  have r6 : w5.cell? ⟨w.heap.size, 6, none⟩ = some (.int .i64 0) := HR7.cell 6
  have r7 : w5.cell? ⟨w.heap.size, 7, none⟩ = some (.int .i64 0) := HR7.cell 7
  have r8 : w5.cell? ⟨w.heap.size, 8, none⟩ = some (.int .i64 0) := HR7.cell 8
  have r9 : w5.cell? ⟨w.heap.size, 9, none⟩ = some (.int .i64 0) := HR7.cell 9
  have r10 : w5.cell? ⟨w.heap.size, 10, none⟩ = some (.int .i64 0) := HR7.cell 10
  have r11 : w5.cell? ⟨w.heap.size, 11, none⟩ = some (.int .i64 0) := HR7.cell 11
  have r12 : w5.cell? ⟨w.heap.size, 12, none⟩ = some (.int .i64 0) := HR7.cell 12
  show Leaves _ _ _ _ [] (settle u') w5
  rw [hs]
  refine ⟨.tuple #[.agg #[.int .i64 0, .int .i64 0, .int .i64 0, .int .i64 0, .int .i64 0, .int .i64 0, .int .i64 0, .int .i64 0, .int .i64 0, .int .i64 0, .int .i64 0, .int .i64 0, .int .i64 0], .int .i64 5], by simp [results, Tryz.results50, r0, r1, r2, r3, r4, r5, r6, r7, r8, r9, r10, r11, r12, r13, go_sem], ?_⟩
  exact ⟨ev0, 5, rfl, .inr (.inl ⟨HLN.out, by rw [← HVE.out]; exact HN.out, rfl, rfl⟩), HB7⟩
end book
end Go.Proofs.YtomibnggmhjdfaaGreat
