/- The words of an event, in the program. -/
import Derived.Test.YtfhlokjpdkmdjaaBkD
import Derived.Test.YtfhlokjpdkmdjaaWRow
import Derived.Test.YtfhlokjpdkmdjaaBlk
import Derived.Test.YtfhlokjpdkmdjaaLet
import Derived.Laws.MakeOwn
import Derived.Deep.DeepCutAuto
namespace Go.Proofs.Ytfhlokjpdkmdjaa.book
open Go.RowKit Go.Proofs.Ytfhlokjpdkmdjaa.cell
set_option maxRecDepth 100000
set_option linter.unusedVariables false
set_option linter.unusedSimpArgs false

theorem take_next (l : List Int) (k : Nat) (h : k < l.length) : l.take k ++ [l.getD k 0] = l.take (k + 1) := by
  rw [List.take_add_one]; simp [List.getD, List.getElem?_eq_getElem h]
theorem index13_0 (a0 a1 a2 a3 a4 a5 a6 a7 a8 a9 a10 a11 a12 : Int) (W : World) : (Instr.index 90 (.agg #[.int .i64 a0, .int .i64 a1, .int .i64 a2, .int .i64 a3, .int .i64 a4, .int .i64 a5, .int .i64 a6, .int .i64 a7, .int .i64 a8, .int .i64 a9, .int .i64 a10, .int .i64 a11, .int .i64 a12]) (.int .i64 0)).run Try.prog W = .ok (.int .i64 a0) W := by kernel_rfl
theorem index13_1 (a0 a1 a2 a3 a4 a5 a6 a7 a8 a9 a10 a11 a12 : Int) (W : World) : (Instr.index 90 (.agg #[.int .i64 a0, .int .i64 a1, .int .i64 a2, .int .i64 a3, .int .i64 a4, .int .i64 a5, .int .i64 a6, .int .i64 a7, .int .i64 a8, .int .i64 a9, .int .i64 a10, .int .i64 a11, .int .i64 a12]) (.int .i64 1)).run Try.prog W = .ok (.int .i64 a1) W := by kernel_rfl
theorem index13_2 (a0 a1 a2 a3 a4 a5 a6 a7 a8 a9 a10 a11 a12 : Int) (W : World) : (Instr.index 90 (.agg #[.int .i64 a0, .int .i64 a1, .int .i64 a2, .int .i64 a3, .int .i64 a4, .int .i64 a5, .int .i64 a6, .int .i64 a7, .int .i64 a8, .int .i64 a9, .int .i64 a10, .int .i64 a11, .int .i64 a12]) (.int .i64 2)).run Try.prog W = .ok (.int .i64 a2) W := by kernel_rfl
theorem index13_3 (a0 a1 a2 a3 a4 a5 a6 a7 a8 a9 a10 a11 a12 : Int) (W : World) : (Instr.index 90 (.agg #[.int .i64 a0, .int .i64 a1, .int .i64 a2, .int .i64 a3, .int .i64 a4, .int .i64 a5, .int .i64 a6, .int .i64 a7, .int .i64 a8, .int .i64 a9, .int .i64 a10, .int .i64 a11, .int .i64 a12]) (.int .i64 3)).run Try.prog W = .ok (.int .i64 a3) W := by kernel_rfl
theorem index13_4 (a0 a1 a2 a3 a4 a5 a6 a7 a8 a9 a10 a11 a12 : Int) (W : World) : (Instr.index 90 (.agg #[.int .i64 a0, .int .i64 a1, .int .i64 a2, .int .i64 a3, .int .i64 a4, .int .i64 a5, .int .i64 a6, .int .i64 a7, .int .i64 a8, .int .i64 a9, .int .i64 a10, .int .i64 a11, .int .i64 a12]) (.int .i64 4)).run Try.prog W = .ok (.int .i64 a4) W := by kernel_rfl
theorem index13_5 (a0 a1 a2 a3 a4 a5 a6 a7 a8 a9 a10 a11 a12 : Int) (W : World) : (Instr.index 90 (.agg #[.int .i64 a0, .int .i64 a1, .int .i64 a2, .int .i64 a3, .int .i64 a4, .int .i64 a5, .int .i64 a6, .int .i64 a7, .int .i64 a8, .int .i64 a9, .int .i64 a10, .int .i64 a11, .int .i64 a12]) (.int .i64 5)).run Try.prog W = .ok (.int .i64 a5) W := by kernel_rfl
theorem index13_6 (a0 a1 a2 a3 a4 a5 a6 a7 a8 a9 a10 a11 a12 : Int) (W : World) : (Instr.index 90 (.agg #[.int .i64 a0, .int .i64 a1, .int .i64 a2, .int .i64 a3, .int .i64 a4, .int .i64 a5, .int .i64 a6, .int .i64 a7, .int .i64 a8, .int .i64 a9, .int .i64 a10, .int .i64 a11, .int .i64 a12]) (.int .i64 6)).run Try.prog W = .ok (.int .i64 a6) W := by kernel_rfl
theorem index13_7 (a0 a1 a2 a3 a4 a5 a6 a7 a8 a9 a10 a11 a12 : Int) (W : World) : (Instr.index 90 (.agg #[.int .i64 a0, .int .i64 a1, .int .i64 a2, .int .i64 a3, .int .i64 a4, .int .i64 a5, .int .i64 a6, .int .i64 a7, .int .i64 a8, .int .i64 a9, .int .i64 a10, .int .i64 a11, .int .i64 a12]) (.int .i64 7)).run Try.prog W = .ok (.int .i64 a7) W := by kernel_rfl
theorem index13_8 (a0 a1 a2 a3 a4 a5 a6 a7 a8 a9 a10 a11 a12 : Int) (W : World) : (Instr.index 90 (.agg #[.int .i64 a0, .int .i64 a1, .int .i64 a2, .int .i64 a3, .int .i64 a4, .int .i64 a5, .int .i64 a6, .int .i64 a7, .int .i64 a8, .int .i64 a9, .int .i64 a10, .int .i64 a11, .int .i64 a12]) (.int .i64 8)).run Try.prog W = .ok (.int .i64 a8) W := by kernel_rfl
theorem index13_9 (a0 a1 a2 a3 a4 a5 a6 a7 a8 a9 a10 a11 a12 : Int) (W : World) : (Instr.index 90 (.agg #[.int .i64 a0, .int .i64 a1, .int .i64 a2, .int .i64 a3, .int .i64 a4, .int .i64 a5, .int .i64 a6, .int .i64 a7, .int .i64 a8, .int .i64 a9, .int .i64 a10, .int .i64 a11, .int .i64 a12]) (.int .i64 9)).run Try.prog W = .ok (.int .i64 a9) W := by kernel_rfl
theorem index13_10 (a0 a1 a2 a3 a4 a5 a6 a7 a8 a9 a10 a11 a12 : Int) (W : World) : (Instr.index 90 (.agg #[.int .i64 a0, .int .i64 a1, .int .i64 a2, .int .i64 a3, .int .i64 a4, .int .i64 a5, .int .i64 a6, .int .i64 a7, .int .i64 a8, .int .i64 a9, .int .i64 a10, .int .i64 a11, .int .i64 a12]) (.int .i64 10)).run Try.prog W = .ok (.int .i64 a10) W := by kernel_rfl
theorem index13_11 (a0 a1 a2 a3 a4 a5 a6 a7 a8 a9 a10 a11 a12 : Int) (W : World) : (Instr.index 90 (.agg #[.int .i64 a0, .int .i64 a1, .int .i64 a2, .int .i64 a3, .int .i64 a4, .int .i64 a5, .int .i64 a6, .int .i64 a7, .int .i64 a8, .int .i64 a9, .int .i64 a10, .int .i64 a11, .int .i64 a12]) (.int .i64 11)).run Try.prog W = .ok (.int .i64 a11) W := by kernel_rfl
theorem index13_12 (a0 a1 a2 a3 a4 a5 a6 a7 a8 a9 a10 a11 a12 : Int) (W : World) : (Instr.index 90 (.agg #[.int .i64 a0, .int .i64 a1, .int .i64 a2, .int .i64 a3, .int .i64 a4, .int .i64 a5, .int .i64 a6, .int .i64 a7, .int .i64 a8, .int .i64 a9, .int .i64 a10, .int .i64 a11, .int .i64 a12]) (.int .i64 12)).run Try.prog W = .ok (.int .i64 a12) W := by kernel_rfl
theorem index13 (a0 a1 a2 a3 a4 a5 a6 a7 a8 a9 a10 a11 a12 : Int) (k : Nat) (hk : k < 13) (W : World) : (Instr.index 90 (.agg #[.int .i64 a0, .int .i64 a1, .int .i64 a2, .int .i64 a3, .int .i64 a4, .int .i64 a5, .int .i64 a6, .int .i64 a7, .int .i64 a8, .int .i64 a9, .int .i64 a10, .int .i64 a11, .int .i64 a12]) (.int .i64 (k : Int))).run Try.prog W = .ok (.int .i64 ([a0, a1, a2, a3, a4, a5, a6, a7, a8, a9, a10, a11, a12].getD k 0)) W := by
  match k, hk with
  | 0, _ => exact index13_0 a0 a1 a2 a3 a4 a5 a6 a7 a8 a9 a10 a11 a12 W
  | 1, _ => exact index13_1 a0 a1 a2 a3 a4 a5 a6 a7 a8 a9 a10 a11 a12 W
  | 2, _ => exact index13_2 a0 a1 a2 a3 a4 a5 a6 a7 a8 a9 a10 a11 a12 W
  | 3, _ => exact index13_3 a0 a1 a2 a3 a4 a5 a6 a7 a8 a9 a10 a11 a12 W
  | 4, _ => exact index13_4 a0 a1 a2 a3 a4 a5 a6 a7 a8 a9 a10 a11 a12 W
  | 5, _ => exact index13_5 a0 a1 a2 a3 a4 a5 a6 a7 a8 a9 a10 a11 a12 W
  | 6, _ => exact index13_6 a0 a1 a2 a3 a4 a5 a6 a7 a8 a9 a10 a11 a12 W
  | 7, _ => exact index13_7 a0 a1 a2 a3 a4 a5 a6 a7 a8 a9 a10 a11 a12 W
  | 8, _ => exact index13_8 a0 a1 a2 a3 a4 a5 a6 a7 a8 a9 a10 a11 a12 W
  | 9, _ => exact index13_9 a0 a1 a2 a3 a4 a5 a6 a7 a8 a9 a10 a11 a12 W
  | 10, _ => exact index13_10 a0 a1 a2 a3 a4 a5 a6 a7 a8 a9 a10 a11 a12 W
  | 11, _ => exact index13_11 a0 a1 a2 a3 a4 a5 a6 a7 a8 a9 a10 a11 a12 W
  | 12, _ => exact index13_12 a0 a1 a2 a3 a4 a5 a6 a7 a8 a9 a10 a11 a12 W
theorem make13 (w : World) : (Instr.makeSlice 28 (.int .i64 0) (.int .i64 13)).run Try.prog w = .ok (.slice (some ⟨w.heap.size, 0, none⟩) 0 13) (w.alloc (.cells (madeCells (Value.int .u32 0).cells 13) 67)) := by
  obtain ⟨i0, hi, hz0, hz1, hz2⟩ := info_parts info_u32
  have := run_make (P := Try.prog) w 28 67 i0 (.int .u32 0) Try.underlying28 hi hz0 .i64 .i64 0 13 (by omega) (by omega) (by rw [hz2]; decide) (by omega)
  rw [hz1] at this
  exact this
set_option maxHeartbeats 4000000 in
theorem bwords (v : Ev) (hm : ∀ x ∈ evL v, 0 ≤ x ∧ x < 4294967296) (w : World) : Calls Try.prog 28 #[.agg #[.int .i64 v.kd, .int .i64 v.me, .int .i64 v.mo, .int .i64 v.id, .int .i64 v.te, .int .i64 v.de, .int .i64 v.fe, .int .i64 v.pr, .int .i64 v.ch, .int .i64 v.un, .int .i64 v.tg, .int .i64 v.ow, .int .i64 v.bp]] w fun e w' => ∃ V, e = .returned V ∧ Ws w' w.heap.size V (evL v) ∧ Below w.heap.size w w' := by
  have HM : Hid (∀ k, k < 13 → 0 ≤ (evL v).getD k 0 ∧ (evL v).getD k 0 < 4294967296) := fun k hk => hm _ (by
    have hl : k < (evL v).length := hk
    rw [show (evL v).getD k 0 = (evL v)[k] by simp [List.getD, List.getElem?_eq_getElem hl]]
    exact List.getElem_mem _)
  have HIX : Hid (∀ k : Nat, k < 13 → ∀ W, (Instr.index 90 (.agg #[.int .i64 v.kd, .int .i64 v.me, .int .i64 v.mo, .int .i64 v.id, .int .i64 v.te, .int .i64 v.de, .int .i64 v.fe, .int .i64 v.pr, .int .i64 v.ch, .int .i64 v.un, .int .i64 v.tg, .int .i64 v.ow, .int .i64 v.bp]) (.int .i64 (k : Int))).run Try.prog W = .ok (.int .i64 ((evL v).getD k 0)) W) := fun k hk W => index13 v.kd v.me v.mo v.id v.te v.de v.fe v.pr v.ch v.un v.tg v.ow v.bp k hk W
  have HL : Hid ((evL v).length = 13) := rfl
  clear hm
  have HB1 : Hid (Below w.heap.size w ((w.alloc (.cells #[.int .i64 v.kd, .int .i64 v.me, .int .i64 v.mo, .int .i64 v.id, .int .i64 v.te, .int .i64 v.de, .int .i64 v.fe, .int .i64 v.pr, .int .i64 v.ch, .int .i64 v.un, .int .i64 v.tg, .int .i64 v.ow, .int .i64 v.bp] 27)).alloc (.cells #[.int .i64 v.kd, .int .i64 v.me, .int .i64 v.mo, .int .i64 v.id, .int .i64 v.te, .int .i64 v.de, .int .i64 v.fe, .int .i64 v.pr, .int .i64 v.ch, .int .i64 v.un, .int .i64 v.tg, .int .i64 v.ow, .int .i64 v.bp] 90))) := ((Below.refl _ _).alloc (Nat.le_refl _) _).alloc (by simp) _
  go_enter Try.func28, Try.ntmps28
  go_upto_region 2 with fail
  generalize hW1 : ((w.alloc (.cells #[.int .i64 v.kd, .int .i64 v.me, .int .i64 v.mo, .int .i64 v.id, .int .i64 v.te, .int .i64 v.de, .int .i64 v.fe, .int .i64 v.pr, .int .i64 v.ch, .int .i64 v.un, .int .i64 v.tg, .int .i64 v.ow, .int .i64 v.bp] 27)).alloc (.cells #[.int .i64 v.kd, .int .i64 v.me, .int .i64 v.mo, .int .i64 v.id, .int .i64 v.te, .int .i64 v.de, .int .i64 v.fe, .int .i64 v.pr, .int .i64 v.ch, .int .i64 v.un, .int .i64 v.tg, .int .i64 v.ow, .int .i64 v.bp] 90)) = W1 at *
  have HA : Hid (Blk W1 (w.heap.size + 1) #[.int .i64 v.kd, .int .i64 v.me, .int .i64 v.mo, .int .i64 v.id, .int .i64 v.te, .int .i64 v.de, .int .i64 v.fe, .int .i64 v.pr, .int .i64 v.ch, .int .i64 v.un, .int .i64 v.tg, .int .i64 v.ow, .int .i64 v.bp] 90) := by show Blk _ _ _ _; rw [← hW1]; exact Blk.new1 _ _ _ _
  clear hW1
  have hmk := make13 W1
  have hsz : w.heap.size ≤ W1.heap.size := HB1.out.size
  have HL0 : Hid (Ws (W1.alloc (.cells (madeCells (Value.int .u32 0).cells 13) 67)) w.heap.size (.slice (some ⟨W1.heap.size, 0, none⟩) 0 13) []) := World.ownsRow_made W1 _ 13 hsz (by unfold maxLen; omega) (size_madeCells _ _)
  have HB0 : Hid (Below w.heap.size w (W1.alloc (.cells (madeCells (Value.int .u32 0).cells 13) 67))) := HB1.out.alloc HB1.out.size _
  have HA0 : Hid (Blk (W1.alloc (.cells (madeCells (Value.int .u32 0).cells 13) 67)) (w.heap.size + 1) #[.int .i64 v.kd, .int .i64 v.me, .int .i64 v.mo, .int .i64 v.id, .int .i64 v.te, .int .i64 v.de, .int .i64 v.fe, .int .i64 v.pr, .int .i64 v.ch, .int .i64 v.un, .int .i64 v.tg, .int .i64 v.ow, .int .i64 v.bp] 90) := HA.out.alloc _
  generalize (W1.alloc (.cells (madeCells (Value.int .u32 0).cells 13) 67)) = W0 at *
  clear HA HB1
  have b0 : W0.cell? ⟨w.heap.size + 1, 0, none⟩ = some (.int .i64 v.kd) := HA0.out.cell 0
  have b1 : W0.cell? ⟨w.heap.size + 1, 1, none⟩ = some (.int .i64 v.me) := HA0.out.cell 1
  have b2 : W0.cell? ⟨w.heap.size + 1, 2, none⟩ = some (.int .i64 v.mo) := HA0.out.cell 2
  have b3 : W0.cell? ⟨w.heap.size + 1, 3, none⟩ = some (.int .i64 v.id) := HA0.out.cell 3
  have b4 : W0.cell? ⟨w.heap.size + 1, 4, none⟩ = some (.int .i64 v.te) := HA0.out.cell 4
  have b5 : W0.cell? ⟨w.heap.size + 1, 5, none⟩ = some (.int .i64 v.de) := HA0.out.cell 5
  have b6 : W0.cell? ⟨w.heap.size + 1, 6, none⟩ = some (.int .i64 v.fe) := HA0.out.cell 6
  have b7 : W0.cell? ⟨w.heap.size + 1, 7, none⟩ = some (.int .i64 v.pr) := HA0.out.cell 7
  have b8 : W0.cell? ⟨w.heap.size + 1, 8, none⟩ = some (.int .i64 v.ch) := HA0.out.cell 8
  have b9 : W0.cell? ⟨w.heap.size + 1, 9, none⟩ = some (.int .i64 v.un) := HA0.out.cell 9
  have b10 : W0.cell? ⟨w.heap.size + 1, 10, none⟩ = some (.int .i64 v.tg) := HA0.out.cell 10
  have b11 : W0.cell? ⟨w.heap.size + 1, 11, none⟩ = some (.int .i64 v.ow) := HA0.out.cell 11
  have b12 : W0.cell? ⟨w.heap.size + 1, 12, none⟩ = some (.int .i64 v.bp) := HA0.out.cell 12
  go_wp2_with fail
  clear hmk hsz b0 b1 b2 b3 b4 b5 b6 b7 b8 b9 b10 b11 b12
  go_loopw [4, 45] (fun v4 v45 wr => ∃ (k : Nat) (V : Value), k ≤ 13 ∧ V = v4 ∧ v45 = .int .i64 (k : Int) ∧ Ws wr w.heap.size V ((evL v).take k) ∧ Below w.heap.size w wr) (fun _ v45 _ => 13 - (intOf v45).toNat)
  case atStart => exact ⟨0, _, Nat.zero_le _, rfl, rfl, HL0.out, HB0.out⟩
  case round =>
    obtain ⟨k, V, hk, hV, rfl, hlw, hbl⟩ := hrel
    subst hV
    have hs6 : ((evL v).take k).length ≤ 1000000 := by rw [List.length_take]; omega
    have HUA : Hid (∀ o, Ws (wr.alloc o) w.heap.size V ((evL v).take k)) := fun o => hlw.alloc o
    have HBA : Hid (∀ o, Below w.heap.size w (wr.alloc o)) := fun o => hbl.alloc hbl.size o
    have HSA : Hid (∀ o, w.heap.size ≤ (wr.alloc o).heap.size) := fun o => (hbl.alloc hbl.size o).size
    have HBL : Hid (Below w.heap.size w wr) := hbl
    have HUL : Hid (Ws wr w.heap.size V ((evL v).take k)) := hlw
    clear hlw hbl HL0 HB0 HA0
    by_cases hkm : k < 13
    · have hix := HIX.out k hkm
      have HPN : Hid ((evL v).take k ++ [(evL v).getD k 0] = (evL v).take (k + 1)) := take_next _ k hkm
      have hz := HM.out k hkm
      clear HIX HM
      generalize (evL v).getD k 0 = z at *
      have hwz : IntKind.u32.wrap z = z := by rw [IntKind.wrap_u32]; omega
      have hwz2 : z % 4294967296 = z := by omega
      have hdl : decide ((k : Int) < 13) = true := decide_eq_true (by omega)
      clear hz
      go_wp2_with (first | (refine wp_word rfl _ _ rfl w.heap.size wr.heap.size V ((evL v).take k) z rfl rfl (HUA.out _) ((Blk.new wr _ _).cell 0) hs6 (HSA.out _) ?_; intro v3 w3 h3 hg3; have hb3 := own_bel (HUA.out _) hg3 (HBA.out _) (Nat.le_refl _) (HSA.out _); have H3 : Hid (Ws w3 w.heap.size v3 ((evL v).take k ++ [z])) := h3; have HB3 : Hid (Below w.heap.size w w3) := hb3; clear h3 hg3 hb3) | fail)
      go_roundw
      case rel => exact ⟨k + 1, v3, by omega, rfl, by go_num, by rw [← HPN.out]; exact H3.out, HB3.out⟩
      case measure => simp [intOf]; omega
    · have hdl : decide ((k : Int) < 13) = false := decide_eq_false (by omega)
      have HFN : Hid (Ws wr w.heap.size V (evL v)) := by
        have := HUL.out
        rw [List.take_of_length_le (by rw [HL.out]; omega)] at this
        exact this
      go_wp2_with fail
      go_ret
      exact ⟨V, rfl, HFN.out, HBL.out⟩

end Go.Proofs.Ytfhlokjpdkmdjaa.book
