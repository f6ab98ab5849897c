import Derived.Test.YtomibnggmhjdfaaGreatVVRrs29
set_option linter.unusedVariables false
set_option linter.unusedSimpArgs false
namespace Go.Proofs.YtomibnggmhjdfaaGreat
namespace book
open Go.RowKit cell
set_option maxRecDepth 100000
theorem take_next (l : List Int) (k : Nat) (h : k < l.length) : l.take k ++ [l.getD k 0] = l.take (k + 1) := by
 rw [List.take_add_one]; simp [List.getD, List.getElem?_eq_getElem h]
theorem index13_0 (a0 a1 a2 a3 a4 a5 a6 a7 a8 a9 a10 a11 a12 : Int) (W : World) : (Instr.index 146 (.agg #[.int .i64 a0, .int .i64 a1, .int .i64 a2, .int .i64 a3, .int .i64 a4, .int .i64 a5, .int .i64 a6, .int .i64 a7, .int .i64 a8, .int .i64 a9, .int .i64 a10, .int .i64 a11, .int .i64 a12]) (.int .i64 0)).run Tryz.prog W = .ok (.int .i64 a0) W := by kernel_rfl
theorem index13_1 (a0 a1 a2 a3 a4 a5 a6 a7 a8 a9 a10 a11 a12 : Int) (W : World) : (Instr.index 146 (.agg #[.int .i64 a0, .int .i64 a1, .int .i64 a2, .int .i64 a3, .int .i64 a4, .int .i64 a5, .int .i64 a6, .int .i64 a7, .int .i64 a8, .int .i64 a9, .int .i64 a10, .int .i64 a11, .int .i64 a12]) (.int .i64 1)).run Tryz.prog W = .ok (.int .i64 a1) W := by kernel_rfl
theorem index13_2 (a0 a1 a2 a3 a4 a5 a6 a7 a8 a9 a10 a11 a12 : Int) (W : World) : (Instr.index 146 (.agg #[.int .i64 a0, .int .i64 a1, .int .i64 a2, .int .i64 a3, .int .i64 a4, .int .i64 a5, .int .i64 a6, .int .i64 a7, .int .i64 a8, .int .i64 a9, .int .i64 a10, .int .i64 a11, .int .i64 a12]) (.int .i64 2)).run Tryz.prog W = .ok (.int .i64 a2) W := by kernel_rfl
theorem index13_3 (a0 a1 a2 a3 a4 a5 a6 a7 a8 a9 a10 a11 a12 : Int) (W : World) : (Instr.index 146 (.agg #[.int .i64 a0, .int .i64 a1, .int .i64 a2, .int .i64 a3, .int .i64 a4, .int .i64 a5, .int .i64 a6, .int .i64 a7, .int .i64 a8, .int .i64 a9, .int .i64 a10, .int .i64 a11, .int .i64 a12]) (.int .i64 3)).run Tryz.prog W = .ok (.int .i64 a3) W := by kernel_rfl
theorem index13_4 (a0 a1 a2 a3 a4 a5 a6 a7 a8 a9 a10 a11 a12 : Int) (W : World) : (Instr.index 146 (.agg #[.int .i64 a0, .int .i64 a1, .int .i64 a2, .int .i64 a3, .int .i64 a4, .int .i64 a5, .int .i64 a6, .int .i64 a7, .int .i64 a8, .int .i64 a9, .int .i64 a10, .int .i64 a11, .int .i64 a12]) (.int .i64 4)).run Tryz.prog W = .ok (.int .i64 a4) W := by kernel_rfl
theorem index13_5 (a0 a1 a2 a3 a4 a5 a6 a7 a8 a9 a10 a11 a12 : Int) (W : World) : (Instr.index 146 (.agg #[.int .i64 a0, .int .i64 a1, .int .i64 a2, .int .i64 a3, .int .i64 a4, .int .i64 a5, .int .i64 a6, .int .i64 a7, .int .i64 a8, .int .i64 a9, .int .i64 a10, .int .i64 a11, .int .i64 a12]) (.int .i64 5)).run Tryz.prog W = .ok (.int .i64 a5) W := by kernel_rfl
theorem index13_6 (a0 a1 a2 a3 a4 a5 a6 a7 a8 a9 a10 a11 a12 : Int) (W : World) : (Instr.index 146 (.agg #[.int .i64 a0, .int .i64 a1, .int .i64 a2, .int .i64 a3, .int .i64 a4, .int .i64 a5, .int .i64 a6, .int .i64 a7, .int .i64 a8, .int .i64 a9, .int .i64 a10, .int .i64 a11, .int .i64 a12]) (.int .i64 6)).run Tryz.prog W = .ok (.int .i64 a6) W := by kernel_rfl
theorem index13_7 (a0 a1 a2 a3 a4 a5 a6 a7 a8 a9 a10 a11 a12 : Int) (W : World) : (Instr.index 146 (.agg #[.int .i64 a0, .int .i64 a1, .int .i64 a2, .int .i64 a3, .int .i64 a4, .int .i64 a5, .int .i64 a6, .int .i64 a7, .int .i64 a8, .int .i64 a9, .int .i64 a10, .int .i64 a11, .int .i64 a12]) (.int .i64 7)).run Tryz.prog W = .ok (.int .i64 a7) W := by kernel_rfl
theorem index13_8 (a0 a1 a2 a3 a4 a5 a6 a7 a8 a9 a10 a11 a12 : Int) (W : World) : (Instr.index 146 (.agg #[.int .i64 a0, .int .i64 a1, .int .i64 a2, .int .i64 a3, .int .i64 a4, .int .i64 a5, .int .i64 a6, .int .i64 a7, .int .i64 a8, .int .i64 a9, .int .i64 a10, .int .i64 a11, .int .i64 a12]) (.int .i64 8)).run Tryz.prog W = .ok (.int .i64 a8) W := by kernel_rfl
theorem index13_9 (a0 a1 a2 a3 a4 a5 a6 a7 a8 a9 a10 a11 a12 : Int) (W : World) : (Instr.index 146 (.agg #[.int .i64 a0, .int .i64 a1, .int .i64 a2, .int .i64 a3, .int .i64 a4, .int .i64 a5, .int .i64 a6, .int .i64 a7, .int .i64 a8, .int .i64 a9, .int .i64 a10, .int .i64 a11, .int .i64 a12]) (.int .i64 9)).run Tryz.prog W = .ok (.int .i64 a9) W := by kernel_rfl
theorem index13_10 (a0 a1 a2 a3 a4 a5 a6 a7 a8 a9 a10 a11 a12 : Int) (W : World) : (Instr.index 146 (.agg #[.int .i64 a0, .int .i64 a1, .int .i64 a2, .int .i64 a3, .int .i64 a4, .int .i64 a5, .int .i64 a6, .int .i64 a7, .int .i64 a8, .int .i64 a9, .int .i64 a10, .int .i64 a11, .int .i64 a12]) (.int .i64 10)).run Tryz.prog W = .ok (.int .i64 a10) W := by kernel_rfl
theorem index13_11 (a0 a1 a2 a3 a4 a5 a6 a7 a8 a9 a10 a11 a12 : Int) (W : World) : (Instr.index 146 (.agg #[.int .i64 a0, .int .i64 a1, .int .i64 a2, .int .i64 a3, .int .i64 a4, .int .i64 a5, .int .i64 a6, .int .i64 a7, .int .i64 a8, .int .i64 a9, .int .i64 a10, .int .i64 a11, .int .i64 a12]) (.int .i64 11)).run Tryz.prog W = .ok (.int .i64 a11) W := by kernel_rfl
theorem index13_12 (a0 a1 a2 a3 a4 a5 a6 a7 a8 a9 a10 a11 a12 : Int) (W : World) : (Instr.index 146 (.agg #[.int .i64 a0, .int .i64 a1, .int .i64 a2, .int .i64 a3, .int .i64 a4, .int .i64 a5, .int .i64 a6, .int .i64 a7, .int .i64 a8, .int .i64 a9, .int .i64 a10, .int .i64 a11, .int .i64 a12]) (.int .i64 12)).run Tryz.prog W = .ok (.int .i64 a12) W := by kernel_rfl
theorem index13 (a0 a1 a2 a3 a4 a5 a6 a7 a8 a9 a10 a11 a12 : Int) (k : Nat) (hk : k < 13) (W : World) : (Instr.index 146 (.agg #[.int .i64 a0, .int .i64 a1, .int .i64 a2, .int .i64 a3, .int .i64 a4, .int .i64 a5, .int .i64 a6, .int .i64 a7, .int .i64 a8, .int .i64 a9, .int .i64 a10, .int .i64 a11, .int .i64 a12]) (.int .i64 (k : Int))).run Tryz.prog W = .ok (.int .i64 ([a0, a1, a2, a3, a4, a5, a6, a7, a8, a9, a10, a11, a12].getD k 0)) W := by
 match k, hk with
 | 0, _ => exact index13_0 a0 a1 a2 a3 a4 a5 a6 a7 a8 a9 a10 a11 a12 W
 | 1, _ => exact index13_1 a0 a1 a2 a3 a4 a5 a6 a7 a8 a9 a10 a11 a12 W
 | 2, _ => exact index13_2 a0 a1 a2 a3 a4 a5 a6 a7 a8 a9 a10 a11 a12 W
 | 3, _ => exact index13_3 a0 a1 a2 a3 a4 a5 a6 a7 a8 a9 a10 a11 a12 W
 | 4, _ => exact index13_4 a0 a1 a2 a3 a4 a5 a6 a7 a8 a9 a10 a11 a12 W
 | 5, _ => exact index13_5 a0 a1 a2 a3 a4 a5 a6 a7 a8 a9 a10 a11 a12 W
 | 6, _ => exact index13_6 a0 a1 a2 a3 a4 a5 a6 a7 a8 a9 a10 a11 a12 W
 | 7, _ => exact index13_7 a0 a1 a2 a3 a4 a5 a6 a7 a8 a9 a10 a11 a12 W
 | 8, _ => exact index13_8 a0 a1 a2 a3 a4 a5 a6 a7 a8 a9 a10 a11 a12 W
 | 9, _ => exact index13_9 a0 a1 a2 a3 a4 a5 a6 a7 a8 a9 a10 a11 a12 W
 | 10, _ => exact index13_10 a0 a1 a2 a3 a4 a5 a6 a7 a8 a9 a10 a11 a12 W
 | 11, _ => exact index13_11 a0 a1 a2 a3 a4 a5 a6 a7 a8 a9 a10 a11 a12 W
 | 12, _ => exact index13_12 a0 a1 a2 a3 a4 a5 a6 a7 a8 a9 a10 a11 a12 W
theorem make13 (w : World) : (Instr.makeSlice 25 (.int .i64 0) (.int .i64 13)).run Tryz.prog w = .ok (.slice (some ⟨w.heap.size, 0, none⟩) 0 13) (w.alloc (.cells (madeCells (Value.int .u32 0).cells 13) 64)) := by
 obtain ⟨i0, hi, hz0, hz1, hz2⟩ := info_parts info_u32
 have := run_make (P := Tryz.prog) w 25 64 i0 (.int .u32 0) Tryz.underlying25 hi hz0 .i64 .i64 0 13 (by omega) (by omega) (by rw [hz2]; decide) (by omega)
 rw [hz1] at this
 exact this
set_option maxHeartbeats 4000000 in
theorem bwords (v : Ev) (hm : ∀ x ∈ evL v, 0 ≤ x ∧ x < 4294967296) (w : World) : Calls Tryz.prog 64 #[.agg #[.int .i64 v.kd, .int .i64 v.me, .int .i64 v.mo, .int .i64 v.id, .int .i64 v.te, .int .i64 v.de, .int .i64 v.fe, .int .i64 v.pr, .int .i64 v.ch, .int .i64 v.un, .int .i64 v.tg, .int .i64 v.ow, .int .i64 v.bp]] w fun e w' => ∃ V, e = .returned V ∧ Ws w' w.heap.size V (evL v) ∧ Below w.heap.size w w' := by
 have HM : Hid (∀ k, k < 13 → 0 ≤ (evL v).getD k 0 ∧ (evL v).getD k 0 < 4294967296) := fun k hk => hm _ (by
  have hl : k < (evL v).length := hk
  rw [show (evL v).getD k 0 = (evL v)[k] by simp [List.getD, List.getElem?_eq_getElem hl]]
  exact List.getElem_mem _)
 have HIX : Hid (∀ k : Nat, k < 13 → ∀ W, (Instr.index 146 (.agg #[.int .i64 v.kd, .int .i64 v.me, .int .i64 v.mo, .int .i64 v.id, .int .i64 v.te, .int .i64 v.de, .int .i64 v.fe, .int .i64 v.pr, .int .i64 v.ch, .int .i64 v.un, .int .i64 v.tg, .int .i64 v.ow, .int .i64 v.bp]) (.int .i64 (k : Int))).run Tryz.prog W = .ok (.int .i64 ((evL v).getD k 0)) W) := fun k hk W => index13 v.kd v.me v.mo v.id v.te v.de v.fe v.pr v.ch v.un v.tg v.ow v.bp k hk W
 have HL : Hid ((evL v).length = 13) := rfl
 clear hm
 have HB1 : Hid (Below w.heap.size w ((w.alloc (.cells #[.int .i64 v.kd, .int .i64 v.me, .int .i64 v.mo, .int .i64 v.id, .int .i64 v.te, .int .i64 v.de, .int .i64 v.fe, .int .i64 v.pr, .int .i64 v.ch, .int .i64 v.un, .int .i64 v.tg, .int .i64 v.ow, .int .i64 v.bp] 71)).alloc (.cells #[.int .i64 v.kd, .int .i64 v.me, .int .i64 v.mo, .int .i64 v.id, .int .i64 v.te, .int .i64 v.de, .int .i64 v.fe, .int .i64 v.pr, .int .i64 v.ch, .int .i64 v.un, .int .i64 v.tg, .int .i64 v.ow, .int .i64 v.bp] 146))) := ((Below.refl _ _).alloc (Nat.le_refl _) _).alloc (by simp) _
 go_enter Tryz.func64, Tryz.ntmps64
 go_upto_region 2 with fail
 generalize hW1 : ((w.alloc (.cells #[.int .i64 v.kd, .int .i64 v.me, .int .i64 v.mo, .int .i64 v.id, .int .i64 v.te, .int .i64 v.de, .int .i64 v.fe, .int .i64 v.pr, .int .i64 v.ch, .int .i64 v.un, .int .i64 v.tg, .int .i64 v.ow, .int .i64 v.bp] 71)).alloc (.cells #[.int .i64 v.kd, .int .i64 v.me, .int .i64 v.mo, .int .i64 v.id, .int .i64 v.te, .int .i64 v.de, .int .i64 v.fe, .int .i64 v.pr, .int .i64 v.ch, .int .i64 v.un, .int .i64 v.tg, .int .i64 v.ow, .int .i64 v.bp] 146)) = W1 at *
 have HA : Hid (Blk W1 (w.heap.size + 1) #[.int .i64 v.kd, .int .i64 v.me, .int .i64 v.mo, .int .i64 v.id, .int .i64 v.te, .int .i64 v.de, .int .i64 v.fe, .int .i64 v.pr, .int .i64 v.ch, .int .i64 v.un, .int .i64 v.tg, .int .i64 v.ow, .int .i64 v.bp] 146) := by show Blk _ _ _ _; rw [← hW1]; exact Blk.new1 _ _ _ _
 clear hW1
 have hmk := make13 W1
 have hsz : w.heap.size ≤ W1.heap.size := HB1.out.size
 have HL0 : Hid (Ws (W1.alloc (.cells (madeCells (Value.int .u32 0).cells 13) 64)) w.heap.size (.slice (some ⟨W1.heap.size, 0, none⟩) 0 13) []) := World.ownsRow_made W1 _ 13 hsz (by unfold maxLen; omega) (size_madeCells _ _)
 have HB0 : Hid (Below w.heap.size w (W1.alloc (.cells (madeCells (Value.int .u32 0).cells 13) 64))) := HB1.out.alloc HB1.out.size _
 have HA0 : Hid (Blk (W1.alloc (.cells (madeCells (Value.int .u32 0).cells 13) 64)) (w.heap.size + 1) #[.int .i64 v.kd, .int .i64 v.me, .int .i64 v.mo, .int .i64 v.id, .int .i64 v.te, .int .i64 v.de, .int .i64 v.fe, .int .i64 v.pr, .int .i64 v.ch, .int .i64 v.un, .int .i64 v.tg, .int .i64 v.ow, .int .i64 v.bp] 146) := HA.out.alloc _
 generalize (W1.alloc (.cells (madeCells (Value.int .u32 0).cells 13) 64)) = W0 at *
 clear HA HB1
 obtain ⟨b0, b1, b2, b3, b4, b5, b6, b7, b8, b9, b10, b11, b12⟩ := scl13 HA0
 go_wp2_with fail
 clear hmk hsz b0 b1 b2 b3 b4 b5 b6 b7 b8 b9 b10 b11 b12
 go_loopw [4, 45] (fun v4 v45 wr => ∃ (k : Nat) (V : Value), k ≤ 13 ∧ V = v4 ∧ v45 = .int .i64 (k : Int) ∧ Ws wr w.heap.size V ((evL v).take k) ∧ Below w.heap.size w wr) (fun _ v45 _ => 13 - (intOf v45).toNat)
 case atStart => exact ⟨0, _, Nat.zero_le _, rfl, rfl, HL0.out, HB0.out⟩
 case round =>
  obtain ⟨k, V, hk, hV, rfl, hlw, hbl⟩ := hrel
  subst hV
  have hs6 : ((evL v).take k).length ≤ 1000000 := by rw [List.length_take]; omega
  have HUA : Hid (∀ o, Ws (wr.alloc o) w.heap.size V ((evL v).take k)) := fun o => hlw.alloc o
  have HBA : Hid (∀ o, Below w.heap.size w (wr.alloc o)) := fun o => hbl.alloc hbl.size o
  have HSA : Hid (∀ o, w.heap.size ≤ (wr.alloc o).heap.size) := fun o => (hbl.alloc hbl.size o).size
  have HBL : Hid (Below w.heap.size w wr) := hbl
  have HUL : Hid (Ws wr w.heap.size V ((evL v).take k)) := hlw
  clear hlw hbl HL0 HB0 HA0
  by_cases hkm : k < 13
  ·have hix := HIX.out k hkm
   have HPN : Hid ((evL v).take k ++ [(evL v).getD k 0] = (evL v).take (k + 1)) := take_next _ k hkm
   have hz := HM.out k hkm
   clear HIX HM
   generalize (evL v).getD k 0 = z at *
   have hwz : IntKind.u32.wrap z = z := by rw [IntKind.wrap_u32]; omega
   have hwz2 : z % 4294967296 = z := by omega
   have hdl : decide ((k : Int) < 13) = true := decide_eq_true (by omega)
   clear hz
   go_wp2_with (first | (refine wp_word rfl _ _ rfl w.heap.size wr.heap.size V ((evL v).take k) z rfl rfl (HUA.out _) ((Blk.new wr _ _).cell 0) hs6 (HSA.out _) ?_; intro v3 w3 h3 hg3; have hb3 := own_bel (HUA.out _) hg3 (HBA.out _) (Nat.le_refl _) (HSA.out _); have H3 : Hid (Ws w3 w.heap.size v3 ((evL v).take k ++ [z])) := h3; have HB3 : Hid (Below w.heap.size w w3) := hb3; clear h3 hg3 hb3) | fail)
   go_roundw
   case rel => exact ⟨k + 1, v3, by omega, rfl, by go_num, by rw [← HPN.out]; exact H3.out, HB3.out⟩
   case measure => simp [intOf]; omega
  ·have hdl : decide ((k : Int) < 13) = false := decide_eq_false (by omega)
   have HFN : Hid (Ws wr w.heap.size V (evL v)) := by
    have := HUL.out
    rw [List.take_of_length_le (by rw [HL.out]; omega)] at this
    exact this
   go_wp2_with fail
   go_ret
   exact ⟨V, rfl, HFN.out, HBL.out⟩
def EncGot (w : World) (v : Ev) (e : Ending) (w' : World) : Prop := ∃ a n cap ws f, e = .returned (.tuple #[.slice a n cap, .int .i64 f]) ∧ EncIs v ws f ∧ RowU w' a n ws ∧ (a = none → cap = 0) ∧ n ≤ cap ∧ n ≤ 13 ∧ Below w.heap.size w w'
def KEnc : Prop := ∀ (W : World) (v : Ev), wf13 v → Calls Tryz.prog 40 #[v.v] W fun e w' => EncGot W v e w'
theorem ws_upd {w W : World} {base g : Nat} {cs : Array Value} {t : TypeId} {v : Value} {l : List Int} (h : Ws w base v l) (hU : Upd w W g cs t) (hg : g < base) : Ws W base v l := by
 refine ⟨h.1, ?_⟩
 rcases h.2 with hn | ⟨g', cap, cur, hv, hb, hc, rest⟩
 ·exact .inl hn
 ·exact .inr ⟨g', cap, cur, hv, hb, by rw [hU.oth g' (by omega)]; exact hc, rest⟩
set_option maxHeartbeats 4000000 in
theorem kenc : KEnc := by
 intro w v hwf
 clear hwf
 unfold Ev.v
 have hmf : ∀ (fn : Fn) (first cap : Array Value) (w : World), (Instr.makeFunc fn first cap).run Tryz.prog w = .ok (.func fn first cap) w := fun _ _ _ _ => rfl
 have HMU : Hid (∀ W, Calls Tryz.prog 63 #[.agg #[.int .i64 v.kd, .int .i64 v.me, .int .i64 v.mo, .int .i64 v.id, .int .i64 v.te, .int .i64 v.de, .int .i64 v.fe, .int .i64 v.pr, .int .i64 v.ch, .int .i64 v.un, .int .i64 v.tg, .int .i64 v.ow, .int .i64 v.bp]] W fun e w' => MustPost W v e w') := fun W => bmust v W
 have HWO : Hid (EMay v → ∀ W, Calls Tryz.prog 64 #[.agg #[.int .i64 v.kd, .int .i64 v.me, .int .i64 v.mo, .int .i64 v.id, .int .i64 v.te, .int .i64 v.de, .int .i64 v.fe, .int .i64 v.pr, .int .i64 v.ch, .int .i64 v.un, .int .i64 v.tg, .int .i64 v.ow, .int .i64 v.bp]] W fun e w' => ∃ V, e = .returned V ∧ Ws w' W.heap.size V (evL v) ∧ Below W.heap.size W w') := fun hm W => bwords v (may_word hm) W
 obtain ⟨W1, HWW, HX1, HE1, HB1, -⟩ := sh2 w #[.int .i64 v.kd, .int .i64 v.me, .int .i64 v.mo, .int .i64 v.id, .int .i64 v.te, .int .i64 v.de, .int .i64 v.fe, .int .i64 v.pr, .int .i64 v.ch, .int .i64 v.un, .int .i64 v.tg, .int .i64 v.ow, .int .i64 v.bp] 71 #[.int .i64 0] 30
 go_enter_defers Tryz.func40, Tryz.ntmps40
 go_upto_region 2 with fail
 rw [HWW.out]
 clear HWW
 obtain ⟨c0, c1, c2, c3, c4, c5, c6, c7, c8, c9, c10, c11, c12⟩ := scl13 HX1
 go_wp2_with fail
 refine (HMU.out _).mono ?_
 rintro e W2 ⟨hm, hb⟩
 have HX2 := shN HX1 hb
 have HE2 := shN HE1 hb
 have HB2 := shB HB1 hb
 clear hb HX1 HE1 HB1 HMU c0 c1 c2 c3 c4 c5 c6 c7 c8 c9 c10 c11 c12
 rcases hm with ⟨hm, rfl⟩ | ⟨hm, rfl⟩
 ·have HY : Hid (EMay v) := hm
  have HWV := HWO.out hm
  have HWV' : Hid (∀ W, Calls Tryz.prog 64 #[.agg #[.int .i64 v.kd, .int .i64 v.me, .int .i64 v.mo, .int .i64 v.id, .int .i64 v.te, .int .i64 v.de, .int .i64 v.fe, .int .i64 v.pr, .int .i64 v.ch, .int .i64 v.un, .int .i64 v.tg, .int .i64 v.ow, .int .i64 v.bp]] W fun e w' => ∃ V, e = .returned V ∧ Ws w' W.heap.size V (evL v) ∧ Below W.heap.size W w') := HWV
  clear hm HWO HWV
  obtain ⟨c0, c1, c2, c3, c4, c5, c6, c7, c8, c9, c10, c11, c12⟩ := scl13 HX2
  go_wp2_with fail
  refine (HWV'.out _).mono ?_
  rintro e W3 ⟨V, rfl, hV, hb⟩
  have HE3 := shN HE2 hb
  have HB3 := shB HB2 hb
  have HV3 : Hid (Ws W3 W2.heap.size V (evL v)) := hV
  have hgs : Hid (w.heap.size + 1 < W2.heap.size) := HE2.out.lt
  clear hb hV HX2 HE2 HB2 HWV' c0 c1 c2 c3 c4 c5 c6 c7 c8 c9 c10 c11 c12
  go_wp2_with (first | (refine wp_let1 rfl 30 _ _ rfl (w.heap.size + 1) 0 rfl .i64 0 rfl (by kernel_rfl) #[.int .i64 0] 30 HE3.out (by decide) ?_) | fail)
  intro W4 hU
  have HE4 : Hid (Blk W4 (w.heap.size + 1) #[.int .i64 0] 30) := hU.blk
  have HB4 := shV hU HB3 (by omega)
  have HV4 : Hid (Ws W4 W2.heap.size V (evL v)) := ws_upd HV3.out hU hgs.out
  clear hU
  go_wp2_with fail
  refine leaves_cons (f := 62) (args := #[.pointer (some ⟨w.heap.size + 1, 0, none⟩)]) (by simp) (by simp [go_sem]) ?_
  refine (encode_idle (w.heap.size + 1) 0 _ HE4.out).mono ?_
  rintro e u' w5 ⟨rfl, hs, W, hb, hU⟩
  have r0 : w5.cell? ⟨w.heap.size + 1, 0, none⟩ = some (.int .i64 0) := hU.blk.cell 0
  have HB5 : Below w.heap.size w w5 := hU.bel _ _ (by omega) (bel_step HB4.out hb)
  have HV5 : Ws w5 W2.heap.size V (evL v) := ws_upd (HV4.out.next hb) hU hgs.out
  obtain ⟨a, cap, hva, hrow, h1, h2⟩ := HV5.row
  show Leaves _ _ _ _ [] (settle u') w5
  rw [hs]
  refine ⟨.tuple #[V, .int .i64 0], by simp [results, Tryz.results40, r0, go_sem], ?_⟩
  subst hva
  exact ⟨a, _, cap, evL v, 0, rfl, .inl ⟨HY.out, rfl, rfl⟩, hrow, h1, h2, by rw [evL_len]; exact Nat.le_refl _, HB5⟩
 ·have HN : Hid (¬ EMay v) := hm
  clear hm HWO
  refine leaves_cons (f := 62) (args := #[.pointer (some ⟨w.heap.size + 1, 0, none⟩)]) (by simp) (by simp [go_sem]) ?_
  refine (encode_caught (w.heap.size + 1) 0 5 _ HE2.out).mono ?_
  rintro e u' w5 ⟨rfl, hs, W, hb, hU⟩
  have r0 : w5.cell? ⟨w.heap.size + 1, 0, none⟩ = some (.int .i64 5) := hU.blk.cell 0
  have HB5 : Below w.heap.size w w5 := hU.bel _ _ (by omega) (bel_step HB2.out hb)
  show Leaves _ _ _ _ [] (settle u') w5
  rw [hs]
  refine ⟨.tuple #[.slice none 0 0, .int .i64 5], by simp [results, Tryz.results40, r0, go_sem], ?_⟩
  exact ⟨none, 0, 0, [], 5, rfl, .inr ⟨HN.out, rfl, rfl⟩, RowU.nil _ _, fun _ => rfl, Nat.le_refl _, Nat.zero_le _, HB5⟩
end book
namespace disk
open Go.RowKit cell
set_option maxRecDepth 100000
theorem make_wr (m : Nat) (h : m ≤ 100000) (w : World) : (Instr.makeSlice 37 (.int .i64 0) (.int .i64 ((m : Int) + 2))).run Tryz.prog w = .ok (.slice (some ⟨w.heap.size, 0, none⟩) 0 (m + 2)) (w.alloc (.cells (madeCells (Value.agg #[.int .i64 0, .int .u32 0]).cells ((m + 2) * 2)) 76)) := by
 obtain ⟨i0, hi, hz0, hz1, hz2⟩ := info_parts info_wr
 have := run_make (P := Tryz.prog) w 37 76 i0 (.agg #[.int .i64 0, .int .u32 0]) Tryz.underlying37 hi hz0 .i64 .i64 0 ((m : Int) + 2) (by omega) (by omega) (by rw [hz2]; omega) (by omega)
 rw [hz1, show ((m : Int) + 2).toNat = m + 2 by omega] at this
 exact this
theorem put_next2 (p k : Nat) (r : List Int) : putW p r k ++ [⟨(p : Int) + 1 + (k : Int), r.getD k 0⟩] = putW p r (k + 1) := by
 rw [putW, show ((p + k + 1 : Nat) : Int) = (p : Int) + 1 + (k : Int) by omega]
theorem app_yes2 {c : List Int} {p k : Nat} {r : List Int} (hk : r.length = k) (h : p + k + 1 < c.length) : putW p r k ++ [⟨(p : Int) + 1 + (k : Int), 0⟩] ++ [⟨(p : Int), (k : Int)⟩] = appW c p r := by
 subst hk
 rw [← app_yes h, show (p : Int) + 1 + (r.length : Int) = (p : Int) + (r.length : Int) + 1 by omega]
theorem app_no2 {c : List Int} {p k : Nat} {r : List Int} (hk : r.length = k) (h : ¬ p + k + 1 < c.length) : putW p r k ++ [⟨(p : Int), (k : Int)⟩] = appW c p r := by
 subst hk
 exact app_no h
set_option maxHeartbeats 4000000 in
theorem laying_any (a : Option Addr) (m cap2 : Nat) (r c : List Int) (p n : Nat) (w : World) (h : RowU w a m r) (h1 : 1 ≤ m) (h2 : m ≤ 64) (hp : p ≤ 2048) (hn : n ≤ 2048) (hc : c.length = n) :
  Calls Tryz.prog 67 #[.slice a m cap2, .int .i64 (p : Int), .int .i64 (n : Int)] w fun e w' => ∃ V, e = .returned V ∧ Lw w' w.heap.size V (appW c p r) ∧ Below w.heap.size w w' := by
 obtain ⟨b, o, rfl, lb, hcl⟩ := h.at (by omega)
 have HCL : Hid (∀ W, Below w.heap.size w W → ∀ j, j < m → W.cell? ⟨b, o + j, none⟩ = some (.int .u32 (r.getD j 0))) := fun W hB j hj => (hB.cell (p := ⟨b, o + j, none⟩) lb).trans (hcl j hj)
 have HN : Hid (c.length = n ∧ r.length = m) := ⟨hc, h.1⟩
 have hmk := make_wr m (by omega) w
 have HL0 : Hid (Lw (w.alloc (.cells (madeCells (Value.agg #[.int .i64 0, .int .u32 0]).cells ((m + 2) * 2)) 76)) w.heap.size (.slice (some ⟨w.heap.size, 0, none⟩) 0 (m + 2)) []) := World.ownsRow_made w _ (m + 2) (Nat.le_refl _) (by unfold maxLen; omega) (size_madeCells _ _)
 have HB0 : Hid (Below w.heap.size w (w.alloc (.cells (madeCells (Value.agg #[.int .i64 0, .int .u32 0]).cells ((m + 2) * 2)) 76))) := (Below.refl _ _).alloc (Nat.le_refl _) _
 clear h hc hcl lb
 generalize (w.alloc (.cells (madeCells (Value.agg #[.int .i64 0, .int .u32 0]).cells ((m + 2) * 2)) 76)) = W0 at *
 go_enter Tryz.func67, Tryz.ntmps67
 go_wp2_with fail
 clear hmk
 go_loopw [7, 8, 19] (fun v7 v8 v19 wr => ∃ (k : Nat) (V : Value), k ≤ m ∧ V = v7 ∧ v8 = .int .i64 ((p : Int) + 1 + (k : Int)) ∧ v19 = .int .i64 (k : Int) ∧ Lw wr w.heap.size V (putW p r k) ∧ Below w.heap.size w wr) (fun _ _ v19 _ => m - (intOf v19).toNat)
 case atStart => exact ⟨0, _, Nat.zero_le _, rfl, by go_num, rfl, HL0.out, HB0.out⟩
 case round =>
  obtain ⟨k, V, hk, hV, rfl, rfl, hlw, hbl⟩ := hrel
  subst hV
  have HBL : Hid (Below w.heap.size w wr) := hbl
  have hs6 : (putW p r k).length ≤ 1000000 := by rw [put_len]; omega
  have HUA : Hid (∀ o, Lw (wr.alloc o) w.heap.size V (putW p r k)) := fun o => hlw.alloc o
  have HBA : Hid (∀ o, Below w.heap.size w (wr.alloc o)) := fun o => hbl.alloc hbl.size o
  have HSA : Hid (∀ o, w.heap.size ≤ (wr.alloc o).heap.size) := fun o => (hbl.alloc hbl.size o).size
  clear hlw hbl HL0 HB0
  by_cases hkm : k < m
  ·have k2 := HCL.out wr HBL.out k hkm
   have HPN : Hid (putW p r k ++ [⟨(p : Int) + 1 + (k : Int), r.getD k 0⟩] = putW p r (k + 1)) := put_next2 p k r
   generalize r.getD k 0 = u at *
   go_wp2_with (first | (refine wp_write rfl _ _ rfl w.heap.size wr.heap.size V (putW p r k) ⟨(p : Int) + 1 + (k : Int), u⟩ rfl rfl (HUA.out _) ⟨(Blk.new wr _ _).cell 0, (Blk.new wr _ _).cell 1⟩ hs6 (HSA.out _) ?_; intro v3 w3 h3 hg3; have hb3 := own_bel (HUA.out _) hg3 (HBA.out _) (Nat.le_refl _) (HSA.out _); have H3 : Hid (Lw w3 w.heap.size v3 (putW p r k ++ [(⟨(p : Int) + 1 + (k : Int), u⟩ : Wr)])) := h3; have HB3 : Hid (Below w.heap.size w w3) := hb3; clear h3 hg3 hb3) | fail)
   go_roundw
   case rel => exact ⟨k + 1, v3, by omega, rfl, by go_num, by go_num, by rw [← HPN.out]; exact H3.out, HB3.out⟩
   case measure => simp [intOf]; omega
  ·obtain rfl : k = m := by omega
   by_cases hz : (p : Int) + 1 + (k : Int) < (n : Int)
   ·have HQ : Hid (putW p r k ++ [⟨(p : Int) + 1 + (k : Int), 0⟩] ++ [⟨(p : Int), (k : Int)⟩] = appW c p r) := app_yes2 HN.out.2 (by rw [HN.out.1]; omega)
    have hs7 : (putW p r k ++ [(⟨(p : Int) + 1 + (k : Int), 0⟩ : Wr)]).length ≤ 1000000 := by rw [List.length_append, put_len]; simp; omega
    go_upto_region 11 with (first | (refine wp_write rfl _ _ rfl w.heap.size wr.heap.size V (putW p r k) ⟨(p : Int) + 1 + (k : Int), 0⟩ rfl rfl (HUA.out _) ⟨(Blk.new wr _ _).cell 0, (Blk.new wr _ _).cell 1⟩ hs6 (HSA.out _) ?_; intro v3 w3 h3 hg3; have hb3 := own_bel (HUA.out _) hg3 (HBA.out _) (Nat.le_refl _) (HSA.out _); have H3 : Hid (Lw w3 w.heap.size v3 (putW p r k ++ [(⟨(p : Int) + 1 + (k : Int), 0⟩ : Wr)])) := h3; have HB3 : Hid (Below w.heap.size w w3) := hb3; clear h3 hg3 hb3) | fail)
    have HU3 : Hid (∀ o, Lw (w3.alloc o) w.heap.size v3 (putW p r k ++ [(⟨(p : Int) + 1 + (k : Int), 0⟩ : Wr)])) := fun o => H3.out.alloc o
    have HBB : Hid (∀ o, Below w.heap.size w (w3.alloc o)) := fun o => HB3.out.alloc HB3.out.size o
    have HS3 : Hid (∀ o, w.heap.size ≤ (w3.alloc o).heap.size) := fun o => (HB3.out.alloc HB3.out.size o).size
    clear HUA HBA HSA HBL H3 HB3
    go_wp2_with (first | (refine wp_write rfl _ _ rfl w.heap.size w3.heap.size v3 (putW p r k ++ [(⟨(p : Int) + 1 + (k : Int), 0⟩ : Wr)]) ⟨(p : Int), (k : Int)⟩ rfl rfl (HU3.out _) ⟨(Blk.new w3 _ _).cell 0, (Blk.new w3 _ _).cell 1⟩ hs7 (HS3.out _) ?_; intro v4 w4 h3 hg3; have hb3 := own_bel (HU3.out _) hg3 (HBB.out _) (Nat.le_refl _) (HS3.out _); have H4 : Hid (Lw w4 w.heap.size v4 (putW p r k ++ [(⟨(p : Int) + 1 + (k : Int), 0⟩ : Wr)] ++ [(⟨(p : Int), (k : Int)⟩ : Wr)])) := h3; have HB4 : Hid (Below w.heap.size w w4) := hb3; clear h3 hg3 hb3) | fail)
    go_ret
    exact ⟨v4, rfl, by rw [← HQ.out]; exact H4.out, HB4.out⟩
   ·have HQ : Hid (putW p r k ++ [⟨(p : Int), (k : Int)⟩] = appW c p r) := app_no2 HN.out.2 (by rw [HN.out.1]; omega)
    go_wp2_with (first | (refine wp_write rfl _ _ rfl w.heap.size wr.heap.size V (putW p r k) ⟨(p : Int), (k : Int)⟩ rfl rfl (HUA.out _) ⟨(Blk.new wr _ _).cell 0, (Blk.new wr _ _).cell 1⟩ hs6 (HSA.out _) ?_; intro v4 w4 h3 hg3; have hb3 := own_bel (HUA.out _) hg3 (HBA.out _) (Nat.le_refl _) (HSA.out _); have H4 : Hid (Lw w4 w.heap.size v4 (putW p r k ++ [(⟨(p : Int), (k : Int)⟩ : Wr)])) := h3; have HB4 : Hid (Below w.heap.size w w4) := hb3; clear h3 hg3 hb3) | fail)
    go_ret
    exact ⟨v4, rfl, by rw [← HQ.out]; exact H4.out, HB4.out⟩
def KAppend : Prop := ∀ (W : World) (a : Option Addr) (n cap : Nat) (c : List Int) (b : Option Addr) (m cap2 : Nat) (r : List Int), RowU W a n c → (a = none → cap = 0) → n ≤ cap → n * 4 ≤ 140737488351232 → (∀ x ∈ c, 0 ≤ x ∧ x < 4294967296) → RowU W b m r → (b = none → cap2 = 0) → m ≤ cap2 → m * 4 ≤ 140737488351232 → (∀ x ∈ r, 0 ≤ x ∧ x < 4294967296) → Calls Tryz.prog 41 #[.slice a n cap, .slice b m cap2] W fun e w' => AppGot W c r e w'
theorem nothing_done (v : Value) (w : World) : Calls Tryz.prog 66 #[v] w fun e w' => e = .returned (.tuple #[]) ∧ w' = w := by
 go_enter Tryz.func66, Tryz.ntmps66
 go_wp2_with fail
 go_end0
 exact ⟨rfl, rfl⟩
set_option maxHeartbeats 4000000 in
theorem kappend : KAppend := by
 intro w a n cap c b m cap2 r h hnil hcap hby hw h2 hnil2 hcap2 hby2 hw2
 have hrl := h2.1
 by_cases hmay : 1 ≤ m ∧ m ≤ 64
 ·have HE : Hid (Calls Tryz.prog 65 #[.slice a n cap, .func (.func 66) #[] #[]] w fun e w' => EPost (fun _ W => W = w) c e w') := by
   refine each_any 66 #[] (fun _ W => W = w) a n cap c w (fun k W hj => by rw [hj]; exact h) rfl hcap hw (fun _ _ => by kernel_rfl) ?_
   intro k p m b o W hj hp hit hr h1 h2 h3
   refine (nothing_done _ W).mono ?_
   rintro e w' ⟨rfl, rfl⟩
   exact ⟨rfl, hj⟩
  have HMY : Hid (RMay r) := ⟨by omega, by omega⟩
  have HN : Hid (c.length = n ∧ r.length = m) := ⟨h.1, hrl⟩
  have HL : Hid (∀ p : Nat, p ≤ 2048 → n ≤ 2048 → Calls Tryz.prog 67 #[.slice b m cap2, .int .i64 (p : Int), .int .i64 (n : Int)] w fun e w' => ∃ V, e = .returned V ∧ Lw w' w.heap.size V (appW c p r) ∧ Below w.heap.size w w') := fun p hp hn => laying_any b m cap2 r c p n w h2 hmay.1 hmay.2 hp hn h.1
  obtain ⟨hm1, hm2⟩ := hmay
  have d1 : decide ((m : Int) < 1) = false := by simp; omega
  have d2 : decide ((64 : Int) < (m : Int)) = false := by simp; omega
  clear h hnil hcap hby hw h2 hnil2 hcap2 hby2 hw2 hrl
  go_enter Tryz.func41, Tryz.ntmps41
  go_wp2_with fail
  refine HE.out.mono ?_
  rintro e w1 ⟨x, f, k, rfl, hj, hi⟩
  subst hj
  have HI : Hid ((¬ May c ∧ x = 0 ∧ f = 1) ∨ (May c ∧ lenAt c (repD c).2 < 0 ∧ x = 0 ∧ f = 3) ∨ (May c ∧ lenAt c (repD c).2 = 0 ∧ repD c = itD c k ∧ x = ((repD c).2 : Int) ∧ f = 0)) := hi
  clear hi HE d1 d2
  by_cases hf : f = 0
  ·obtain ⟨hmy, hl0, hx⟩ : May c ∧ lenAt c (repD c).2 = 0 ∧ x = ((repD c).2 : Int) := by
    rcases HI.out with ⟨_, _, e⟩ | ⟨_, _, _, e⟩ | ⟨q1, q2, _, q4, _⟩
    ·rw [hf] at e; exact absurd e (by decide)
    ·rw [hf] at e; exact absurd e (by decide)
    ·exact ⟨q1, q2, q4⟩
   have HPB : Hid ((repD c).2 ≤ n) := by show _ ≤ _; rw [← HN.out.1]; exact rep_bound c
   have HFU : Hid (n ≤ (repD c).2 + m → AppIs c r [] 16) := fun hh => .inr (.inr (.inr (.inl ⟨HMY.out, hmy, hl0, by rw [HN.out.1, HN.out.2]; exact hh, rfl, rfl⟩)))
   have HOK : Hid ((repD c).2 + m < n → AppIs c r (appW c (repD c).2 r) 0) := fun hh => .inr (.inr (.inr (.inr ⟨HMY.out, hmy, hl0, by rw [HN.out.1, HN.out.2]; exact hh, rfl, rfl⟩)))
   have hn2 : n ≤ 2048 := by have := hmy.2; rw [HN.out.1] at this; exact this
   subst hf
   subst hx
   clear HI hmy hl0 HMY
   generalize (repD c).2 = p at *
   have hpn := HPB.out
   clear HPB
   by_cases hfu : n ≤ p + m
   ·have HA : Hid (AppIs c r [] 16) := HFU.out hfu
    have e1 : decide ((n : Int) < (p : Int) + 1 + (m : Int)) = true := by simp; omega
    clear HFU HOK HL
    go_wp2_with fail
    go_ret2
    exact ⟨none, 0, 0, [], 16, rfl, RowW.nil _ _, (fun x hx => by cases hx), Nat.le_refl _, Nat.zero_le _, HA.out, Below.refl _ _⟩
   ·have HA : Hid (AppIs c r (appW c p r) 0) := HOK.out (by omega)
    have e1 : decide ((n : Int) < (p : Int) + 1 + (m : Int)) = false := by simp; omega
    have HL1 := HL.out p (by omega) hn2
    have HLY : Hid (Calls Tryz.prog 67 #[.slice b m cap2, .int .i64 (p : Int), .int .i64 (n : Int)] w1 fun e w' => ∃ V, e = .returned V ∧ Lw w' w1.heap.size V (appW c p r) ∧ Below w1.heap.size w1 w') := HL1
    clear HFU HOK HL HL1
    go_wp2_with fail
    refine HLY.out.mono ?_
    rintro e w2 ⟨V, rfl, hlw, hb⟩
    obtain ⟨va, vc, rfl, hrow, _, hle, _⟩ := hlw.row
    have HNW : Hid (∀ x, va = some x → w1.heap.size ≤ x.block) := fun x hx => by
     subst hx
     exact (World.ownsRow.lt hlw x.block rfl).1
    have HRW : Hid (RowW w2 va (appW c p r).length (appW c p r)) := hrow
    have HLE : Hid ((appW c p r).length ≤ vc) := hle
    have HFW : Hid ((appW c p r).length ≤ 100000) := Nat.le_trans (app_few HA.out) (by decide)
    have HB2 : Hid (Below w1.heap.size w1 w2) := hb
    clear hlw hb hrow hle HLY
    generalize appW c p r = ls at *
    generalize hzl : ls.length = zl at *
    clear hzl
    go_wp2_with fail
    go_ret2
    exact ⟨va, _, vc, ls, 0, rfl, HRW.out, HNW.out, HLE.out, HFW.out, HA.out, HB2.out⟩
  ·have HA : Hid (AppIs c r [] f) := by
    rcases HI.out with ⟨q1, _, rfl⟩ | ⟨q1, q2, _, rfl⟩ | ⟨_, _, _, _, e⟩
    ·exact .inr (.inl ⟨HMY.out, q1, rfl, rfl⟩)
    ·exact .inr (.inr (.inl ⟨HMY.out, q1, q2, rfl, rfl⟩))
    ·exact absurd e hf
   have hne : (f != 0) = true := by simpa using hf
   clear HI hf HL
   go_wp2_with fail
   go_ret2
   exact ⟨none, 0, 0, [], f, rfl, RowW.nil _ _, (fun x hx => by cases hx), Nat.le_refl _, Nat.zero_le _, HA.out, Below.refl _ _⟩
 ·have HA : Hid (AppIs c r [] 1) := .inl ⟨fun h => hmay ⟨by rw [← hrl]; exact h.1, by rw [← hrl]; exact h.2⟩, rfl, rfl⟩
  clear h hnil hcap hby hw h2 hnil2 hcap2 hby2 hw2 hrl
  go_enter Tryz.func41, Tryz.ntmps41
  by_cases h1 : 1 ≤ m
  ·have d1 : decide ((m : Int) < 1) = false := by simp; omega
   have d2 : decide ((64 : Int) < (m : Int)) = true := by simp; omega
   go_wp2_with fail
   go_ret2
   exact ⟨none, 0, 0, [], 1, rfl, RowW.nil _ _, (fun x hx => by cases hx), Nat.le_refl _, Nat.zero_le _, HA.out, Below.refl _ _⟩
  ·have d1 : decide ((m : Int) < 1) = true := by simp; omega
   go_wp2_with fail
   go_ret2
   exact ⟨none, 0, 0, [], 1, rfl, RowW.nil _ _, (fun x hx => by cases hx), Nat.le_refl _, Nat.zero_le _, HA.out, Below.refl _ _⟩
end disk
namespace vnd
open disk (RepIs AppIs)
open book (Ev ev0 EMay evL evOf EncIs DecIs Cm cm0 So so0 BookIs Sees ECame FirstAt NoneAt)
open acc (Ac Tm Bi TCame ACame)
open cell (Wr RowU)
open Go.RowKit
set_option maxRecDepth 100000
theorem enc_yes {v : Ev} {ws : List Int} {g : Int} (h : EncIs v ws g) (hv : EMay v) : (∀ x ∈ ws, 0 ≤ x ∧ x < 4294967296) ∧ g = 0 := by
 rcases h with ⟨_, rfl, rfl⟩ | ⟨n, _⟩
 ·exact ⟨book.may_word hv, rfl⟩
 ·exact absurd hv n
set_option maxHeartbeats 2000000 in
theorem pkeep (p2 : Option Addr) (m2 c2 : Nat) (a : Option Addr) (n cap : Nat) (c : List Int) (l : List Ev) (v : Ev) (w : World) (h : Dk w a n cap c) (hk : KeptIs c l 0) (hl : l.length ≤ 120) (hv : EMay v) : Calls Tryz.prog 24 #[.agg #[.slice p2 m2 c2, .slice a n cap, .int .i64 (l.length : Int)], .agg #[.int .i64 v.kd, .int .i64 v.me, .int .i64 v.mo, .int .i64 v.id, .int .i64 v.te, .int .i64 v.de, .int .i64 v.fe, .int .i64 v.pr, .int .i64 v.ch, .int .i64 v.un, .int .i64 v.tg, .int .i64 v.ow, .int .i64 v.bp]] w fun e w' => WrGot w (KeepIs c v) e w' := by
 have HC : Hid (∀ W, Below w.heap.size w W → Dk W a n cap c) := fun W hW => h.below hW
 have HKI : Hid (KeptIs c l 0) := hk
 have HV : Hid (EMay v) := hv
 clear h hk hv
 obtain ⟨W0, HWW, H0s, H0v, H0B, hs0⟩ := sh2 w #[.slice p2 m2 c2, .slice a n cap, .int .i64 (l.length : Int)] 47 #[.int .i64 v.kd, .int .i64 v.me, .int .i64 v.mo, .int .i64 v.id, .int .i64 v.te, .int .i64 v.de, .int .i64 v.fe, .int .i64 v.pr, .int .i64 v.ch, .int .i64 v.un, .int .i64 v.tg, .int .i64 v.ow, .int .i64 v.bp] 71
 go_enter Tryz.func24, Tryz.ntmps24
 go_upto_region 1 with fail
 rw [HWW.out]
 clear HWW
 by_cases h1 : l.length = 120
 ·have d1 : ((l.length : Int) == 120) = true := by simp; omega
  have HF : Hid (KeepIs c v [] 16) := ⟨l, 0, HKI.out, .inl ⟨by omega, rfl, rfl⟩⟩
  clear h1
  have qs2 : W0.cell? ⟨w.heap.size, 2, none⟩ = some (.int .i64 (l.length : Int)) := H0s.out.cell 2
  go_wp2_with (first
   | (refine zqw rfl rfl rfl H0s zqu47 ?_)
   | (refine zqw rfl rfl rfl H0v zqu71 ?_)
   | fail)
  go_ret2
  exact ⟨none, 0, 0, [], 16, rfl, HF.out, ⟨rfl, .inl rfl⟩, (fun x hx => by cases hx), Nat.le_refl _, Nat.zero_le _, H0B.out⟩
 ·have d1 : ((l.length : Int) == 120) = false := by simp; omega
  have hl2 : Hid (l.length < 120) := (by omega : l.length < 120)
  clear h1 hl
  have HEN : Hid (Calls Tryz.prog 40 #[.agg #[.int .i64 v.kd, .int .i64 v.me, .int .i64 v.mo, .int .i64 v.id, .int .i64 v.te, .int .i64 v.de, .int .i64 v.fe, .int .i64 v.pr, .int .i64 v.ch, .int .i64 v.un, .int .i64 v.tg, .int .i64 v.ow, .int .i64 v.bp]] W0 fun e w' => book.EncGot W0 v e w') := book.kenc W0 v (book.wf_may HV.out)
  have qs2 : W0.cell? ⟨w.heap.size, 2, none⟩ = some (.int .i64 (l.length : Int)) := H0s.out.cell 2
  go_wp2_with (first
   | (refine zqw rfl rfl rfl H0s zqu47 ?_)
   | (refine zqw rfl rfl rfl H0v zqu71 ?_)
   | fail)
  refine HEN.out.mono ?_
  rintro e w1 ⟨ra, rn, rc, ws, g, rfl, hen, hrw, hrn, hrc, hr13, hb1⟩
  have H1s := shN H0s hb1
  have H1v := shN H0v hb1
  have H1B := shB H0B hb1
  have hsw1 : W0.heap.size ≤ w1.heap.size := hb1.size
  clear hb1 H0s H0v H0B
  clear qs2
  obtain ⟨hws, rfl⟩ := enc_yes hen HV.out
  have HEI : Hid (EncIs v ws 0) := hen
  clear hen HEN
  have HAP : Hid (Calls Tryz.prog 41 #[.slice a n cap, .slice ra rn rc] w1 fun e w' => disk.AppGot w1 c ws e w') := (fun d : Dk w1 a n cap c => disk.kappend w1 a n cap c ra rn rc ws d.row d.nil d.room d.bytes d.wd hrw hrn hrc (by omega) hws) (HC.out _ H1B.out)
  clear hrw hrn hrc hws
  have qs1 : w1.cell? ⟨w.heap.size, 1, none⟩ = some (.slice a n cap) := H1s.out.cell 1
  go_wp2_with (first
   | (refine zqw rfl rfl rfl H1s zqu47 ?_)
   | (refine zqw rfl rfl rfl H1v zqu71 ?_)
   | fail)
  refine HAP.out.mono ?_
  rintro e w2 ⟨p3, m3, c3, ls, f3, rfl, hrow, hnew, hle, hsm, hai, hb2⟩
  have H2s := shN H1s hb2
  have H2v := shN H1v hb2
  have H2B := shB H1B hb2
  have hsw2 : w1.heap.size ≤ w2.heap.size := hb2.size
  clear hb2 H1s H1v H1B
  clear qs1
  have HF : Hid (KeepIs c v ls f3) := ⟨l, 0, HKI.out, .inr ⟨hl2.out, ws, 0, HEI.out, .inr ⟨rfl, hai⟩⟩⟩
  have HRW : Hid (cell.RowW w2 p3 m3 ls) := hrow
  have HNW : Hid (∀ x, p3 = some x → w.heap.size ≤ x.block) := fun x hx => Nat.le_trans (by omega) (hnew x hx)
  clear hrow hnew hai HAP HEI HKI HC hl2
  go_wp2_with fail
  go_ret2
  exact ⟨p3, m3, c3, ls, f3, rfl, HF.out, HRW.out, HNW.out, hle, hsm, H2B.out⟩
end vnd
namespace book
open Go.RowKit
set_option maxRecDepth 100000
def FindPost (w : World) (l : List Cu) (me : Int) (e : Ending) (w' : World) : Prop := ∃ x f, e = .returned (.tuple #[.int .i64 x, .int .i64 f]) ∧ FindIs l me x f ∧ Below w.heap.size w w'
end book
end Go.Proofs.YtomibnggmhjdfaaGreat
