/- A new meter of raw numbers. -/
import Derived.Test.YtnhidiefchamlaaDoorMtD
import Derived.Test.YtnhidiefchamlaaDoorMtOpen
import Derived.Test.YtnhidiefchamlaaDoorCkPick
import Derived.Test.YtnhidiefchamlaaDoorCallFirst
namespace Go.Proofs.YtnhidiefchamlaaDoor.met
open Go.RowKit Go.Proofs.YtnhidiefchamlaaDoor.check
set_option maxRecDepth 100000
set_option linter.unusedVariables false
set_option linter.unusedSimpArgs false

/-- The meter that is made of four numbers. -/
def newM (x y z u : Int) : Mt := ⟨(((pick x 50).toNat : Nat) : Int), (((pick y 16).toNat : Nat) : Int), (((pick z 100000000).toNat : Nat) : Int), 0, 0, (((pick u 5).toNat : Nat) : Int), 0⟩
theorem newM_may (x y z u : Int) : (newM x y z u).may := by
  have a : (pick x 50).toNat < 50 := pick_toNat x 50 (by decide)
  have b : (pick y 16).toNat < 16 := pick_toNat y 16 (by decide)
  have c : (pick z 100000000).toNat < 100000000 := pick_toNat z 100000000 (by decide)
  have d : (pick u 5).toNat < 5 := pick_toNat u 5 (by decide)
  unfold newM
  refine ⟨?_, ?_, ?_, ?_, ?_, ?_, .inl ⟨rfl, rfl⟩⟩ <;> simp only [] <;> omega
set_option maxHeartbeats 2000000 in
theorem newMeter_abs (x y z u p q r s : Int) (w : World)
    (hp : ∀ W, Calls Tryd.prog 12 #[.int .i64 x, .int .i64 50] W fun e w' => e = .returned (.int .i64 p) ∧ w' = W) (hq : ∀ W, Calls Tryd.prog 12 #[.int .i64 y, .int .i64 16] W fun e w' => e = .returned (.int .i64 q) ∧ w' = W)
    (hr : ∀ W, Calls Tryd.prog 12 #[.int .i64 z, .int .i64 100000000] W fun e w' => e = .returned (.int .i64 r) ∧ w' = W) (hs : ∀ W, Calls Tryd.prog 12 #[.int .i64 u, .int .i64 5] W fun e w' => e = .returned (.int .i64 s) ∧ w' = W) :
    Calls Tryd.prog 11 #[.agg #[.int .i64 x, .int .i64 y, .int .i64 z, .int .i64 u]] w fun e w' => e = .returned (.agg #[.int .i64 p, .int .i64 q, .int .i64 r, .int .i64 0, .int .u64 0, .int .i64 s, .int .i64 0]) ∧ Below w.heap.size w w' := by
  have HX : Hid (Blk ((w.alloc (.cells #[.int .i64 x, .int .i64 y, .int .i64 z, .int .i64 u] 37)).alloc (.cells #[.int .i64 0, .int .i64 0, .int .i64 0, .int .i64 0, .int .u64 0, .int .i64 0, .int .i64 0] 26)) w.heap.size #[.int .i64 x, .int .i64 y, .int .i64 z, .int .i64 u] 37) := (Blk.new w _ _).alloc _
  have HO : Hid (Blk ((w.alloc (.cells #[.int .i64 x, .int .i64 y, .int .i64 z, .int .i64 u] 37)).alloc (.cells #[.int .i64 0, .int .i64 0, .int .i64 0, .int .i64 0, .int .u64 0, .int .i64 0, .int .i64 0] 26)) (w.heap.size + 1) #[.int .i64 0, .int .i64 0, .int .i64 0, .int .i64 0, .int .u64 0, .int .i64 0, .int .i64 0] 26) := Blk.new1 w _ _ _
  have HW : Hid (Below w.heap.size w ((w.alloc (.cells #[.int .i64 x, .int .i64 y, .int .i64 z, .int .i64 u] 37)).alloc (.cells #[.int .i64 0, .int .i64 0, .int .i64 0, .int .i64 0, .int .u64 0, .int .i64 0, .int .i64 0] 26))) := ((Below.refl _ _).alloc (Nat.le_refl _) _).alloc (by simp) _
  have HP : Hid (∀ W, Calls Tryd.prog 12 #[.int .i64 x, .int .i64 50] W fun e w' => e = .returned (.int .i64 p) ∧ w' = W) := hp
  have HQ : Hid (∀ W, Calls Tryd.prog 12 #[.int .i64 y, .int .i64 16] W fun e w' => e = .returned (.int .i64 q) ∧ w' = W) := hq
  have HR : Hid (∀ W, Calls Tryd.prog 12 #[.int .i64 z, .int .i64 100000000] W fun e w' => e = .returned (.int .i64 r) ∧ w' = W) := hr
  have HS : Hid (∀ W, Calls Tryd.prog 12 #[.int .i64 u, .int .i64 5] W fun e w' => e = .returned (.int .i64 s) ∧ w' = W) := hs
  clear hp hq hr hs
  go_enter Tryd.func11, Tryd.ntmps11
  go_wp2_with fail
  refine wp_region_held_drew (S := fun v => Blk v w.heap.size #[.int .i64 x, .int .i64 y, .int .i64 z, .int .i64 u] 37) (by kernel_rfl) HX.out (fun hHeld => ?_)
  refine take_at 0 3 (.pointer (some ⟨w.heap.size, 0, none⟩)) _ rfl rfl (by kernel_rfl) (by kernel_rfl) (by kernel_rfl) (fun _ _ _ h => h) (Or.inl ⟨by rfl, fun v hv => by go_simp⟩) hHeld ?_
  simp only [Act.put, List.setIfInBounds_toArray, List.set_cons_zero, List.set_cons_succ]
  refine take_at 1 4 (.int .i64 x) _ rfl rfl (by kernel_rfl) (by kernel_rfl) (by kernel_rfl) (fun _ _ _ h => h) (Or.inl ⟨by rfl, fun v hv => by have h2 : v.cell? ⟨w.heap.size, 0, none⟩ = some (.int .i64 x) := Blk.cell hv 0; clear hv; go_simp⟩) hHeld ?_
  simp only [Act.put, List.setIfInBounds_toArray, List.set_cons_zero, List.set_cons_succ]
  refine call_at 2 5 (.int .i64 p) _ rfl rfl (by kernel_rfl) (by kernel_rfl) (by kernel_rfl) (fun _ _ _ h => h) 12 #[.int .i64 x, .int .i64 50] ⟨by rfl, fun v hv => by go_simp⟩ (fun v _ => HP.out v) hHeld ?_
  simp only [Act.put, List.setIfInBounds_toArray, List.set_cons_zero, List.set_cons_succ]
  refine take_at 3 6 (.pointer (some ⟨w.heap.size, 1, none⟩)) _ rfl rfl (by kernel_rfl) (by kernel_rfl) (by kernel_rfl) (fun _ _ _ h => h) (Or.inl ⟨by rfl, fun v hv => by go_simp⟩) hHeld ?_
  simp only [Act.put, List.setIfInBounds_toArray, List.set_cons_zero, List.set_cons_succ]
  refine take_at 4 7 (.int .i64 y) _ rfl rfl (by kernel_rfl) (by kernel_rfl) (by kernel_rfl) (fun _ _ _ h => h) (Or.inl ⟨by rfl, fun v hv => by have h2 : v.cell? ⟨w.heap.size, 1, none⟩ = some (.int .i64 y) := Blk.cell hv 1; clear hv; go_simp⟩) hHeld ?_
  simp only [Act.put, List.setIfInBounds_toArray, List.set_cons_zero, List.set_cons_succ]
  refine call_at 5 8 (.int .i64 q) _ rfl rfl (by kernel_rfl) (by kernel_rfl) (by kernel_rfl) (fun _ _ _ h => h) 12 #[.int .i64 y, .int .i64 16] ⟨by rfl, fun v hv => by go_simp⟩ (fun v _ => HQ.out v) hHeld ?_
  simp only [Act.put, List.setIfInBounds_toArray, List.set_cons_zero, List.set_cons_succ]
  refine take_at 6 9 (.pointer (some ⟨w.heap.size, 2, none⟩)) _ rfl rfl (by kernel_rfl) (by kernel_rfl) (by kernel_rfl) (fun _ _ _ h => h) (Or.inl ⟨by rfl, fun v hv => by go_simp⟩) hHeld ?_
  simp only [Act.put, List.setIfInBounds_toArray, List.set_cons_zero, List.set_cons_succ]
  refine take_at 7 10 (.int .i64 z) _ rfl rfl (by kernel_rfl) (by kernel_rfl) (by kernel_rfl) (fun _ _ _ h => h) (Or.inl ⟨by rfl, fun v hv => by have h2 : v.cell? ⟨w.heap.size, 2, none⟩ = some (.int .i64 z) := Blk.cell hv 2; clear hv; go_simp⟩) hHeld ?_
  simp only [Act.put, List.setIfInBounds_toArray, List.set_cons_zero, List.set_cons_succ]
  refine call_at 8 11 (.int .i64 r) _ rfl rfl (by kernel_rfl) (by kernel_rfl) (by kernel_rfl) (fun _ _ _ h => h) 12 #[.int .i64 z, .int .i64 100000000] ⟨by rfl, fun v hv => by go_simp⟩ (fun v _ => HR.out v) hHeld ?_
  simp only [Act.put, List.setIfInBounds_toArray, List.set_cons_zero, List.set_cons_succ]
  refine take_at 9 12 (.pointer (some ⟨w.heap.size, 3, none⟩)) _ rfl rfl (by kernel_rfl) (by kernel_rfl) (by kernel_rfl) (fun _ _ _ h => h) (Or.inl ⟨by rfl, fun v hv => by go_simp⟩) hHeld ?_
  simp only [Act.put, List.setIfInBounds_toArray, List.set_cons_zero, List.set_cons_succ]
  refine take_at 10 13 (.int .i64 u) _ rfl rfl (by kernel_rfl) (by kernel_rfl) (by kernel_rfl) (fun _ _ _ h => h) (Or.inl ⟨by rfl, fun v hv => by have h2 : v.cell? ⟨w.heap.size, 3, none⟩ = some (.int .i64 u) := Blk.cell hv 3; clear hv; go_simp⟩) hHeld ?_
  simp only [Act.put, List.setIfInBounds_toArray, List.set_cons_zero, List.set_cons_succ]
  refine call_at 11 14 (.int .i64 s) _ rfl rfl (by kernel_rfl) (by kernel_rfl) (by kernel_rfl) (fun _ _ _ h => h) 12 #[.int .i64 u, .int .i64 5] ⟨by rfl, fun v hv => by go_simp⟩ (fun v _ => HS.out v) hHeld ?_
  simp only [Act.put, List.setIfInBounds_toArray, List.set_cons_zero, List.set_cons_succ]
  refine take_at 12 15 (.agg #[.int .i64 p, .int .i64 q, .int .i64 r, .int .i64 0, .int .u64 0, .int .i64 s, .int .i64 0]) _ rfl rfl (by kernel_rfl) (by kernel_rfl) (by kernel_rfl) (fun _ _ _ h => h) (Or.inl ⟨by rfl, fun v hv => by go_simp⟩) hHeld ?_
  simp only [Act.put, List.setIfInBounds_toArray, List.set_cons_zero, List.set_cons_succ]
  refine wpAnyH_ready (rs := [13]) (by kernel_rfl) (by simp) (AllReadyH.cons rfl (fun K hK => ?_) AllReadyH.nil)
  rw [if_pos (by rfl)]
  refine wp_letOp 26 _ _ rfl (w.heap.size + 1) rfl #[.int .i64 p, .int .i64 q, .int .i64 r, .int .i64 0, .int .u64 0, .int .i64 s, .int .i64 0] rfl (by kernel_rfl) (by simp [Value.oneCell']) #[.int .i64 0, .int .i64 0, .int .i64 0, .int .i64 0, .int .u64 0, .int .i64 0, .int .i64 0] 26 (Blk.drew HO.out 1) rfl rfl ?_
  intro WZ hUZ
  refine hK.out _ _ (hUZ.keep (Blk.drew HX.out 1) (by omega)) (fun hHeld => ?_)
  refine wpAnyH_done (by kernel_rfl) ?_ _
  have R0 : Hid (WZ.cell? ⟨w.heap.size + 1, 0, none⟩ = some (.int .i64 p)) := hUZ.blk.cell 0
  have R1 : Hid (WZ.cell? ⟨w.heap.size + 1, 1, none⟩ = some (.int .i64 q)) := hUZ.blk.cell 1
  have R2 : Hid (WZ.cell? ⟨w.heap.size + 1, 2, none⟩ = some (.int .i64 r)) := hUZ.blk.cell 2
  have R3 : Hid (WZ.cell? ⟨w.heap.size + 1, 3, none⟩ = some (.int .i64 0)) := hUZ.blk.cell 3
  have R4 : Hid (WZ.cell? ⟨w.heap.size + 1, 4, none⟩ = some (.int .u64 0)) := hUZ.blk.cell 4
  have R5 : Hid (WZ.cell? ⟨w.heap.size + 1, 5, none⟩ = some (.int .i64 s)) := hUZ.blk.cell 5
  have R6 : Hid (WZ.cell? ⟨w.heap.size + 1, 6, none⟩ = some (.int .i64 0)) := hUZ.blk.cell 6
  have HB : Hid (Below w.heap.size w WZ) := hUZ.bel _ _ (by omega) (bel_drew HW.out 1)
  clear hUZ HX HO HW hHeld hK HP HQ HR HS
  go_wp2_with fail
  exact bodyPost_ret (v := .agg #[.int .i64 p, .int .i64 q, .int .i64 r, .int .i64 0, .int .u64 0, .int .i64 s, .int .i64 0]) (by simp [results, Tryd.results11, R0.out, R1.out, R2.out, R3.out, R4.out, R5.out, R6.out, go_sem]) rfl ⟨rfl, HB.out⟩
theorem newMeter_any (x y z u : Int) (w : World) (hw : wf4i x y z u) : Calls Tryd.prog 11 #[.agg #[.int .i64 x, .int .i64 y, .int .i64 z, .int .i64 u]] w fun e w' => e = .returned (newM x y z u).v ∧ Below w.heap.size w w' :=
  newMeter_abs x y z u _ _ _ _ w (fun W => picked_nat x 50 W hw.1 (by decide) (by decide)) (fun W => picked_nat y 16 W hw.2.1 (by decide) (by decide)) (fun W => picked_nat z 100000000 W hw.2.2.1 (by decide) (by decide)) (fun W => picked_nat u 5 W hw.2.2.2 (by decide) (by decide))

end Go.Proofs.YtnhidiefchamlaaDoor.met
