/- What is made of each word, the greatest first. -/
import Derived.Test.YtlicdeppfhmfjaaGreatDoorAcc
namespace Go.Proofs.YtlicdeppfhmfjaaGreatDoor.words
open Go.RowKit

/-- What is made of each word, the greatest first, while the number at B goes from v0 to v1, v2 and v3. -/
theorem downward_any (K : Nat) (caps : Array Value) (B : Nat) (v0 v1 v2 v3 : Value) (x0 x1 x2 y0 y1 y2 : Int) (w : World) (h : Acc w w B v0) (hK : ∀ args w, (callFunc K args).run Tryz.prog w = .ok (.enter K args) w)
    (s0 : ∀ w', Acc w w' B v0 → Calls Tryz.prog K (#[.int .u32 x2] ++ caps) w' fun e w'' => e = .returned (.int .u32 y2) ∧ Acc w' w'' B v1)
    (s1 : ∀ w', Acc w w' B v1 → Calls Tryz.prog K (#[.int .u32 x1] ++ caps) w' fun e w'' => e = .returned (.int .u32 y1) ∧ Acc w' w'' B v2)
    (s2 : ∀ w', Acc w w' B v2 → Calls Tryz.prog K (#[.int .u32 x0] ++ caps) w' fun e w'' => e = .returned (.int .u32 y0) ∧ Acc w' w'' B v3) :
    Calls Tryz.prog 92 #[.agg #[.int .u32 x0, .int .u32 x1, .int .u32 x2], .func (.func K) #[] caps] w fun e w' => e = .returned (.agg #[.int .u32 y0, .int .u32 y1, .int .u32 y2]) ∧ Acc w w' B v3 := by
  have HS0 : Hid (∀ w', Acc w w' B v0 → Calls Tryz.prog K (#[.int .u32 x2] ++ caps) w' fun e w'' => e = .returned (.int .u32 y2) ∧ Acc w' w'' B v1) := s0
  have HS1 : Hid (∀ w', Acc w w' B v1 → Calls Tryz.prog K (#[.int .u32 x1] ++ caps) w' fun e w'' => e = .returned (.int .u32 y1) ∧ Acc w' w'' B v2) := s1
  have HS2 : Hid (∀ w', Acc w w' B v2 → Calls Tryz.prog K (#[.int .u32 x0] ++ caps) w' fun e w'' => e = .returned (.int .u32 y0) ∧ Acc w' w'' B v3) := s2
  have HA : Hid (Acc w w B v0) := h
  clear s0 s1 s2 h
  go_enter Tryz.func92, Tryz.ntmps92
  go_wp2_with fail
  refine wp_loop_rounds 4 ?_
  rw [rounds_succ]
  go_wp2_with fail
  refine (HS0.out _ ((HA.out.alloc _).alloc _)).mono ?_
  rintro e w1 ⟨rfl, h1⟩
  have hB := HA.out.old
  have T1 : Trio w1 w.heap.size (.int .u32 x0) (.int .u32 x1) (.int .u32 x2) := (trio_a _ _ _ _ _).acc h1 (by omega)
  have R1 : Trio w1 (w.heap.size + 1) (.int .u32 0) (.int .u32 0) (.int .u32 0) := (trio_b _ _ _ _ _).acc h1 (by omega)
  have A1 := ((HA.out.alloc _).alloc _).trans h1
  have c2 := T1.c2
  have f2 := T1.free 2
  have T1' := T1.set2 (.int .u32 y2)
  have d1 := T1'.c1
  have HT : Hid (Trio (w1.setCell ⟨w.heap.size, 2, none⟩ (.int .u32 y2)) w.heap.size (.int .u32 x0) (.int .u32 x1) (.int .u32 y2)) := T1'
  have HR : Hid (Trio (w1.setCell ⟨w.heap.size, 2, none⟩ (.int .u32 y2)) (w.heap.size + 1) (.int .u32 0) (.int .u32 0) (.int .u32 0)) := R1.other _ _ (by omega)
  have HA1 : Hid (Acc w (w1.setCell ⟨w.heap.size, 2, none⟩ (.int .u32 y2)) B v1) := A1.setNew _ _ _ (Nat.le_refl _)
  clear h1 T1 R1 A1 T1' HA HS0
  go_wp2_with fail
  rw [rounds_succ]
  go_wp2_with fail
  refine (HS1.out _ HA1.out).mono ?_
  rintro e w2 ⟨rfl, h2⟩
  have T2 := HT.out.acc h2 (by omega)
  have R2 := HR.out.acc h2 (by omega)
  have A2 := HA1.out.trans h2
  clear c2 f2 d1 HT HR HA1 HS1 h2
  have c1 := T2.c1
  have f1 := T2.free 1
  have T2' := T2.set1 (.int .u32 y1)
  have d2 := T2'.c0
  have HT : Hid (Trio (w2.setCell ⟨w.heap.size, 1, none⟩ (.int .u32 y1)) w.heap.size (.int .u32 x0) (.int .u32 y1) (.int .u32 y2)) := T2'
  have HR : Hid (Trio (w2.setCell ⟨w.heap.size, 1, none⟩ (.int .u32 y1)) (w.heap.size + 1) (.int .u32 0) (.int .u32 0) (.int .u32 0)) := R2.other _ _ (by omega)
  have HA2 : Hid (Acc w (w2.setCell ⟨w.heap.size, 1, none⟩ (.int .u32 y1)) B v2) := A2.setNew _ _ _ (Nat.le_refl _)
  clear T2 R2 A2 T2'
  go_wp2_with fail
  rw [rounds_succ]
  go_wp2_with fail
  refine (HS2.out _ HA2.out).mono ?_
  rintro e w3 ⟨rfl, h3⟩
  have T3 := HT.out.acc h3 (by omega)
  have R3 := HR.out.acc h3 (by omega)
  have A3 := HA2.out.trans h3
  clear c1 f1 d2 HT HR HA2 HS2 h3
  have c0 := T3.c0
  have f0 := T3.free 0
  have T3' := T3.set0 (.int .u32 y0)
  have R3' := R3.other (G' := w.heap.size) 0 (.int .u32 y0) (by omega)
  have e0 := T3'.c0
  have e1 := T3'.c1
  have e2 := T3'.c2
  have r0 := R3'.c0
  have r1 := R3'.c1
  have r2 := R3'.c2
  have g0 := R3'.free 0
  have g1 := R3'.free 1
  have g2 := R3'.free 2
  have HR3 : Hid (Trio (w3.setCell ⟨w.heap.size, 0, none⟩ (.int .u32 y0)) (w.heap.size + 1) (.int .u32 0) (.int .u32 0) (.int .u32 0)) := R3'
  have HA3 : Hid (Acc w (w3.setCell ⟨w.heap.size, 0, none⟩ (.int .u32 y0)) B v3) := A3.setNew _ _ _ (Nat.le_refl _)
  clear T3 R3 A3 T3' R3'
  go_wp2_with fail
  rw [rounds_succ]
  go_wp2_with fail
  have RR := ((HR3.out.set0 (.int .u32 y0)).set1 (.int .u32 y1)).set2 (.int .u32 y2)
  have AA := ((HA3.out.setNew (w.heap.size + 1) 0 (.int .u32 y0) (by omega)).setNew (w.heap.size + 1) 1 (.int .u32 y1) (by omega)).setNew (w.heap.size + 1) 2 (.int .u32 y2) (by omega)
  refine bodyPost_ret (v := .agg #[.int .u32 y0, .int .u32 y1, .int .u32 y2]) (by simp [results, Tryz.results92, RR.c0, RR.c1, RR.c2, go_sem]) rfl ⟨rfl, AA⟩

end Go.Proofs.YtlicdeppfhmfjaaGreatDoor.words
