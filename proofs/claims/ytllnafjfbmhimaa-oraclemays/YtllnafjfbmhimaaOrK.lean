/- Oracles: what is asked for. -/
import Derived.Test.YtllnafjfbmhimaaOrT
import Derived.Test.YtllnafjfbmhimaaCkPick
import Derived.Deep.RegionHeld
namespace Go.Proofs.Ytllnafjfbmhimaa.ora
open Go.RowKit Go.Proofs.Ytllnafjfbmhimaa.check
set_option maxRecDepth 100000
set_option linter.unusedVariables false

/-- What is asked for, of raw numbers. -/
def ask (x y z u : Int) : Pr := ⟨((pick x 3).toNat : Int), ((pick y 3).toNat : Int), ((pick z 5).toNat : Int), ((pick u 65536).toNat : Int)⟩
theorem ask_may (x y z u : Int) : (ask x y z u).may := by
  have a := pick_toNat x 3 (by decide)
  have b := pick_toNat y 3 (by decide)
  have c := pick_toNat z 5 (by decide)
  have d := pick_toNat u 65536 (by decide)
  unfold ask Pr.may
  generalize (pick x 3).toNat = x at *
  generalize (pick y 3).toNat = y at *
  generalize (pick z 5).toNat = z at *
  generalize (pick u 65536).toNat = u at *
  have a' : x < 3 := a
  have b' : y < 3 := b
  have c' : z < 5 := c
  have d' : u < 65536 := d
  exact ⟨⟨by show (0 : Int) ≤ x; omega, by show (x : Int) ≤ 49; omega⟩, ⟨by show (0 : Int) ≤ y; omega, by show (y : Int) ≤ 15; omega⟩, ⟨by show (0 : Int) ≤ z; omega, by show (z : Int) ≤ 8796093022207; omega⟩, by show (0 : Int) ≤ u; omega, by show (u : Int) ≤ 65535; omega⟩

set_option maxHeartbeats 4000000 in
theorem asked_abs (x y z u p q r s : Int) (w : World)
    (HX : Hid (∀ W, Calls Try.prog 17 #[.int .i64 x, .int .i64 3] W fun e w' => e = .returned (.int .i64 p) ∧ w' = W))
    (HY : Hid (∀ W, Calls Try.prog 17 #[.int .i64 y, .int .i64 3] W fun e w' => e = .returned (.int .i64 q) ∧ w' = W))
    (HZ : Hid (∀ W, Calls Try.prog 17 #[.int .i64 z, .int .i64 5] W fun e w' => e = .returned (.int .i64 r) ∧ w' = W))
    (HU : Hid (∀ W, Calls Try.prog 17 #[.int .i64 u, .int .i64 65536] W fun e w' => e = .returned (.int .i64 s) ∧ w' = W)) :
    Calls Try.prog 16 #[.agg #[.int .i64 x, .int .i64 y, .int .i64 z, .int .i64 u]] w fun e w' => e = .returned (.agg #[.int .i64 p, .int .i64 q, .int .i64 r, .int .i64 s]) ∧ Below w.heap.size w w' := by
  have hb0 : Below w.heap.size w ((w.alloc (.cells #[.int .i64 x, .int .i64 y, .int .i64 z, .int .i64 u] 34)).alloc (.cells #[.int .i64 0, .int .i64 0, .int .i64 0, .int .i64 0] 34)) := ((Below.refl _ _).alloc (Nat.le_refl _) _).alloc (by simp) _
  have hX := (Blk.new w #[.int .i64 x, .int .i64 y, .int .i64 z, .int .i64 u] 34).alloc (.cells #[.int .i64 0, .int .i64 0, .int .i64 0, .int .i64 0] 34)
  have hR := Blk.new1 w (.cells #[.int .i64 x, .int .i64 y, .int .i64 z, .int .i64 u] 34) #[.int .i64 0, .int .i64 0, .int .i64 0, .int .i64 0] 34
  go_enter Try.func16, Try.ntmps16
  go_wp2_with fail
  generalize ((w.alloc (.cells #[.int .i64 x, .int .i64 y, .int .i64 z, .int .i64 u] 34)).alloc (.cells #[.int .i64 0, .int .i64 0, .int .i64 0, .int .i64 0] 34)) = W at *
  have x0 : W.drew.cell? ⟨w.heap.size, 0, none⟩ = some (.int .i64 x) := hX.cell 0
  have x1 : W.drew.cell? ⟨w.heap.size, 1, none⟩ = some (.int .i64 y) := hX.cell 1
  have x2 : W.drew.cell? ⟨w.heap.size, 2, none⟩ = some (.int .i64 z) := hX.cell 2
  have x3 : W.drew.cell? ⟨w.heap.size, 3, none⟩ = some (.int .i64 u) := hX.cell 3
  have z0 : W.cell? ⟨w.heap.size + 1, 0, none⟩ = some (.int .i64 0) := hR.cell 0
  have y0 : W.frozen? ⟨w.heap.size + 1, 0, none⟩ = false := hR.free 0
  have hR0 := hR.set 0 (.int .i64 p)
  have z1 : (W.setCell ⟨w.heap.size + 1, 0, none⟩ (.int .i64 p)).cell? ⟨w.heap.size + 1, 1, none⟩ = some (.int .i64 0) := hR0.cell 1
  have y1 : (W.setCell ⟨w.heap.size + 1, 0, none⟩ (.int .i64 p)).frozen? ⟨w.heap.size + 1, 1, none⟩ = false := hR0.free 1
  have hR1 := hR0.set 1 (.int .i64 q)
  have z2 : ((W.setCell ⟨w.heap.size + 1, 0, none⟩ (.int .i64 p)).setCell ⟨w.heap.size + 1, 1, none⟩ (.int .i64 q)).cell? ⟨w.heap.size + 1, 2, none⟩ = some (.int .i64 0) := hR1.cell 2
  have y2 : ((W.setCell ⟨w.heap.size + 1, 0, none⟩ (.int .i64 p)).setCell ⟨w.heap.size + 1, 1, none⟩ (.int .i64 q)).frozen? ⟨w.heap.size + 1, 2, none⟩ = false := hR1.free 2
  have hR2 := hR1.set 2 (.int .i64 r)
  have z3 : (((W.setCell ⟨w.heap.size + 1, 0, none⟩ (.int .i64 p)).setCell ⟨w.heap.size + 1, 1, none⟩ (.int .i64 q)).setCell ⟨w.heap.size + 1, 2, none⟩ (.int .i64 r)).cell? ⟨w.heap.size + 1, 3, none⟩ = some (.int .i64 0) := hR2.cell 3
  have y3 : (((W.setCell ⟨w.heap.size + 1, 0, none⟩ (.int .i64 p)).setCell ⟨w.heap.size + 1, 1, none⟩ (.int .i64 q)).setCell ⟨w.heap.size + 1, 2, none⟩ (.int .i64 r)).frozen? ⟨w.heap.size + 1, 3, none⟩ = false := hR2.free 3
  have hR3 := hR2.set 3 (.int .i64 s)
  have hXf : Blk ((((W.setCell ⟨w.heap.size + 1, 0, none⟩ (.int .i64 p)).setCell ⟨w.heap.size + 1, 1, none⟩ (.int .i64 q)).setCell ⟨w.heap.size + 1, 2, none⟩ (.int .i64 r)).setCell ⟨w.heap.size + 1, 3, none⟩ (.int .i64 s)) w.heap.size #[.int .i64 x, .int .i64 y, .int .i64 z, .int .i64 u] 34 := (((hX.other 0 _ (by omega)).other 1 _ (by omega)).other 2 _ (by omega)).other 3 _ (by omega)
  have HS : Hid (((((W.setCell ⟨w.heap.size + 1, 0, none⟩ (.int .i64 p)).setCell ⟨w.heap.size + 1, 1, none⟩ (.int .i64 q)).setCell ⟨w.heap.size + 1, 2, none⟩ (.int .i64 r)).setCell ⟨w.heap.size + 1, 3, none⟩ (.int .i64 s)).drew.cell? ⟨w.heap.size, 0, none⟩ = some (.int .i64 x) ∧ ((((W.setCell ⟨w.heap.size + 1, 0, none⟩ (.int .i64 p)).setCell ⟨w.heap.size + 1, 1, none⟩ (.int .i64 q)).setCell ⟨w.heap.size + 1, 2, none⟩ (.int .i64 r)).setCell ⟨w.heap.size + 1, 3, none⟩ (.int .i64 s)).drew.cell? ⟨w.heap.size, 1, none⟩ = some (.int .i64 y) ∧ ((((W.setCell ⟨w.heap.size + 1, 0, none⟩ (.int .i64 p)).setCell ⟨w.heap.size + 1, 1, none⟩ (.int .i64 q)).setCell ⟨w.heap.size + 1, 2, none⟩ (.int .i64 r)).setCell ⟨w.heap.size + 1, 3, none⟩ (.int .i64 s)).drew.cell? ⟨w.heap.size, 2, none⟩ = some (.int .i64 z) ∧ ((((W.setCell ⟨w.heap.size + 1, 0, none⟩ (.int .i64 p)).setCell ⟨w.heap.size + 1, 1, none⟩ (.int .i64 q)).setCell ⟨w.heap.size + 1, 2, none⟩ (.int .i64 r)).setCell ⟨w.heap.size + 1, 3, none⟩ (.int .i64 s)).drew.cell? ⟨w.heap.size, 3, none⟩ = some (.int .i64 u)) := ⟨hXf.cell 0, hXf.cell 1, hXf.cell 2, hXf.cell 3⟩
  have R0 : Hid (((((W.setCell ⟨w.heap.size + 1, 0, none⟩ (.int .i64 p)).setCell ⟨w.heap.size + 1, 1, none⟩ (.int .i64 q)).setCell ⟨w.heap.size + 1, 2, none⟩ (.int .i64 r)).setCell ⟨w.heap.size + 1, 3, none⟩ (.int .i64 s)).drew.cell? ⟨w.heap.size + 1, 0, none⟩ = some (.int .i64 p)) := hR3.cell 0
  have R1 : Hid (((((W.setCell ⟨w.heap.size + 1, 0, none⟩ (.int .i64 p)).setCell ⟨w.heap.size + 1, 1, none⟩ (.int .i64 q)).setCell ⟨w.heap.size + 1, 2, none⟩ (.int .i64 r)).setCell ⟨w.heap.size + 1, 3, none⟩ (.int .i64 s)).drew.cell? ⟨w.heap.size + 1, 1, none⟩ = some (.int .i64 q)) := hR3.cell 1
  have R2 : Hid (((((W.setCell ⟨w.heap.size + 1, 0, none⟩ (.int .i64 p)).setCell ⟨w.heap.size + 1, 1, none⟩ (.int .i64 q)).setCell ⟨w.heap.size + 1, 2, none⟩ (.int .i64 r)).setCell ⟨w.heap.size + 1, 3, none⟩ (.int .i64 s)).drew.cell? ⟨w.heap.size + 1, 2, none⟩ = some (.int .i64 r)) := hR3.cell 2
  have R3 : Hid (((((W.setCell ⟨w.heap.size + 1, 0, none⟩ (.int .i64 p)).setCell ⟨w.heap.size + 1, 1, none⟩ (.int .i64 q)).setCell ⟨w.heap.size + 1, 2, none⟩ (.int .i64 r)).setCell ⟨w.heap.size + 1, 3, none⟩ (.int .i64 s)).drew.cell? ⟨w.heap.size + 1, 3, none⟩ = some (.int .i64 s)) := hR3.cell 3
  have HB : Hid (Below w.heap.size w ((((W.setCell ⟨w.heap.size + 1, 0, none⟩ (.int .i64 p)).setCell ⟨w.heap.size + 1, 1, none⟩ (.int .i64 q)).setCell ⟨w.heap.size + 1, 2, none⟩ (.int .i64 r)).setCell ⟨w.heap.size + 1, 3, none⟩ (.int .i64 s)).drew) := (bel_set (bel_set (bel_set (bel_set hb0 _ _ _ (Nat.le_succ _)) _ _ _ (Nat.le_succ _)) _ _ _ (Nat.le_succ _)) _ _ _ (Nat.le_succ _)).drew
  clear hR0 hR1 hR2 hR3 hXf
  go_region_held (fun v => v.cell? ⟨w.heap.size, 0, none⟩ = some (.int .i64 x) ∧ v.cell? ⟨w.heap.size, 1, none⟩ = some (.int .i64 y) ∧ v.cell? ⟨w.heap.size, 2, none⟩ = some (.int .i64 z) ∧ v.cell? ⟨w.heap.size, 3, none⟩ = some (.int .i64 u))
    (first | exact ⟨x0, x1, x2, x3⟩ | with_reducible exact HS.out)
    (first
      | (go_at_call_of 17 (Value.int .i64 x); refine (HX.out _).mono ?_; rintro e w' ⟨rfl, rfl⟩)
      | (go_at_call_of 17 (Value.int .i64 y); refine (HY.out _).mono ?_; rintro e w' ⟨rfl, rfl⟩)
      | (go_at_call_of 17 (Value.int .i64 z); refine (HZ.out _).mono ?_; rintro e w' ⟨rfl, rfl⟩)
      | (go_at_call_of 17 (Value.int .i64 u); refine (HU.out _).mono ?_; rintro e w' ⟨rfl, rfl⟩))
  all_goals go_wp2_with fail
  all_goals exact bodyPost_ret (v := .agg #[.int .i64 p, .int .i64 q, .int .i64 r, .int .i64 s]) (by simp [results, Try.results16, R0.out, R1.out, R2.out, R3.out, go_sem]) rfl ⟨rfl, HB.out⟩
theorem asked_any (x y z u : Int) (w : World) (hx : (Lit.int .i64 x).wf = true) (hy : (Lit.int .i64 y).wf = true) (hz : (Lit.int .i64 z).wf = true) (hu : (Lit.int .i64 u).wf = true) :
    Calls Try.prog 16 #[.agg #[.int .i64 x, .int .i64 y, .int .i64 z, .int .i64 u]] w fun e w' => e = .returned (.agg #[.int .i64 (ask x y z u).m, .int .i64 (ask x y z u).r, .int .i64 (ask x y z u).b, .int .i64 (ask x y z u).t]) ∧ Below w.heap.size w w' :=
  asked_abs x y z u _ _ _ _ w (fun W => picked_nat x 3 W hx (by decide) (by decide)) (fun W => picked_nat y 3 W hy (by decide) (by decide)) (fun W => picked_nat z 5 W hz (by decide) (by decide)) (fun W => picked_nat u 65536 W hu (by decide) (by decide))

end Go.Proofs.Ytllnafjfbmhimaa.ora
