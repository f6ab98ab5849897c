/- A number that a closure carries on, in a variable of its own: what a call does to it, and to nothing else. -/
import Derived.Test.YtlicdeppfhmfjaaGreatDoorOpenW
import Derived.Test.YtlicdeppfhmfjaaGreatDoorWide
import Derived.WalkSmall
import Derived.Deep.QuietTactic
import Derived.BigRegion
import Derived.BigQuiet
namespace Go.Proofs.YtlicdeppfhmfjaaGreatDoor.words
open Go.RowKit

/-- Behind w0, w: block B holds v, and may be written; every other block that was there is as it was. -/
structure Acc (w0 w : World) (B : Nat) (v : Value) : Prop where
  os : w.os = w0.os
  tape : w.tape = w0.tape
  output : w.output = w0.output
  size : w0.heap.size ≤ w.heap.size
  block : ∀ k, k < w0.heap.size → k ≠ B → w.heap[k]? = w0.heap[k]?
  old : B < w0.heap.size
  cell : w.cell? ⟨B, 0, none⟩ = some v
  free : w.frozen? ⟨B, 0, none⟩ = false

theorem Acc.trans {w0 w1 w2 : World} {B : Nat} {v v' : Value} (h : Acc w0 w1 B v) (h' : Acc w1 w2 B v') : Acc w0 w2 B v' :=
  ⟨h'.os.trans h.os, h'.tape.trans h.tape, h'.output.trans h.output, Nat.le_trans h.size h'.size, fun k hk hB => (h'.block k (Nat.lt_of_lt_of_le hk h.size) hB).trans (h.block k hk hB), h.old, h'.cell, h'.free⟩

theorem Acc.refl {w : World} {B : Nat} {v : Value} (hc : w.cell? ⟨B, 0, none⟩ = some v) (hf : w.frozen? ⟨B, 0, none⟩ = false) : Acc w w B v := by
  refine ⟨rfl, rfl, rfl, Nat.le_refl _, fun _ _ _ => rfl, ?_, hc, hf⟩
  by_cases hh : B < w.heap.size
  · exact hh
  · simp [World.cell?, Array.getElem?_eq_none (show w.heap.size ≤ B by omega)] at hc

theorem Acc.set {w0 w : World} {B : Nat} {v : Value} (h : Acc w0 w B v) (u : Value) : Acc w0 (w.setCell ⟨B, 0, none⟩ u) B u := by
  refine ⟨h.os, h.tape, h.output, by simp [World.setCell]; exact h.size, fun k hk hB => ?_, h.old, ?_, ?_⟩
  · simp only [World.setCell, Array.getElem?_modify]
    rw [if_neg (fun e => hB e.symm)]
    exact h.block k hk hB
  · apply World.cell?_setCell_same; exact h.cell
  · rw [World.frozen?_setCell]; exact h.free

theorem Acc.drewN {w0 w : World} {B : Nat} {v : Value} (h : Acc w0 w B v) (n : Nat) : Acc w0 (w.drewN n) B v := ⟨h.os, h.tape, h.output, h.size, h.block, h.old, h.cell, h.free⟩

/-- Three cells of a block. -/
def Trio (w : World) (G : Nat) (y0 y1 y2 : Value) : Prop := w.heap[G]? = some (.cells #[y0, y1, y2] 85 (0, 0))

theorem Trio.c0 {w : World} {G : Nat} {y0 y1 y2 : Value} (h : Trio w G y0 y1 y2) : w.cell? ⟨G, 0, none⟩ = some y0 := by unfold Trio at h; simp [World.cell?, h]
theorem Trio.c1 {w : World} {G : Nat} {y0 y1 y2 : Value} (h : Trio w G y0 y1 y2) : w.cell? ⟨G, 1, none⟩ = some y1 := by unfold Trio at h; simp [World.cell?, h]
theorem Trio.c2 {w : World} {G : Nat} {y0 y1 y2 : Value} (h : Trio w G y0 y1 y2) : w.cell? ⟨G, 2, none⟩ = some y2 := by unfold Trio at h; simp [World.cell?, h]
theorem Trio.free {w : World} {G : Nat} {y0 y1 y2 : Value} (h : Trio w G y0 y1 y2) (i : Nat) : w.frozen? ⟨G, i, none⟩ = false := by unfold Trio at h; simp [World.frozen?, h]
theorem Trio.acc {w w' : World} {G B : Nat} {y0 y1 y2 v : Value} (h : Trio w G y0 y1 y2) (ha : Acc w w' B v) (hG : G ≠ B) : Trio w' G y0 y1 y2 := by
  have hlt : G < w.heap.size := by
    by_cases hh : G < w.heap.size
    · exact hh
    · unfold Trio at h; rw [Array.getElem?_eq_none (by omega)] at h; cases h
  unfold Trio at *
  rw [ha.block G hlt hG]; exact h
theorem Trio.set0 {w : World} {G : Nat} {y0 y1 y2 : Value} (h : Trio w G y0 y1 y2) (u : Value) : Trio (w.setCell ⟨G, 0, none⟩ u) G u y1 y2 := by
  unfold Trio at *; simp [World.setCell, Array.getElem?_modify, h]
theorem Trio.set1 {w : World} {G : Nat} {y0 y1 y2 : Value} (h : Trio w G y0 y1 y2) (u : Value) : Trio (w.setCell ⟨G, 1, none⟩ u) G y0 u y2 := by
  unfold Trio at *; simp [World.setCell, Array.getElem?_modify, h]
theorem Trio.set2 {w : World} {G : Nat} {y0 y1 y2 : Value} (h : Trio w G y0 y1 y2) (u : Value) : Trio (w.setCell ⟨G, 2, none⟩ u) G y0 y1 u := by
  unfold Trio at *; simp [World.setCell, Array.getElem?_modify, h]
theorem Trio.other {w : World} {G G' : Nat} {y0 y1 y2 : Value} (h : Trio w G y0 y1 y2) (i : Nat) (u : Value) (hne : G' ≠ G) : Trio (w.setCell ⟨G', i, none⟩ u) G y0 y1 y2 := by
  unfold Trio at *; simp only [World.setCell, Array.getElem?_modify]; rw [if_neg hne]; exact h

/-- A write to a new block. -/
theorem Acc.setNew {w0 w : World} {B : Nat} {v : Value} (h : Acc w0 w B v) (G i : Nat) (u : Value) (hG : w0.heap.size ≤ G) : Acc w0 (w.setCell ⟨G, i, none⟩ u) B v := by
  have hne : G ≠ B := by have := h.old; omega
  refine ⟨h.os, h.tape, h.output, by simp [World.setCell]; exact h.size, fun k hk hB => ?_, h.old, ?_, ?_⟩
  · simp only [World.setCell, Array.getElem?_modify]
    rw [if_neg (by omega)]
    exact h.block k hk hB
  · rw [World.cell?_setCell_other]
    · exact h.cell
    · intro e; exact hne (congrArg Addr.block e)
  · rw [World.frozen?_setCell]; exact h.free
theorem Acc.alloc {w0 w : World} {B : Nat} {v : Value} (h : Acc w0 w B v) (o : Obj) : Acc w0 (w.alloc o) B v := by
  have hlt : ∀ k, k < w.heap.size → (w.alloc o).heap[k]? = w.heap[k]? := fun k hk => by
    show (w.heap.push o)[k]? = _
    rw [Array.getElem?_push, if_neg (by omega)]
  have hB := Nat.lt_of_lt_of_le h.old h.size
  refine ⟨h.os, h.tape, h.output, ?_, fun k hk hB => ?_, h.old, ?_, ?_⟩
  · show _ ≤ (w.heap.push o).size
    have := h.size
    simp; omega
  · rw [hlt k (Nat.lt_of_lt_of_le hk h.size)]; exact h.block k hk hB
  · rw [← h.cell]; exact World.cell?_of_block (w := w) (a := ⟨B, 0, none⟩) (hlt B hB)
  · have : ((w.alloc o).frozen? ⟨B, 0, none⟩) = w.frozen? ⟨B, 0, none⟩ := by simp only [World.frozen?, hlt B hB]
    rw [this]; exact h.free

theorem trio_a (w : World) (x y z : Value) (o : Obj) : Trio ((w.alloc (.cells #[x, y, z] 85)).alloc o) w.heap.size x y z := by
  show ((w.heap.push _).push o)[w.heap.size]? = _
  rw [Array.getElem?_push, if_neg (by simp), Array.getElem?_push_size]
theorem trio_b (w : World) (o : Obj) (x y z : Value) : Trio ((w.alloc o).alloc (.cells #[x, y, z] 85)) (w.heap.size + 1) x y z := by
  show ((w.heap.push o).push _)[w.heap.size + 1]? = _
  have : w.heap.size + 1 = (w.heap.push o).size := by simp
  rw [this, Array.getElem?_push_size]

/-- What is made of each word, the least first, while the number at B goes from v0 to v1, v2 and v3. -/
theorem upward_any (K : Nat) (caps : Array Value) (B : Nat) (v0 v1 v2 v3 : Value) (x0 x1 x2 y0 y1 y2 : Int) (w : World) (h : Acc w w B v0) (hK : ∀ args w, (callFunc K args).run Tryz.prog w = .ok (.enter K args) w)
    (s0 : ∀ w', Acc w w' B v0 → Calls Tryz.prog K (#[.int .u32 x0] ++ caps) w' fun e w'' => e = .returned (.int .u32 y0) ∧ Acc w' w'' B v1)
    (s1 : ∀ w', Acc w w' B v1 → Calls Tryz.prog K (#[.int .u32 x1] ++ caps) w' fun e w'' => e = .returned (.int .u32 y1) ∧ Acc w' w'' B v2)
    (s2 : ∀ w', Acc w w' B v2 → Calls Tryz.prog K (#[.int .u32 x2] ++ caps) w' fun e w'' => e = .returned (.int .u32 y2) ∧ Acc w' w'' B v3) :
    Calls Tryz.prog 121 #[.agg #[.int .u32 x0, .int .u32 x1, .int .u32 x2], .func (.func K) #[] caps] w fun e w' => e = .returned (.agg #[.int .u32 y0, .int .u32 y1, .int .u32 y2]) ∧ Acc w w' B v3 := by
  have HS0 : Hid (∀ w', Acc w w' B v0 → Calls Tryz.prog K (#[.int .u32 x0] ++ caps) w' fun e w'' => e = .returned (.int .u32 y0) ∧ Acc w' w'' B v1) := s0
  have HS1 : Hid (∀ w', Acc w w' B v1 → Calls Tryz.prog K (#[.int .u32 x1] ++ caps) w' fun e w'' => e = .returned (.int .u32 y1) ∧ Acc w' w'' B v2) := s1
  have HS2 : Hid (∀ w', Acc w w' B v2 → Calls Tryz.prog K (#[.int .u32 x2] ++ caps) w' fun e w'' => e = .returned (.int .u32 y2) ∧ Acc w' w'' B v3) := s2
  have HA : Hid (Acc w w B v0) := h
  clear s0 s1 s2 h
  go_enter Tryz.func121, Tryz.ntmps121
  go_wp2_with fail
  refine wp_loop_rounds 4 ?_
  rw [rounds_succ]
  go_wp2_with fail
  refine (HS0.out _ ((HA.out.alloc _).alloc _)).mono ?_
  rintro e w1 ⟨rfl, h1⟩
  have hB := HA.out.old
  have T1 : Trio w1 w.heap.size (.int .u32 x0) (.int .u32 x1) (.int .u32 x2) := (trio_a _ _ _ _ _).acc h1 (by omega)
  have R1 : Trio w1 (w.heap.size + 1) (.int .u32 0) (.int .u32 0) (.int .u32 0) := (trio_b _ _ _ _ _).acc h1 (by omega)
  have A1 := ((HA.out.alloc _).alloc _).trans h1
  have c0 := T1.c0
  have f0 := T1.free 0
  have T1' := T1.set0 (.int .u32 y0)
  have d1 := T1'.c1
  have HT : Hid (Trio (w1.setCell ⟨w.heap.size, 0, none⟩ (.int .u32 y0)) w.heap.size (.int .u32 y0) (.int .u32 x1) (.int .u32 x2)) := T1'
  have HR : Hid (Trio (w1.setCell ⟨w.heap.size, 0, none⟩ (.int .u32 y0)) (w.heap.size + 1) (.int .u32 0) (.int .u32 0) (.int .u32 0)) := R1.other _ _ (by omega)
  have HA1 : Hid (Acc w (w1.setCell ⟨w.heap.size, 0, none⟩ (.int .u32 y0)) B v1) := A1.setNew _ _ _ (Nat.le_refl _)
  clear h1 T1 R1 A1 T1' HA HS0
  go_wp2_with fail
  rw [rounds_succ]
  go_wp2_with fail
  refine (HS1.out _ HA1.out).mono ?_
  rintro e w2 ⟨rfl, h2⟩
  have T2 := HT.out.acc h2 (by omega)
  have R2 := HR.out.acc h2 (by omega)
  have A2 := HA1.out.trans h2
  clear c0 f0 d1 HT HR HA1 HS1 h2
  have c1 := T2.c1
  have f1 := T2.free 1
  have T2' := T2.set1 (.int .u32 y1)
  have d2 := T2'.c2
  have HT : Hid (Trio (w2.setCell ⟨w.heap.size, 1, none⟩ (.int .u32 y1)) w.heap.size (.int .u32 y0) (.int .u32 y1) (.int .u32 x2)) := T2'
  have HR : Hid (Trio (w2.setCell ⟨w.heap.size, 1, none⟩ (.int .u32 y1)) (w.heap.size + 1) (.int .u32 0) (.int .u32 0) (.int .u32 0)) := R2.other _ _ (by omega)
  have HA2 : Hid (Acc w (w2.setCell ⟨w.heap.size, 1, none⟩ (.int .u32 y1)) B v2) := A2.setNew _ _ _ (Nat.le_refl _)
  clear T2 R2 A2 T2'
  go_wp2_with fail
  rw [rounds_succ]
  go_wp2_with fail
  refine (HS2.out _ HA2.out).mono ?_
  rintro e w3 ⟨rfl, h3⟩
  have T3 := HT.out.acc h3 (by omega)
  have R3 := HR.out.acc h3 (by omega)
  have A3 := HA2.out.trans h3
  clear c1 f1 d2 HT HR HA2 HS2 h3
  have c2 := T3.c2
  have f2 := T3.free 2
  have T3' := T3.set2 (.int .u32 y2)
  have R3' := R3.other (G' := w.heap.size) 2 (.int .u32 y2) (by omega)
  have e0 := T3'.c0
  have e1 := T3'.c1
  have e2 := T3'.c2
  have r0 := R3'.c0
  have r1 := R3'.c1
  have r2 := R3'.c2
  have g0 := R3'.free 0
  have g1 := R3'.free 1
  have g2 := R3'.free 2
  have HR3 : Hid (Trio (w3.setCell ⟨w.heap.size, 2, none⟩ (.int .u32 y2)) (w.heap.size + 1) (.int .u32 0) (.int .u32 0) (.int .u32 0)) := R3'
  have HA3 : Hid (Acc w (w3.setCell ⟨w.heap.size, 2, none⟩ (.int .u32 y2)) B v3) := A3.setNew _ _ _ (Nat.le_refl _)
  clear T3 R3 A3 T3' R3'
  go_wp2_with fail
  rw [rounds_succ]
  go_wp2_with fail
  have RR := ((HR3.out.set0 (.int .u32 y0)).set1 (.int .u32 y1)).set2 (.int .u32 y2)
  have AA := ((HA3.out.setNew (w.heap.size + 1) 0 (.int .u32 y0) (by omega)).setNew (w.heap.size + 1) 1 (.int .u32 y1) (by omega)).setNew (w.heap.size + 1) 2 (.int .u32 y2) (by omega)
  refine bodyPost_ret (v := .agg #[.int .u32 y0, .int .u32 y1, .int .u32 y2]) (by simp [results, Tryz.results121, RR.c0, RR.c1, RR.c2, go_sem]) rfl ⟨rfl, AA⟩

theorem below_set {B : Nat} {w w' : World} (h : Below B w w') (G i : Nat) (u : Value) (hG : B ≤ G) : Below B w (w'.setCell ⟨G, i, none⟩ u) := by
  refine ⟨h.os, h.tape, h.output, by simp [World.setCell]; exact h.size, fun k hk => ?_⟩
  rw [← h.block k hk]
  simp only [World.setCell, Array.getElem?_modify]
  rw [if_neg (by omega)]
theorem Acc.below {w0 w1 w : World} {B : Nat} {v : Value} (hb : Below w0.heap.size w0 w1) (h : Acc w1 w B v) (hB : w0.heap.size ≤ B) : Below w0.heap.size w0 w :=
  hb.trans ⟨h.os, h.tape, h.output, h.size, fun k hk => h.block k (Nat.lt_of_lt_of_le hk hb.size) (by omega)⟩

theorem trio_c (w : World) (cs : Array Value) (x y z u : Value) (T : TypeId) :
    ((((w.alloc (.cells cs 85)).alloc (.cells #[x, y, z] 85)).alloc (.cells #[u] T)).cell? ⟨w.heap.size + 1 + 1, 0, none⟩ = some u) ∧
    ((((w.alloc (.cells cs 85)).alloc (.cells #[x, y, z] 85)).alloc (.cells #[u] T)).frozen? ⟨w.heap.size + 1 + 1, 0, none⟩ = false) ∧
    Trio (((w.alloc (.cells cs 85)).alloc (.cells #[x, y, z] 85)).alloc (.cells #[u] T)) (w.heap.size + 1) x y z := by
  have e : (((w.heap.push (.cells cs 85)).push (.cells #[x, y, z] 85)).push (.cells #[u] T))[w.heap.size + 1 + 1]? = some (.cells #[u] T) := by
    have : w.heap.size + 1 + 1 = ((w.heap.push (.cells cs 85)).push (.cells #[x, y, z] 85)).size := by simp
    rw [this, Array.getElem?_push_size]
  refine ⟨?_, ?_, ?_⟩
  · simp only [World.cell?, World.alloc, e]; rfl
  · simp only [World.frozen?, World.alloc, e]; rfl
  · show (((w.heap.push _).push _).push _)[w.heap.size + 1]? = _
    rw [Array.getElem?_push, if_neg (by simp)]
    have : w.heap.size + 1 = (w.heap.push (.cells cs 85)).size := by simp
    rw [this, Array.getElem?_push_size]

theorem Trio.alloc {w : World} {G : Nat} {y0 y1 y2 : Value} (h : Trio w G y0 y1 y2) (o : Obj) : Trio (w.alloc o) G y0 y1 y2 := by
  have hlt : G < w.heap.size := by
    by_cases hh : G < w.heap.size
    · exact hh
    · unfold Trio at h; rw [Array.getElem?_eq_none (by omega)] at h; cases h
  unfold Trio at *
  show (w.heap.push o)[G]? = _
  rw [Array.getElem?_push, if_neg (by omega)]; exact h

theorem below_put {B : Nat} {w w' : World} (h : Below B w w') (G i j k : Nat) (u v x : Value) (hG : B ≤ G) : Below B w (((w'.setCell ⟨G, i, none⟩ u).setCell ⟨G, j, none⟩ v).setCell ⟨G, k, none⟩ x).drew :=
  (below_set (below_set (below_set h G i u hG) G j v hG) G k x hG).drew

theorem bel2 (w : World) (o1 o2 : Obj) : Below w.heap.size w ((w.alloc o1).alloc o2) := ((Below.refl _ _).alloc (Nat.le_refl _) o1).alloc (by simp) o2
theorem bel3 (w : World) (o1 o2 o3 : Obj) : Below w.heap.size w (((w.alloc o1).alloc o2).alloc o3) := (bel2 w o1 o2).alloc (by simp; omega) _

theorem Acc.keep {w0 w : World} {B M : Nat} {v u : Value} (h : Acc w0 w B v) (hc : w0.cell? ⟨M, 0, none⟩ = some u) (hM : M ≠ B) : w.cell? ⟨M, 0, none⟩ = some u := by
  have hlt : M < w0.heap.size := by
    by_cases hh : M < w0.heap.size
    · exact hh
    · simp [World.cell?, Array.getElem?_eq_none (show w0.heap.size ≤ M by omega)] at hc
  rw [← hc]
  exact World.cell?_of_block (w := w0) (a := ⟨M, 0, none⟩) (h.block M hlt hM)

theorem bel4 (w : World) (o1 o2 o3 o4 : Obj) : Below w.heap.size w ((((w.alloc o1).alloc o2).alloc o3).alloc o4) := (bel3 w o1 o2 o3).alloc (by simp; omega) _

theorem trio_d (w : World) (cs : Array Value) (m : Value) (T : TypeId) (x y z u : Value) (U : TypeId) :
    (((((w.alloc (.cells cs 85)).alloc (.cells #[m] T)).alloc (.cells #[x, y, z] 85)).alloc (.cells #[u] U)).cell? ⟨w.heap.size + 1 + 1 + 1, 0, none⟩ = some u) ∧
    (((((w.alloc (.cells cs 85)).alloc (.cells #[m] T)).alloc (.cells #[x, y, z] 85)).alloc (.cells #[u] U)).frozen? ⟨w.heap.size + 1 + 1 + 1, 0, none⟩ = false) ∧
    Trio ((((w.alloc (.cells cs 85)).alloc (.cells #[m] T)).alloc (.cells #[x, y, z] 85)).alloc (.cells #[u] U)) (w.heap.size + 1 + 1) x y z ∧
    ((((w.alloc (.cells cs 85)).alloc (.cells #[m] T)).alloc (.cells #[x, y, z] 85)).alloc (.cells #[u] U)).cell? ⟨w.heap.size + 1, 0, none⟩ = some m := by
  have s1 : w.heap.size + 1 = (w.heap.push (.cells cs 85)).size := by simp
  have s2 : w.heap.size + 1 + 1 = ((w.heap.push (.cells cs 85)).push (.cells #[m] T)).size := by simp
  have s3 : w.heap.size + 1 + 1 + 1 = (((w.heap.push (.cells cs 85)).push (.cells #[m] T)).push (.cells #[x, y, z] 85)).size := by simp
  have e : ((((w.heap.push (.cells cs 85)).push (.cells #[m] T)).push (.cells #[x, y, z] 85)).push (.cells #[u] U))[w.heap.size + 1 + 1 + 1]? = some (.cells #[u] U) := by
    rw [s3, Array.getElem?_push_size]
  have em : ((((w.heap.push (.cells cs 85)).push (.cells #[m] T)).push (.cells #[x, y, z] 85)).push (.cells #[u] U))[w.heap.size + 1]? = some (.cells #[m] T) := by
    rw [Array.getElem?_push, if_neg (by simp), Array.getElem?_push, if_neg (by simp), s1, Array.getElem?_push_size]
  refine ⟨?_, ?_, ?_, ?_⟩
  · simp only [World.cell?, World.alloc, e]; rfl
  · simp only [World.frozen?, World.alloc, e]; rfl
  · show ((((w.heap.push _).push _).push _).push _)[w.heap.size + 1 + 1]? = _
    rw [Array.getElem?_push, if_neg (by simp), s2, Array.getElem?_push_size]
  · simp only [World.cell?, World.alloc, em]; rfl

end Go.Proofs.YtlicdeppfhmfjaaGreatDoor.words
