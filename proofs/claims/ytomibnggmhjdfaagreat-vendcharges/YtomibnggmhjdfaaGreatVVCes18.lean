import Derived.Test.YtomibnggmhjdfaaGreatVVCes17
set_option linter.unusedVariables false
set_option linter.unusedSimpArgs false
namespace Go.Proofs.YtomibnggmhjdfaaGreat
namespace book
open Go.RowKit
set_option maxRecDepth 100000
def DecPost (w : World) (l : List Int) (e : Ending) (w' : World) : Prop := ∃ v f, e = .returned (.tuple #[Ev.v v, .int .i64 f]) ∧ DecIs l v f ∧ Below w.heap.size w w'
theorem list13 {l : List Int} (h : l.length = 13) : l = [l.getD 0 0, l.getD 1 0, l.getD 2 0, l.getD 3 0, l.getD 4 0, l.getD 5 0, l.getD 6 0, l.getD 7 0, l.getD 8 0, l.getD 9 0, l.getD 10 0, l.getD 11 0, l.getD 12 0] := (evL_Of h).symm
set_option maxHeartbeats 8000000 in
theorem rdecoded (a : Option Addr) (n cap : Nat) (l : List Int) (w : World) (hr : cell.RowU w a n l) (hw : ∀ x ∈ l, 0 ≤ x ∧ x < 4294967296) : Calls Tryz.prog 33 #[.slice a n cap] w fun e w' => DecPost w l e w' := by
 have HO0 : Hid (Blk (w.alloc (.cells #[.int .i64 0, .int .i64 0, .int .i64 0, .int .i64 0, .int .i64 0, .int .i64 0, .int .i64 0, .int .i64 0, .int .i64 0, .int .i64 0, .int .i64 0, .int .i64 0, .int .i64 0] 71)) w.heap.size #[.int .i64 0, .int .i64 0, .int .i64 0, .int .i64 0, .int .i64 0, .int .i64 0, .int .i64 0, .int .i64 0, .int .i64 0, .int .i64 0, .int .i64 0, .int .i64 0, .int .i64 0] 71) := Blk.new w _ _
 have HB0 : Hid (Below w.heap.size w (w.alloc (.cells #[.int .i64 0, .int .i64 0, .int .i64 0, .int .i64 0, .int .i64 0, .int .i64 0, .int .i64 0, .int .i64 0, .int .i64 0, .int .i64 0, .int .i64 0, .int .i64 0, .int .i64 0] 71))) := (Below.refl _ _).alloc (Nat.le_refl _) _
 have hl := hr.1
 by_cases hn : n = 13
 ·subst hn
  have hl13 := list13 hl
  have HLN : Hid (l.length = 13) := hl
  obtain ⟨bl, off, rfl, hbl, hc⟩ := hr.at (by decide)
  have HEV : Hid (evOf l = ⟨l.getD 0 0, l.getD 1 0, l.getD 2 0, l.getD 3 0, l.getD 4 0, l.getD 5 0, l.getD 6 0, l.getD 7 0, l.getD 8 0, l.getD 9 0, l.getD 10 0, l.getD 11 0, l.getD 12 0⟩) := rfl
  have x0 := hw (l.getD 0 0) (by rw [hl13]; simp)
  have x1 := hw (l.getD 1 0) (by rw [hl13]; simp)
  have x2 := hw (l.getD 2 0) (by rw [hl13]; simp)
  have x3 := hw (l.getD 3 0) (by rw [hl13]; simp)
  have x4 := hw (l.getD 4 0) (by rw [hl13]; simp)
  have x5 := hw (l.getD 5 0) (by rw [hl13]; simp)
  have x6 := hw (l.getD 6 0) (by rw [hl13]; simp)
  have x7 := hw (l.getD 7 0) (by rw [hl13]; simp)
  have x8 := hw (l.getD 8 0) (by rw [hl13]; simp)
  have x9 := hw (l.getD 9 0) (by rw [hl13]; simp)
  have x10 := hw (l.getD 10 0) (by rw [hl13]; simp)
  have x11 := hw (l.getD 11 0) (by rw [hl13]; simp)
  have x12 := hw (l.getD 12 0) (by rw [hl13]; simp)
  have HC0 : Hid (∀ W, Below w.heap.size w W → W.cell? ⟨bl, off, none⟩ = some (.int .u32 (l.getD 0 0))) := fun W hB => (hB.cell (p := ⟨bl, off + 0, none⟩) hbl).trans (hc 0 (by decide))
  have HC1 : Hid (∀ W, Below w.heap.size w W → W.cell? ⟨bl, off + 1, none⟩ = some (.int .u32 (l.getD 1 0))) := fun W hB => (hB.cell (p := ⟨bl, off + 1, none⟩) hbl).trans (hc 1 (by decide))
  have HC2 : Hid (∀ W, Below w.heap.size w W → W.cell? ⟨bl, off + 2, none⟩ = some (.int .u32 (l.getD 2 0))) := fun W hB => (hB.cell (p := ⟨bl, off + 2, none⟩) hbl).trans (hc 2 (by decide))
  have HC3 : Hid (∀ W, Below w.heap.size w W → W.cell? ⟨bl, off + 3, none⟩ = some (.int .u32 (l.getD 3 0))) := fun W hB => (hB.cell (p := ⟨bl, off + 3, none⟩) hbl).trans (hc 3 (by decide))
  have HC4 : Hid (∀ W, Below w.heap.size w W → W.cell? ⟨bl, off + 4, none⟩ = some (.int .u32 (l.getD 4 0))) := fun W hB => (hB.cell (p := ⟨bl, off + 4, none⟩) hbl).trans (hc 4 (by decide))
  have HC5 : Hid (∀ W, Below w.heap.size w W → W.cell? ⟨bl, off + 5, none⟩ = some (.int .u32 (l.getD 5 0))) := fun W hB => (hB.cell (p := ⟨bl, off + 5, none⟩) hbl).trans (hc 5 (by decide))
  have HC6 : Hid (∀ W, Below w.heap.size w W → W.cell? ⟨bl, off + 6, none⟩ = some (.int .u32 (l.getD 6 0))) := fun W hB => (hB.cell (p := ⟨bl, off + 6, none⟩) hbl).trans (hc 6 (by decide))
  have HC7 : Hid (∀ W, Below w.heap.size w W → W.cell? ⟨bl, off + 7, none⟩ = some (.int .u32 (l.getD 7 0))) := fun W hB => (hB.cell (p := ⟨bl, off + 7, none⟩) hbl).trans (hc 7 (by decide))
  have HC8 : Hid (∀ W, Below w.heap.size w W → W.cell? ⟨bl, off + 8, none⟩ = some (.int .u32 (l.getD 8 0))) := fun W hB => (hB.cell (p := ⟨bl, off + 8, none⟩) hbl).trans (hc 8 (by decide))
  have HC9 : Hid (∀ W, Below w.heap.size w W → W.cell? ⟨bl, off + 9, none⟩ = some (.int .u32 (l.getD 9 0))) := fun W hB => (hB.cell (p := ⟨bl, off + 9, none⟩) hbl).trans (hc 9 (by decide))
  have HC10 : Hid (∀ W, Below w.heap.size w W → W.cell? ⟨bl, off + 10, none⟩ = some (.int .u32 (l.getD 10 0))) := fun W hB => (hB.cell (p := ⟨bl, off + 10, none⟩) hbl).trans (hc 10 (by decide))
  have HC11 : Hid (∀ W, Below w.heap.size w W → W.cell? ⟨bl, off + 11, none⟩ = some (.int .u32 (l.getD 11 0))) := fun W hB => (hB.cell (p := ⟨bl, off + 11, none⟩) hbl).trans (hc 11 (by decide))
  have HC12 : Hid (∀ W, Below w.heap.size w W → W.cell? ⟨bl, off + 12, none⟩ = some (.int .u32 (l.getD 12 0))) := fun W hB => (hB.cell (p := ⟨bl, off + 12, none⟩) hbl).trans (hc 12 (by decide))
  clear hc hr hw hl hl13
  generalize l.getD 0 0 = y0 at *
  obtain ⟨x00, x01⟩ := x0
  generalize l.getD 1 0 = y1 at *
  obtain ⟨x10, x11⟩ := x1
  generalize l.getD 2 0 = y2 at *
  obtain ⟨x20, x21⟩ := x2
  generalize l.getD 3 0 = y3 at *
  obtain ⟨x30, x31⟩ := x3
  generalize l.getD 4 0 = y4 at *
  obtain ⟨x40, x41⟩ := x4
  generalize l.getD 5 0 = y5 at *
  obtain ⟨x50, x51⟩ := x5
  generalize l.getD 6 0 = y6 at *
  obtain ⟨x60, x61⟩ := x6
  generalize l.getD 7 0 = y7 at *
  obtain ⟨x70, x71⟩ := x7
  generalize l.getD 8 0 = y8 at *
  obtain ⟨x80, x81⟩ := x8
  generalize l.getD 9 0 = y9 at *
  obtain ⟨x90, x91⟩ := x9
  generalize l.getD 10 0 = y10 at *
  obtain ⟨x100, x101⟩ := x10
  generalize l.getD 11 0 = y11 at *
  obtain ⟨x110, x111⟩ := x11
  generalize l.getD 12 0 = y12 at *
  obtain ⟨x120, x121⟩ := x12
  have HMY : Hid (∀ W, Calls Tryz.prog 35 #[.agg #[.int .i64 y0, .int .i64 y1, .int .i64 y2, .int .i64 y3, .int .i64 y4, .int .i64 y5, .int .i64 y6, .int .i64 y7, .int .i64 y8, .int .i64 y9, .int .i64 y10, .int .i64 y11, .int .i64 y12]] W fun e w' => MayPost W ⟨y0, y1, y2, y3, y4, y5, y6, y7, y8, y9, y10, y11, y12⟩ e w') := fun W => rmay ⟨y0, y1, y2, y3, y4, y5, y6, y7, y8, y9, y10, y11, y12⟩ W
  go_enter Tryz.func33, Tryz.ntmps33
  go_upto_region 3 with fail
  generalize (w.alloc (.cells #[.int .i64 0, .int .i64 0, .int .i64 0, .int .i64 0, .int .i64 0, .int .i64 0, .int .i64 0, .int .i64 0, .int .i64 0, .int .i64 0, .int .i64 0, .int .i64 0, .int .i64 0] 71)) = W0 at *
  refine wp_region_held_drew (S := fun v => Below w.heap.size w v) (by kernel_rfl) HB0.out.drew (fun hHeld => ?_)
  refine zqs 0 10 (.slice (some ⟨bl, off, none⟩) 13 cap) rfl rfl (by kernel_rfl) (fun _ _ _ h => h) rfl (fun v hv => by clear hv; go_simp) hHeld ?_
  simp only [Act.put, zqa, zqb, zqc]
  refine zqs 1 11 (.pointer (some ⟨bl, off + 3, none⟩)) rfl rfl (by kernel_rfl) (fun _ _ _ h => h) rfl (fun v hv => by clear hv; go_simp) hHeld ?_
  simp only [Act.put, zqa, zqb, zqc]
  refine zqt 2 12 (.int .u32 y3) rfl rfl (by kernel_rfl) (fun _ _ _ h => h) (Or.inl ⟨by rfl, fun v hv => by have h2 := HC3.out v hv; clear hv; go_simp⟩) hHeld ?_
  simp only [Act.put, zqa, zqb, zqc]
  refine zqt 3 13 (.int .i64 y3) rfl rfl (by kernel_rfl) (fun _ _ _ h => h) (Or.inl ⟨by rfl, fun v hv => by have h2 : IntKind.i64.wrap y3 = y3 := (by rw [IntKind.wrap_i64]; omega); clear hv; go_simp⟩) hHeld ?_
  simp only [Act.put, zqa, zqb, zqc]
  refine zqs 4 14 (.slice (some ⟨bl, off, none⟩) 13 cap) rfl rfl (by kernel_rfl) (fun _ _ _ h => h) rfl (fun v hv => by clear hv; go_simp) hHeld ?_
  simp only [Act.put, zqa, zqb, zqc]
  refine zqs 5 15 (.pointer (some ⟨bl, off + 4, none⟩)) rfl rfl (by kernel_rfl) (fun _ _ _ h => h) rfl (fun v hv => by clear hv; go_simp) hHeld ?_
  simp only [Act.put, zqa, zqb, zqc]
  refine zqt 6 16 (.int .u32 y4) rfl rfl (by kernel_rfl) (fun _ _ _ h => h) (Or.inl ⟨by rfl, fun v hv => by have h2 := HC4.out v hv; clear hv; go_simp⟩) hHeld ?_
  simp only [Act.put, zqa, zqb, zqc]
  refine zqt 7 17 (.int .i64 y4) rfl rfl (by kernel_rfl) (fun _ _ _ h => h) (Or.inl ⟨by rfl, fun v hv => by have h2 : IntKind.i64.wrap y4 = y4 := (by rw [IntKind.wrap_i64]; omega); clear hv; go_simp⟩) hHeld ?_
  simp only [Act.put, zqa, zqb, zqc]
  refine zqs 8 18 (.slice (some ⟨bl, off, none⟩) 13 cap) rfl rfl (by kernel_rfl) (fun _ _ _ h => h) rfl (fun v hv => by clear hv; go_simp) hHeld ?_
  simp only [Act.put, zqa, zqb, zqc]
  refine zqs 9 19 (.pointer (some ⟨bl, off + 5, none⟩)) rfl rfl (by kernel_rfl) (fun _ _ _ h => h) rfl (fun v hv => by clear hv; go_simp) hHeld ?_
  simp only [Act.put, zqa, zqb, zqc]
  refine zqt 10 20 (.int .u32 y5) rfl rfl (by kernel_rfl) (fun _ _ _ h => h) (Or.inl ⟨by rfl, fun v hv => by have h2 := HC5.out v hv; clear hv; go_simp⟩) hHeld ?_
  simp only [Act.put, zqa, zqb, zqc]
  refine zqt 11 21 (.int .i64 y5) rfl rfl (by kernel_rfl) (fun _ _ _ h => h) (Or.inl ⟨by rfl, fun v hv => by have h2 : IntKind.i64.wrap y5 = y5 := (by rw [IntKind.wrap_i64]; omega); clear hv; go_simp⟩) hHeld ?_
  simp only [Act.put, zqa, zqb, zqc]
  refine zqs 12 22 (.slice (some ⟨bl, off, none⟩) 13 cap) rfl rfl (by kernel_rfl) (fun _ _ _ h => h) rfl (fun v hv => by clear hv; go_simp) hHeld ?_
  simp only [Act.put, zqa, zqb, zqc]
  refine zqs 13 23 (.pointer (some ⟨bl, off + 6, none⟩)) rfl rfl (by kernel_rfl) (fun _ _ _ h => h) rfl (fun v hv => by clear hv; go_simp) hHeld ?_
  simp only [Act.put, zqa, zqb, zqc]
  refine zqt 14 24 (.int .u32 y6) rfl rfl (by kernel_rfl) (fun _ _ _ h => h) (Or.inl ⟨by rfl, fun v hv => by have h2 := HC6.out v hv; clear hv; go_simp⟩) hHeld ?_
  simp only [Act.put, zqa, zqb, zqc]
  refine zqt 15 25 (.int .i64 y6) rfl rfl (by kernel_rfl) (fun _ _ _ h => h) (Or.inl ⟨by rfl, fun v hv => by have h2 : IntKind.i64.wrap y6 = y6 := (by rw [IntKind.wrap_i64]; omega); clear hv; go_simp⟩) hHeld ?_
  simp only [Act.put, zqa, zqb, zqc]
  refine zqs 16 26 (.slice (some ⟨bl, off, none⟩) 13 cap) rfl rfl (by kernel_rfl) (fun _ _ _ h => h) rfl (fun v hv => by clear hv; go_simp) hHeld ?_
  simp only [Act.put, zqa, zqb, zqc]
  refine zqs 17 27 (.pointer (some ⟨bl, off + 7, none⟩)) rfl rfl (by kernel_rfl) (fun _ _ _ h => h) rfl (fun v hv => by clear hv; go_simp) hHeld ?_
  simp only [Act.put, zqa, zqb, zqc]
  refine zqt 18 28 (.int .u32 y7) rfl rfl (by kernel_rfl) (fun _ _ _ h => h) (Or.inl ⟨by rfl, fun v hv => by have h2 := HC7.out v hv; clear hv; go_simp⟩) hHeld ?_
  simp only [Act.put, zqa, zqb, zqc]
  refine zqt 19 29 (.int .i64 y7) rfl rfl (by kernel_rfl) (fun _ _ _ h => h) (Or.inl ⟨by rfl, fun v hv => by have h2 : IntKind.i64.wrap y7 = y7 := (by rw [IntKind.wrap_i64]; omega); clear hv; go_simp⟩) hHeld ?_
  simp only [Act.put, zqa, zqb, zqc]
  refine zqs 20 30 (.slice (some ⟨bl, off, none⟩) 13 cap) rfl rfl (by kernel_rfl) (fun _ _ _ h => h) rfl (fun v hv => by clear hv; go_simp) hHeld ?_
  simp only [Act.put, zqa, zqb, zqc]
  refine zqs 21 31 (.pointer (some ⟨bl, off + 8, none⟩)) rfl rfl (by kernel_rfl) (fun _ _ _ h => h) rfl (fun v hv => by clear hv; go_simp) hHeld ?_
  simp only [Act.put, zqa, zqb, zqc]
  refine zqt 22 32 (.int .u32 y8) rfl rfl (by kernel_rfl) (fun _ _ _ h => h) (Or.inl ⟨by rfl, fun v hv => by have h2 := HC8.out v hv; clear hv; go_simp⟩) hHeld ?_
  simp only [Act.put, zqa, zqb, zqc]
  refine zqt 23 33 (.int .i64 y8) rfl rfl (by kernel_rfl) (fun _ _ _ h => h) (Or.inl ⟨by rfl, fun v hv => by have h2 : IntKind.i64.wrap y8 = y8 := (by rw [IntKind.wrap_i64]; omega); clear hv; go_simp⟩) hHeld ?_
  simp only [Act.put, zqa, zqb, zqc]
  refine zqs 24 34 (.slice (some ⟨bl, off, none⟩) 13 cap) rfl rfl (by kernel_rfl) (fun _ _ _ h => h) rfl (fun v hv => by clear hv; go_simp) hHeld ?_
  simp only [Act.put, zqa, zqb, zqc]
  refine zqs 25 35 (.pointer (some ⟨bl, off + 9, none⟩)) rfl rfl (by kernel_rfl) (fun _ _ _ h => h) rfl (fun v hv => by clear hv; go_simp) hHeld ?_
  simp only [Act.put, zqa, zqb, zqc]
  refine zqt 26 36 (.int .u32 y9) rfl rfl (by kernel_rfl) (fun _ _ _ h => h) (Or.inl ⟨by rfl, fun v hv => by have h2 := HC9.out v hv; clear hv; go_simp⟩) hHeld ?_
  simp only [Act.put, zqa, zqb, zqc]
  refine zqt 27 37 (.int .i64 y9) rfl rfl (by kernel_rfl) (fun _ _ _ h => h) (Or.inl ⟨by rfl, fun v hv => by have h2 : IntKind.i64.wrap y9 = y9 := (by rw [IntKind.wrap_i64]; omega); clear hv; go_simp⟩) hHeld ?_
  simp only [Act.put, zqa, zqb, zqc]
  refine zqs 28 38 (.agg #[.int .i64 y3, .int .i64 y4, .int .i64 y5, .int .i64 y6, .int .i64 y7, .int .i64 y8, .int .i64 y9]) rfl rfl (by kernel_rfl) (fun _ _ _ h => h) rfl (fun v hv => by clear hv; go_simp) hHeld ?_
  simp only [Act.put, zqa, zqb, zqc]
  have HB1 : Hid (Below w.heap.size w W0.drew) := HB0.out.drew
  have HO1 : Hid (Blk W0.drew w.heap.size #[.int .i64 0, .int .i64 0, .int .i64 0, .int .i64 0, .int .i64 0, .int .i64 0, .int .i64 0, .int .i64 0, .int .i64 0, .int .i64 0, .int .i64 0, .int .i64 0, .int .i64 0] 71) := HO0.out
  clear HB0 HO0
  generalize hU0 : W0.drew = U at *
  clear hU0
  refine zqo 29 (by kernel_rfl) rfl (fun K hK => ?_)
  rw [if_pos (by rfl)]
  have HBA : Hid (Below w.heap.size w (U.alloc (.cells #[.int .i64 0, .int .i64 0, .int .i64 0, .int .i64 0, .int .i64 0, .int .i64 0, .int .i64 0] 69))) := HB1.out.alloc HB1.out.size _
  have HSU : Hid (w.heap.size ≤ U.heap.size) := HB1.out.size
  have HO1a : Hid (Blk (U.alloc (.cells #[.int .i64 0, .int .i64 0, .int .i64 0, .int .i64 0, .int .i64 0, .int .i64 0, .int .i64 0] 69)) w.heap.size #[.int .i64 0, .int .i64 0, .int .i64 0, .int .i64 0, .int .i64 0, .int .i64 0, .int .i64 0, .int .i64 0, .int .i64 0, .int .i64 0, .int .i64 0, .int .i64 0, .int .i64 0] 71) := HO1.out.alloc _
  have HO1l : Hid (w.heap.size < U.heap.size) := HO1.out.lt
  have HGA : Hid (Blk (U.alloc (.cells #[.int .i64 0, .int .i64 0, .int .i64 0, .int .i64 0, .int .i64 0, .int .i64 0, .int .i64 0] 69)) U.heap.size #[.int .i64 0, .int .i64 0, .int .i64 0, .int .i64 0, .int .i64 0, .int .i64 0, .int .i64 0] 69) := Blk.new _ _ _
  refine wp_runOp (v := .pointer (some ⟨U.heap.size, 0, none⟩)) (w' := (U.alloc (.cells #[.int .i64 0, .int .i64 0, .int .i64 0, .int .i64 0, .int .i64 0, .int .i64 0, .int .i64 0] 69))) 4 rfl (by clear hK; go_simp) ?_
  refine hK.out _ _ HBA.out (fun hHeld => ?_)
  clear hK HB1 HO1
  simp only [Act.put, zqa, zqb, zqc]
  generalize U.heap.size = gb at *
  generalize U.alloc _ = U2 at *
  refine zqo 30 (by kernel_rfl) rfl (fun K hK => ?_)
  rw [if_pos (by rfl)]
  refine wp_letOp 69 _ _ rfl gb rfl #[.int .i64 y3, .int .i64 y4, .int .i64 y5, .int .i64 y6, .int .i64 y7, .int .i64 y8, .int .i64 y9] rfl (by kernel_rfl) (by simp [Value.oneCell']) #[.int .i64 0, .int .i64 0, .int .i64 0, .int .i64 0, .int .i64 0, .int .i64 0, .int .i64 0] 69 HGA.out rfl rfl ?_
  intro W1 hU
  have HB1z : Hid (Below w.heap.size w W1) := hU.bel _ _ HSU.out HBA.out
  have Hgb : Hid (Blk W1 gb #[.int .i64 y3, .int .i64 y4, .int .i64 y5, .int .i64 y6, .int .i64 y7, .int .i64 y8, .int .i64 y9] 69) := hU.blk
  have HO1z : Hid (Blk W1 w.heap.size #[.int .i64 0, .int .i64 0, .int .i64 0, .int .i64 0, .int .i64 0, .int .i64 0, .int .i64 0, .int .i64 0, .int .i64 0, .int .i64 0, .int .i64 0, .int .i64 0, .int .i64 0] 71) := hU.keep HO1a.out (by have := HO1l.out; omega)
  refine hK.out _ _ HB1z.out (fun hHeld => ?_)
  clear hK hU HBA HGA HSU HO1a HO1l
  refine wpAnyH_done (by kernel_rfl) ?_ _
  clear hHeld
  go_upto_region 4 with fail
  have HD0 : Hid (∀ W, Below W1.heap.size W1 W → W.cell? ⟨bl, off, none⟩ = some (.int .u32 y0)) := fun W hB => HC0.out W (HB1z.out.trans (hB.mono HB1z.out.size))
  have HD1 : Hid (∀ W, Below W1.heap.size W1 W → W.cell? ⟨bl, off + 1, none⟩ = some (.int .u32 y1)) := fun W hB => HC1.out W (HB1z.out.trans (hB.mono HB1z.out.size))
  have HD2 : Hid (∀ W, Below W1.heap.size W1 W → W.cell? ⟨bl, off + 2, none⟩ = some (.int .u32 y2)) := fun W hB => HC2.out W (HB1z.out.trans (hB.mono HB1z.out.size))
  have HD10 : Hid (∀ W, Below W1.heap.size W1 W → W.cell? ⟨bl, off + 10, none⟩ = some (.int .u32 y10)) := fun W hB => HC10.out W (HB1z.out.trans (hB.mono HB1z.out.size))
  have HD11 : Hid (∀ W, Below W1.heap.size W1 W → W.cell? ⟨bl, off + 11, none⟩ = some (.int .u32 y11)) := fun W hB => HC11.out W (HB1z.out.trans (hB.mono HB1z.out.size))
  have HD12 : Hid (∀ W, Below W1.heap.size W1 W → W.cell? ⟨bl, off + 12, none⟩ = some (.int .u32 y12)) := fun W hB => HC12.out W (HB1z.out.trans (hB.mono HB1z.out.size))
  clear HC0
  clear HC1
  clear HC2
  clear HC3
  clear HC4
  clear HC5
  clear HC6
  clear HC7
  clear HC8
  clear HC9
  clear HC10
  clear HC11
  clear HC12
  have HS0 : Hid (Below W1.heap.size W1 W1.drew) := (Below.refl _ _).drew
  refine wp_region_held_drew (S := fun v => Below W1.heap.size W1 v) (by kernel_rfl) HS0.out (fun hHeld => ?_)
  refine zqs 0 39 (.slice (some ⟨bl, off, none⟩) 13 cap) rfl rfl (by kernel_rfl) (fun _ _ _ h => h) rfl (fun v hv => by clear hv; go_simp) hHeld ?_
  simp only [Act.put, zqa, zqb, zqc]
  refine zqs 1 40 (.pointer (some ⟨bl, off, none⟩)) rfl rfl (by kernel_rfl) (fun _ _ _ h => h) rfl (fun v hv => by clear hv; go_simp) hHeld ?_
  simp only [Act.put, zqa, zqb, zqc]
  refine zqt 2 41 (.int .u32 y0) rfl rfl (by kernel_rfl) (fun _ _ _ h => h) (Or.inl ⟨by rfl, fun v hv => by have h2 := HD0.out v hv; clear hv; go_simp⟩) hHeld ?_
  simp only [Act.put, zqa, zqb, zqc]
  refine zqt 3 42 (.int .i64 y0) rfl rfl (by kernel_rfl) (fun _ _ _ h => h) (Or.inl ⟨by rfl, fun v hv => by have h2 : IntKind.i64.wrap y0 = y0 := (by rw [IntKind.wrap_i64]; omega); clear hv; go_simp⟩) hHeld ?_
  simp only [Act.put, zqa, zqb, zqc]
  refine zqs 4 43 (.slice (some ⟨bl, off, none⟩) 13 cap) rfl rfl (by kernel_rfl) (fun _ _ _ h => h) rfl (fun v hv => by clear hv; go_simp) hHeld ?_
  simp only [Act.put, zqa, zqb, zqc]
  refine zqs 5 44 (.pointer (some ⟨bl, off + 1, none⟩)) rfl rfl (by kernel_rfl) (fun _ _ _ h => h) rfl (fun v hv => by clear hv; go_simp) hHeld ?_
  simp only [Act.put, zqa, zqb, zqc]
  refine zqt 6 45 (.int .u32 y1) rfl rfl (by kernel_rfl) (fun _ _ _ h => h) (Or.inl ⟨by rfl, fun v hv => by have h2 := HD1.out v hv; clear hv; go_simp⟩) hHeld ?_
  simp only [Act.put, zqa, zqb, zqc]
  refine zqt 7 46 (.int .i64 y1) rfl rfl (by kernel_rfl) (fun _ _ _ h => h) (Or.inl ⟨by rfl, fun v hv => by have h2 : IntKind.i64.wrap y1 = y1 := (by rw [IntKind.wrap_i64]; omega); clear hv; go_simp⟩) hHeld ?_
  simp only [Act.put, zqa, zqb, zqc]
  refine zqs 8 47 (.slice (some ⟨bl, off, none⟩) 13 cap) rfl rfl (by kernel_rfl) (fun _ _ _ h => h) rfl (fun v hv => by clear hv; go_simp) hHeld ?_
  simp only [Act.put, zqa, zqb, zqc]
  refine zqs 9 48 (.pointer (some ⟨bl, off + 2, none⟩)) rfl rfl (by kernel_rfl) (fun _ _ _ h => h) rfl (fun v hv => by clear hv; go_simp) hHeld ?_
  simp only [Act.put, zqa, zqb, zqc]
  refine zqt 10 49 (.int .u32 y2) rfl rfl (by kernel_rfl) (fun _ _ _ h => h) (Or.inl ⟨by rfl, fun v hv => by have h2 := HD2.out v hv; clear hv; go_simp⟩) hHeld ?_
  simp only [Act.put, zqa, zqb, zqc]
  refine zqt 11 50 (.int .i64 y2) rfl rfl (by kernel_rfl) (fun _ _ _ h => h) (Or.inl ⟨by rfl, fun v hv => by have h2 : IntKind.i64.wrap y2 = y2 := (by rw [IntKind.wrap_i64]; omega); clear hv; go_simp⟩) hHeld ?_
  simp only [Act.put, zqa, zqb, zqc]
  have HGB2 : Hid (∀ v, Below W1.heap.size W1 v → Blk v gb #[.int .i64 y3, .int .i64 y4, .int .i64 y5, .int .i64 y6, .int .i64 y7, .int .i64 y8, .int .i64 y9] 69) := fun v hv => Hgb.out.next hv
  refine zqt 12 51 (.agg #[.int .i64 y3, .int .i64 y4, .int .i64 y5, .int .i64 y6, .int .i64 y7, .int .i64 y8, .int .i64 y9]) rfl rfl (by kernel_rfl) (fun _ _ _ h => h) (yieldsIf_whole (by rfl) 69 _ rfl gb rfl 69 #[.int .i64 y3, .int .i64 y4, .int .i64 y5, .int .i64 y6, .int .i64 y7, .int .i64 y8, .int .i64 y9] _ (fun v hv => HGB2.out v hv) Tryz.underlying69 rfl (by kernel_rfl)) hHeld ?_
  simp only [Act.put, zqa, zqb, zqc]
  refine zqs 13 52 (.slice (some ⟨bl, off, none⟩) 13 cap) rfl rfl (by kernel_rfl) (fun _ _ _ h => h) rfl (fun v hv => by clear hv; go_simp) hHeld ?_
  simp only [Act.put, zqa, zqb, zqc]
  refine zqs 14 53 (.pointer (some ⟨bl, off + 10, none⟩)) rfl rfl (by kernel_rfl) (fun _ _ _ h => h) rfl (fun v hv => by clear hv; go_simp) hHeld ?_
  simp only [Act.put, zqa, zqb, zqc]
  refine zqt 15 54 (.int .u32 y10) rfl rfl (by kernel_rfl) (fun _ _ _ h => h) (Or.inl ⟨by rfl, fun v hv => by have h2 := HD10.out v hv; clear hv; go_simp⟩) hHeld ?_
  simp only [Act.put, zqa, zqb, zqc]
  refine zqt 16 55 (.int .i64 y10) rfl rfl (by kernel_rfl) (fun _ _ _ h => h) (Or.inl ⟨by rfl, fun v hv => by have h2 : IntKind.i64.wrap y10 = y10 := (by rw [IntKind.wrap_i64]; omega); clear hv; go_simp⟩) hHeld ?_
  simp only [Act.put, zqa, zqb, zqc]
  refine zqs 17 56 (.slice (some ⟨bl, off, none⟩) 13 cap) rfl rfl (by kernel_rfl) (fun _ _ _ h => h) rfl (fun v hv => by clear hv; go_simp) hHeld ?_
  simp only [Act.put, zqa, zqb, zqc]
  refine zqs 18 57 (.pointer (some ⟨bl, off + 11, none⟩)) rfl rfl (by kernel_rfl) (fun _ _ _ h => h) rfl (fun v hv => by clear hv; go_simp) hHeld ?_
  simp only [Act.put, zqa, zqb, zqc]
  refine zqt 19 58 (.int .u32 y11) rfl rfl (by kernel_rfl) (fun _ _ _ h => h) (Or.inl ⟨by rfl, fun v hv => by have h2 := HD11.out v hv; clear hv; go_simp⟩) hHeld ?_
  simp only [Act.put, zqa, zqb, zqc]
  refine zqt 20 59 (.int .i64 y11) rfl rfl (by kernel_rfl) (fun _ _ _ h => h) (Or.inl ⟨by rfl, fun v hv => by have h2 : IntKind.i64.wrap y11 = y11 := (by rw [IntKind.wrap_i64]; omega); clear hv; go_simp⟩) hHeld ?_
  simp only [Act.put, zqa, zqb, zqc]
  refine zqs 21 60 (.slice (some ⟨bl, off, none⟩) 13 cap) rfl rfl (by kernel_rfl) (fun _ _ _ h => h) rfl (fun v hv => by clear hv; go_simp) hHeld ?_
  simp only [Act.put, zqa, zqb, zqc]
  refine zqs 22 61 (.pointer (some ⟨bl, off + 12, none⟩)) rfl rfl (by kernel_rfl) (fun _ _ _ h => h) rfl (fun v hv => by clear hv; go_simp) hHeld ?_
  simp only [Act.put, zqa, zqb, zqc]
  refine zqt 23 62 (.int .u32 y12) rfl rfl (by kernel_rfl) (fun _ _ _ h => h) (Or.inl ⟨by rfl, fun v hv => by have h2 := HD12.out v hv; clear hv; go_simp⟩) hHeld ?_
  simp only [Act.put, zqa, zqb, zqc]
  refine zqt 24 63 (.int .i64 y12) rfl rfl (by kernel_rfl) (fun _ _ _ h => h) (Or.inl ⟨by rfl, fun v hv => by have h2 : IntKind.i64.wrap y12 = y12 := (by rw [IntKind.wrap_i64]; omega); clear hv; go_simp⟩) hHeld ?_
  simp only [Act.put, zqa, zqb, zqc]
  refine zqs 25 64 (.agg #[.int .i64 y11, .int .i64 y12]) rfl rfl (by kernel_rfl) (fun _ _ _ h => h) rfl (fun v hv => by clear hv; go_simp) hHeld ?_
  simp only [Act.put, zqa, zqb, zqc]
  refine zqs 26 65 (.agg #[.int .i64 y0, .int .i64 y1, .int .i64 y2, .int .i64 y3, .int .i64 y4, .int .i64 y5, .int .i64 y6, .int .i64 y7, .int .i64 y8, .int .i64 y9, .int .i64 y10, .int .i64 y11, .int .i64 y12]) rfl rfl (by kernel_rfl) (fun _ _ _ h => h) rfl (fun v hv => by clear hv; go_simp) hHeld ?_
  simp only [Act.put, zqa, zqb, zqc]
  have HO2 : Hid (Blk W1.drew w.heap.size #[.int .i64 0, .int .i64 0, .int .i64 0, .int .i64 0, .int .i64 0, .int .i64 0, .int .i64 0, .int .i64 0, .int .i64 0, .int .i64 0, .int .i64 0, .int .i64 0, .int .i64 0] 71) := HO1z.out
  clear HO1z Hgb HGB2
  generalize hU0 : W1.drew = U at *
  clear hU0
  refine zqo 27 (by kernel_rfl) rfl (fun K hK => ?_)
  rw [if_pos (by rfl)]
  have HBA : Hid (Below W1.heap.size W1 (U.alloc (.cells #[.int .i64 0, .int .i64 0, .int .i64 0, .int .i64 0, .int .i64 0, .int .i64 0, .int .i64 0, .int .i64 0, .int .i64 0, .int .i64 0, .int .i64 0, .int .i64 0, .int .i64 0] 71))) := HS0.out.alloc HS0.out.size _
  have HSU : Hid (W1.heap.size ≤ U.heap.size) := HS0.out.size
  have HO2a : Hid (Blk (U.alloc (.cells #[.int .i64 0, .int .i64 0, .int .i64 0, .int .i64 0, .int .i64 0, .int .i64 0, .int .i64 0, .int .i64 0, .int .i64 0, .int .i64 0, .int .i64 0, .int .i64 0, .int .i64 0] 71)) w.heap.size #[.int .i64 0, .int .i64 0, .int .i64 0, .int .i64 0, .int .i64 0, .int .i64 0, .int .i64 0, .int .i64 0, .int .i64 0, .int .i64 0, .int .i64 0, .int .i64 0, .int .i64 0] 71) := HO2.out.alloc _
  have HO2l : Hid (w.heap.size < U.heap.size) := HO2.out.lt
  have HGA : Hid (Blk (U.alloc (.cells #[.int .i64 0, .int .i64 0, .int .i64 0, .int .i64 0, .int .i64 0, .int .i64 0, .int .i64 0, .int .i64 0, .int .i64 0, .int .i64 0, .int .i64 0, .int .i64 0, .int .i64 0] 71)) U.heap.size #[.int .i64 0, .int .i64 0, .int .i64 0, .int .i64 0, .int .i64 0, .int .i64 0, .int .i64 0, .int .i64 0, .int .i64 0, .int .i64 0, .int .i64 0, .int .i64 0, .int .i64 0] 71) := Blk.new _ _ _
  refine wp_runOp (v := .pointer (some ⟨U.heap.size, 0, none⟩)) (w' := (U.alloc (.cells #[.int .i64 0, .int .i64 0, .int .i64 0, .int .i64 0, .int .i64 0, .int .i64 0, .int .i64 0, .int .i64 0, .int .i64 0, .int .i64 0, .int .i64 0, .int .i64 0, .int .i64 0] 71))) 5 rfl (by clear hK; go_simp) ?_
  refine hK.out _ _ HBA.out (fun hHeld => ?_)
  clear hK HS0 HO2
  simp only [Act.put, zqa, zqb, zqc]
  generalize U.heap.size = gv at *
  generalize U.alloc _ = U2 at *
  refine zqo 28 (by kernel_rfl) rfl (fun K hK => ?_)
  rw [if_pos (by rfl)]
  refine wp_letOp 71 _ _ rfl gv rfl #[.int .i64 y0, .int .i64 y1, .int .i64 y2, .int .i64 y3, .int .i64 y4, .int .i64 y5, .int .i64 y6, .int .i64 y7, .int .i64 y8, .int .i64 y9, .int .i64 y10, .int .i64 y11, .int .i64 y12] rfl (by kernel_rfl) (by simp [Value.oneCell']) #[.int .i64 0, .int .i64 0, .int .i64 0, .int .i64 0, .int .i64 0, .int .i64 0, .int .i64 0, .int .i64 0, .int .i64 0, .int .i64 0, .int .i64 0, .int .i64 0, .int .i64 0] 71 HGA.out rfl rfl ?_
  intro W2 hU
  have HS0z : Hid (Below W1.heap.size W1 W2) := hU.bel _ _ HSU.out HBA.out
  have Hgv : Hid (Blk W2 gv #[.int .i64 y0, .int .i64 y1, .int .i64 y2, .int .i64 y3, .int .i64 y4, .int .i64 y5, .int .i64 y6, .int .i64 y7, .int .i64 y8, .int .i64 y9, .int .i64 y10, .int .i64 y11, .int .i64 y12] 71) := hU.blk
  have HO2z : Hid (Blk W2 w.heap.size #[.int .i64 0, .int .i64 0, .int .i64 0, .int .i64 0, .int .i64 0, .int .i64 0, .int .i64 0, .int .i64 0, .int .i64 0, .int .i64 0, .int .i64 0, .int .i64 0, .int .i64 0] 71) := hU.keep HO2a.out (by have := HO2l.out; omega)
  refine hK.out _ _ HS0z.out (fun hHeld => ?_)
  clear hK hU HBA HGA HSU HO2a HO2l
  refine wpAnyH_done (by kernel_rfl) ?_ _
  clear hHeld
  have HB2z : Hid (Below w.heap.size w W2) := HB1z.out.trans (HS0z.out.mono HB1z.out.size)
  clear HB1z HS0z
  clear HD0
  clear HD1
  clear HD2
  clear HD10
  clear HD11
  clear HD12
  obtain ⟨c0, c1, c2, c3, c4, c5, c6, c7, c8, c9, c10, c11, c12⟩ := scl13 Hgv
  go_wp2_with fail
  refine (HMY.out _).mono ?_
  rintro e w3 ⟨B, rfl, hB, hb3⟩
  have HV3 := shN Hgv hb3
  have HO3 := shN HO2z hb3
  have HB3 := shB HB2z hb3
  clear hb3 HB2z HO2z Hgv HMY c0 c1 c2 c3 c4 c5 c6 c7 c8 c9 c10 c11 c12
  cases B with
  | false =>
   have HD : Hid (DecIs l ev0 5) := .inr (.inl ⟨HLN.out, (fun h => by rw [HEV.out] at h; exact absurd (hB.2 h) (by decide)), rfl, rfl⟩)
   clear hB
   go_wp2_with (first | (refine zqw rfl rfl rfl HV3 zqu71 ?_) | (refine zql rfl rfl rfl rfl zqu71 (by simp [Value.oneCell']) HO3 rfl ?_) | fail)
   intro W4 hU
   have H4 : Hid (Blk W4 w.heap.size #[.int .i64 0, .int .i64 0, .int .i64 0, .int .i64 0, .int .i64 0, .int .i64 0, .int .i64 0, .int .i64 0, .int .i64 0, .int .i64 0, .int .i64 0, .int .i64 0, .int .i64 0] 71) := hU.blk
   have HB4 : Hid (Below w.heap.size w W4) := hU.bel _ _ (Nat.le_refl _) HB3.out
   clear hU HO3 HV3 HB3
   obtain ⟨R0, R1, R2, R3, R4, R5, R6, R7, R8, R9, R10, R11, R12⟩ := shc13 H4
   go_wp2_with fail
   exact bodyPost_ret (v := .tuple #[.agg #[.int .i64 0, .int .i64 0, .int .i64 0, .int .i64 0, .int .i64 0, .int .i64 0, .int .i64 0, .int .i64 0, .int .i64 0, .int .i64 0, .int .i64 0, .int .i64 0, .int .i64 0], .int .i64 5]) (by simp [results, Tryz.results33, R0.out, R1.out, R2.out, R3.out, R4.out, R5.out, R6.out, R7.out, R8.out, R9.out, R10.out, R11.out, R12.out, go_sem]) rfl ⟨ev0, 5, rfl, HD.out, HB4.out⟩
  | true =>
   have HD : Hid (DecIs l ⟨y0, y1, y2, y3, y4, y5, y6, y7, y8, y9, y10, y11, y12⟩ 0) := .inr (.inr ⟨HLN.out, (by rw [HEV.out]; exact hB.1 rfl), HEV.out.symm, rfl⟩)
   clear hB
   go_wp2_with (first | (refine zqw rfl rfl rfl HV3 zqu71 ?_) | (refine zql rfl rfl rfl rfl zqu71 (by simp [Value.oneCell']) HO3 rfl ?_) | fail)
   intro W4 hU
   have H4 : Hid (Blk W4 w.heap.size #[.int .i64 y0, .int .i64 y1, .int .i64 y2, .int .i64 y3, .int .i64 y4, .int .i64 y5, .int .i64 y6, .int .i64 y7, .int .i64 y8, .int .i64 y9, .int .i64 y10, .int .i64 y11, .int .i64 y12] 71) := hU.blk
   have HB4 : Hid (Below w.heap.size w W4) := hU.bel _ _ (Nat.le_refl _) HB3.out
   clear hU HO3 HV3 HB3
   have R0 : Hid (W4.cell? ⟨w.heap.size, 0, none⟩ = some (.int .i64 y0)) := H4.out.cell 0
   have R1 : Hid (W4.cell? ⟨w.heap.size, 1, none⟩ = some (.int .i64 y1)) := H4.out.cell 1
   have R2 : Hid (W4.cell? ⟨w.heap.size, 2, none⟩ = some (.int .i64 y2)) := H4.out.cell 2
   have R3 : Hid (W4.cell? ⟨w.heap.size, 3, none⟩ = some (.int .i64 y3)) := H4.out.cell 3
   have R4 : Hid (W4.cell? ⟨w.heap.size, 4, none⟩ = some (.int .i64 y4)) := H4.out.cell 4
   have R5 : Hid (W4.cell? ⟨w.heap.size, 5, none⟩ = some (.int .i64 y5)) := H4.out.cell 5
   have R6 : Hid (W4.cell? ⟨w.heap.size, 6, none⟩ = some (.int .i64 y6)) := H4.out.cell 6
   have R7 : Hid (W4.cell? ⟨w.heap.size, 7, none⟩ = some (.int .i64 y7)) := H4.out.cell 7
   have R8 : Hid (W4.cell? ⟨w.heap.size, 8, none⟩ = some (.int .i64 y8)) := H4.out.cell 8
   have R9 : Hid (W4.cell? ⟨w.heap.size, 9, none⟩ = some (.int .i64 y9)) := H4.out.cell 9
   have R10 : Hid (W4.cell? ⟨w.heap.size, 10, none⟩ = some (.int .i64 y10)) := H4.out.cell 10
   have R11 : Hid (W4.cell? ⟨w.heap.size, 11, none⟩ = some (.int .i64 y11)) := H4.out.cell 11
   have R12 : Hid (W4.cell? ⟨w.heap.size, 12, none⟩ = some (.int .i64 y12)) := H4.out.cell 12
   go_wp2_with fail
   exact bodyPost_ret (v := .tuple #[.agg #[.int .i64 y0, .int .i64 y1, .int .i64 y2, .int .i64 y3, .int .i64 y4, .int .i64 y5, .int .i64 y6, .int .i64 y7, .int .i64 y8, .int .i64 y9, .int .i64 y10, .int .i64 y11, .int .i64 y12], .int .i64 0]) (by simp [results, Tryz.results33, R0.out, R1.out, R2.out, R3.out, R4.out, R5.out, R6.out, R7.out, R8.out, R9.out, R10.out, R11.out, R12.out, go_sem]) rfl ⟨⟨y0, y1, y2, y3, y4, y5, y6, y7, y8, y9, y10, y11, y12⟩, 0, rfl, HD.out, HB4.out⟩
 ·skip
  have hne : ((n : Int) != 13) = true := by simp; omega
  have HD : Hid (DecIs l ev0 1) := .inl ⟨by rw [hl]; exact hn, rfl, rfl⟩
  have HO3 := HO0
  have HB3 := HB0
  clear hn hl hr hw HO0 HB0
  go_enter Tryz.func33, Tryz.ntmps33
  go_upto_region 1 with fail
  generalize (w.alloc (.cells #[.int .i64 0, .int .i64 0, .int .i64 0, .int .i64 0, .int .i64 0, .int .i64 0, .int .i64 0, .int .i64 0, .int .i64 0, .int .i64 0, .int .i64 0, .int .i64 0, .int .i64 0] 71)) = w3 at *
  go_wp2_with (first | (refine zql rfl rfl rfl rfl zqu71 (by simp [Value.oneCell']) HO3 rfl ?_) | fail)
  intro W4 hU
  have H4 : Hid (Blk W4 w.heap.size #[.int .i64 0, .int .i64 0, .int .i64 0, .int .i64 0, .int .i64 0, .int .i64 0, .int .i64 0, .int .i64 0, .int .i64 0, .int .i64 0, .int .i64 0, .int .i64 0, .int .i64 0] 71) := hU.blk
  have HB4 : Hid (Below w.heap.size w W4) := hU.bel _ _ (Nat.le_refl _) HB3.out
  clear hU HO3 HB3
  obtain ⟨R0, R1, R2, R3, R4, R5, R6, R7, R8, R9, R10, R11, R12⟩ := shc13 H4
  go_wp2_with fail
  exact bodyPost_ret (v := .tuple #[.agg #[.int .i64 0, .int .i64 0, .int .i64 0, .int .i64 0, .int .i64 0, .int .i64 0, .int .i64 0, .int .i64 0, .int .i64 0, .int .i64 0, .int .i64 0, .int .i64 0, .int .i64 0], .int .i64 1]) (by simp [results, Tryz.results33, R0.out, R1.out, R2.out, R3.out, R4.out, R5.out, R6.out, R7.out, R8.out, R9.out, R10.out, R11.out, R12.out, go_sem]) rfl ⟨ev0, 1, rfl, HD.out, HB4.out⟩
end book
end Go.Proofs.YtomibnggmhjdfaaGreat
