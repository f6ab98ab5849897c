import Derived.Test.YtoepgdhiepedeaaGreatDoorVVGts20
set_option linter.unusedVariables false
set_option linter.unusedSimpArgs false
set_option maxHeartbeats 4000000
set_option maxRecDepth 100000
namespace Go.Proofs.YtoepgdhiepedeaaGreatDoor
namespace book
open Go.RowKit
set_option maxRecDepth 100000
def DecPost(w : World)(l : List Int)(e : Ending)(w' : World): Prop := ∃v f, e=.returned (.tuple #[Ev.v v, .int .i64 f]) ∧ DecIs l v f ∧ zB w w'
theorem list13{l : List Int}(h : l.length = 13): l = [l.getD 0 0, l.getD 1 0, l.getD 2 0, l.getD 3 0, l.getD 4 0, l.getD 5 0, l.getD 6 0, l.getD 7 0, l.getD 8 0, l.getD 9 0, l.getD 10 0, l.getD 11 0, l.getD 12 0] := (evL_Of h).symm
set_option maxHeartbeats 8000000 in
theorem rdecoded(a : Option Addr)(n cap : Nat)(l : List Int)(w : World)(hr : cell.RowU w a n l)(hw : ∀x ∈ l, 0 ≤ x ∧ x<4294967296): Calls Tryz.prog 82 #[.slice a n cap] w λe w' => DecPost w l e w' := by
 have HO0 : Hid (Blk (w.alloc (.cells #[.int .i64 0, .int .i64 0, .int .i64 0, .int .i64 0, .int .i64 0, .int .i64 0, .int .i64 0, .int .i64 0, .int .i64 0, .int .i64 0, .int .i64 0, .int .i64 0, .int .i64 0] 44)) w.heap.size #[.int .i64 0, .int .i64 0, .int .i64 0, .int .i64 0, .int .i64 0, .int .i64 0, .int .i64 0, .int .i64 0, .int .i64 0, .int .i64 0, .int .i64 0, .int .i64 0, .int .i64 0] 44) := Blk.new w _ _
 have HB0 : Hid (zB w (w.alloc (.cells #[.int .i64 0, .int .i64 0, .int .i64 0, .int .i64 0, .int .i64 0, .int .i64 0, .int .i64 0, .int .i64 0, .int .i64 0, .int .i64 0, .int .i64 0, .int .i64 0, .int .i64 0] 44))) := zb.alloc zc _
 have hl := hr.1
 by_cases hn : n = 13
 ·subst hn
  have hl13 := list13 hl
  have HLN := zh hl
  obtain⟨bl, off, rfl, hbl, hc⟩ := hr.at (by decide)
  have HEV : Hid (evOf l = ⟨l.getD 0 0, l.getD 1 0, l.getD 2 0, l.getD 3 0, l.getD 4 0, l.getD 5 0, l.getD 6 0, l.getD 7 0, l.getD 8 0, l.getD 9 0, l.getD 10 0, l.getD 11 0, l.getD 12 0⟩) := rfl
  have x0 := hw (l.getD 0 0) (by rw[hl13]; simp)
  have x1 := hw (l.getD 1 0) (by rw[hl13]; simp)
  have x2 := hw (l.getD 2 0) (by rw[hl13]; simp)
  have x3 := hw (l.getD 3 0) (by rw[hl13]; simp)
  have x4 := hw (l.getD 4 0) (by rw[hl13]; simp)
  have x5 := hw (l.getD 5 0) (by rw[hl13]; simp)
  have x6 := hw (l.getD 6 0) (by rw[hl13]; simp)
  have x7 := hw (l.getD 7 0) (by rw[hl13]; simp)
  have x8 := hw (l.getD 8 0) (by rw[hl13]; simp)
  have x9 := hw (l.getD 9 0) (by rw[hl13]; simp)
  have x10 := hw (l.getD 10 0) (by rw[hl13]; simp)
  have x11 := hw (l.getD 11 0) (by rw[hl13]; simp)
  have x12 := hw (l.getD 12 0) (by rw[hl13]; simp)
  have HC0 : Hid (∀W, zB w W → W.cell? ⟨bl, off, none⟩ = some (.int .u32 (l.getD 0 0))) := λW hB => (hB.cell (p := ⟨bl, off + 0, none⟩) hbl).trans (hc 0 (by decide))
  have HC1 : Hid (∀W, zB w W → W.cell? ⟨bl, off + 1, none⟩ = some (.int .u32 (l.getD 1 0))) := λW hB => (hB.cell (p := ⟨bl, off + 1, none⟩) hbl).trans (hc 1 (by decide))
  have HC2 : Hid (∀W, zB w W → W.cell? ⟨bl, off + 2, none⟩ = some (.int .u32 (l.getD 2 0))) := λW hB => (hB.cell (p := ⟨bl, off + 2, none⟩) hbl).trans (hc 2 (by decide))
  have HC3 : Hid (∀W, zB w W → W.cell? ⟨bl, off + 3, none⟩ = some (.int .u32 (l.getD 3 0))) := λW hB => (hB.cell (p := ⟨bl, off + 3, none⟩) hbl).trans (hc 3 (by decide))
  have HC4 : Hid (∀W, zB w W → W.cell? ⟨bl, off + 4, none⟩ = some (.int .u32 (l.getD 4 0))) := λW hB => (hB.cell (p := ⟨bl, off + 4, none⟩) hbl).trans (hc 4 (by decide))
  have HC5 : Hid (∀W, zB w W → W.cell? ⟨bl, off + 5, none⟩ = some (.int .u32 (l.getD 5 0))) := λW hB => (hB.cell (p := ⟨bl, off + 5, none⟩) hbl).trans (hc 5 (by decide))
  have HC6 : Hid (∀W, zB w W → W.cell? ⟨bl, off + 6, none⟩ = some (.int .u32 (l.getD 6 0))) := λW hB => (hB.cell (p := ⟨bl, off + 6, none⟩) hbl).trans (hc 6 (by decide))
  have HC7 : Hid (∀W, zB w W → W.cell? ⟨bl, off + 7, none⟩ = some (.int .u32 (l.getD 7 0))) := λW hB => (hB.cell (p := ⟨bl, off + 7, none⟩) hbl).trans (hc 7 (by decide))
  have HC8 : Hid (∀W, zB w W → W.cell? ⟨bl, off + 8, none⟩ = some (.int .u32 (l.getD 8 0))) := λW hB => (hB.cell (p := ⟨bl, off + 8, none⟩) hbl).trans (hc 8 (by decide))
  have HC9 : Hid (∀W, zB w W → W.cell? ⟨bl, off + 9, none⟩ = some (.int .u32 (l.getD 9 0))) := λW hB => (hB.cell (p := ⟨bl, off + 9, none⟩) hbl).trans (hc 9 (by decide))
  have HC10 : Hid (∀W, zB w W → W.cell? ⟨bl, off + 10, none⟩ = some (.int .u32 (l.getD 10 0))) := λW hB => (hB.cell (p := ⟨bl, off + 10, none⟩) hbl).trans (hc 10 (by decide))
  have HC11 : Hid (∀W, zB w W → W.cell? ⟨bl, off + 11, none⟩ = some (.int .u32 (l.getD 11 0))) := λW hB => (hB.cell (p := ⟨bl, off + 11, none⟩) hbl).trans (hc 11 (by decide))
  have HC12 : Hid (∀W, zB w W → W.cell? ⟨bl, off + 12, none⟩ = some (.int .u32 (l.getD 12 0))) := λW hB => (hB.cell (p := ⟨bl, off + 12, none⟩) hbl).trans (hc 12 (by decide))
  clear hc hr hw hl hl13
  generalize l.getD 0 0 = y0 at *
  obtain⟨x00, x01⟩ := x0
  generalize l.getD 1 0 = y1 at *
  obtain⟨x10, x11⟩ := x1
  generalize l.getD 2 0 = y2 at *
  obtain⟨x20, x21⟩ := x2
  generalize l.getD 3 0 = y3 at *
  obtain⟨x30, x31⟩ := x3
  generalize l.getD 4 0 = y4 at *
  obtain⟨x40, x41⟩ := x4
  generalize l.getD 5 0 = y5 at *
  obtain⟨x50, x51⟩ := x5
  generalize l.getD 6 0 = y6 at *
  obtain⟨x60, x61⟩ := x6
  generalize l.getD 7 0 = y7 at *
  obtain⟨x70, x71⟩ := x7
  generalize l.getD 8 0 = y8 at *
  obtain⟨x80, x81⟩ := x8
  generalize l.getD 9 0 = y9 at *
  obtain⟨x90, x91⟩ := x9
  generalize l.getD 10 0 = y10 at *
  obtain⟨x100, x101⟩ := x10
  generalize l.getD 11 0 = y11 at *
  obtain⟨x110, x111⟩ := x11
  generalize l.getD 12 0 = y12 at *
  obtain⟨x120, x121⟩ := x12
  have HMY : Hid (∀W, zC 83 #[.agg #[.int .i64 y0, .int .i64 y1, .int .i64 y2, .int .i64 y3, .int .i64 y4, .int .i64 y5, .int .i64 y6, .int .i64 y7, .int .i64 y8, .int .i64 y9, .int .i64 y10, .int .i64 y11, .int .i64 y12]] W λe w' => MayPost W ⟨y0, y1, y2, y3, y4, y5, y6, y7, y8, y9, y10, y11, y12⟩ e w') := λW => rmay ⟨y0, y1, y2, y3, y4, y5, y6, y7, y8, y9, y10, y11, y12⟩ W
  go_enter Tryz.func82, Tryz.ntmps82
  go_upto_region 3 with fail
  generalize (w.alloc (.cells #[.int .i64 0, .int .i64 0, .int .i64 0, .int .i64 0, .int .i64 0, .int .i64 0, .int .i64 0, .int .i64 0, .int .i64 0, .int .i64 0, .int .i64 0, .int .i64 0, .int .i64 0] 44)) = W0 at *
  refine wp_region_held_drew (S := λv => zB w v) (by kernel_rfl) HB0.out.drew (λhHeld => ?_)
  refine zt' 0 (.slice (some ⟨bl, off, none⟩) 13 cap) ?_
  refine zt' 1 (.pointer (some ⟨bl, off + 3, none⟩)) ?_
  refine zu' 2 (.int .u32 y3) rfl rfl (Or.inl ⟨by rfl, λv hv => by have h2 := HC3.out v hv; clear hv; go_simp⟩) ?_
  refine zu' 3 (.int .i64 y3) rfl rfl (Or.inl ⟨by rfl, λv hv => by have h2 : IntKind.i64.wrap y3 = y3 := (by rw[IntKind.wrap_i64]; omega); clear hv; go_simp⟩) ?_
  refine zt' 4 (.slice (some ⟨bl, off, none⟩) 13 cap) ?_
  refine zt' 5 (.pointer (some ⟨bl, off + 4, none⟩)) ?_
  refine zu' 6 (.int .u32 y4) rfl rfl (Or.inl ⟨by rfl, λv hv => by have h2 := HC4.out v hv; clear hv; go_simp⟩) ?_
  refine zu' 7 (.int .i64 y4) rfl rfl (Or.inl ⟨by rfl, λv hv => by have h2 : IntKind.i64.wrap y4 = y4 := (by rw[IntKind.wrap_i64]; omega); clear hv; go_simp⟩) ?_
  refine zt' 8 (.slice (some ⟨bl, off, none⟩) 13 cap) ?_
  refine zt' 9 (.pointer (some ⟨bl, off + 5, none⟩)) ?_
  refine zu' 10 (.int .u32 y5) rfl rfl (Or.inl ⟨by rfl, λv hv => by have h2 := HC5.out v hv; clear hv; go_simp⟩) ?_
  refine zu' 11 (.int .i64 y5) rfl rfl (Or.inl ⟨by rfl, λv hv => by have h2 : IntKind.i64.wrap y5 = y5 := (by rw[IntKind.wrap_i64]; omega); clear hv; go_simp⟩) ?_
  refine zt' 12 (.slice (some ⟨bl, off, none⟩) 13 cap) ?_
  refine zt' 13 (.pointer (some ⟨bl, off + 6, none⟩)) ?_
  refine zu' 14 (.int .u32 y6) rfl rfl (Or.inl ⟨by rfl, λv hv => by have h2 := HC6.out v hv; clear hv; go_simp⟩) ?_
  refine zu' 15 (.int .i64 y6) rfl rfl (Or.inl ⟨by rfl, λv hv => by have h2 : IntKind.i64.wrap y6 = y6 := (by rw[IntKind.wrap_i64]; omega); clear hv; go_simp⟩) ?_
  refine zt' 16 (.slice (some ⟨bl, off, none⟩) 13 cap) ?_
  refine zt' 17 (.pointer (some ⟨bl, off + 7, none⟩)) ?_
  refine zu' 18 (.int .u32 y7) rfl rfl (Or.inl ⟨by rfl, λv hv => by have h2 := HC7.out v hv; clear hv; go_simp⟩) ?_
  refine zu' 19 (.int .i64 y7) rfl rfl (Or.inl ⟨by rfl, λv hv => by have h2 : IntKind.i64.wrap y7 = y7 := (by rw[IntKind.wrap_i64]; omega); clear hv; go_simp⟩) ?_
  refine zt' 20 (.slice (some ⟨bl, off, none⟩) 13 cap) ?_
  refine zt' 21 (.pointer (some ⟨bl, off + 8, none⟩)) ?_
  refine zu' 22 (.int .u32 y8) rfl rfl (Or.inl ⟨by rfl, λv hv => by have h2 := HC8.out v hv; clear hv; go_simp⟩) ?_
  refine zu' 23 (.int .i64 y8) rfl rfl (Or.inl ⟨by rfl, λv hv => by have h2 : IntKind.i64.wrap y8 = y8 := (by rw[IntKind.wrap_i64]; omega); clear hv; go_simp⟩) ?_
  refine zt' 24 (.slice (some ⟨bl, off, none⟩) 13 cap) ?_
  refine zt' 25 (.pointer (some ⟨bl, off + 9, none⟩)) ?_
  refine zu' 26 (.int .u32 y9) rfl rfl (Or.inl ⟨by rfl, λv hv => by have h2 := HC9.out v hv; clear hv; go_simp⟩) ?_
  refine zu' 27 (.int .i64 y9) rfl rfl (Or.inl ⟨by rfl, λv hv => by have h2 : IntKind.i64.wrap y9 = y9 := (by rw[IntKind.wrap_i64]; omega); clear hv; go_simp⟩) ?_
  refine zt' 28 (.agg #[.int .i64 y3, .int .i64 y4, .int .i64 y5, .int .i64 y6, .int .i64 y7, .int .i64 y8, .int .i64 y9]) ?_
  have HB1 := zh HB0.out.drew
  have HO1 : Hid (Blk W0.drew w.heap.size #[.int .i64 0, .int .i64 0, .int .i64 0, .int .i64 0, .int .i64 0, .int .i64 0, .int .i64 0, .int .i64 0, .int .i64 0, .int .i64 0, .int .i64 0, .int .i64 0, .int .i64 0] 44) := HO0.out
  generalize hU0 : W0.drew = U at *
  clear hU0
  refine zo 29 λK hK => ?_
  rw[if_pos (by rfl)]
  have HBA : Hid (zB w (U.alloc (.cells #[.int .i64 0, .int .i64 0, .int .i64 0, .int .i64 0, .int .i64 0, .int .i64 0, .int .i64 0] 33))) := HB1.out.alloc HB1.out.size _
  have HSU := zh HB1.out.size
  have HO1a : Hid (Blk (U.alloc (.cells #[.int .i64 0, .int .i64 0, .int .i64 0, .int .i64 0, .int .i64 0, .int .i64 0, .int .i64 0] 33)) w.heap.size #[.int .i64 0, .int .i64 0, .int .i64 0, .int .i64 0, .int .i64 0, .int .i64 0, .int .i64 0, .int .i64 0, .int .i64 0, .int .i64 0, .int .i64 0, .int .i64 0, .int .i64 0] 44) := HO1.out.alloc _
  have HO1l := zh HO1.out.lt
  have HGA : Hid (Blk (U.alloc (.cells #[.int .i64 0, .int .i64 0, .int .i64 0, .int .i64 0, .int .i64 0, .int .i64 0, .int .i64 0] 33)) U.heap.size #[.int .i64 0, .int .i64 0, .int .i64 0, .int .i64 0, .int .i64 0, .int .i64 0, .int .i64 0] 33) := Blk.new _ _ _
  refine wp_runOp (v :=.pointer (some ⟨U.heap.size, 0, none⟩)) (w' := (U.alloc (.cells #[.int .i64 0, .int .i64 0, .int .i64 0, .int .i64 0, .int .i64 0, .int .i64 0, .int .i64 0] 33))) 4 rfl (by clear hK; go_simp) ?_
  refine hK.out _ _ HBA.out (λhHeld => ?_)
  clear hK
  simp only[Act.put, zqa, zqb, zqc]
  generalize U.heap.size = gb at *
  generalize U.alloc _ = U2 at *
  refine zo 30 λK hK => ?_
  rw[if_pos (by rfl)]
  refine wp_letOp 33 _ _ rfl gb rfl #[.int .i64 y3, .int .i64 y4, .int .i64 y5, .int .i64 y6, .int .i64 y7, .int .i64 y8, .int .i64 y9] rfl (by kernel_rfl) (by simp[Value.oneCell']) #[.int .i64 0, .int .i64 0, .int .i64 0, .int .i64 0, .int .i64 0, .int .i64 0, .int .i64 0] 33 HGA.out rfl rfl ?_
  intro W1 hU
  have HB1z : Hid (zB w W1) := hU.bel _ _ HSU.out HBA.out
  have Hgb := zh hU.blk
  have HO1z : Hid (Blk W1 w.heap.size #[.int .i64 0, .int .i64 0, .int .i64 0, .int .i64 0, .int .i64 0, .int .i64 0, .int .i64 0, .int .i64 0, .int .i64 0, .int .i64 0, .int .i64 0, .int .i64 0, .int .i64 0] 44) := hU.keep HO1a.out (by have := HO1l.out; omega)
  refine hK.out _ _ HB1z.out (λhHeld => ?_)
  clear hK hU
  refine wpAnyH_done (by kernel_rfl) ?_ _
  clear hHeld
  go_upto_region 4 with fail
  have HD0 : Hid (∀W, zB W1 W → W.cell? ⟨bl, off, none⟩ = some (.int .u32 y0)) := λW hB => HC0.out W (HB1z.out.trans (hB.mono HB1z.out.size))
  have HD1 : Hid (∀W, zB W1 W → W.cell? ⟨bl, off + 1, none⟩ = some (.int .u32 y1)) := λW hB => HC1.out W (HB1z.out.trans (hB.mono HB1z.out.size))
  have HD2 : Hid (∀W, zB W1 W → W.cell? ⟨bl, off + 2, none⟩ = some (.int .u32 y2)) := λW hB => HC2.out W (HB1z.out.trans (hB.mono HB1z.out.size))
  have HD10 : Hid (∀W, zB W1 W → W.cell? ⟨bl, off + 10, none⟩ = some (.int .u32 y10)) := λW hB => HC10.out W (HB1z.out.trans (hB.mono HB1z.out.size))
  have HD11 : Hid (∀W, zB W1 W → W.cell? ⟨bl, off + 11, none⟩ = some (.int .u32 y11)) := λW hB => HC11.out W (HB1z.out.trans (hB.mono HB1z.out.size))
  have HD12 : Hid (∀W, zB W1 W → W.cell? ⟨bl, off + 12, none⟩ = some (.int .u32 y12)) := λW hB => HC12.out W (HB1z.out.trans (hB.mono HB1z.out.size))
  have HS0 : Hid (zB W1 W1.drew) := zb.drew
  refine wp_region_held_drew (S := λv => zB W1 v) (by kernel_rfl) HS0.out (λhHeld => ?_)
  refine zt' 0 (.slice (some ⟨bl, off, none⟩) 13 cap) ?_
  refine zt' 1 (.pointer (some ⟨bl, off, none⟩)) ?_
  refine zu' 2 (.int .u32 y0) rfl rfl (Or.inl ⟨by rfl, λv hv => by have h2 := HD0.out v hv; clear hv; go_simp⟩) ?_
  refine zu' 3 (.int .i64 y0) rfl rfl (Or.inl ⟨by rfl, λv hv => by have h2 : IntKind.i64.wrap y0 = y0 := (by rw[IntKind.wrap_i64]; omega); clear hv; go_simp⟩) ?_
  refine zt' 4 (.slice (some ⟨bl, off, none⟩) 13 cap) ?_
  refine zt' 5 (.pointer (some ⟨bl, off + 1, none⟩)) ?_
  refine zu' 6 (.int .u32 y1) rfl rfl (Or.inl ⟨by rfl, λv hv => by have h2 := HD1.out v hv; clear hv; go_simp⟩) ?_
  refine zu' 7 (.int .i64 y1) rfl rfl (Or.inl ⟨by rfl, λv hv => by have h2 : IntKind.i64.wrap y1 = y1 := (by rw[IntKind.wrap_i64]; omega); clear hv; go_simp⟩) ?_
  refine zt' 8 (.slice (some ⟨bl, off, none⟩) 13 cap) ?_
  refine zt' 9 (.pointer (some ⟨bl, off + 2, none⟩)) ?_
  refine zu' 10 (.int .u32 y2) rfl rfl (Or.inl ⟨by rfl, λv hv => by have h2 := HD2.out v hv; clear hv; go_simp⟩) ?_
  refine zu' 11 (.int .i64 y2) rfl rfl (Or.inl ⟨by rfl, λv hv => by have h2 : IntKind.i64.wrap y2 = y2 := (by rw[IntKind.wrap_i64]; omega); clear hv; go_simp⟩) ?_
  have HGB2 : Hid (∀v, zB W1 v → Blk v gb #[.int .i64 y3, .int .i64 y4, .int .i64 y5, .int .i64 y6, .int .i64 y7, .int .i64 y8, .int .i64 y9] 33) := λv hv => Hgb.out.next hv
  refine zu' 12 (.agg #[.int .i64 y3, .int .i64 y4, .int .i64 y5, .int .i64 y6, .int .i64 y7, .int .i64 y8, .int .i64 y9]) rfl rfl (yieldsIf_whole (by rfl) 33 _ rfl gb rfl 33 #[.int .i64 y3, .int .i64 y4, .int .i64 y5, .int .i64 y6, .int .i64 y7, .int .i64 y8, .int .i64 y9] _ (λv hv => HGB2.out v hv) Tryz.underlying33 rfl (by kernel_rfl)) ?_
  refine zt' 13 (.slice (some ⟨bl, off, none⟩) 13 cap) ?_
  refine zt' 14 (.pointer (some ⟨bl, off + 10, none⟩)) ?_
  refine zu' 15 (.int .u32 y10) rfl rfl (Or.inl ⟨by rfl, λv hv => by have h2 := HD10.out v hv; clear hv; go_simp⟩) ?_
  refine zu' 16 (.int .i64 y10) rfl rfl (Or.inl ⟨by rfl, λv hv => by have h2 : IntKind.i64.wrap y10 = y10 := (by rw[IntKind.wrap_i64]; omega); clear hv; go_simp⟩) ?_
  refine zt' 17 (.slice (some ⟨bl, off, none⟩) 13 cap) ?_
  refine zt' 18 (.pointer (some ⟨bl, off + 11, none⟩)) ?_
  refine zu' 19 (.int .u32 y11) rfl rfl (Or.inl ⟨by rfl, λv hv => by have h2 := HD11.out v hv; clear hv; go_simp⟩) ?_
  refine zu' 20 (.int .i64 y11) rfl rfl (Or.inl ⟨by rfl, λv hv => by have h2 : IntKind.i64.wrap y11 = y11 := (by rw[IntKind.wrap_i64]; omega); clear hv; go_simp⟩) ?_
  refine zt' 21 (.slice (some ⟨bl, off, none⟩) 13 cap) ?_
  refine zt' 22 (.pointer (some ⟨bl, off + 12, none⟩)) ?_
  refine zu' 23 (.int .u32 y12) rfl rfl (Or.inl ⟨by rfl, λv hv => by have h2 := HD12.out v hv; clear hv; go_simp⟩) ?_
  refine zu' 24 (.int .i64 y12) rfl rfl (Or.inl ⟨by rfl, λv hv => by have h2 : IntKind.i64.wrap y12 = y12 := (by rw[IntKind.wrap_i64]; omega); clear hv; go_simp⟩) ?_
  refine zt' 25 (.agg #[.int .i64 y11, .int .i64 y12]) ?_
  refine zt' 26 (.agg #[.int .i64 y0, .int .i64 y1, .int .i64 y2, .int .i64 y3, .int .i64 y4, .int .i64 y5, .int .i64 y6, .int .i64 y7, .int .i64 y8, .int .i64 y9, .int .i64 y10, .int .i64 y11, .int .i64 y12]) ?_
  have HO2 : Hid (Blk W1.drew w.heap.size #[.int .i64 0, .int .i64 0, .int .i64 0, .int .i64 0, .int .i64 0, .int .i64 0, .int .i64 0, .int .i64 0, .int .i64 0, .int .i64 0, .int .i64 0, .int .i64 0, .int .i64 0] 44) := HO1z.out
  clear Hgb
  generalize hU0 : W1.drew = U at *
  clear hU0
  refine zo 27 λK hK => ?_
  rw[if_pos (by rfl)]
  have HBA : Hid (zB W1 (U.alloc (.cells #[.int .i64 0, .int .i64 0, .int .i64 0, .int .i64 0, .int .i64 0, .int .i64 0, .int .i64 0, .int .i64 0, .int .i64 0, .int .i64 0, .int .i64 0, .int .i64 0, .int .i64 0] 44))) := HS0.out.alloc HS0.out.size _
  have HSU := zh HS0.out.size
  have HO2a : Hid (Blk (U.alloc (.cells #[.int .i64 0, .int .i64 0, .int .i64 0, .int .i64 0, .int .i64 0, .int .i64 0, .int .i64 0, .int .i64 0, .int .i64 0, .int .i64 0, .int .i64 0, .int .i64 0, .int .i64 0] 44)) w.heap.size #[.int .i64 0, .int .i64 0, .int .i64 0, .int .i64 0, .int .i64 0, .int .i64 0, .int .i64 0, .int .i64 0, .int .i64 0, .int .i64 0, .int .i64 0, .int .i64 0, .int .i64 0] 44) := HO2.out.alloc _
  have HO2l := zh HO2.out.lt
  have HGA : Hid (Blk (U.alloc (.cells #[.int .i64 0, .int .i64 0, .int .i64 0, .int .i64 0, .int .i64 0, .int .i64 0, .int .i64 0, .int .i64 0, .int .i64 0, .int .i64 0, .int .i64 0, .int .i64 0, .int .i64 0] 44)) U.heap.size #[.int .i64 0, .int .i64 0, .int .i64 0, .int .i64 0, .int .i64 0, .int .i64 0, .int .i64 0, .int .i64 0, .int .i64 0, .int .i64 0, .int .i64 0, .int .i64 0, .int .i64 0] 44) := Blk.new _ _ _
  refine wp_runOp (v :=.pointer (some ⟨U.heap.size, 0, none⟩)) (w' := (U.alloc (.cells #[.int .i64 0, .int .i64 0, .int .i64 0, .int .i64 0, .int .i64 0, .int .i64 0, .int .i64 0, .int .i64 0, .int .i64 0, .int .i64 0, .int .i64 0, .int .i64 0, .int .i64 0] 44))) 5 rfl (by clear hK; go_simp) ?_
  refine hK.out _ _ HBA.out (λhHeld => ?_)
  clear hK
  simp only[Act.put, zqa, zqb, zqc]
  generalize U.heap.size = gv at *
  generalize U.alloc _ = U2 at *
  refine zo 28 λK hK => ?_
  rw[if_pos (by rfl)]
  refine wp_letOp 44 _ _ rfl gv rfl #[.int .i64 y0, .int .i64 y1, .int .i64 y2, .int .i64 y3, .int .i64 y4, .int .i64 y5, .int .i64 y6, .int .i64 y7, .int .i64 y8, .int .i64 y9, .int .i64 y10, .int .i64 y11, .int .i64 y12] rfl (by kernel_rfl) (by simp[Value.oneCell']) #[.int .i64 0, .int .i64 0, .int .i64 0, .int .i64 0, .int .i64 0, .int .i64 0, .int .i64 0, .int .i64 0, .int .i64 0, .int .i64 0, .int .i64 0, .int .i64 0, .int .i64 0] 44 HGA.out rfl rfl ?_
  intro W2 hU
  have HS0z : Hid (zB W1 W2) := hU.bel _ _ HSU.out HBA.out
  have Hgv := zh hU.blk
  have HO2z : Hid (Blk W2 w.heap.size #[.int .i64 0, .int .i64 0, .int .i64 0, .int .i64 0, .int .i64 0, .int .i64 0, .int .i64 0, .int .i64 0, .int .i64 0, .int .i64 0, .int .i64 0, .int .i64 0, .int .i64 0] 44) := hU.keep HO2a.out (by have := HO2l.out; omega)
  refine hK.out _ _ HS0z.out (λhHeld => ?_)
  clear hK hU
  refine wpAnyH_done (by kernel_rfl) ?_ _
  clear hHeld
  have HB2z := zh (HB1z.out.trans (HS0z.out.mono HB1z.out.size))
  obtain⟨c0, c1, c2, c3, c4, c5, c6, c7, c8, c9, c10, c11, c12⟩ := scl13 Hgv
  go_wp2_with fail
  refine(HMY.out _).mono ?_
  rintro e w3 ⟨B, rfl, hB, hb3⟩
  obtain⟨HV3, HO3⟩ := zn2 hb3 Hgv HO2z
  have HB3 := shB HB2z hb3
  clear hb3 Hgv c0 c1 c2 c3 c4 c5 c6 c7 c8 c9 c10 c11 c12
  cases B with
  |false =>
   have HD : Hid (DecIs l ev0 5) :=.inr (.inl ⟨HLN.out, (λh => by rw[HEV.out] at h; exact absurd (hB.2 h) (by decide)), rfl, rfl⟩)
   clear hB
   go_wp2_with (first|refine zw ?_|refine zs ?_)
   intro W4 hU
   have H4 := zh hU.blk
   have HB4 : Hid (zB w W4) := hU.bel _ _ zc HB3.out
   clear hU
   obtain⟨R0, R1, R2, R3, R4, R5, R6, R7, R8, R9, R10, R11, R12⟩ := shc13 H4
   go_wp2_with fail
   exact zr (.tuple #[.agg #[.int .i64 0, .int .i64 0, .int .i64 0, .int .i64 0, .int .i64 0, .int .i64 0, .int .i64 0, .int .i64 0, .int .i64 0, .int .i64 0, .int .i64 0, .int .i64 0, .int .i64 0], .int .i64 5]) (by simp[results, Tryz.results82, R0.out, R1.out, R2.out, R3.out, R4.out, R5.out, R6.out, R7.out, R8.out, R9.out, R10.out, R11.out, R12.out, go_sem]) ⟨ev0, 5, rfl, HD.out, HB4.out⟩
  |true =>
   have HD : Hid (DecIs l ⟨y0, y1, y2, y3, y4, y5, y6, y7, y8, y9, y10, y11, y12⟩ 0) :=.inr (.inr ⟨HLN.out, (by rw[HEV.out]; exact hB.1 rfl), HEV.out.symm, rfl⟩)
   clear hB
   go_wp2_with (first|refine zw ?_|refine zs ?_)
   intro W4 hU
   have H4 := zh hU.blk
   have HB4 : Hid (zB w W4) := hU.bel _ _ zc HB3.out
   clear hU
   have R0 := zh (H4.out.cell 0)
   have R1 := zh (H4.out.cell 1)
   have R2 := zh (H4.out.cell 2)
   have R3 := zh (H4.out.cell 3)
   have R4 := zh (H4.out.cell 4)
   have R5 := zh (H4.out.cell 5)
   have R6 := zh (H4.out.cell 6)
   have R7 := zh (H4.out.cell 7)
   have R8 := zh (H4.out.cell 8)
   have R9 := zh (H4.out.cell 9)
   have R10 := zh (H4.out.cell 10)
   have R11 := zh (H4.out.cell 11)
   have R12 := zh (H4.out.cell 12)
   go_wp2_with fail
   exact zr (.tuple #[.agg #[.int .i64 y0, .int .i64 y1, .int .i64 y2, .int .i64 y3, .int .i64 y4, .int .i64 y5, .int .i64 y6, .int .i64 y7, .int .i64 y8, .int .i64 y9, .int .i64 y10, .int .i64 y11, .int .i64 y12], .int .i64 0]) (by simp[results, Tryz.results82, R0.out, R1.out, R2.out, R3.out, R4.out, R5.out, R6.out, R7.out, R8.out, R9.out, R10.out, R11.out, R12.out, go_sem]) ⟨⟨y0, y1, y2, y3, y4, y5, y6, y7, y8, y9, y10, y11, y12⟩, 0, rfl, HD.out, HB4.out⟩
 ·skip
  have hne : ((n : Int) != 13) = true := by simp; omega
  have HD : Hid (DecIs l ev0 1) :=.inl ⟨by rw[hl]; exact hn, rfl, rfl⟩
  have HO3 := HO0
  have HB3 := HB0
  clear hn hl hr hw
  go_enter Tryz.func82, Tryz.ntmps82
  go_upto_region 1 with fail
  generalize (w.alloc (.cells #[.int .i64 0, .int .i64 0, .int .i64 0, .int .i64 0, .int .i64 0, .int .i64 0, .int .i64 0, .int .i64 0, .int .i64 0, .int .i64 0, .int .i64 0, .int .i64 0, .int .i64 0] 44)) = w3 at *
  go_wp2_with refine zs ?_
  intro W4 hU
  have H4 := zh hU.blk
  have HB4 : Hid (zB w W4) := hU.bel _ _ zc HB3.out
  clear hU
  obtain⟨R0, R1, R2, R3, R4, R5, R6, R7, R8, R9, R10, R11, R12⟩ := shc13 H4
  go_wp2_with fail
  exact zr (.tuple #[.agg #[.int .i64 0, .int .i64 0, .int .i64 0, .int .i64 0, .int .i64 0, .int .i64 0, .int .i64 0, .int .i64 0, .int .i64 0, .int .i64 0, .int .i64 0, .int .i64 0, .int .i64 0], .int .i64 1]) (by simp[results, Tryz.results82, R0.out, R1.out, R2.out, R3.out, R4.out, R5.out, R6.out, R7.out, R8.out, R9.out, R10.out, R11.out, R12.out, go_sem]) ⟨ev0, 1, rfl, HD.out, HB4.out⟩
end book
end Go.Proofs.YtoepgdhiepedeaaGreatDoor
