import Derived.Test.YtoepgdhiepedeaaGreatDoorVVRys18
import Derived.Test.YtoepgdhiepedeaaGreatDoorVVRys22
set_option linter.unusedVariables false
set_option linter.unusedSimpArgs false
set_option maxHeartbeats 4000000
set_option maxRecDepth 100000
namespace Go.Proofs.YtoepgdhiepedeaaGreatDoor
namespace book
open Go.RowKit
set_option maxRecDepth 100000
def DecPost(w : World)(l : List Int)(e : Ending)(w' : World): Prop := ∃v f, e=.returned (.tuple #[Ev.v v, .int .i64 f]) ∧ DecIs l v f ∧ zB w w'
theorem list13{l : List Int}(h : l.length = 13): l = [l.getD 0 0, l.getD 1 0, l.getD 2 0, l.getD 3 0, l.getD 4 0, l.getD 5 0, l.getD 6 0, l.getD 7 0, l.getD 8 0, l.getD 9 0, l.getD 10 0, l.getD 11 0, l.getD 12 0] := (evL_Of h).symm
set_option maxHeartbeats 8000000 in
theorem rdecoded(a : Option Addr)(n cap : Nat)(l : List Int)(w : World)(hr : cell.RowU w a n l)(hw : ∀x ∈ l, 0 ≤ x ∧ x<4294967296): Calls Tryz.prog 82 #[.slice a n cap] w λe w' => DecPost w l e w' := by
 have HO0 : Hid (Blk (w.alloc (.cells #[.int .i64 0, .int .i64 0, .int .i64 0, .int .i64 0, .int .i64 0, .int .i64 0, .int .i64 0, .int .i64 0, .int .i64 0, .int .i64 0, .int .i64 0, .int .i64 0, .int .i64 0] 44)) w.heap.size #[.int .i64 0, .int .i64 0, .int .i64 0, .int .i64 0, .int .i64 0, .int .i64 0, .int .i64 0, .int .i64 0, .int .i64 0, .int .i64 0, .int .i64 0, .int .i64 0, .int .i64 0] 44) := Blk.new w _ _
 have HB0 : Hid (zB w (w.alloc (.cells #[.int .i64 0, .int .i64 0, .int .i64 0, .int .i64 0, .int .i64 0, .int .i64 0, .int .i64 0, .int .i64 0, .int .i64 0, .int .i64 0, .int .i64 0, .int .i64 0, .int .i64 0] 44))) := zb.alloc zc _
 have hl := hr.1
 by_cases hn : n = 13
 ·subst hn
  have hl13 := list13 hl
  have HLN := zh hl
  obtain⟨bl, off, rfl, hbl, hc⟩ := hr.at (by decide)
  have HEV : Hid (evOf l = ⟨l.getD 0 0, l.getD 1 0, l.getD 2 0, l.getD 3 0, l.getD 4 0, l.getD 5 0, l.getD 6 0, l.getD 7 0, l.getD 8 0, l.getD 9 0, l.getD 10 0, l.getD 11 0, l.getD 12 0⟩) := rfl
  have x0 := hw (l.getD 0 0) (by rw[hl13]; simp)
  have x1 := hw (l.getD 1 0) (by rw[hl13]; simp)
  have x2 := hw (l.getD 2 0) (by rw[hl13]; simp)
  have x3 := hw (l.getD 3 0) (by rw[hl13]; simp)
  have x4 := hw (l.getD 4 0) (by rw[hl13]; simp)
  have x5 := hw (l.getD 5 0) (by rw[hl13]; simp)
  have x6 := hw (l.getD 6 0) (by rw[hl13]; simp)
  have x7 := hw (l.getD 7 0) (by rw[hl13]; simp)
  have x8 := hw (l.getD 8 0) (by rw[hl13]; simp)
  have x9 := hw (l.getD 9 0) (by rw[hl13]; simp)
  have x10 := hw (l.getD 10 0) (by rw[hl13]; simp)
  have x11 := hw (l.getD 11 0) (by rw[hl13]; simp)
  have x12 := hw (l.getD 12 0) (by rw[hl13]; simp)
  have HC0 : Hid (∀W, zB w W → W.cell? ⟨bl, off, none⟩ = some (.int .u32 (l.getD 0 0))) := λW hB => (hB.cell (p := ⟨bl, off + 0, none⟩) hbl).trans (hc 0 (by decide))
  have HC1 : Hid (∀W, zB w W → W.cell? ⟨bl, off + 1, none⟩ = some (.int .u32 (l.getD 1 0))) := λW hB => (hB.cell (p := ⟨bl, off + 1, none⟩) hbl).trans (hc 1 (by decide))
  have HC2 : Hid (∀W, zB w W → W.cell? ⟨bl, off + 2, none⟩ = some (.int .u32 (l.getD 2 0))) := λW hB => (hB.cell (p := ⟨bl, off + 2, none⟩) hbl).trans (hc 2 (by decide))
  have HC3 : Hid (∀W, zB w W → W.cell? ⟨bl, off + 3, none⟩ = some (.int .u32 (l.getD 3 0))) := λW hB => (hB.cell (p := ⟨bl, off + 3, none⟩) hbl).trans (hc 3 (by decide))
  have HC4 : Hid (∀W, zB w W → W.cell? ⟨bl, off + 4, none⟩ = some (.int .u32 (l.getD 4 0))) := λW hB => (hB.cell (p := ⟨bl, off + 4, none⟩) hbl).trans (hc 4 (by decide))
  have HC5 : Hid (∀W, zB w W → W.cell? ⟨bl, off + 5, none⟩ = some (.int .u32 (l.getD 5 0))) := λW hB => (hB.cell (p := ⟨bl, off + 5, none⟩) hbl).trans (hc 5 (by decide))
  have HC6 : Hid (∀W, zB w W → W.cell? ⟨bl, off + 6, none⟩ = some (.int .u32 (l.getD 6 0))) := λW hB => (hB.cell (p := ⟨bl, off + 6, none⟩) hbl).trans (hc 6 (by decide))
  have HC7 : Hid (∀W, zB w W → W.cell? ⟨bl, off + 7, none⟩ = some (.int .u32 (l.getD 7 0))) := λW hB => (hB.cell (p := ⟨bl, off + 7, none⟩) hbl).trans (hc 7 (by decide))
  have HC8 : Hid (∀W, zB w W → W.cell? ⟨bl, off + 8, none⟩ = some (.int .u32 (l.getD 8 0))) := λW hB => (hB.cell (p := ⟨bl, off + 8, none⟩) hbl).trans (hc 8 (by decide))
  have HC9 : Hid (∀W, zB w W → W.cell? ⟨bl, off + 9, none⟩ = some (.int .u32 (l.getD 9 0))) := λW hB => (hB.cell (p := ⟨bl, off + 9, none⟩) hbl).trans (hc 9 (by decide))
  have HC10 : Hid (∀W, zB w W → W.cell? ⟨bl, off + 10, none⟩ = some (.int .u32 (l.getD 10 0))) := λW hB => (hB.cell (p := ⟨bl, off + 10, none⟩) hbl).trans (hc 10 (by decide))
  have HC11 : Hid (∀W, zB w W → W.cell? ⟨bl, off + 11, none⟩ = some (.int .u32 (l.getD 11 0))) := λW hB => (hB.cell (p := ⟨bl, off + 11, none⟩) hbl).trans (hc 11 (by decide))
  have HC12 : Hid (∀W, zB w W → W.cell? ⟨bl, off + 12, none⟩ = some (.int .u32 (l.getD 12 0))) := λW hB => (hB.cell (p := ⟨bl, off + 12, none⟩) hbl).trans (hc 12 (by decide))
  clear hc hr hw hl hl13
  generalize l.getD 0 0 = y0 at *
  obtain⟨x00, x01⟩ := x0
  generalize l.getD 1 0 = y1 at *
  obtain⟨x10, x11⟩ := x1
  generalize l.getD 2 0 = y2 at *
  obtain⟨x20, x21⟩ := x2
  generalize l.getD 3 0 = y3 at *
  obtain⟨x30, x31⟩ := x3
  generalize l.getD 4 0 = y4 at *
  obtain⟨x40, x41⟩ := x4
  generalize l.getD 5 0 = y5 at *
  obtain⟨x50, x51⟩ := x5
  generalize l.getD 6 0 = y6 at *
  obtain⟨x60, x61⟩ := x6
  generalize l.getD 7 0 = y7 at *
  obtain⟨x70, x71⟩ := x7
  generalize l.getD 8 0 = y8 at *
  obtain⟨x80, x81⟩ := x8
  generalize l.getD 9 0 = y9 at *
  obtain⟨x90, x91⟩ := x9
  generalize l.getD 10 0 = y10 at *
  obtain⟨x100, x101⟩ := x10
  generalize l.getD 11 0 = y11 at *
  obtain⟨x110, x111⟩ := x11
  generalize l.getD 12 0 = y12 at *
  obtain⟨x120, x121⟩ := x12
  have HMY : Hid (∀W, zC 83 #[.agg #[.int .i64 y0, .int .i64 y1, .int .i64 y2, .int .i64 y3, .int .i64 y4, .int .i64 y5, .int .i64 y6, .int .i64 y7, .int .i64 y8, .int .i64 y9, .int .i64 y10, .int .i64 y11, .int .i64 y12]] W λe w' => MayPost W ⟨y0, y1, y2, y3, y4, y5, y6, y7, y8, y9, y10, y11, y12⟩ e w') := λW => rmay ⟨y0, y1, y2, y3, y4, y5, y6, y7, y8, y9, y10, y11, y12⟩ W
  go_enter Tryz.func82, Tryz.ntmps82
  go_upto_region 3 with fail
  generalize (w.alloc (.cells #[.int .i64 0, .int .i64 0, .int .i64 0, .int .i64 0, .int .i64 0, .int .i64 0, .int .i64 0, .int .i64 0, .int .i64 0, .int .i64 0, .int .i64 0, .int .i64 0, .int .i64 0] 44)) = W0 at *
  refine wp_region_held_drew (S := λv => zB w v) (by kernel_rfl) HB0.out.drew (λhHeld => ?_)
  refine zt' 0 (.slice (some ⟨bl, off, none⟩) 13 cap) ?_
  refine zt' 1 (.pointer (some ⟨bl, off + 3, none⟩)) ?_
  refine zu' 2 (.int .u32 y3) rfl rfl (Or.inl ⟨by rfl, λv hv => by have h2 := HC3.out v hv; clear hv; go_simp⟩) ?_
  refine zu' 3 (.int .i64 y3) rfl rfl (Or.inl ⟨by rfl, λv hv => by have h2 : IntKind.i64.wrap y3 = y3 := (by rw[IntKind.wrap_i64]; omega); clear hv; go_simp⟩) ?_
  refine zt' 4 (.slice (some ⟨bl, off, none⟩) 13 cap) ?_
  refine zt' 5 (.pointer (some ⟨bl, off + 4, none⟩)) ?_
  refine zu' 6 (.int .u32 y4) rfl rfl (Or.inl ⟨by rfl, λv hv => by have h2 := HC4.out v hv; clear hv; go_simp⟩) ?_
  refine zu' 7 (.int .i64 y4) rfl rfl (Or.inl ⟨by rfl, λv hv => by have h2 : IntKind.i64.wrap y4 = y4 := (by rw[IntKind.wrap_i64]; omega); clear hv; go_simp⟩) ?_
  refine zt' 8 (.slice (some ⟨bl, off, none⟩) 13 cap) ?_
  refine zt' 9 (.pointer (some ⟨bl, off + 5, none⟩)) ?_
  refine zu' 10 (.int .u32 y5) rfl rfl (Or.inl ⟨by rfl, λv hv => by have h2 := HC5.out v hv; clear hv; go_simp⟩) ?_
  refine zu' 11 (.int .i64 y5) rfl rfl (Or.inl ⟨by rfl, λv hv => by have h2 : IntKind.i64.wrap y5 = y5 := (by rw[IntKind.wrap_i64]; omega); clear hv; go_simp⟩) ?_
  refine zt' 12 (.slice (some ⟨bl, off, none⟩) 13 cap) ?_
  refine zt' 13 (.pointer (some ⟨bl, off + 6, none⟩)) ?_
  refine zu' 14 (.int .u32 y6) rfl rfl (Or.inl ⟨by rfl, λv hv => by have h2 := HC6.out v hv; clear hv; go_simp⟩) ?_
  refine zu' 15 (.int .i64 y6) rfl rfl (Or.inl ⟨by rfl, λv hv => by have h2 : IntKind.i64.wrap y6 = y6 := (by rw[IntKind.wrap_i64]; omega); clear hv; go_simp⟩) ?_
  refine zt' 16 (.slice (some ⟨bl, off, none⟩) 13 cap) ?_
  refine zt' 17 (.pointer (some ⟨bl, off + 7, none⟩)) ?_
  refine zu' 18 (.int .u32 y7) rfl rfl (Or.inl ⟨by rfl, λv hv => by have h2 := HC7.out v hv; clear hv; go_simp⟩) ?_
  refine zu' 19 (.int .i64 y7) rfl rfl (Or.inl ⟨by rfl, λv hv => by have h2 : IntKind.i64.wrap y7 = y7 := (by rw[IntKind.wrap_i64]; omega); clear hv; go_simp⟩) ?_
  refine zt' 20 (.slice (some ⟨bl, off, none⟩) 13 cap) ?_
  refine zt' 21 (.pointer (some ⟨bl, off + 8, none⟩)) ?_
  refine zu' 22 (.int .u32 y8) rfl rfl (Or.inl ⟨by rfl, λv hv => by have h2 := HC8.out v hv; clear hv; go_simp⟩) ?_
  refine zu' 23 (.int .i64 y8) rfl rfl (Or.inl ⟨by rfl, λv hv => by have h2 : IntKind.i64.wrap y8 = y8 := (by rw[IntKind.wrap_i64]; omega); clear hv; go_simp⟩) ?_
  refine zt' 24 (.slice (some ⟨bl, off, none⟩) 13 cap) ?_
  refine zt' 25 (.pointer (some ⟨bl, off + 9, none⟩)) ?_
  refine zu' 26 (.int .u32 y9) rfl rfl (Or.inl ⟨by rfl, λv hv => by have h2 := HC9.out v hv; clear hv; go_simp⟩) ?_
  refine zu' 27 (.int .i64 y9) rfl rfl (Or.inl ⟨by rfl, λv hv => by have h2 : IntKind.i64.wrap y9 = y9 := (by rw[IntKind.wrap_i64]; omega); clear hv; go_simp⟩) ?_
  refine zt' 28 (.agg #[.int .i64 y3, .int .i64 y4, .int .i64 y5, .int .i64 y6, .int .i64 y7, .int .i64 y8, .int .i64 y9]) ?_
  have HB1 := zh HB0.out.drew
  have HO1 : Hid (Blk W0.drew w.heap.size #[.int .i64 0, .int .i64 0, .int .i64 0, .int .i64 0, .int .i64 0, .int .i64 0, .int .i64 0, .int .i64 0, .int .i64 0, .int .i64 0, .int .i64 0, .int .i64 0, .int .i64 0] 44) := HO0.out
  generalize hU0 : W0.drew = U at *
  clear hU0
  refine zo 29 λK hK => ?_
  rw[if_pos (by rfl)]
  have HBA : Hid (zB w (U.alloc (.cells #[.int .i64 0, .int .i64 0, .int .i64 0, .int .i64 0, .int .i64 0, .int .i64 0, .int .i64 0] 33))) := HB1.out.alloc HB1.out.size _
  have HSU := zh HB1.out.size
  have HO1a : Hid (Blk (U.alloc (.cells #[.int .i64 0, .int .i64 0, .int .i64 0, .int .i64 0, .int .i64 0, .int .i64 0, .int .i64 0] 33)) w.heap.size #[.int .i64 0, .int .i64 0, .int .i64 0, .int .i64 0, .int .i64 0, .int .i64 0, .int .i64 0, .int .i64 0, .int .i64 0, .int .i64 0, .int .i64 0, .int .i64 0, .int .i64 0] 44) := HO1.out.alloc _
  have HO1l := zh HO1.out.lt
  have HGA : Hid (Blk (U.alloc (.cells #[.int .i64 0, .int .i64 0, .int .i64 0, .int .i64 0, .int .i64 0, .int .i64 0, .int .i64 0] 33)) U.heap.size #[.int .i64 0, .int .i64 0, .int .i64 0, .int .i64 0, .int .i64 0, .int .i64 0, .int .i64 0] 33) := Blk.new _ _ _
  refine wp_runOp (v :=.pointer (some ⟨U.heap.size, 0, none⟩)) (w' := (U.alloc (.cells #[.int .i64 0, .int .i64 0, .int .i64 0, .int .i64 0, .int .i64 0, .int .i64 0, .int .i64 0] 33))) 4 rfl (by clear hK; go_simp) ?_
  refine hK.out _ _ HBA.out (λhHeld => ?_)
  clear hK
  simp only[Act.put, zqa, zqb, zqc]
  generalize U.heap.size = gb at *
  generalize U.alloc _ = U2 at *
  refine zo 30 λK hK => ?_
  rw[if_pos (by rfl)]
  refine wp_letOp 33 _ _ rfl gb rfl #[.int .i64 y3, .int .i64 y4, .int .i64 y5, .int .i64 y6, .int .i64 y7, .int .i64 y8, .int .i64 y9] rfl (by kernel_rfl) (by simp[Value.oneCell']) #[.int .i64 0, .int .i64 0, .int .i64 0, .int .i64 0, .int .i64 0, .int .i64 0, .int .i64 0] 33 HGA.out rfl rfl ?_
  intro W1 hU
  have HB1z : Hid (zB w W1) := hU.bel _ _ HSU.out HBA.out
  have Hgb := zh hU.blk
  have HO1z : Hid (Blk W1 w.heap.size #[.int .i64 0, .int .i64 0, .int .i64 0, .int .i64 0, .int .i64 0, .int .i64 0, .int .i64 0, .int .i64 0, .int .i64 0, .int .i64 0, .int .i64 0, .int .i64 0, .int .i64 0] 44) := hU.keep HO1a.out (by have := HO1l.out; omega)
  refine hK.out _ _ HB1z.out (λhHeld => ?_)
  clear hK hU
  refine wpAnyH_done (by kernel_rfl) ?_ _
  clear hHeld
  go_upto_region 4 with fail
  have HD0 : Hid (∀W, zB W1 W → W.cell? ⟨bl, off, none⟩ = some (.int .u32 y0)) := λW hB => HC0.out W (HB1z.out.trans (hB.mono HB1z.out.size))
  have HD1 : Hid (∀W, zB W1 W → W.cell? ⟨bl, off + 1, none⟩ = some (.int .u32 y1)) := λW hB => HC1.out W (HB1z.out.trans (hB.mono HB1z.out.size))
  have HD2 : Hid (∀W, zB W1 W → W.cell? ⟨bl, off + 2, none⟩ = some (.int .u32 y2)) := λW hB => HC2.out W (HB1z.out.trans (hB.mono HB1z.out.size))
  have HD10 : Hid (∀W, zB W1 W → W.cell? ⟨bl, off + 10, none⟩ = some (.int .u32 y10)) := λW hB => HC10.out W (HB1z.out.trans (hB.mono HB1z.out.size))
  have HD11 : Hid (∀W, zB W1 W → W.cell? ⟨bl, off + 11, none⟩ = some (.int .u32 y11)) := λW hB => HC11.out W (HB1z.out.trans (hB.mono HB1z.out.size))
  have HD12 : Hid (∀W, zB W1 W → W.cell? ⟨bl, off + 12, none⟩ = some (.int .u32 y12)) := λW hB => HC12.out W (HB1z.out.trans (hB.mono HB1z.out.size))
  have HS0 : Hid (zB W1 W1.drew) := zb.drew
  refine wp_region_held_drew (S := λv => zB W1 v) (by kernel_rfl) HS0.out (λhHeld => ?_)
  refine zt' 0 (.slice (some ⟨bl, off, none⟩) 13 cap) ?_
  refine zt' 1 (.pointer (some ⟨bl, off, none⟩)) ?_
  refine zu' 2 (.int .u32 y0) rfl rfl (Or.inl ⟨by rfl, λv hv => by have h2 := HD0.out v hv; clear hv; go_simp⟩) ?_
  refine zu' 3 (.int .i64 y0) rfl rfl (Or.inl ⟨by rfl, λv hv => by have h2 : IntKind.i64.wrap y0 = y0 := (by rw[IntKind.wrap_i64]; omega); clear hv; go_simp⟩) ?_
  refine zt' 4 (.slice (some ⟨bl, off, none⟩) 13 cap) ?_
  refine zt' 5 (.pointer (some ⟨bl, off + 1, none⟩)) ?_
  refine zu' 6 (.int .u32 y1) rfl rfl (Or.inl ⟨by rfl, λv hv => by have h2 := HD1.out v hv; clear hv; go_simp⟩) ?_
  refine zu' 7 (.int .i64 y1) rfl rfl (Or.inl ⟨by rfl, λv hv => by have h2 : IntKind.i64.wrap y1 = y1 := (by rw[IntKind.wrap_i64]; omega); clear hv; go_simp⟩) ?_
  refine zt' 8 (.slice (some ⟨bl, off, none⟩) 13 cap) ?_
  refine zt' 9 (.pointer (some ⟨bl, off + 2, none⟩)) ?_
  refine zu' 10 (.int .u32 y2) rfl rfl (Or.inl ⟨by rfl, λv hv => by have h2 := HD2.out v hv; clear hv; go_simp⟩) ?_
  refine zu' 11 (.int .i64 y2) rfl rfl (Or.inl ⟨by rfl, λv hv => by have h2 : IntKind.i64.wrap y2 = y2 := (by rw[IntKind.wrap_i64]; omega); clear hv; go_simp⟩) ?_
  have HGB2 : Hid (∀v, zB W1 v → Blk v gb #[.int .i64 y3, .int .i64 y4, .int .i64 y5, .int .i64 y6, .int .i64 y7, .int .i64 y8, .int .i64 y9] 33) := λv hv => Hgb.out.next hv
  refine zu' 12 (.agg #[.int .i64 y3, .int .i64 y4, .int .i64 y5, .int .i64 y6, .int .i64 y7, .int .i64 y8, .int .i64 y9]) rfl rfl (yieldsIf_whole (by rfl) 33 _ rfl gb rfl 33 #[.int .i64 y3, .int .i64 y4, .int .i64 y5, .int .i64 y6, .int .i64 y7, .int .i64 y8, .int .i64 y9] _ (λv hv => HGB2.out v hv) Tryz.underlying33 rfl (by kernel_rfl)) ?_
  refine zt' 13 (.slice (some ⟨bl, off, none⟩) 13 cap) ?_
  refine zt' 14 (.pointer (some ⟨bl, off + 10, none⟩)) ?_
  refine zu' 15 (.int .u32 y10) rfl rfl (Or.inl ⟨by rfl, λv hv => by have h2 := HD10.out v hv; clear hv; go_simp⟩) ?_
  refine zu' 16 (.int .i64 y10) rfl rfl (Or.inl ⟨by rfl, λv hv => by have h2 : IntKind.i64.wrap y10 = y10 := (by rw[IntKind.wrap_i64]; omega); clear hv; go_simp⟩) ?_
  refine zt' 17 (.slice (some ⟨bl, off, none⟩) 13 cap) ?_
  refine zt' 18 (.pointer (some ⟨bl, off + 11, none⟩)) ?_
  refine zu' 19 (.int .u32 y11) rfl rfl (Or.inl ⟨by rfl, λv hv => by have h2 := HD11.out v hv; clear hv; go_simp⟩) ?_
  refine zu' 20 (.int .i64 y11) rfl rfl (Or.inl ⟨by rfl, λv hv => by have h2 : IntKind.i64.wrap y11 = y11 := (by rw[IntKind.wrap_i64]; omega); clear hv; go_simp⟩) ?_
  refine zt' 21 (.slice (some ⟨bl, off, none⟩) 13 cap) ?_
  refine zt' 22 (.pointer (some ⟨bl, off + 12, none⟩)) ?_
  refine zu' 23 (.int .u32 y12) rfl rfl (Or.inl ⟨by rfl, λv hv => by have h2 := HD12.out v hv; clear hv; go_simp⟩) ?_
  refine zu' 24 (.int .i64 y12) rfl rfl (Or.inl ⟨by rfl, λv hv => by have h2 : IntKind.i64.wrap y12 = y12 := (by rw[IntKind.wrap_i64]; omega); clear hv; go_simp⟩) ?_
  refine zt' 25 (.agg #[.int .i64 y11, .int .i64 y12]) ?_
  refine zt' 26 (.agg #[.int .i64 y0, .int .i64 y1, .int .i64 y2, .int .i64 y3, .int .i64 y4, .int .i64 y5, .int .i64 y6, .int .i64 y7, .int .i64 y8, .int .i64 y9, .int .i64 y10, .int .i64 y11, .int .i64 y12]) ?_
  have HO2 : Hid (Blk W1.drew w.heap.size #[.int .i64 0, .int .i64 0, .int .i64 0, .int .i64 0, .int .i64 0, .int .i64 0, .int .i64 0, .int .i64 0, .int .i64 0, .int .i64 0, .int .i64 0, .int .i64 0, .int .i64 0] 44) := HO1z.out
  clear Hgb
  generalize hU0 : W1.drew = U at *
  clear hU0
  refine zo 27 λK hK => ?_
  rw[if_pos (by rfl)]
  have HBA : Hid (zB W1 (U.alloc (.cells #[.int .i64 0, .int .i64 0, .int .i64 0, .int .i64 0, .int .i64 0, .int .i64 0, .int .i64 0, .int .i64 0, .int .i64 0, .int .i64 0, .int .i64 0, .int .i64 0, .int .i64 0] 44))) := HS0.out.alloc HS0.out.size _
  have HSU := zh HS0.out.size
  have HO2a : Hid (Blk (U.alloc (.cells #[.int .i64 0, .int .i64 0, .int .i64 0, .int .i64 0, .int .i64 0, .int .i64 0, .int .i64 0, .int .i64 0, .int .i64 0, .int .i64 0, .int .i64 0, .int .i64 0, .int .i64 0] 44)) w.heap.size #[.int .i64 0, .int .i64 0, .int .i64 0, .int .i64 0, .int .i64 0, .int .i64 0, .int .i64 0, .int .i64 0, .int .i64 0, .int .i64 0, .int .i64 0, .int .i64 0, .int .i64 0] 44) := HO2.out.alloc _
  have HO2l := zh HO2.out.lt
  have HGA : Hid (Blk (U.alloc (.cells #[.int .i64 0, .int .i64 0, .int .i64 0, .int .i64 0, .int .i64 0, .int .i64 0, .int .i64 0, .int .i64 0, .int .i64 0, .int .i64 0, .int .i64 0, .int .i64 0, .int .i64 0] 44)) U.heap.size #[.int .i64 0, .int .i64 0, .int .i64 0, .int .i64 0, .int .i64 0, .int .i64 0, .int .i64 0, .int .i64 0, .int .i64 0, .int .i64 0, .int .i64 0, .int .i64 0, .int .i64 0] 44) := Blk.new _ _ _
  refine wp_runOp (v :=.pointer (some ⟨U.heap.size, 0, none⟩)) (w' := (U.alloc (.cells #[.int .i64 0, .int .i64 0, .int .i64 0, .int .i64 0, .int .i64 0, .int .i64 0, .int .i64 0, .int .i64 0, .int .i64 0, .int .i64 0, .int .i64 0, .int .i64 0, .int .i64 0] 44))) 5 rfl (by clear hK; go_simp) ?_
  refine hK.out _ _ HBA.out (λhHeld => ?_)
  clear hK
  simp only[Act.put, zqa, zqb, zqc]
  generalize U.heap.size = gv at *
  generalize U.alloc _ = U2 at *
  refine zo 28 λK hK => ?_
  rw[if_pos (by rfl)]
  refine wp_letOp 44 _ _ rfl gv rfl #[.int .i64 y0, .int .i64 y1, .int .i64 y2, .int .i64 y3, .int .i64 y4, .int .i64 y5, .int .i64 y6, .int .i64 y7, .int .i64 y8, .int .i64 y9, .int .i64 y10, .int .i64 y11, .int .i64 y12] rfl (by kernel_rfl) (by simp[Value.oneCell']) #[.int .i64 0, .int .i64 0, .int .i64 0, .int .i64 0, .int .i64 0, .int .i64 0, .int .i64 0, .int .i64 0, .int .i64 0, .int .i64 0, .int .i64 0, .int .i64 0, .int .i64 0] 44 HGA.out rfl rfl ?_
  intro W2 hU
  have HS0z : Hid (zB W1 W2) := hU.bel _ _ HSU.out HBA.out
  have Hgv := zh hU.blk
  have HO2z : Hid (Blk W2 w.heap.size #[.int .i64 0, .int .i64 0, .int .i64 0, .int .i64 0, .int .i64 0, .int .i64 0, .int .i64 0, .int .i64 0, .int .i64 0, .int .i64 0, .int .i64 0, .int .i64 0, .int .i64 0] 44) := hU.keep HO2a.out (by have := HO2l.out; omega)
  refine hK.out _ _ HS0z.out (λhHeld => ?_)
  clear hK hU
  refine wpAnyH_done (by kernel_rfl) ?_ _
  clear hHeld
  have HB2z := zh (HB1z.out.trans (HS0z.out.mono HB1z.out.size))
  obtain⟨c0, c1, c2, c3, c4, c5, c6, c7, c8, c9, c10, c11, c12⟩ := scl13 Hgv
  go_wp2_with fail
  refine(HMY.out _).mono ?_
  rintro e w3 ⟨B, rfl, hB, hb3⟩
  obtain⟨HV3, HO3⟩ := zn2 hb3 Hgv HO2z
  have HB3 := shB HB2z hb3
  clear hb3 Hgv c0 c1 c2 c3 c4 c5 c6 c7 c8 c9 c10 c11 c12
  cases B with
  |false =>
   have HD : Hid (DecIs l ev0 5) :=.inr (.inl ⟨HLN.out, (λh => by rw[HEV.out] at h; exact absurd (hB.2 h) (by decide)), rfl, rfl⟩)
   clear hB
   go_wp2_with (first|refine zw ?_|refine zs ?_)
   intro W4 hU
   have H4 := zh hU.blk
   have HB4 : Hid (zB w W4) := hU.bel _ _ zc HB3.out
   clear hU
   obtain⟨R0, R1, R2, R3, R4, R5, R6, R7, R8, R9, R10, R11, R12⟩ := shc13 H4
   go_wp2_with fail
   exact zr (.tuple #[.agg #[.int .i64 0, .int .i64 0, .int .i64 0, .int .i64 0, .int .i64 0, .int .i64 0, .int .i64 0, .int .i64 0, .int .i64 0, .int .i64 0, .int .i64 0, .int .i64 0, .int .i64 0], .int .i64 5]) (by simp[results, Tryz.results82, R0.out, R1.out, R2.out, R3.out, R4.out, R5.out, R6.out, R7.out, R8.out, R9.out, R10.out, R11.out, R12.out, go_sem]) ⟨ev0, 5, rfl, HD.out, HB4.out⟩
  |true =>
   have HD : Hid (DecIs l ⟨y0, y1, y2, y3, y4, y5, y6, y7, y8, y9, y10, y11, y12⟩ 0) :=.inr (.inr ⟨HLN.out, (by rw[HEV.out]; exact hB.1 rfl), HEV.out.symm, rfl⟩)
   clear hB
   go_wp2_with (first|refine zw ?_|refine zs ?_)
   intro W4 hU
   have H4 := zh hU.blk
   have HB4 : Hid (zB w W4) := hU.bel _ _ zc HB3.out
   clear hU
   have R0 := zh (H4.out.cell 0)
   have R1 := zh (H4.out.cell 1)
   have R2 := zh (H4.out.cell 2)
   have R3 := zh (H4.out.cell 3)
   have R4 := zh (H4.out.cell 4)
   have R5 := zh (H4.out.cell 5)
   have R6 := zh (H4.out.cell 6)
   have R7 := zh (H4.out.cell 7)
   have R8 := zh (H4.out.cell 8)
   have R9 := zh (H4.out.cell 9)
   have R10 := zh (H4.out.cell 10)
   have R11 := zh (H4.out.cell 11)
   have R12 := zh (H4.out.cell 12)
   go_wp2_with fail
   exact zr (.tuple #[.agg #[.int .i64 y0, .int .i64 y1, .int .i64 y2, .int .i64 y3, .int .i64 y4, .int .i64 y5, .int .i64 y6, .int .i64 y7, .int .i64 y8, .int .i64 y9, .int .i64 y10, .int .i64 y11, .int .i64 y12], .int .i64 0]) (by simp[results, Tryz.results82, R0.out, R1.out, R2.out, R3.out, R4.out, R5.out, R6.out, R7.out, R8.out, R9.out, R10.out, R11.out, R12.out, go_sem]) ⟨⟨y0, y1, y2, y3, y4, y5, y6, y7, y8, y9, y10, y11, y12⟩, 0, rfl, HD.out, HB4.out⟩
 ·skip
  have hne : ((n : Int) != 13) = true := by simp; omega
  have HD : Hid (DecIs l ev0 1) :=.inl ⟨by rw[hl]; exact hn, rfl, rfl⟩
  have HO3 := HO0
  have HB3 := HB0
  clear hn hl hr hw
  go_enter Tryz.func82, Tryz.ntmps82
  go_upto_region 1 with fail
  generalize (w.alloc (.cells #[.int .i64 0, .int .i64 0, .int .i64 0, .int .i64 0, .int .i64 0, .int .i64 0, .int .i64 0, .int .i64 0, .int .i64 0, .int .i64 0, .int .i64 0, .int .i64 0, .int .i64 0] 44)) = w3 at *
  go_wp2_with refine zs ?_
  intro W4 hU
  have H4 := zh hU.blk
  have HB4 : Hid (zB w W4) := hU.bel _ _ zc HB3.out
  clear hU
  obtain⟨R0, R1, R2, R3, R4, R5, R6, R7, R8, R9, R10, R11, R12⟩ := shc13 H4
  go_wp2_with fail
  exact zr (.tuple #[.agg #[.int .i64 0, .int .i64 0, .int .i64 0, .int .i64 0, .int .i64 0, .int .i64 0, .int .i64 0, .int .i64 0, .int .i64 0, .int .i64 0, .int .i64 0, .int .i64 0, .int .i64 0], .int .i64 1]) (by simp[results, Tryz.results82, R0.out, R1.out, R2.out, R3.out, R4.out, R5.out, R6.out, R7.out, R8.out, R9.out, R10.out, R11.out, R12.out, go_sem]) ⟨ev0, 1, rfl, HD.out, HB4.out⟩
end book
namespace ora
open Go.RowKit
def Given(w:World)(l:List Pr)(e:Ending)(w':World):Prop:=
 zB w w'∧((May l∧∃B,e=.returned (.tuple #[.map (some B),.bool true])∧Mp w' B l)∨(¬ May l∧e=.returned (.tuple #[.map none,.bool false])))
def Seen(l:List Pr)(k:Nat):Prop:=∀i,i<k→(l.getD i pr0).may∧At l (l.getD i pr0).m (l.getD i pr0).r (l.getD i pr0).b i
structure Bg (w wr:World) (B:Nat) (a:Option Addr) (n cap:Nat) (l:List Pr) (k:Nat):Prop where
 bo:Bo w wr a n cap l
 mp:Mp wr B (l.take k)
 hB:w.heap.size≤B
variable{l:List Pr}{a:Option Addr}{n cap:Nat}{k:Nat}{B:Nat}
theorem Bg.next{w wr w':World}(h:Bg w wr B a n cap l k)(hb:zB wr w'):Bg w w' B a n cap l k:=⟨h.bo.next hb,h.mp.below hb,h.hB⟩
theorem Bg.alloc{w wr:World}(h:Bg w wr B a n cap l k)(o:Obj):Bg w (wr.alloc o) B a n cap l k:=h.next (zb.alloc zc _)
theorem Bg.drew{w wr:World}(h:Bg w wr B a n cap l k)(q:Nat):Bg w (wr.drewN q) B a n cap l k:=h.next (bel_drew zb q)
theorem rowP_oth{w W:World}{n:Nat}{l':List Pr}(h:RowP w a n l)(hM:Mp w B l')(ho:∀G,G≠B→W.heap[G]?=w.heap[G]?):RowP W a n l:=by
 refine⟨h.1,?_⟩;rcases h.2 with f|⟨b,c,rfl,p⟩
 ·exact .inl f
 ·refine .inr ⟨b,c,rfl,λi q=>?_⟩;obtain⟨d,g,j,k⟩:=p i q
  have m:b≠B:=by
   rintro rfl;unfold Mp at hM;simp[World.cell?,hM] at d
  have e:∀o,W.cell? ⟨b,o,none⟩=w.cell? ⟨b,o,none⟩:=λo=>by simp only[World.cell?,ho b m]
  exact⟨(e _).trans d,(e _).trans g,(e _).trans j,(e _).trans k⟩
theorem blk_oth{w W:World}{G B:Nat}{cs:Array Value}{t:TypeId}{l':List Pr}(h:Blk w G cs t)(hM:Mp w B l')(ho:∀G,G≠B→W.heap[G]?=w.heap[G]?):Blk W G cs t:=by
 have a:G≠B:=by
  rintro rfl;unfold Mp at hM;unfold Blk at h;rw[h] at hM;cases hM
 unfold Blk at *;rw[ho G a];exact h
theorem Bg.put{w wr W:World}(h:Bg w wr B a n cap l k)(hk:k<l.length)(hM:Mp W B (l.take k++[⟨(l.getD k pr0).m,(l.getD k pr0).r,(l.getD k pr0).b,(l.getD k pr0).t⟩]))
  (ho:∀G,G≠B→W.heap[G]?=wr.heap[G]?) (hb:∀B0 w0,B0≤B→Below B0 w0 wr→Below B0 w0 W):Bg w W B a n cap l (k+1):=
 ⟨⟨blk_oth h.bo.box h.mp ho,rowP_oth h.bo.row h.mp ho,hb _ _ h.hB h.bo.bel⟩,by rw[take_nextP l k hk] at hM;exact hM,h.hB⟩
theorem seen_no(hk:k<l.length)(hm:May l):look (l.take k) (l.getD k pr0).m (l.getD k pr0).r (l.getD k pr0).b=none:=(look_take (by omega)).2 (hm.each k hk).2.first
theorem seen_yes(hk:k<l.length)(hs:Seen l k)(hl:look (l.take k) (l.getD k pr0).m (l.getD k pr0).r (l.getD k pr0).b=none)(hp:(Pr.mk (l.getD k pr0).m (l.getD k pr0).r (l.getD k pr0).b (l.getD k pr0).t).may):Seen l (k+1):=λi a=>by
 by_cases e:i=k
 ·subst e;exact⟨hp,hk,⟨rfl,rfl,rfl⟩,(look_take (by omega)).1 hl⟩
 ·exact hs i (by omega)
theorem given_any(a:Option Addr)(n cap:Nat)(l:List Pr)(w:World)(hr:RowP w a n l):
  Calls Tryz.prog 114 #[.agg #[.slice a n cap]] w λe w'=>Given w l e w':=by
 have I:Hid (Bo w (w.alloc (.cells #[.slice a n cap] 28)) a n cap l):=Bo.new hr;have Y:=zh hr.1;clear hr;have c0:=I.o.box.cell 0;by_cases hn:n≤500
 ·have H:decide ((500:Int)<(n:Int))=false:=by simp;omega
  obtain⟨B,hBe⟩:∃B,B=w.heap.size+1:=⟨_,rfl⟩
  have ae:∀z:Int,(Instr.makeMap 178 (some (zI z))).run Tryz.prog (w.alloc (.cells #[.slice a n cap] 28))=.ok (.map (some B)) ((w.alloc (.cells #[.slice a n cap] 28)).alloc (.map #[] 0)):=λz=>by rw[run_mkMap,hBe];simp
  have T:Hid (Bg w ((w.alloc (.cells #[.slice a n cap] 28)).alloc (.map #[] 0)) B a n cap l 0):=⟨I.o.alloc _,by
   have:=Mp.new (w.alloc (.cells #[.slice a n cap] 28));rw[show (w.alloc (.cells #[.slice a n cap] 28)).heap.size=B by rw[hBe];simp] at this
   rw [List.take_zero];exact this,by omega⟩
  have d0:=T.o.bo.box.cell 0;clear hBe;have ac:Hid (∀W m r b t,zC 115 #[.agg #[zI m,zI r,zI b,zI t]] W λe w'=>Told W (Pr.mk m r b t).may e w'):=λW m r b t=>within_any m r b t W;have a1:Hid (∀W m r b t,zC 116 #[.agg #[zI m,zI r,zI b,zI t]] W λe w'=>e=.returned (.agg #[zI m,zI r,zI b])∧zB W w'):=λW m r b t=>of_any m r b t W;go_enter Tryz.func114,Tryz.ntmps114;go_wp2_with fail;clear c0 d0 ae H;generalize (w.alloc (.cells #[.slice a n cap] 28)).alloc (.map #[] 0)=W0 at *;go_loopw [20] (λj wr=>∃k:Nat,k≤n∧j=zI (k:Int)∧Hid (Seen l k)∧Bg w wr B a n cap l k) (λj _=>n-(intOf j).toNat)
  case atStart=>exact⟨0,Nat.zero_le _,rfl,λi hi=>absurd hi (Nat.not_lt_zero _),T.o⟩
  case round=>
   obtain⟨k,hk,rfl,HA,a4⟩:=hrel;have U:=zh a4;clear a4;by_cases P:k<n
   ·obtain⟨L,f,rfl,_,hc⟩:=U.o.bo.row.at (by omega);obtain⟨f0,f1,f2,f3⟩:=hc k P;have y:k<l.length:=by rw[Y.o];exact P
    have aa:Hid (look (l.take k) (l.getD k pr0).m (l.getD k pr0).r (l.getD k pr0).b≠none→¬ May l):=λh hm=>h (seen_no y hm);have a9:Hid (May l→(Pr.mk (l.getD k pr0).m (l.getD k pr0).r (l.getD k pr0).b (l.getD k pr0).t).may):=λhm=>(hm.each k y).1;have ab:Hid (look (l.take k) (l.getD k pr0).m (l.getD k pr0).r (l.getD k pr0).b=none→(Pr.mk (l.getD k pr0).m (l.getD k pr0).r (l.getD k pr0).b (l.getD k pr0).t).may→Seen l (k+1)):=λh1 h2=>seen_yes y HA.o h1 h2;have a2:Hid (∀v W,Bg w v B (some ⟨L,f,none⟩) n cap l k→Mp W B (l.take k++[⟨(l.getD k pr0).m,(l.getD k pr0).r,(l.getD k pr0).b,(l.getD k pr0).t⟩])→(∀G,G≠B→W.heap[G]?=v.heap[G]?)→(∀B0 w0,B0≤B→Below B0 w0 v→Below B0 w0 W)→Bg w W B (some ⟨L,f,none⟩) n cap l (k+1)):=λv W h1 h2 h3 h4=>h1.put y h2 h3 h4;clear hc y;generalize (l.getD k pr0).m=p at *;generalize (l.getD k pr0).r=c at *;generalize (l.getD k pr0).b=g at *;generalize (l.getD k pr0).t=E at *;have S:=Blk.new wr #[zI p,zI c,zI g,zI E] 87;have n0:=S.cell 0;have n1:=S.cell 1;have n2:=S.cell 2;have n3:=S.cell 3;have a0:=zh S;have V:Hid (Bg w (wr.alloc (.cells #[zI p,zI c,zI g,zI E] 87)) B (some ⟨L,f,none⟩) n cap l k):=U.o.alloc _;clear S U;go_wp2_with fail;refine(a1.o _ _ _ _ _).mono ?_;rintro e w2 ⟨rfl,M⟩;have C:Hid (Bg w w2 B (some ⟨L,f,none⟩) n cap l k):=V.o.next M;have F:=shN a0 M;have m0:=F.o.cell 0;have m1:=F.o.cell 1;have m2:=F.o.cell 2;have m3:=F.o.cell 3;have A:=look_run C.o.mp p c g;clear a0 M n0 n1 n2 n3 V f0 f1 f2 f3;generalize wr.heap.size=d at *;cases hlo:look (l.take k) p c g with
    |some x=>
     rw[hlo] at A;simp only[Option.getD_some,Option.isSome_some] at A;have J:Hid (¬ May l):=aa.o (by rw[hlo];exact λh=>by cases h);clear hlo;go_wp2_with fail;go_ret2;exact⟨C.o.bo.bel,.inr ⟨J.o,rfl⟩⟩
    |none=>
     rw[hlo] at A;simp only[Option.getD_none,Option.isSome_none] at A;have Z:Hid (look (l.take k) p c g=none):=hlo;clear hlo;go_wp2_with fail;refine(ac.o _ _ _ _ _).mono ?_;rintro e R ⟨rr,rfl,D,N⟩;have X:Hid (Bg w R B (some ⟨L,f,none⟩) n cap l k):=C.o.next N;have q:=shN F N;clear A m0 m1 m2 m3 F C N;cases rr with
     |false=>
      have J:Hid (¬ May l):=λhm=>by have:=D.2 (a9.o hm);cases this
      clear D;go_wp2_with fail;go_ret2;exact⟨X.o.bo.bel,.inr ⟨J.o,rfl⟩⟩
     |true=>
      have ad:Hid ((Pr.mk p c g E).may):=D.1 rfl;clear D;have K3:Hid (R.drew.cell? ⟨d,0,none⟩=some (zI p)∧R.drew.cell? ⟨d,0+1,none⟩=some (zI c)∧R.drew.cell? ⟨d,0+2,none⟩=some (zI g)∧R.drew.cell? ⟨d,0+3,none⟩=some (zI E)):=⟨q.o.cell 0,q.o.cell 1,q.o.cell 2,q.o.cell 3⟩
      have a6:Hid (Bg w R.drew B (some ⟨L,f,none⟩) n cap l k):=X.o.drew 1;have a8:Hid (Blk R.drew d #[zI p,zI c,zI g,zI E] 87):=q.o;go_wp2_with fail
      go_region_held_law (λv=>v.cell? ⟨d,0,none⟩=some (zI p)∧v.cell? ⟨d,0+1,none⟩=some (zI c)∧v.cell? ⟨d,0+2,none⟩=some (zI g)∧v.cell? ⟨d,0+3,none⟩=some (zI E))
       (first|with_reducible exact K3.o|with_reducible exact K4.o|with_reducible exact K5.o)
       (first
        | (go_at_call 116;refine (a1.o _ _ _ _ _).mono ?_;rintro e w4 ⟨rfl,O⟩
           have K:=zh (a6.o.next O);have s:=shN a8 O;have K4:Hid (w4.cell? ⟨d,0,none⟩=some (zI p)∧w4.cell? ⟨d,0+1,none⟩=some (zI c)∧w4.cell? ⟨d,0+2,none⟩=some (zI g)∧w4.cell? ⟨d,0+3,none⟩=some (zI E)):=⟨s.o.cell 0,s.o.cell 1,s.o.cell 2,s.o.cell 3⟩
           obtain⟨W5,ah,a5,Q,a3,af⟩:=upd_run K.o.mp p c g E Z.o;have a7:Hid (Bg w W5 B (some ⟨L,f,none⟩) n cap l (k+1)):=a2.o _ _ K.o a5 Q a3;have u:=blk_oth s.o K.o.mp Q;have K5:Hid (W5.cell? ⟨d,0,none⟩=some (zI p)∧W5.cell? ⟨d,0+1,none⟩=some (zI c)∧W5.cell? ⟨d,0+2,none⟩=some (zI g)∧W5.cell? ⟨d,0+3,none⟩=some (zI E)):=⟨u.cell 0,u.cell 1,u.cell 2,u.cell 3⟩
           clear a5 Q a3 af u O))
      all_goals go_wp2_with fail
      all_goals go_roundw
      case rel=>exact⟨k+1,by omega,by go_num,ab.o Z.o ad.o,a7.o⟩
      case measure=>simp[intOf];omega
   ·obtain rfl:k=n:=by omega
    have ag:decide ((k:Int)<(k:Int))=false:=by simp
    have J:Hid (May l):=⟨by rw[Y.o];exact hn,λi hi=>HA.o i (by rw[← Y.o];exact hi)⟩
    have F:Hid (Mp wr B l):=by have:=U.o.mp;rw[List.take_of_length_le (by rw[Y.o];exact zc)] at this;exact this
    clear P;go_wp2_with fail;go_ret2;exact⟨U.o.bo.bel,.inl ⟨J.o,B,rfl,F.o⟩⟩
 ·have H:decide ((500:Int)<(n:Int))=true:=by simp;omega
  have J:Hid (¬ May l):=λh=>by have:=h.few;rw[Y.o] at this;omega
  clear hn;go_enter Tryz.func114,Tryz.ntmps114;go_wp2_with fail;go_ret2;exact⟨I.o.bel,.inr ⟨J.o,rfl⟩⟩
end ora
namespace words
open Go.RowKit
def hf(f:Nat→Nat)(i n:Nat):Nat:=nf (λj=>f (i+j)) (n-i)
theorem hf_zero(f:Nat→Nat)(n:Nat):hf f 0 n=nf f n:=by
 unfold hf;exact nf_congr λj _=>by rw[Nat.zero_add]
theorem hf_top(f:Nat→Nat)(n:Nat):hf f n n=0:=by unfold hf;rw[Nat.sub_self];rfl
theorem hf_step(f:Nat→Nat){i n:Nat}(h:i<n):hf f i n=f i+4294967296*hf f (i+1) n:=by
 unfold hf;rw[show n-i=(n-(i+1))+1 by omega,nf_cons]
 congr 2
 exact nf_congr λj _=>by rw[show i+(j+1)=i+1+j by omega]
theorem hf_congr{f g:Nat→Nat}{i n:Nat}(h:∀j,i≤j→f j=g j):hf f i n=hf g i n:=by
 unfold hf;exact nf_congr λj _=>h _ (by omega)
theorem small_step{Q A r d x:Nat}(h:Q*d+r=A):((r*4294967296+x)/d+4294967296*Q)*d+(r*4294967296+x)%d=x+4294967296*A:=by
 have e:=Nat.div_add_mod (r*4294967296+x) d;have a:(r*4294967296+x)/d*d=d*((r*4294967296+x)/d):=Nat.mul_comm _ _;rw[Nat.add_mul,← h,Nat.mul_add,← Nat.mul_assoc 4294967296 Q d];omega
theorem small_fin{Q r d m:Nat}(h:Q*d+r=m)(hr:r<d):Q=m/d∧r=m%d:=by
 have a:m/d=Q:=by
  rw[← h,Nat.mul_comm,Nat.mul_add_div (by omega),Nat.div_eq_of_lt hr,Nat.add_zero]
 have b:m%d=r:=by
  rw[← h,Nat.mul_comm,Nat.mul_add_mod,Nat.mod_eq_of_lt hr]
 exact⟨a.symm,b.symm⟩
def TrimAt(w:World)(a:Option Addr)(cap m:Nat)(e:Ending)(w':World):Prop:=w'=w∧∃k,e=.returned (.slice a k cap)∧Ru w a k cap (dig m)
theorem trim_at(a:Option Addr)(n cap:Nat)(l:List Nat)(w:World)(h:Ru w a n cap l)(hn:n≤1000):
  Calls Tryz.prog 176 #[.slice a n cap] w λe w'=>TrimAt w a cap (nv l) e w':=by
 have d:Hid (Ru w a n cap l):=h;clear h;go_enter Tryz.func176,Tryz.ntmps176;go_wp2_with fail;go_loop [3] (λv=>∃k:Nat,k≤n∧v=zI k∧∀i,k≤i→i<n→l.getD i 0=0) (λv=>(intOf v).toNat)
 case atStart=>exact⟨n,zc,rfl,λi q m=>by omega⟩
 case round=>
  obtain⟨k,t,rfl,D⟩:=hrel;have B:Hid (∀i,k≤i→i<n→l.getD i 0=0):=D;clear D
  have j:(k=0∨l.getD (k-1) 0≠0)→TrimAt w a cap (nv l) (.returned (.slice a k cap)) w:=λI=>by
   have e:=trim_dig l k d.o.lt (by rw[d.o.len];exact t) (λi q m=>B.o i q (by rw[d.o.len] at m;exact m)) I;refine⟨rfl,k,rfl,?_⟩;rw[← e];refine⟨by rw[List.length_take,d.o.len];omega,λx K=>d.o.lt x (List.mem_of_mem_take K),d.o.nil,Nat.le_trans t d.o.room,?_,λb f s e hn=>d.o.typ b f s e (by omega)⟩;rcases d.o.cell with L|⟨b,f,rfl,p⟩
   ·exact .inl (by omega)
   ·refine .inr ⟨b,f,rfl,λi J=>?_⟩;rw[p i (by omega)]
    congr 3
    simp[List.getD,J]
  have A:Hid ((k=0∨l.getD (k-1) 0≠0)→TrimAt w a cap (nv l) (.returned (.slice a k cap)) w):=j;have z:=slice_top a n cap k w t d.o.room d.o.nil;clear j;by_cases u:k=0
  ·subst u;go_wp2_with fail;go_ret;exact A.o (.inl (by trivial))
  ·obtain⟨b,f,rfl,p⟩:=d.o.at (i:=k-1) (by omega);have G:(k:Int)-1=((k-1:Nat):Int):=by omega
   have kp:(0:Int)<(k:Int):=by omega
   by_cases c:l.getD (k-1) 0=0
   ·rw[c] at p
    have F:Hid (∀i,k-1≤i→i<n→l.getD i 0=0):=λi q m=>by
     by_cases e:i=k-1
     ·rw[e];exact c
     ·exact B.o i (by omega) m
    clear z c;have C:k-1<n:=by omega
    generalize r:k-1=g at *;go_wp2_with fail;go_round
    case rel=>exact⟨g,by omega,by go_num,F.o⟩
    case measure=>simp[intOf];omega
   ·have H:((((l.getD (k-1) 0:Nat):Int))==0)=false:=beq_eq_false_iff_ne.2 (by omega);have E:Hid (l.getD (k-1) 0≠0):=c;clear c;have C:k-1<n:=by omega
    generalize ((l.getD (k-1) 0:Nat):Int)=y at H p;generalize r:k-1=g at p G C;go_wp2_with fail;go_ret;exact A.o (.inr E.o)
def SmallGives(w:World)(m r:Nat)(e:Ending)(w':World):Prop:=∃a n cap,e=.returned (.tuple #[.slice a n cap,.int .u32 (r:Int)])∧Ru w' a n cap (dig m)∧zB w w'∧∀b off,a=some ⟨b,off,none⟩→w.heap.size≤b
theorem small_any(a:Option Addr)(n ca d:Nat)(la:List Nat)(w:World)(ha:Ru w a n ca la)(hn:n≤100)(d0:0<d)(d1:d<4294967296):
  Calls Tryz.prog 141 #[.slice a n ca,.int .u32 (d:Int)] w λe w'=>SmallGives w (nv la/d) (nv la%d) e w':=by
 obtain⟨i0,U,D,E,F⟩:=info_parts info_u32;have G:Hid (Ru w a n ca la):=ha;clear ha;go_enter Tryz.func141,Tryz.ntmps141
 go_wp2_with (first
  | (at_make;refine wpList_make_full _ rfl _ _ 25 rfl w.heap.size 83 i0 (.int .u32 0) 1 Tryz.underlying25 U D E _ _ _ _ n rfl rfl ?c0 ?c1 ?c2 ?c3 ?c4 ?_))
 try (case c0=>first|rfl|(congr 1;omega))
 try (case c1=>first|rfl|(congr 1;omega))
 case c2=>first|omega|(rw[F];omega)
 case c3=>unfold maxLen;omega
 try (case c4=>simp)
 intro W p z;have L:Hid (RowU W w.heap.size n (λ_=>0)):=rowU_made p;have H:Hid (zB w W):=zb.grown z zc (λk hk=>by cases hk);clear p z U D E F;go_wp2_with fail;go_loopw [7,8] (λrv S wr=>∃(k r:Nat)(f:Nat→Nat),k≤n∧S=zI ((k:Int)-1)∧rv=.int .u64 (r:Int)∧r<d∧RowU wr w.heap.size n f∧(∀j,j<n→f j<4294967296)∧zB w wr∧hf f k n*d+r=hf (λj=>la.getD j 0) k n) (λ_ S _=>(intOf S+1).toNat)
 case atStart=>exact⟨n,0,λ_=>0,zc,rfl,rfl,d0,L.o,λ_ _=>(by decide:0<4294967296),H.o,by rw[hf_top,hf_top,Nat.zero_mul]⟩
 case round=>
  obtain⟨k,r,f,a0,rfl,rfl,B,c,m,y,h⟩:=hrel;by_cases N:k=0
  ·subst N;have K:Hid (Ru wr (some ⟨w.heap.size,0,none⟩) n n ((List.range n).map f)):=c.ru m;have X:Hid (zB w wr):=y
   have l:nv ((List.range n).map f)=nv la/d∧r=nv la%d:=by
    rw[hf_zero,hf_zero,← nv_more la (by rw[G.o.len];exact zc),← nv_range] at h;exact small_fin h B
   have J:Hid (nv ((List.range n).map f)=nv la/d):=l.1;have HM:Hid (r=nv la%d):=l.2;have rb:(r:Int)<4294967296:=by omega
   have rm:(r:Int)%4294967296=r:=by omega
   clear c m y h l;go_wp2_with fail;refine(trim_at _ _ _ _ _ K.o (by omega)).mono ?_;rintro e w3 ⟨rfl,T,rfl,s⟩;rw[J.o] at s;have Z:Hid (SmallGives w (nv la/d) (nv la%d) (.returned (.tuple #[.slice (some ⟨w.heap.size,0,none⟩) T n,.int .u32 (r:Int)])) w3):=⟨some ⟨w.heap.size,0,none⟩,T,n,by rw[HM.o],s,X.o,λb a2 e=>by simp at e;omega⟩
   clear s;go_wp2_with fail;refine bodyPost_ret (v:=.tuple #[.slice (some ⟨w.heap.size,0,none⟩) T n,.int .u32 (r:Int)]) (by simp[results,Tryz.results141,go_sem]) rfl Z.o
  ·obtain⟨g,rfl⟩:∃g,k=g+1:=⟨k-1,by omega⟩
   have eg:((g+1:Nat):Int)-1=(g:Int):=by omega
   rw[eg];obtain⟨ba,oa,rfl,M⟩:=(G.o.below y).at (i:=g) (by omega);have hx:=G.o.word g;obtain⟨x,hxx⟩:∃x,la.getD g 0=x:=⟨_,rfl⟩
   rw[hxx] at M hx;have r0:=c.cell (i:=g) (by omega);have f0:=c.free g;obtain⟨fi,hfi⟩:∃fi:Int,((f g:Nat):Int)=fi:=⟨_,rfl⟩
   rw[hfi] at r0;clear hfi;have gn:(g:Int)<(n:Int):=by omega
   have O:=or_words r x (by omega) (by omega) (by omega) (by omega);have e0:(r:Int)*4294967296+(x:Int)=((r*4294967296+x:Nat):Int):=by omega
   have C:=small_step (Q:=hf f (g+1) n) (A:=hf (λj=>la.getD j 0) (g+1) n) (r:=r) (d:=d) (x:=x) h
   have P:(r*4294967296+x)/d<4294967296:=by
    rw[Nat.div_lt_iff_lt_mul d0];have:(r+1)*4294967296≤d*4294967296:=Nat.mul_le_mul_right _ B;rw[Nat.mul_comm 4294967296 d];omega
   have Y:Hid (∀j,j<n→updU f g ((r*4294967296+x)/d) j<4294967296):=λj V=>by
    unfold updU;split
    ·exact P
    ·exact m j V
   have J:Hid (hf (updU f g ((r*4294967296+x)/d)) g n*d+(r*4294967296+x)%d=hf (λj=>la.getD j 0) g n):=by
    have e3:hf (updU f g ((r*4294967296+x)/d)) (g+1) n=hf f (g+1) n:=hf_congr λj V=>by unfold updU;rw[if_neg (by omega)]
    have e4:updU f g ((r*4294967296+x)/d) g=(r*4294967296+x)/d:=by unfold updU;rw[if_pos rfl]
    have t:hf (updU f g ((r*4294967296+x)/d)) g n*d+(r*4294967296+x)%d=hf (λj=>la.getD j 0) g n:=by
     rw[hf_step _ (by omega:g<n),hf_step (λj=>la.getD j 0) (by omega:g<n),e3,e4,hxx];exact C
    exact t
   have R:(r*4294967296+x)%d<d:=Nat.mod_lt _ d0;have a1:r*4294967296+x<18446744073709551616:=by omega
   generalize hq:r*4294967296+x=q at *;rw[e0] at O;have e1:((q:Nat):Int)/(d:Int)=((q/d:Nat):Int):=by simp
   have e2:((q:Nat):Int)%(d:Int)=((q%d:Nat):Int):=by simp
   have K:Hid (RowU (wr.setCell ⟨w.heap.size,g,none⟩ (.int .u32 ((q/d:Nat):Int))) w.heap.size n (updU f g (q/d))):=c.set _ _;have I:Hid (zB w (wr.setCell ⟨w.heap.size,g,none⟩ (.int .u32 ((q/d:Nat):Int)))):=below_set y _ _ _ zc;clear C h m c y hxx hq;have di:0<(d:Int):=by omega
   have dl:(d:Int)<4294967296:=by omega
   have dz:((d:Int)==0)=false:=beq_eq_false_iff_ne.2 (by omega);generalize q/d=u at *;have ql:(u:Int)<4294967296:=by omega
   have qm:(u:Int)%4294967296=(u:Int):=by omega
   generalize q%d=v at *;go_wp2_with fail;go_roundw
   case rel=>exact⟨g,v,_,by omega,by go_num,by first|rfl|rw[e2],R,K.o,Y.o,I.o,J.o⟩
   case measure=>first|(simp[intOf];done)|(simp[intOf];omega)
end words
end Go.Proofs.YtoepgdhiepedeaaGreatDoor
