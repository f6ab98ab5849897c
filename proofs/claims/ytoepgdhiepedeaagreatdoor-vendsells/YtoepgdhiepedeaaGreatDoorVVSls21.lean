import Derived.Test.YtoepgdhiepedeaaGreatDoorVVSls12
import Derived.Test.YtoepgdhiepedeaaGreatDoorVVSls20
set_option linter.unusedVariables false
set_option linter.unusedSimpArgs false
set_option maxHeartbeats 4000000
set_option maxRecDepth 100000
namespace Go.Proofs.YtoepgdhiepedeaaGreatDoor
namespace book
open Go.RowKit
set_option maxRecDepth 100000
def DecPost(w : World)(l : List Int)(e : Ending)(w' : World): Prop := ∃v f, e=.returned (.tuple #[Ev.v v, .int .i64 f]) ∧ DecIs l v f ∧ zB w w'
theorem list13{l : List Int}(h : l.length = 13): l = [l.getD 0 0, l.getD 1 0, l.getD 2 0, l.getD 3 0, l.getD 4 0, l.getD 5 0, l.getD 6 0, l.getD 7 0, l.getD 8 0, l.getD 9 0, l.getD 10 0, l.getD 11 0, l.getD 12 0] := (evL_Of h).symm
set_option maxHeartbeats 8000000 in
theorem rdecoded(a : Option Addr)(n cap : Nat)(l : List Int)(w : World)(hr : cell.RowU w a n l)(hw : ∀x ∈ l, 0 ≤ x ∧ x<4294967296): Calls Tryz.prog 82 #[.slice a n cap] w λe w' => DecPost w l e w' := by
 have HO0 : Hid (Blk (w.alloc (.cells #[.int .i64 0, .int .i64 0, .int .i64 0, .int .i64 0, .int .i64 0, .int .i64 0, .int .i64 0, .int .i64 0, .int .i64 0, .int .i64 0, .int .i64 0, .int .i64 0, .int .i64 0] 44)) w.heap.size #[.int .i64 0, .int .i64 0, .int .i64 0, .int .i64 0, .int .i64 0, .int .i64 0, .int .i64 0, .int .i64 0, .int .i64 0, .int .i64 0, .int .i64 0, .int .i64 0, .int .i64 0] 44) := Blk.new w _ _
 have HB0 : Hid (zB w (w.alloc (.cells #[.int .i64 0, .int .i64 0, .int .i64 0, .int .i64 0, .int .i64 0, .int .i64 0, .int .i64 0, .int .i64 0, .int .i64 0, .int .i64 0, .int .i64 0, .int .i64 0, .int .i64 0] 44))) := zb.alloc zc _
 have hl := hr.1
 by_cases hn : n = 13
 ·subst hn
  have hl13 := list13 hl
  have HLN := zh hl
  obtain⟨bl, off, rfl, hbl, hc⟩ := hr.at (by decide)
  have HEV : Hid (evOf l = ⟨l.getD 0 0, l.getD 1 0, l.getD 2 0, l.getD 3 0, l.getD 4 0, l.getD 5 0, l.getD 6 0, l.getD 7 0, l.getD 8 0, l.getD 9 0, l.getD 10 0, l.getD 11 0, l.getD 12 0⟩) := rfl
  have x0 := hw (l.getD 0 0) (by rw[hl13]; simp)
  have x1 := hw (l.getD 1 0) (by rw[hl13]; simp)
  have x2 := hw (l.getD 2 0) (by rw[hl13]; simp)
  have x3 := hw (l.getD 3 0) (by rw[hl13]; simp)
  have x4 := hw (l.getD 4 0) (by rw[hl13]; simp)
  have x5 := hw (l.getD 5 0) (by rw[hl13]; simp)
  have x6 := hw (l.getD 6 0) (by rw[hl13]; simp)
  have x7 := hw (l.getD 7 0) (by rw[hl13]; simp)
  have x8 := hw (l.getD 8 0) (by rw[hl13]; simp)
  have x9 := hw (l.getD 9 0) (by rw[hl13]; simp)
  have x10 := hw (l.getD 10 0) (by rw[hl13]; simp)
  have x11 := hw (l.getD 11 0) (by rw[hl13]; simp)
  have x12 := hw (l.getD 12 0) (by rw[hl13]; simp)
  have HC0 : Hid (∀W, zB w W → W.cell? ⟨bl, off, none⟩ = some (.int .u32 (l.getD 0 0))) := λW hB => (hB.cell (p := ⟨bl, off + 0, none⟩) hbl).trans (hc 0 (by decide))
  have HC1 : Hid (∀W, zB w W → W.cell? ⟨bl, off + 1, none⟩ = some (.int .u32 (l.getD 1 0))) := λW hB => (hB.cell (p := ⟨bl, off + 1, none⟩) hbl).trans (hc 1 (by decide))
  have HC2 : Hid (∀W, zB w W → W.cell? ⟨bl, off + 2, none⟩ = some (.int .u32 (l.getD 2 0))) := λW hB => (hB.cell (p := ⟨bl, off + 2, none⟩) hbl).trans (hc 2 (by decide))
  have HC3 : Hid (∀W, zB w W → W.cell? ⟨bl, off + 3, none⟩ = some (.int .u32 (l.getD 3 0))) := λW hB => (hB.cell (p := ⟨bl, off + 3, none⟩) hbl).trans (hc 3 (by decide))
  have HC4 : Hid (∀W, zB w W → W.cell? ⟨bl, off + 4, none⟩ = some (.int .u32 (l.getD 4 0))) := λW hB => (hB.cell (p := ⟨bl, off + 4, none⟩) hbl).trans (hc 4 (by decide))
  have HC5 : Hid (∀W, zB w W → W.cell? ⟨bl, off + 5, none⟩ = some (.int .u32 (l.getD 5 0))) := λW hB => (hB.cell (p := ⟨bl, off + 5, none⟩) hbl).trans (hc 5 (by decide))
  have HC6 : Hid (∀W, zB w W → W.cell? ⟨bl, off + 6, none⟩ = some (.int .u32 (l.getD 6 0))) := λW hB => (hB.cell (p := ⟨bl, off + 6, none⟩) hbl).trans (hc 6 (by decide))
  have HC7 : Hid (∀W, zB w W → W.cell? ⟨bl, off + 7, none⟩ = some (.int .u32 (l.getD 7 0))) := λW hB => (hB.cell (p := ⟨bl, off + 7, none⟩) hbl).trans (hc 7 (by decide))
  have HC8 : Hid (∀W, zB w W → W.cell? ⟨bl, off + 8, none⟩ = some (.int .u32 (l.getD 8 0))) := λW hB => (hB.cell (p := ⟨bl, off + 8, none⟩) hbl).trans (hc 8 (by decide))
  have HC9 : Hid (∀W, zB w W → W.cell? ⟨bl, off + 9, none⟩ = some (.int .u32 (l.getD 9 0))) := λW hB => (hB.cell (p := ⟨bl, off + 9, none⟩) hbl).trans (hc 9 (by decide))
  have HC10 : Hid (∀W, zB w W → W.cell? ⟨bl, off + 10, none⟩ = some (.int .u32 (l.getD 10 0))) := λW hB => (hB.cell (p := ⟨bl, off + 10, none⟩) hbl).trans (hc 10 (by decide))
  have HC11 : Hid (∀W, zB w W → W.cell? ⟨bl, off + 11, none⟩ = some (.int .u32 (l.getD 11 0))) := λW hB => (hB.cell (p := ⟨bl, off + 11, none⟩) hbl).trans (hc 11 (by decide))
  have HC12 : Hid (∀W, zB w W → W.cell? ⟨bl, off + 12, none⟩ = some (.int .u32 (l.getD 12 0))) := λW hB => (hB.cell (p := ⟨bl, off + 12, none⟩) hbl).trans (hc 12 (by decide))
  clear hc hr hw hl hl13
  generalize l.getD 0 0 = y0 at *
  obtain⟨x00, x01⟩ := x0
  generalize l.getD 1 0 = y1 at *
  obtain⟨x10, x11⟩ := x1
  generalize l.getD 2 0 = y2 at *
  obtain⟨x20, x21⟩ := x2
  generalize l.getD 3 0 = y3 at *
  obtain⟨x30, x31⟩ := x3
  generalize l.getD 4 0 = y4 at *
  obtain⟨x40, x41⟩ := x4
  generalize l.getD 5 0 = y5 at *
  obtain⟨x50, x51⟩ := x5
  generalize l.getD 6 0 = y6 at *
  obtain⟨x60, x61⟩ := x6
  generalize l.getD 7 0 = y7 at *
  obtain⟨x70, x71⟩ := x7
  generalize l.getD 8 0 = y8 at *
  obtain⟨x80, x81⟩ := x8
  generalize l.getD 9 0 = y9 at *
  obtain⟨x90, x91⟩ := x9
  generalize l.getD 10 0 = y10 at *
  obtain⟨x100, x101⟩ := x10
  generalize l.getD 11 0 = y11 at *
  obtain⟨x110, x111⟩ := x11
  generalize l.getD 12 0 = y12 at *
  obtain⟨x120, x121⟩ := x12
  have HMY : Hid (∀W, zC 83 #[.agg #[.int .i64 y0, .int .i64 y1, .int .i64 y2, .int .i64 y3, .int .i64 y4, .int .i64 y5, .int .i64 y6, .int .i64 y7, .int .i64 y8, .int .i64 y9, .int .i64 y10, .int .i64 y11, .int .i64 y12]] W λe w' => MayPost W ⟨y0, y1, y2, y3, y4, y5, y6, y7, y8, y9, y10, y11, y12⟩ e w') := λW => rmay ⟨y0, y1, y2, y3, y4, y5, y6, y7, y8, y9, y10, y11, y12⟩ W
  go_enter Tryz.func82, Tryz.ntmps82
  go_upto_region 3 with fail
  generalize (w.alloc (.cells #[.int .i64 0, .int .i64 0, .int .i64 0, .int .i64 0, .int .i64 0, .int .i64 0, .int .i64 0, .int .i64 0, .int .i64 0, .int .i64 0, .int .i64 0, .int .i64 0, .int .i64 0] 44)) = W0 at *
  refine wp_region_held_drew (S := λv => zB w v) (by kernel_rfl) HB0.out.drew (λhHeld => ?_)
  refine zt' 0 (.slice (some ⟨bl, off, none⟩) 13 cap) ?_
  refine zt' 1 (.pointer (some ⟨bl, off + 3, none⟩)) ?_
  refine zu' 2 (.int .u32 y3) rfl rfl (Or.inl ⟨by rfl, λv hv => by have h2 := HC3.out v hv; clear hv; go_simp⟩) ?_
  refine zu' 3 (.int .i64 y3) rfl rfl (Or.inl ⟨by rfl, λv hv => by have h2 : IntKind.i64.wrap y3 = y3 := (by rw[IntKind.wrap_i64]; omega); clear hv; go_simp⟩) ?_
  refine zt' 4 (.slice (some ⟨bl, off, none⟩) 13 cap) ?_
  refine zt' 5 (.pointer (some ⟨bl, off + 4, none⟩)) ?_
  refine zu' 6 (.int .u32 y4) rfl rfl (Or.inl ⟨by rfl, λv hv => by have h2 := HC4.out v hv; clear hv; go_simp⟩) ?_
  refine zu' 7 (.int .i64 y4) rfl rfl (Or.inl ⟨by rfl, λv hv => by have h2 : IntKind.i64.wrap y4 = y4 := (by rw[IntKind.wrap_i64]; omega); clear hv; go_simp⟩) ?_
  refine zt' 8 (.slice (some ⟨bl, off, none⟩) 13 cap) ?_
  refine zt' 9 (.pointer (some ⟨bl, off + 5, none⟩)) ?_
  refine zu' 10 (.int .u32 y5) rfl rfl (Or.inl ⟨by rfl, λv hv => by have h2 := HC5.out v hv; clear hv; go_simp⟩) ?_
  refine zu' 11 (.int .i64 y5) rfl rfl (Or.inl ⟨by rfl, λv hv => by have h2 : IntKind.i64.wrap y5 = y5 := (by rw[IntKind.wrap_i64]; omega); clear hv; go_simp⟩) ?_
  refine zt' 12 (.slice (some ⟨bl, off, none⟩) 13 cap) ?_
  refine zt' 13 (.pointer (some ⟨bl, off + 6, none⟩)) ?_
  refine zu' 14 (.int .u32 y6) rfl rfl (Or.inl ⟨by rfl, λv hv => by have h2 := HC6.out v hv; clear hv; go_simp⟩) ?_
  refine zu' 15 (.int .i64 y6) rfl rfl (Or.inl ⟨by rfl, λv hv => by have h2 : IntKind.i64.wrap y6 = y6 := (by rw[IntKind.wrap_i64]; omega); clear hv; go_simp⟩) ?_
  refine zt' 16 (.slice (some ⟨bl, off, none⟩) 13 cap) ?_
  refine zt' 17 (.pointer (some ⟨bl, off + 7, none⟩)) ?_
  refine zu' 18 (.int .u32 y7) rfl rfl (Or.inl ⟨by rfl, λv hv => by have h2 := HC7.out v hv; clear hv; go_simp⟩) ?_
  refine zu' 19 (.int .i64 y7) rfl rfl (Or.inl ⟨by rfl, λv hv => by have h2 : IntKind.i64.wrap y7 = y7 := (by rw[IntKind.wrap_i64]; omega); clear hv; go_simp⟩) ?_
  refine zt' 20 (.slice (some ⟨bl, off, none⟩) 13 cap) ?_
  refine zt' 21 (.pointer (some ⟨bl, off + 8, none⟩)) ?_
  refine zu' 22 (.int .u32 y8) rfl rfl (Or.inl ⟨by rfl, λv hv => by have h2 := HC8.out v hv; clear hv; go_simp⟩) ?_
  refine zu' 23 (.int .i64 y8) rfl rfl (Or.inl ⟨by rfl, λv hv => by have h2 : IntKind.i64.wrap y8 = y8 := (by rw[IntKind.wrap_i64]; omega); clear hv; go_simp⟩) ?_
  refine zt' 24 (.slice (some ⟨bl, off, none⟩) 13 cap) ?_
  refine zt' 25 (.pointer (some ⟨bl, off + 9, none⟩)) ?_
  refine zu' 26 (.int .u32 y9) rfl rfl (Or.inl ⟨by rfl, λv hv => by have h2 := HC9.out v hv; clear hv; go_simp⟩) ?_
  refine zu' 27 (.int .i64 y9) rfl rfl (Or.inl ⟨by rfl, λv hv => by have h2 : IntKind.i64.wrap y9 = y9 := (by rw[IntKind.wrap_i64]; omega); clear hv; go_simp⟩) ?_
  refine zt' 28 (.agg #[.int .i64 y3, .int .i64 y4, .int .i64 y5, .int .i64 y6, .int .i64 y7, .int .i64 y8, .int .i64 y9]) ?_
  have HB1 := zh HB0.out.drew
  have HO1 : Hid (Blk W0.drew w.heap.size #[.int .i64 0, .int .i64 0, .int .i64 0, .int .i64 0, .int .i64 0, .int .i64 0, .int .i64 0, .int .i64 0, .int .i64 0, .int .i64 0, .int .i64 0, .int .i64 0, .int .i64 0] 44) := HO0.out
  generalize hU0 : W0.drew = U at *
  clear hU0
  refine zo 29 λK hK => ?_
  rw[if_pos (by rfl)]
  have HBA : Hid (zB w (U.alloc (.cells #[.int .i64 0, .int .i64 0, .int .i64 0, .int .i64 0, .int .i64 0, .int .i64 0, .int .i64 0] 33))) := HB1.out.alloc HB1.out.size _
  have HSU := zh HB1.out.size
  have HO1a : Hid (Blk (U.alloc (.cells #[.int .i64 0, .int .i64 0, .int .i64 0, .int .i64 0, .int .i64 0, .int .i64 0, .int .i64 0] 33)) w.heap.size #[.int .i64 0, .int .i64 0, .int .i64 0, .int .i64 0, .int .i64 0, .int .i64 0, .int .i64 0, .int .i64 0, .int .i64 0, .int .i64 0, .int .i64 0, .int .i64 0, .int .i64 0] 44) := HO1.out.alloc _
  have HO1l := zh HO1.out.lt
  have HGA : Hid (Blk (U.alloc (.cells #[.int .i64 0, .int .i64 0, .int .i64 0, .int .i64 0, .int .i64 0, .int .i64 0, .int .i64 0] 33)) U.heap.size #[.int .i64 0, .int .i64 0, .int .i64 0, .int .i64 0, .int .i64 0, .int .i64 0, .int .i64 0] 33) := Blk.new _ _ _
  refine wp_runOp (v :=.pointer (some ⟨U.heap.size, 0, none⟩)) (w' := (U.alloc (.cells #[.int .i64 0, .int .i64 0, .int .i64 0, .int .i64 0, .int .i64 0, .int .i64 0, .int .i64 0] 33))) 4 rfl (by clear hK; go_simp) ?_
  refine hK.out _ _ HBA.out (λhHeld => ?_)
  clear hK
  simp only[Act.put, zqa, zqb, zqc]
  generalize U.heap.size = gb at *
  generalize U.alloc _ = U2 at *
  refine zo 30 λK hK => ?_
  rw[if_pos (by rfl)]
  refine wp_letOp 33 _ _ rfl gb rfl #[.int .i64 y3, .int .i64 y4, .int .i64 y5, .int .i64 y6, .int .i64 y7, .int .i64 y8, .int .i64 y9] rfl (by kernel_rfl) (by simp[Value.oneCell']) #[.int .i64 0, .int .i64 0, .int .i64 0, .int .i64 0, .int .i64 0, .int .i64 0, .int .i64 0] 33 HGA.out rfl rfl ?_
  intro W1 hU
  have HB1z : Hid (zB w W1) := hU.bel _ _ HSU.out HBA.out
  have Hgb := zh hU.blk
  have HO1z : Hid (Blk W1 w.heap.size #[.int .i64 0, .int .i64 0, .int .i64 0, .int .i64 0, .int .i64 0, .int .i64 0, .int .i64 0, .int .i64 0, .int .i64 0, .int .i64 0, .int .i64 0, .int .i64 0, .int .i64 0] 44) := hU.keep HO1a.out (by have := HO1l.out; omega)
  refine hK.out _ _ HB1z.out (λhHeld => ?_)
  clear hK hU
  refine wpAnyH_done (by kernel_rfl) ?_ _
  clear hHeld
  go_upto_region 4 with fail
  have HD0 : Hid (∀W, zB W1 W → W.cell? ⟨bl, off, none⟩ = some (.int .u32 y0)) := λW hB => HC0.out W (HB1z.out.trans (hB.mono HB1z.out.size))
  have HD1 : Hid (∀W, zB W1 W → W.cell? ⟨bl, off + 1, none⟩ = some (.int .u32 y1)) := λW hB => HC1.out W (HB1z.out.trans (hB.mono HB1z.out.size))
  have HD2 : Hid (∀W, zB W1 W → W.cell? ⟨bl, off + 2, none⟩ = some (.int .u32 y2)) := λW hB => HC2.out W (HB1z.out.trans (hB.mono HB1z.out.size))
  have HD10 : Hid (∀W, zB W1 W → W.cell? ⟨bl, off + 10, none⟩ = some (.int .u32 y10)) := λW hB => HC10.out W (HB1z.out.trans (hB.mono HB1z.out.size))
  have HD11 : Hid (∀W, zB W1 W → W.cell? ⟨bl, off + 11, none⟩ = some (.int .u32 y11)) := λW hB => HC11.out W (HB1z.out.trans (hB.mono HB1z.out.size))
  have HD12 : Hid (∀W, zB W1 W → W.cell? ⟨bl, off + 12, none⟩ = some (.int .u32 y12)) := λW hB => HC12.out W (HB1z.out.trans (hB.mono HB1z.out.size))
  have HS0 : Hid (zB W1 W1.drew) := zb.drew
  refine wp_region_held_drew (S := λv => zB W1 v) (by kernel_rfl) HS0.out (λhHeld => ?_)
  refine zt' 0 (.slice (some ⟨bl, off, none⟩) 13 cap) ?_
  refine zt' 1 (.pointer (some ⟨bl, off, none⟩)) ?_
  refine zu' 2 (.int .u32 y0) rfl rfl (Or.inl ⟨by rfl, λv hv => by have h2 := HD0.out v hv; clear hv; go_simp⟩) ?_
  refine zu' 3 (.int .i64 y0) rfl rfl (Or.inl ⟨by rfl, λv hv => by have h2 : IntKind.i64.wrap y0 = y0 := (by rw[IntKind.wrap_i64]; omega); clear hv; go_simp⟩) ?_
  refine zt' 4 (.slice (some ⟨bl, off, none⟩) 13 cap) ?_
  refine zt' 5 (.pointer (some ⟨bl, off + 1, none⟩)) ?_
  refine zu' 6 (.int .u32 y1) rfl rfl (Or.inl ⟨by rfl, λv hv => by have h2 := HD1.out v hv; clear hv; go_simp⟩) ?_
  refine zu' 7 (.int .i64 y1) rfl rfl (Or.inl ⟨by rfl, λv hv => by have h2 : IntKind.i64.wrap y1 = y1 := (by rw[IntKind.wrap_i64]; omega); clear hv; go_simp⟩) ?_
  refine zt' 8 (.slice (some ⟨bl, off, none⟩) 13 cap) ?_
  refine zt' 9 (.pointer (some ⟨bl, off + 2, none⟩)) ?_
  refine zu' 10 (.int .u32 y2) rfl rfl (Or.inl ⟨by rfl, λv hv => by have h2 := HD2.out v hv; clear hv; go_simp⟩) ?_
  refine zu' 11 (.int .i64 y2) rfl rfl (Or.inl ⟨by rfl, λv hv => by have h2 : IntKind.i64.wrap y2 = y2 := (by rw[IntKind.wrap_i64]; omega); clear hv; go_simp⟩) ?_
  have HGB2 : Hid (∀v, zB W1 v → Blk v gb #[.int .i64 y3, .int .i64 y4, .int .i64 y5, .int .i64 y6, .int .i64 y7, .int .i64 y8, .int .i64 y9] 33) := λv hv => Hgb.out.next hv
  refine zu' 12 (.agg #[.int .i64 y3, .int .i64 y4, .int .i64 y5, .int .i64 y6, .int .i64 y7, .int .i64 y8, .int .i64 y9]) rfl rfl (yieldsIf_whole (by rfl) 33 _ rfl gb rfl 33 #[.int .i64 y3, .int .i64 y4, .int .i64 y5, .int .i64 y6, .int .i64 y7, .int .i64 y8, .int .i64 y9] _ (λv hv => HGB2.out v hv) Tryz.underlying33 rfl (by kernel_rfl)) ?_
  refine zt' 13 (.slice (some ⟨bl, off, none⟩) 13 cap) ?_
  refine zt' 14 (.pointer (some ⟨bl, off + 10, none⟩)) ?_
  refine zu' 15 (.int .u32 y10) rfl rfl (Or.inl ⟨by rfl, λv hv => by have h2 := HD10.out v hv; clear hv; go_simp⟩) ?_
  refine zu' 16 (.int .i64 y10) rfl rfl (Or.inl ⟨by rfl, λv hv => by have h2 : IntKind.i64.wrap y10 = y10 := (by rw[IntKind.wrap_i64]; omega); clear hv; go_simp⟩) ?_
  refine zt' 17 (.slice (some ⟨bl, off, none⟩) 13 cap) ?_
  refine zt' 18 (.pointer (some ⟨bl, off + 11, none⟩)) ?_
  refine zu' 19 (.int .u32 y11) rfl rfl (Or.inl ⟨by rfl, λv hv => by have h2 := HD11.out v hv; clear hv; go_simp⟩) ?_
  refine zu' 20 (.int .i64 y11) rfl rfl (Or.inl ⟨by rfl, λv hv => by have h2 : IntKind.i64.wrap y11 = y11 := (by rw[IntKind.wrap_i64]; omega); clear hv; go_simp⟩) ?_
  refine zt' 21 (.slice (some ⟨bl, off, none⟩) 13 cap) ?_
  refine zt' 22 (.pointer (some ⟨bl, off + 12, none⟩)) ?_
  refine zu' 23 (.int .u32 y12) rfl rfl (Or.inl ⟨by rfl, λv hv => by have h2 := HD12.out v hv; clear hv; go_simp⟩) ?_
  refine zu' 24 (.int .i64 y12) rfl rfl (Or.inl ⟨by rfl, λv hv => by have h2 : IntKind.i64.wrap y12 = y12 := (by rw[IntKind.wrap_i64]; omega); clear hv; go_simp⟩) ?_
  refine zt' 25 (.agg #[.int .i64 y11, .int .i64 y12]) ?_
  refine zt' 26 (.agg #[.int .i64 y0, .int .i64 y1, .int .i64 y2, .int .i64 y3, .int .i64 y4, .int .i64 y5, .int .i64 y6, .int .i64 y7, .int .i64 y8, .int .i64 y9, .int .i64 y10, .int .i64 y11, .int .i64 y12]) ?_
  have HO2 : Hid (Blk W1.drew w.heap.size #[.int .i64 0, .int .i64 0, .int .i64 0, .int .i64 0, .int .i64 0, .int .i64 0, .int .i64 0, .int .i64 0, .int .i64 0, .int .i64 0, .int .i64 0, .int .i64 0, .int .i64 0] 44) := HO1z.out
  clear Hgb
  generalize hU0 : W1.drew = U at *
  clear hU0
  refine zo 27 λK hK => ?_
  rw[if_pos (by rfl)]
  have HBA : Hid (zB W1 (U.alloc (.cells #[.int .i64 0, .int .i64 0, .int .i64 0, .int .i64 0, .int .i64 0, .int .i64 0, .int .i64 0, .int .i64 0, .int .i64 0, .int .i64 0, .int .i64 0, .int .i64 0, .int .i64 0] 44))) := HS0.out.alloc HS0.out.size _
  have HSU := zh HS0.out.size
  have HO2a : Hid (Blk (U.alloc (.cells #[.int .i64 0, .int .i64 0, .int .i64 0, .int .i64 0, .int .i64 0, .int .i64 0, .int .i64 0, .int .i64 0, .int .i64 0, .int .i64 0, .int .i64 0, .int .i64 0, .int .i64 0] 44)) w.heap.size #[.int .i64 0, .int .i64 0, .int .i64 0, .int .i64 0, .int .i64 0, .int .i64 0, .int .i64 0, .int .i64 0, .int .i64 0, .int .i64 0, .int .i64 0, .int .i64 0, .int .i64 0] 44) := HO2.out.alloc _
  have HO2l := zh HO2.out.lt
  have HGA : Hid (Blk (U.alloc (.cells #[.int .i64 0, .int .i64 0, .int .i64 0, .int .i64 0, .int .i64 0, .int .i64 0, .int .i64 0, .int .i64 0, .int .i64 0, .int .i64 0, .int .i64 0, .int .i64 0, .int .i64 0] 44)) U.heap.size #[.int .i64 0, .int .i64 0, .int .i64 0, .int .i64 0, .int .i64 0, .int .i64 0, .int .i64 0, .int .i64 0, .int .i64 0, .int .i64 0, .int .i64 0, .int .i64 0, .int .i64 0] 44) := Blk.new _ _ _
  refine wp_runOp (v :=.pointer (some ⟨U.heap.size, 0, none⟩)) (w' := (U.alloc (.cells #[.int .i64 0, .int .i64 0, .int .i64 0, .int .i64 0, .int .i64 0, .int .i64 0, .int .i64 0, .int .i64 0, .int .i64 0, .int .i64 0, .int .i64 0, .int .i64 0, .int .i64 0] 44))) 5 rfl (by clear hK; go_simp) ?_
  refine hK.out _ _ HBA.out (λhHeld => ?_)
  clear hK
  simp only[Act.put, zqa, zqb, zqc]
  generalize U.heap.size = gv at *
  generalize U.alloc _ = U2 at *
  refine zo 28 λK hK => ?_
  rw[if_pos (by rfl)]
  refine wp_letOp 44 _ _ rfl gv rfl #[.int .i64 y0, .int .i64 y1, .int .i64 y2, .int .i64 y3, .int .i64 y4, .int .i64 y5, .int .i64 y6, .int .i64 y7, .int .i64 y8, .int .i64 y9, .int .i64 y10, .int .i64 y11, .int .i64 y12] rfl (by kernel_rfl) (by simp[Value.oneCell']) #[.int .i64 0, .int .i64 0, .int .i64 0, .int .i64 0, .int .i64 0, .int .i64 0, .int .i64 0, .int .i64 0, .int .i64 0, .int .i64 0, .int .i64 0, .int .i64 0, .int .i64 0] 44 HGA.out rfl rfl ?_
  intro W2 hU
  have HS0z : Hid (zB W1 W2) := hU.bel _ _ HSU.out HBA.out
  have Hgv := zh hU.blk
  have HO2z : Hid (Blk W2 w.heap.size #[.int .i64 0, .int .i64 0, .int .i64 0, .int .i64 0, .int .i64 0, .int .i64 0, .int .i64 0, .int .i64 0, .int .i64 0, .int .i64 0, .int .i64 0, .int .i64 0, .int .i64 0] 44) := hU.keep HO2a.out (by have := HO2l.out; omega)
  refine hK.out _ _ HS0z.out (λhHeld => ?_)
  clear hK hU
  refine wpAnyH_done (by kernel_rfl) ?_ _
  clear hHeld
  have HB2z := zh (HB1z.out.trans (HS0z.out.mono HB1z.out.size))
  obtain⟨c0, c1, c2, c3, c4, c5, c6, c7, c8, c9, c10, c11, c12⟩ := scl13 Hgv
  go_wp2_with fail
  refine(HMY.out _).mono ?_
  rintro e w3 ⟨B, rfl, hB, hb3⟩
  obtain⟨HV3, HO3⟩ := zn2 hb3 Hgv HO2z
  have HB3 := shB HB2z hb3
  clear hb3 Hgv c0 c1 c2 c3 c4 c5 c6 c7 c8 c9 c10 c11 c12
  cases B with
  |false =>
   have HD : Hid (DecIs l ev0 5) :=.inr (.inl ⟨HLN.out, (λh => by rw[HEV.out] at h; exact absurd (hB.2 h) (by decide)), rfl, rfl⟩)
   clear hB
   go_wp2_with (first|refine zw ?_|refine zs ?_)
   intro W4 hU
   have H4 := zh hU.blk
   have HB4 : Hid (zB w W4) := hU.bel _ _ zc HB3.out
   clear hU
   obtain⟨R0, R1, R2, R3, R4, R5, R6, R7, R8, R9, R10, R11, R12⟩ := shc13 H4
   go_wp2_with fail
   exact zr (.tuple #[.agg #[.int .i64 0, .int .i64 0, .int .i64 0, .int .i64 0, .int .i64 0, .int .i64 0, .int .i64 0, .int .i64 0, .int .i64 0, .int .i64 0, .int .i64 0, .int .i64 0, .int .i64 0], .int .i64 5]) (by simp[results, Tryz.results82, R0.out, R1.out, R2.out, R3.out, R4.out, R5.out, R6.out, R7.out, R8.out, R9.out, R10.out, R11.out, R12.out, go_sem]) ⟨ev0, 5, rfl, HD.out, HB4.out⟩
  |true =>
   have HD : Hid (DecIs l ⟨y0, y1, y2, y3, y4, y5, y6, y7, y8, y9, y10, y11, y12⟩ 0) :=.inr (.inr ⟨HLN.out, (by rw[HEV.out]; exact hB.1 rfl), HEV.out.symm, rfl⟩)
   clear hB
   go_wp2_with (first|refine zw ?_|refine zs ?_)
   intro W4 hU
   have H4 := zh hU.blk
   have HB4 : Hid (zB w W4) := hU.bel _ _ zc HB3.out
   clear hU
   have R0 := zh (H4.out.cell 0)
   have R1 := zh (H4.out.cell 1)
   have R2 := zh (H4.out.cell 2)
   have R3 := zh (H4.out.cell 3)
   have R4 := zh (H4.out.cell 4)
   have R5 := zh (H4.out.cell 5)
   have R6 := zh (H4.out.cell 6)
   have R7 := zh (H4.out.cell 7)
   have R8 := zh (H4.out.cell 8)
   have R9 := zh (H4.out.cell 9)
   have R10 := zh (H4.out.cell 10)
   have R11 := zh (H4.out.cell 11)
   have R12 := zh (H4.out.cell 12)
   go_wp2_with fail
   exact zr (.tuple #[.agg #[.int .i64 y0, .int .i64 y1, .int .i64 y2, .int .i64 y3, .int .i64 y4, .int .i64 y5, .int .i64 y6, .int .i64 y7, .int .i64 y8, .int .i64 y9, .int .i64 y10, .int .i64 y11, .int .i64 y12], .int .i64 0]) (by simp[results, Tryz.results82, R0.out, R1.out, R2.out, R3.out, R4.out, R5.out, R6.out, R7.out, R8.out, R9.out, R10.out, R11.out, R12.out, go_sem]) ⟨⟨y0, y1, y2, y3, y4, y5, y6, y7, y8, y9, y10, y11, y12⟩, 0, rfl, HD.out, HB4.out⟩
 ·skip
  have hne : ((n : Int) != 13) = true := by simp; omega
  have HD : Hid (DecIs l ev0 1) :=.inl ⟨by rw[hl]; exact hn, rfl, rfl⟩
  have HO3 := HO0
  have HB3 := HB0
  clear hn hl hr hw
  go_enter Tryz.func82, Tryz.ntmps82
  go_upto_region 1 with fail
  generalize (w.alloc (.cells #[.int .i64 0, .int .i64 0, .int .i64 0, .int .i64 0, .int .i64 0, .int .i64 0, .int .i64 0, .int .i64 0, .int .i64 0, .int .i64 0, .int .i64 0, .int .i64 0, .int .i64 0] 44)) = w3 at *
  go_wp2_with refine zs ?_
  intro W4 hU
  have H4 := zh hU.blk
  have HB4 : Hid (zB w W4) := hU.bel _ _ zc HB3.out
  clear hU
  obtain⟨R0, R1, R2, R3, R4, R5, R6, R7, R8, R9, R10, R11, R12⟩ := shc13 H4
  go_wp2_with fail
  exact zr (.tuple #[.agg #[.int .i64 0, .int .i64 0, .int .i64 0, .int .i64 0, .int .i64 0, .int .i64 0, .int .i64 0, .int .i64 0, .int .i64 0, .int .i64 0, .int .i64 0, .int .i64 0, .int .i64 0], .int .i64 1]) (by simp[results, Tryz.results82, R0.out, R1.out, R2.out, R3.out, R4.out, R5.out, R6.out, R7.out, R8.out, R9.out, R10.out, R11.out, R12.out, go_sem]) ⟨ev0, 1, rfl, HD.out, HB4.out⟩
end book
namespace token
open Go.RowKit
theorem in_any(n lo hi:Int)(w:World):Calls Tryz.prog 47 #[zI n,zI lo,zI hi] w λe w'=>e=.returned (.bool (hasI lo hi n))∧w'=w:=by
 by_cases h:lo≤n∧n≤hi
 ·rw[hasI_yes.2 h];exact in_yes n lo hi w h.1 h.2
 ·rw[show hasI lo hi n=false by rw[← Bool.not_eq_true];exact λa=>h (hasI_yes.1 a)];exact in_no n lo hi w (by omega)
theorem amt_0(a:Int):hasI (amLo 0) (amHi 0) a=hasI 1 2097151 a:=rfl
theorem amt_2(a:Int):hasI (amLo 2) (amHi 2) a=hasI 1 15 a:=rfl
theorem amt_z(a:Int):hasI 0 0 a=(a==0):=by
 unfold hasI;by_cases h:a=0
 ·subst h;rfl
 ·rw[beq_eq_false_iff_ne.2 h,← Bool.not_eq_true,← hasI];exact λb=>h (by have:=hasI_yes.1 b;omega)
theorem fault_any(c i a t:Int)(w:World):
  Calls Tryz.prog 52 #[.agg #[zI c,zI i,zI a,zI t]] w λe w'=>e=.returned (zI (flawT c i a t))∧zB w w':=by
 have g:Hid (zB w (w.alloc (.cells #[zI c,zI i,zI a,zI t] 73))):=zb.alloc zc _;have d:Hid (∀W,zC 47 #[zI c,zI 0,zI 3] W λe w'=>e=.returned (.bool (hasI 0 3 c))∧w'=W):=λW=>in_any _ _ _ W;have k:Hid (∀W,zC 47 #[zI i,zI 1,zI 1048575] W λe w'=>e=.returned (.bool (hasI 1 1048575 i))∧w'=W):=λW=>in_any _ _ _ W;have l:Hid (∀W,zC 47 #[zI t,zI 0,zI 65535] W λe w'=>e=.returned (.bool (hasI 0 65535 t))∧w'=W):=λW=>in_any _ _ _ W;have p:Hid (∀W,zC 47 #[zI a,zI 1,zI 2097151] W λe w'=>e=.returned (.bool (hasI 1 2097151 a))∧w'=W):=λW=>in_any _ _ _ W;have q:Hid (∀W,zC 47 #[zI a,zI 1,zI 15] W λe w'=>e=.returned (.bool (hasI 1 15 a))∧w'=W):=λW=>in_any _ _ _ W;by_cases h:c<0∨3<c
 ·rw[flawT_class h];have b:hasI 0 3 c=false:=by rw[← Bool.not_eq_true];exact λr=>by have:=hasI_yes.1 r;omega
  rw[b] at d;clear h b;go_enter Tryz.func52,Tryz.ntmps52;go_wp2_with (go_at_call 47;refine(d.o _).mono ?_;rintro e w' ⟨rfl,rfl⟩)
  go_ret;exact⟨rfl,g.o⟩
 ·have b:hasI 0 3 c=true:=hasI_yes.2 (by omega);rw[b] at d;rw[flawT_in h];have s:Hid ((a==0)=hasI 0 0 a):=(amt_z a).symm;have j:(a != 0)=!(hasI 0 0 a):=by rw[amt_z];rfl
  generalize hasI 1 1048575 i=m at *;generalize hasI 0 65535 t=n at *;rcases (by omega:c=0∨c=1∨c=2∨c=3) with rfl|rfl|rfl|rfl
  ·rw[amt_0];clear j h b;generalize hasI 1 2097151 a=f at *;cases m<;>cases n<;>cases f
   all_goals
    go_enter Tryz.func52,Tryz.ntmps52
    go_wp2_with (first
     |(go_at_call_of 47 (Value.int .i64 3);refine(d.o _).mono ?_;rintro e w' ⟨rfl,rfl⟩)
     |(go_at_call_of 47 (Value.int .i64 1048575);refine(k.o _).mono ?_;rintro e w' ⟨rfl,rfl⟩)
     |(go_at_call_of 47 (Value.int .i64 65535);refine(l.o _).mono ?_;rintro e w' ⟨rfl,rfl⟩)
     | (go_at_call_of 47 (Value.int .i64 2097151);refine (p.o _).mono ?_;rintro e w' ⟨rfl,rfl⟩))
    go_ret;exact⟨rfl,g.o⟩
  ·rw[show hasI (amLo 1) (amHi 1) a=hasI 0 0 a from rfl];clear h b;generalize hasI 0 0 a=f at *;cases m<;>cases n<;>cases f
   all_goals
    go_enter Tryz.func52,Tryz.ntmps52
    go_wp2_with (first
     |(go_at_call_of 47 (Value.int .i64 3);refine(d.o _).mono ?_;rintro e w' ⟨rfl,rfl⟩)
     |(go_at_call_of 47 (Value.int .i64 1048575);refine(k.o _).mono ?_;rintro e w' ⟨rfl,rfl⟩)
     | (go_at_call_of 47 (Value.int .i64 65535);refine (l.o _).mono ?_;rintro e w' ⟨rfl,rfl⟩))
    go_ret;exact⟨rfl,g.o⟩
  ·rw[amt_2];clear j h b;generalize hasI 1 15 a=f at *;cases m<;>cases n<;>cases f
   all_goals
    go_enter Tryz.func52,Tryz.ntmps52
    go_wp2_with (first
     |(go_at_call_of 47 (Value.int .i64 3);refine(d.o _).mono ?_;rintro e w' ⟨rfl,rfl⟩)
     |(go_at_call_of 47 (Value.int .i64 1048575);refine(k.o _).mono ?_;rintro e w' ⟨rfl,rfl⟩)
     |(go_at_call_of 47 (Value.int .i64 65535);refine(l.o _).mono ?_;rintro e w' ⟨rfl,rfl⟩)
     | (go_at_call_of 47 (Value.int .i64 15);refine (q.o _).mono ?_;rintro e w' ⟨rfl,rfl⟩))
    go_ret;exact⟨rfl,g.o⟩
  ·rw[show hasI (amLo 3) (amHi 3) a=hasI 0 0 a from rfl];clear h b;generalize hasI 0 0 a=f at *;cases m<;>cases n<;>cases f
   all_goals
    go_enter Tryz.func52,Tryz.ntmps52
    go_wp2_with (first
     |(go_at_call_of 47 (Value.int .i64 3);refine(d.o _).mono ?_;rintro e w' ⟨rfl,rfl⟩)
     |(go_at_call_of 47 (Value.int .i64 1048575);refine(k.o _).mono ?_;rintro e w' ⟨rfl,rfl⟩)
     | (go_at_call_of 47 (Value.int .i64 65535);refine (l.o _).mono ?_;rintro e w' ⟨rfl,rfl⟩))
    go_ret;exact⟨rfl,g.o⟩
end token
namespace words
open Go.RowKit
theorem overStep_any(B M:Nat)(n x d:Int)(w:World)(hc:w.cell? ⟨B,0,none⟩=some (.int .u64 n))(hf:w.frozen? ⟨B,0,none⟩=false)(hm:w.cell? ⟨M,0,none⟩=some (.int .u32 d))(hBM:M≠B)(n0:0≤n)(n1:n<d)(x0:0≤x)(x1:x<4294967296)(d0:0<d)(d1:d<4294967296):
  Calls Tryz.prog 169 #[.int .u32 x,.pointer (some ⟨B,0,none⟩),.pointer (some ⟨M,0,none⟩)] w λe w'=>e=.returned (.int .u32 ((n*4294967296+x)/d))∧Acc w w' B (.int .u64 ((n*4294967296+x)%d)):=by
 have a:Acc w w B (.int .u64 n):=Acc.refl hc hf;have b:Hid (Acc w w B (.int .u64 n)):=a;have c:=or_words n x n0 (by omega) x0 x1;have q:=word_div d0 n0 n1 x0 x1;obtain⟨f,g⟩:=q;have h:0≤(n*4294967296+x)%d:=Int.emod_nonneg _ (by omega);have i:(n*4294967296+x)%d<d:=Int.emod_lt_of_pos _ d0;clear a;go_enter Tryz.func169,Tryz.ntmps169;go_wp2_with fail;go_ret;exact⟨rfl,b.o.set _⟩
theorem run_overStep(args:Array Value)(w:World):(callFunc 169 args).run Tryz.prog w=.ok (.enter 169 args) w:=by kernel_rfl
theorem over_any(x:W3)(d:Int)(w:World)(hx:x.ok)(d0:0<d)(d1:d<4294967296):
  Calls Tryz.prog 125 #[wv x,.int .u32 d] w λe w'=>e=.returned (.tuple #[wv (overW x d),.int .u32 (overR x d),zI 0])∧zB w w':=by
 obtain⟨c,b,a⟩:=x;obtain⟨⟨D,m⟩,⟨E,n⟩,F,p⟩:=hx;simp only at D m E n F p;have I:(d==0)=false:=by simp;omega
 go_enter Tryz.func125,Tryz.ntmps125;go_wp2_with fail;have i:=trio_d w #[.int .u32 c,.int .u32 b,.int .u32 a] (.int .u32 d) 83 (.int .u32 0) (.int .u32 0) (.int .u32 0) (.int .u64 0) 174;have q:=bel4 w (.cells #[.int .u32 c,.int .u32 b,.int .u32 a] 135) (.cells #[.int .u32 d] 83) (.cells #[.int .u32 0,.int .u32 0,.int .u32 0] 135) (.cells #[.int .u64 0] 174);have C:(0:Int)*4294967296+a=a:=by omega
 have A:0≤a%d:=Int.emod_nonneg _ (by omega);have s:a%d<d:=Int.emod_lt_of_pos _ d0;have y:0≤((a%d)*4294967296+b)%d:=Int.emod_nonneg _ (by omega);have r:((a%d)*4294967296+b)%d<d:=Int.emod_lt_of_pos _ d0
 refine (downward_any 169 #[.pointer (some ⟨w.heap.size+1+1+1,0,none⟩),.pointer (some ⟨w.heap.size+1,0,none⟩)] (w.heap.size+1+1+1) (.int .u64 0) (.int .u64 (a % d)) (.int .u64 (((a % d)*4294967296+b) % d)) (.int .u64 (((((a % d)*4294967296+b) % d)*4294967296+c) % d)) c b a
  (((((a%d)*4294967296+b)%d)*4294967296+c)/d) (((a%d)*4294967296+b)/d) (a/d) _ (Acc.refl i.1 i.2.1) run_overStep
  (λw' h=>by have:=overStep_any (w.heap.size+1+1+1) (w.heap.size+1) 0 a d w' h.cell h.free (h.keep i.2.2.2 (by omega)) (by omega) (by omega) (by omega) F p d0 d1;rw[C] at this;exact this)
  (λw' h=>overStep_any _ _ _ _ _ w' h.cell h.free (h.keep i.2.2.2 (by omega)) (by omega) A s E n d0 d1)
  (fun w' h=>overStep_any _ _ _ _ _ w' h.cell h.free (h.keep i.2.2.2 (by omega)) (by omega) y r D m d0 d1)).mono ?_
 rintro e t ⟨G,k⟩;have g:Trio t (w.heap.size+1+1) (.int .u32 0) (.int .u32 0) (.int .u32 0):=i.2.2.1.acc k (by omega);have B:Hid (zB w t):=k.below q (by omega);have j:=k.cell;have J:w.heap.size+1+1+1<t.heap.size:=Nat.lt_of_lt_of_le k.old k.size;have K:0≤((((a%d)*4294967296+b)%d)*4294967296+c)%d:=Int.emod_nonneg _ (by omega);have L:((((a%d)*4294967296+b)%d)*4294967296+c)%d<d:=Int.emod_lt_of_pos _ d0
 have l:Hid (Ending.returned (.tuple #[wv (overW ⟨c,b,a⟩ d),.int .u32 (overR ⟨c,b,a⟩ d),zI 0])=Ending.returned (.tuple #[.agg #[.int .u32 (((((a%d)*4294967296+b)%d)*4294967296+c)/d),.int .u32 (((a%d)*4294967296+b)/d),.int .u32 (a/d)],.int .u32 (((((a%d)*4294967296+b)%d)*4294967296+c)%d),zI 0])):=by
  have:Ending.returned (.tuple #[wv (overW ⟨c,b,a⟩ d),.int .u32 (overR ⟨c,b,a⟩ d),zI 0])=Ending.returned (.tuple #[.agg #[.int .u32 (((((a%d)*4294967296+b)%d)*4294967296+c)/d),.int .u32 (((a%d)*4294967296+b)/d),.int .u32 (a/d)],.int .u32 (((((a%d)*4294967296+b)%d)*4294967296+c)%d),zI 0]):=rfl;exact this
 clear k i q C y r A s;have f:Hid (e=.returned (.agg #[.int .u32 (((((a%d)*4294967296+b)%d)*4294967296+c)/d),.int .u32 (((a%d)*4294967296+b)/d),.int .u32 (a/d)])):=G;clear G;generalize hz:((((a%d)*4294967296+b)%d)*4294967296+c)%d=z at j K L l f;generalize hy0:((((a%d)*4294967296+b)%d)*4294967296+c)/d=y0 at l f;generalize hy1:((a%d)*4294967296+b)/d=y1 at l f;generalize hy2:a/d=y2 at l f;clear hz hy0 hy1 hy2;obtain rfl:=f.o;have g:=g.alloc (.cells #[.int .u32 y0,.int .u32 y1,.int .u32 y2] 135);have P:=g.c0;have y:=g.c1;have A:=g.c2;have M:=g.free 0;have N:=g.free 1;have O:=g.free 2;have H:Hid (Trio (t.alloc (.cells #[.int .u32 y0,.int .u32 y1,.int .u32 y2] 135)) (w.heap.size+1+1) (.int .u32 0) (.int .u32 0) (.int .u32 0)):=g;clear g;go_wp2_with fail;go_region
 all_goals go_wp2_with fail
 have u:=((H.o.set0 (.int .u32 y0)).set1 (.int .u32 y1)).set2 (.int .u32 y2);refine bodyPost_ret (v:=.tuple #[.agg #[.int .u32 y0,.int .u32 y1,.int .u32 y2],.int .u32 z,zI 0]) (by simp[results,Tryz.results125,u.c0,u.c1,u.c2,go_sem]) rfl ⟨l.o.symm,?_⟩;exact below_put (B.o.alloc B.o.size _) _ _ _ _ _ _ _ (by omega)
def Dg(w:World)(D:Nat)(d:Nat→Int):Prop:=w.heap[D]?=some (.cells ((List.range 29).map λi=>Value.int .u8 (d i)).toArray 192 (0,0))
variable {w w':World} {D:Nat} {d:Nat→Int}
theorem Dg.cell(h:Dg w D d){i:Nat}(hi:i<29):w.cell? ⟨D,i,none⟩=some (.int .u8 (d i)):=by unfold Dg at h;simp[World.cell?,h,hi]
theorem Dg.free(h:Dg w D d)(i:Nat):w.frozen? ⟨D,i,none⟩=false:=by unfold Dg at h;simp[World.frozen?,h]
theorem Dg.lt(h:Dg w D d):D<w.heap.size:=by
 by_cases a:D<w.heap.size
 ·exact a
 ·unfold Dg at h;rw[Array.getElem?_eq_none (by omega)] at h;cases h
theorem Dg.below(h:Dg w D d)(hb:zB w w'):Dg w' D d:=by
 have a:=h.lt;unfold Dg at *;rw[hb.block D a];exact h
theorem Dg.other(h:Dg w D d){G:Nat}(i:Nat)(u:Value)(hne:G≠D):Dg (w.setCell ⟨G,i,none⟩ u) D d:=by
 unfold Dg at *;simp only[World.setCell,Array.getElem?_modify];rw[if_neg hne];exact h
def updd(d:Nat→Int)(i:Nat)(v:Int):Nat→Int:=λk=>if k=i then v else d k
theorem Dg.set(h:Dg w D d)(i:Nat)(v:Int):Dg (w.setCell ⟨D,i,none⟩ (.int .u8 v)) D (updd d i v):=by
 unfold Dg at *;simp only[World.setCell,Array.getElem?_modify,h,if_true,Option.map_some]
 congr 2
 simp only[Option.isSome_none,Bool.false_eq_true,if_false];apply Array.ext';simp only[Array.toList_setIfInBounds];apply List.ext_getElem?;intro k;by_cases a:k<29
 ·by_cases e:k=i
  ·subst e;simp[updd,a]
  ·rw[List.getElem?_set_ne (by omega)];simp[updd,a,e]
 ·rw[List.getElem?_eq_none (by simp;omega),List.getElem?_eq_none (by simp;omega)]
def dsOf(d:Nat→Int)(t:Nat):List Int:=(List.range t).map λi=>d (29-t+i)
theorem dsOf_len(d:Nat→Int)(t:Nat):(dsOf d t).length=t:=by simp[dsOf]
theorem dsOf_upd(d:Nat→Int)(t:Nat)(v:Int)(ht:t<29):dsOf (updd d (28-t) v) (t+1)=v::dsOf d t:=by
 unfold dsOf;rw[List.range_succ_eq_map,List.map_cons,List.map_map]
 congr 1
 ·simp[updd]
 ·apply List.map_congr_left;intro i a;simp[updd]
  congr 1
  omega
theorem dg_new(w:World)(o:Obj):Dg ((w.alloc o).alloc (.cells ((List.range 29).map λ_=>Value.int .u8 0).toArray 192)) (w.heap.size+1) (λ_=>0):=by
 show ((w.heap.push o).push _)[w.heap.size+1]?=_;have:w.heap.size+1=(w.heap.push o).size:=by simp
 rw[this,Array.getElem?_push_size]
def ShowInv(V:Nat)(X:W3)(d:Nat→Int)(t:Nat):Prop:=
 (t=0∧X.val=V)∨(0<t∧X.val=0∧decL V=dsOf d t)∨(0<t∧0<X.val∧decL V=decL X.val.toNat++dsOf d t)
theorem show_more{V:Nat}{X:W3}{d:Nat→Int}{t:Nat}(hV:(V:Int)<top)(h:ShowInv V X d t)(hgo:t=0∨0<X.val)(hX:X.ok):
  t<29∧ShowInv V (overW X 10) (updd d (28-t) (48+overR X 10)) (t+1):=by
 have r:=over_val X 10;have q:=over_left (w:=X) 10 (by omega);have p:=(W3.bd (over_ok hX (d:=10) (by omega))).1;have e:=decL_len29 V hV
 have j:t<29:=by
  rcases h with⟨a,_⟩|⟨a,f,b⟩|⟨a,f,b⟩
  ·omega
  ·omega
  ·rw[b,List.length_append,dsOf_len] at e;have o:1≤(decL X.val.toNat).length:=(decL_len29 _ (by have:=(W3.bd hX).2;omega)).1;omega
 refine⟨j,?_⟩
 have i:decL V=decL X.val.toNat++dsOf d t:=by
  rcases h with⟨a,f⟩|⟨a,f,b⟩|⟨_,_,b⟩
  ·subst a;rw[f];simp[dsOf]
  ·omega
  ·exact b
 have c:=dsOf_upd d t (48+overR X 10) j;by_cases m:X.val<10
 ·right;left;have k:(overW X 10).val=0:=by omega
  have g:overR X 10=X.val:=by omega
  refine⟨by omega,k,?_⟩;rw[i,c,decL_one (by omega),g];have n:=(W3.bd hX).1;rw[show ((X.val.toNat:Nat):Int)=X.val by omega];rfl
 ·right;right;refine⟨by omega,by omega,?_⟩;rw[i,c,decL_more (by omega)];have g:X.val.toNat/10=(overW X 10).val.toNat:=by omega
  have l:((X.val.toNat%10:Nat):Int)=overR X 10:=by omega
  rw[g,l,List.append_assoc];rfl
theorem zero_iff{X:W3}(hX:X.ok):X.val=0↔X=⟨0,0,0⟩:=by
 obtain⟨⟨d,_⟩,⟨e,_⟩,f,_⟩:=hX;constructor
 ·intro h;unfold W3.val at h;obtain⟨a,b,c⟩:=X;simp only at *;have:a=0:=by omega
  have:b=0:=by omega
  have:c=0:=by omega
  subst_vars;rfl
 ·intro h;rw[h];rfl
def strOf(ns:List Int):ByteArray:=ns.foldl (λr n=>r.push (UInt8.ofNat n.toNat)) ByteArray.empty
theorem conv_ds(w:World)(D:Nat)(d:Nat→Int)(t:Nat)(ht:t≤29)(h:Dg w D d):
  (convert 195 9 (.slice (some ⟨D,29-t,none⟩) t t)).run Tryz.prog w=.ok (.string (strOf (dsOf d t))) w:=by
 rw[run_convert_bytes_string _ _ _ _ _ _ _ Tryz.underlying195 Tryz.underlying5 Tryz.underlying9,run_bytesToString _ _ _ _ (dsOf d t)]
 ·rfl
 ·have:=run_loadCells (P:=Tryz.prog) w ⟨D,29-t,none⟩ t (λi=> .int .u8 (d (29-t+i))) (λj a=>by rw[Addr.add_lit];exact h.cell (by omega));rw[this]
  congr 2
  simp[dsOf]
theorem slice_ds(D t:Nat)(w:World)(h0:0<t)(h1:t≤29):
  (Instr.sliceAt 192 (.pointer (some ⟨D,0,none⟩)) (some (zI ((29-t:Nat):Int))) none none).run Tryz.prog w=.ok (.slice (some ⟨D,29-t,none⟩) t t) w:=by
 have a:29-(29-t)=t:=by omega
 simp[Instr.sliceAt,Instr.sliceBounds,Instr.sliceBound,asIntOf,run_underlying Tryz.underlying192,go_sem,a];omega
theorem show_any(x:W3)(w:World)(hx:x.ok):
  Calls Tryz.prog 79 #[wv x] w λe w'=>e=.returned (.string (strOf (decL x.val.toNat)))∧zB w w':=by
 have a5:=W3.bd hx;have HX:Hid (x.ok):=hx;have a1:Hid (∀V W:Obj,zB w ((w.alloc V).alloc W)):=λV W=>bel2 w V W;clear hx;go_enter Tryz.func79,Tryz.ntmps79;go_wp2_with fail;go_loopw [4] (λv wr=>∃(t:Nat)(X:W3)(d:Nat→Int),t≤29∧v=zI ((29-t:Nat):Int)∧X.ok∧Wat wr w.heap.size X∧Dg wr (w.heap.size+1) d∧zB w wr∧ShowInv x.val.toNat X d t) (λv _=>(intOf v).toNat)
 case atStart=>exact⟨0,x,λ_=>0,by omega,rfl,HX.o,trio_a _ _ _ _ _,dg_new _ _,bel2 _ _ _,.inl ⟨rfl,by omega⟩⟩
 case round=>
  obtain⟨t,X,d,S,rfl,p,n,I,J,K⟩:=hrel;by_cases s:t=0∨0<X.val
  ·obtain⟨a0,hm⟩:=show_more (by omega) K s p;have Z:Hid (ShowInv x.val.toNat (overW X 10) (updd d (28-t) (48+overR X 10)) (t+1)):=hm;have U:=(zero_iff p)
   have A:Hid (Wat wr w.heap.size X):=n;have z:Hid (Dg wr (w.heap.size+1) d):=I;have l:Hid (zB w wr):=J;have c0:=n.c0;have c1:=n.c1;have c2:=n.c2;clear n I J K hm;have a2:((29-t:Nat):Int)-1=((28-t:Nat):Int):=by omega
   have a3:28-t<29:=by omega
   have Y:Hid (29-(t+1)=28-t):=(by omega:29-(t+1)=28-t)
   by_cases h0:t=0
   ·have F:(((29-t:Nat):Int)==29)=true:=by simp;omega
    have L:((29-t:Nat):Int)≤29:=by omega
    clear s U S;generalize 29-t=f at *;generalize 28-t=g at *;go_wp2_with fail;refine(over_any X 10 _ p (by omega) (by omega)).mono ?_;rintro e y ⟨rfl,j⟩;have M:=over_ok p (d:=10) (by omega);have R:=over_left (w:=X) 10 (by omega);have k:=A.o.below j;have D:=z.o.below j;have B:=l.o.trans (j.mono l.o.size);clear j c0 c1 c2;generalize overW X 10=Q at *;generalize overR X 10=r at *;have c0:=k.c0;have c1:=k.c1;have c2:=k.c2;have f0:=k.free 0;have f1:=k.free 1;have f2:=k.free 2;have E:=k.put (.int .u32 Q.a) (.int .u32 Q.b) (.int .u32 Q.c);have m:=((D.other (G:=w.heap.size) 0 (.int .u32 Q.a) (by omega)).other (G:=w.heap.size) 1 (.int .u32 Q.b) (by omega)).other (G:=w.heap.size) 2 (.int .u32 Q.c) (by omega);have C:=below_put3 B w.heap.size (.int .u32 Q.a) (.int .u32 Q.b) (.int .u32 Q.c) zc;have d1:=m.cell (i:=g) (by omega);have d2:=m.free g;have A:Hid (Wat ((put3 y w.heap.size (.int .u32 Q.a) (.int .u32 Q.b) (.int .u32 Q.c)).setCell ⟨w.heap.size+1,g,none⟩ (.int .u8 (48+r))) w.heap.size Q):=E.other _ _ (by omega);have z:Hid (Dg ((put3 y w.heap.size (.int .u32 Q.a) (.int .u32 Q.b) (.int .u32 Q.c)).setCell ⟨w.heap.size+1,g,none⟩ (.int .u8 (48+r))) (w.heap.size+1) (updd d g (48+r))):=m.set _ _;have l:Hid (zB w ((put3 y w.heap.size (.int .u32 Q.a) (.int .u32 Q.b) (.int .u32 Q.c)).setCell ⟨w.heap.size+1,g,none⟩ (.int .u8 (48+r)))):=below_set C _ _ _ (by omega);clear k D B E m C;obtain⟨r0,r1⟩:=R;generalize d g=dd at *;go_wp2_with fail;go_roundw
    case rel=>exact⟨t+1,Q,_,by omega,by rw[Y.o],M,A.o,z.o,l.o,Z.o⟩
    case measure=>simp[intOf];omega
   ·have P:X≠⟨0,0,0⟩:=λe=>by have:=U.2 e;omega
    have q:=eq3_other P;have F:(((29-t:Nat):Int)==29)=false:=by simp;omega
    have L:((29-t:Nat):Int)≤29:=by omega
    clear s U;generalize 29-t=f at *;generalize 28-t=g at *;go_wp2_with fail;refine(over_any X 10 _ p (by omega) (by omega)).mono ?_;rintro e y ⟨rfl,j⟩;have M:=over_ok p (d:=10) (by omega);have R:=over_left (w:=X) 10 (by omega);have k:=A.o.below j;have D:=z.o.below j;have B:=l.o.trans (j.mono l.o.size);clear j c0 c1 c2;generalize overW X 10=Q at *;generalize overR X 10=r at *;have c0:=k.c0;have c1:=k.c1;have c2:=k.c2;have f0:=k.free 0;have f1:=k.free 1;have f2:=k.free 2;have E:=k.put (.int .u32 Q.a) (.int .u32 Q.b) (.int .u32 Q.c);have m:=((D.other (G:=w.heap.size) 0 (.int .u32 Q.a) (by omega)).other (G:=w.heap.size) 1 (.int .u32 Q.b) (by omega)).other (G:=w.heap.size) 2 (.int .u32 Q.c) (by omega);have C:=below_put3 B w.heap.size (.int .u32 Q.a) (.int .u32 Q.b) (.int .u32 Q.c) zc;have d1:=m.cell (i:=g) (by omega);have d2:=m.free g;have A:Hid (Wat ((put3 y w.heap.size (.int .u32 Q.a) (.int .u32 Q.b) (.int .u32 Q.c)).setCell ⟨w.heap.size+1,g,none⟩ (.int .u8 (48+r))) w.heap.size Q):=E.other _ _ (by omega);have z:Hid (Dg ((put3 y w.heap.size (.int .u32 Q.a) (.int .u32 Q.b) (.int .u32 Q.c)).setCell ⟨w.heap.size+1,g,none⟩ (.int .u8 (48+r))) (w.heap.size+1) (updd d g (48+r))):=m.set _ _;have l:Hid (zB w ((put3 y w.heap.size (.int .u32 Q.a) (.int .u32 Q.b) (.int .u32 Q.c)).setCell ⟨w.heap.size+1,g,none⟩ (.int .u8 (48+r)))):=below_set C _ _ _ (by omega);clear k D B E m C;obtain⟨r0,r1⟩:=R;generalize d g=dd at *;go_wp2_with fail;go_roundw
    case rel=>exact⟨t+1,Q,_,by omega,by rw[Y.o],M,A.o,z.o,l.o,Z.o⟩
    case measure=>simp[intOf];omega
  ·have T:0<t:=by omega
   have H:X.val=0:=by have:=(W3.bd p).1;omega
   have N:=(zero_iff p).1 H
   have u:decL x.val.toNat=dsOf d t:=by
    rcases K with h|⟨_,_,h⟩|h
    ·omega
    ·exact h
    ·omega
   subst N;have c0:=n.c0;have c1:=n.c1;have c2:=n.c2;have q:=eq3_same ⟨0,0,0⟩;have F:(((29-t:Nat):Int)==29)=false:=by simp;omega
   have a4:=slice_ds (w.heap.size+1) t wr T S;have O:=conv_ds wr (w.heap.size+1) d t S I;rw[← u] at O;have l:Hid (zB w wr):=J;clear K s H u n I J p;go_wp2_with fail;go_ret;exact⟨rfl,l.o⟩
end words
end Go.Proofs.YtoepgdhiepedeaaGreatDoor
