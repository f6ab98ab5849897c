/- Meters: the document's reading of a meter from its words. -/
import Derived.Test.YtgipkpkjoicehaaMtV
import Derived.Test.YtgipkpkjoicehaaLet
import Derived.BigRegion
namespace Go.Proofs.Ytgipkpkjoicehaa.met
open Go.RowKit Go.Proofs.Ytgipkpkjoicehaa.cell
set_option maxRecDepth 100000
set_option linter.unusedVariables false

set_option maxHeartbeats 2000000 in
theorem mread_any (a : Option Addr) (n cap : Nat) (l : List Int) (w : World) (hr : RowU w a n l) (hw : ∀ x ∈ l, 0 ≤ x ∧ x < 4294967296) : Calls Try.prog 22 #[.slice a n cap] w fun e w' => ReadPost w l e w' := by
  have HO0 : Hid (Blk (w.alloc (.cells #[.int .i64 0, .int .i64 0, .int .i64 0, .int .i64 0, .int .u64 0, .int .i64 0, .int .i64 0] 33)) w.heap.size #[.int .i64 0, .int .i64 0, .int .i64 0, .int .i64 0, .int .u64 0, .int .i64 0, .int .i64 0] 33) := Blk.new w _ _
  have HB0 : Hid (Below w.heap.size w (w.alloc (.cells #[.int .i64 0, .int .i64 0, .int .i64 0, .int .i64 0, .int .u64 0, .int .i64 0, .int .i64 0] 33))) := (Below.refl _ _).alloc (Nat.le_refl _) _
  by_cases hn : n = 5
  · subst hn
    have hl := hr.1
    have HL5 : Hid (¬ (l.length ≠ 5)) := fun h => h hl
    have hl5 := list5 hl
    obtain ⟨bl, off, rfl, hbl, hc⟩ := hr.at (by decide)
    have x0 := hw (l.getD 0 0) (by rw [hl5]; simp)
    have x1 := hw (l.getD 1 0) (by rw [hl5]; simp)
    have x2 := hw (l.getD 2 0) (by rw [hl5]; simp)
    have x3 := hw (l.getD 3 0) (by rw [hl5]; simp)
    have x4 := hw (l.getD 4 0) (by rw [hl5]; simp)
    have f0 : w.cell? ⟨bl, off, none⟩ = some (.int .u32 (l.getD 0 0)) := hc 0 (by decide)
    have f1 : w.cell? ⟨bl, off + 1, none⟩ = some (.int .u32 (l.getD 1 0)) := hc 1 (by decide)
    have f2 : w.cell? ⟨bl, off + 2, none⟩ = some (.int .u32 (l.getD 2 0)) := hc 2 (by decide)
    have f3 : w.cell? ⟨bl, off + 3, none⟩ = some (.int .u32 (l.getD 3 0)) := hc 3 (by decide)
    have f4 : w.cell? ⟨bl, off + 4, none⟩ = some (.int .u32 (l.getD 4 0)) := hc 4 (by decide)
    have HRD : Hid (rdL l = rd (l.getD 0 0) (l.getD 1 0) (l.getD 2 0) (l.getD 3 0) (l.getD 4 0)) := rfl
    have HOK : Hid ((rdL l).may → ReadIs l (rdL l) 0) := fun h => ReadIs.ok HL5.out h
    have HNO : Hid (¬ (rdL l).may → ReadIs l mt0 5) := fun h => ReadIs.state HL5.out h
    clear hc hr hw hl hl5 HL5
    generalize l.getD 0 0 = y0 at *
    generalize l.getD 1 0 = y1 at *
    generalize l.getD 2 0 = y2 at *
    generalize l.getD 3 0 = y3 at *
    generalize l.getD 4 0 = y4 at *
    obtain ⟨x00, x01⟩ := x0
    obtain ⟨x10, x11⟩ := x1
    obtain ⟨x20, x21⟩ := x2
    obtain ⟨x30, x31⟩ := x3
    obtain ⟨x40, x41⟩ := x4
    have HMM : Hid (∀ W, Calls Try.prog 34 #[.agg #[.int .i64 (y1 % 256), .int .i64 (y1 / 256 % 256), .int .i64 y0, .int .i64 y2, .int .u64 (y4 * 4294967296 + y3), .int .i64 (y1 / 65536 % 256), .int .i64 (y1 / 16777216)]] W fun e w' => Told W (rd y0 y1 y2 y3 y4).may e w') := fun W => by
      have := mmay_any (rd y0 y1 y2 y3 y4) W (by unfold rd; simp only []; omega)
      unfold Mt.v Mt.cells rd at this
      simp only [] at this
      rw [show (((y4 * 4294967296 + y3).toNat : Nat) : Int) = y4 * 4294967296 + y3 by omega] at this
      exact this
    have HV : Hid (Mt.v (rd y0 y1 y2 y3 y4) = .agg #[.int .i64 (y1 % 256), .int .i64 (y1 / 256 % 256), .int .i64 y0, .int .i64 y2, .int .u64 (y4 * 4294967296 + y3), .int .i64 (y1 / 65536 % 256), .int .i64 (y1 / 16777216)]) := by
      show Mt.v _ = _
      unfold Mt.v Mt.cells rd
      simp only []
      rw [show (((y4 * 4294967296 + y3).toNat : Nat) : Int) = y4 * 4294967296 + y3 by omega]
    have e0 : (w.alloc (.cells #[.int .i64 0, .int .i64 0, .int .i64 0, .int .i64 0, .int .u64 0, .int .i64 0, .int .i64 0] 33)).cell? ⟨bl, off, none⟩ = some (.int .u32 y0) := by rw [World.cell?_alloc_lt w _ _ hbl]; exact f0
    have e1 : (w.alloc (.cells #[.int .i64 0, .int .i64 0, .int .i64 0, .int .i64 0, .int .u64 0, .int .i64 0, .int .i64 0] 33)).cell? ⟨bl, off + 1, none⟩ = some (.int .u32 y1) := by rw [World.cell?_alloc_lt w _ _ hbl]; exact f1
    have HRO : Hid (∀ W, Below w.heap.size w W → W.cell? ⟨bl, off + 2, none⟩ = some (.int .u32 y2) ∧ W.cell? ⟨bl, off + 3, none⟩ = some (.int .u32 y3) ∧ W.cell? ⟨bl, off + 4, none⟩ = some (.int .u32 y4)) := fun W hB => ⟨(hB.cell (p := ⟨bl, off + 2, none⟩) hbl).trans f2, (hB.cell (p := ⟨bl, off + 3, none⟩) hbl).trans f3, (hB.cell (p := ⟨bl, off + 4, none⟩) hbl).trans f4⟩
    clear f0 f1 f2 f3 f4
    go_enter Try.func22, Try.ntmps22
    go_wp2_with fail
    have HQ : Hid (Blk ((w.alloc (.cells #[.int .i64 0, .int .i64 0, .int .i64 0, .int .i64 0, .int .u64 0, .int .i64 0, .int .i64 0] 33)).alloc (.cells #[.int .i64 (y1 % 256), .int .i64 (y1 / 256 % 256), .int .i64 y0, .int .i64 0, .int .u64 0, .int .i64 (y1 / 65536 % 256), .int .i64 (y1 / 16777216)] 33)) (w.heap.size + 1) #[.int .i64 (y1 % 256), .int .i64 (y1 / 256 % 256), .int .i64 y0, .int .i64 0, .int .u64 0, .int .i64 (y1 / 65536 % 256), .int .i64 (y1 / 16777216)] 33 ∧ Blk ((w.alloc (.cells #[.int .i64 0, .int .i64 0, .int .i64 0, .int .i64 0, .int .u64 0, .int .i64 0, .int .i64 0] 33)).alloc (.cells #[.int .i64 (y1 % 256), .int .i64 (y1 / 256 % 256), .int .i64 y0, .int .i64 0, .int .u64 0, .int .i64 (y1 / 65536 % 256), .int .i64 (y1 / 16777216)] 33)) w.heap.size #[.int .i64 0, .int .i64 0, .int .i64 0, .int .i64 0, .int .u64 0, .int .i64 0, .int .i64 0] 33 ∧ Below w.heap.size w ((w.alloc (.cells #[.int .i64 0, .int .i64 0, .int .i64 0, .int .i64 0, .int .u64 0, .int .i64 0, .int .i64 0] 33)).alloc (.cells #[.int .i64 (y1 % 256), .int .i64 (y1 / 256 % 256), .int .i64 y0, .int .i64 0, .int .u64 0, .int .i64 (y1 / 65536 % 256), .int .i64 (y1 / 16777216)] 33))) := ⟨Blk.new1 w _ _ _, HO0.out.alloc _, HB0.out.alloc (by simp) _⟩
    clear e0 e1 HO0 HB0
    generalize ((w.alloc (.cells #[.int .i64 0, .int .i64 0, .int .i64 0, .int .i64 0, .int .u64 0, .int .i64 0, .int .i64 0] 33)).alloc (.cells #[.int .i64 (y1 % 256), .int .i64 (y1 / 256 % 256), .int .i64 y0, .int .i64 0, .int .u64 0, .int .i64 (y1 / 65536 % 256), .int .i64 (y1 / 16777216)] 33)) = W2 at *
    obtain ⟨e2, e3, e4⟩ := HRO.out W2 HQ.out.2.2
    have z3 := HQ.out.1.cell 3
    have z4 := HQ.out.1.cell 4
    have q3 := HQ.out.1.free 3
    have q4 := HQ.out.1.free 4
    go_region
    have H3 : Hid (Blk ((W2.setCell ⟨w.heap.size + 1, 3, none⟩ (.int .i64 y2)).setCell ⟨w.heap.size + 1, 4, none⟩ (.int .u64 (y4 * 4294967296 + y3))).drew (w.heap.size + 1) #[.int .i64 (y1 % 256), .int .i64 (y1 / 256 % 256), .int .i64 y0, .int .i64 y2, .int .u64 (y4 * 4294967296 + y3), .int .i64 (y1 / 65536 % 256), .int .i64 (y1 / 16777216)] 33 ∧ Blk ((W2.setCell ⟨w.heap.size + 1, 3, none⟩ (.int .i64 y2)).setCell ⟨w.heap.size + 1, 4, none⟩ (.int .u64 (y4 * 4294967296 + y3))).drew w.heap.size #[.int .i64 0, .int .i64 0, .int .i64 0, .int .i64 0, .int .u64 0, .int .i64 0, .int .i64 0] 33 ∧ Below w.heap.size w ((W2.setCell ⟨w.heap.size + 1, 3, none⟩ (.int .i64 y2)).setCell ⟨w.heap.size + 1, 4, none⟩ (.int .u64 (y4 * 4294967296 + y3))).drew) :=
      ⟨(HQ.out.1.set 3 (.int .i64 y2)).set 4 (.int .u64 (y4 * 4294967296 + y3)), (HQ.out.2.1.other 3 _ (by omega)).other 4 _ (by omega), (bel_set (bel_set HQ.out.2.2 _ _ _ (Nat.le_succ _)) _ _ _ (Nat.le_succ _)).drew⟩
    clear HQ e2 e3 e4 z3 z4 q3 q4 HRO
    generalize ((W2.setCell ⟨w.heap.size + 1, 3, none⟩ (.int .i64 y2)).setCell ⟨w.heap.size + 1, 4, none⟩ (.int .u64 (y4 * 4294967296 + y3))).drew = W3 at *
    have HG3 : Hid (Blk W3 (w.heap.size + 1) #[.int .i64 (y1 % 256), .int .i64 (y1 / 256 % 256), .int .i64 y0, .int .i64 y2, .int .u64 (y4 * 4294967296 + y3), .int .i64 (y1 / 65536 % 256), .int .i64 (y1 / 16777216)] 33) := H3.out.1
    go_wp2_with (first
      | (refine wp_whole rfl 33 _ rfl (w.heap.size + 1) rfl 33 #[.int .i64 (y1 % 256), .int .i64 (y1 / 256 % 256), .int .i64 y0, .int .i64 y2, .int .u64 (y4 * 4294967296 + y3), .int .i64 (y1 / 65536 % 256), .int .i64 (y1 / 16777216)] _ HG3.out Try.underlying33 rfl (by kernel_rfl) ?_)
      | fail)
    refine (HMM.out _).mono ?_
    rintro e w4 ⟨r, rfl, hr, hb4⟩
    have hlt := HG3.out.lt
    have HO4 : Hid (Blk w4 w.heap.size #[.int .i64 0, .int .i64 0, .int .i64 0, .int .i64 0, .int .u64 0, .int .i64 0, .int .i64 0] 33) := H3.out.2.1.next hb4
    have HG4 : Hid (Blk w4 (w.heap.size + 1) #[.int .i64 (y1 % 256), .int .i64 (y1 / 256 % 256), .int .i64 y0, .int .i64 y2, .int .u64 (y4 * 4294967296 + y3), .int .i64 (y1 / 65536 % 256), .int .i64 (y1 / 16777216)] 33) := H3.out.1.next hb4
    have HB4 : Hid (Below w.heap.size w w4) := bel_step H3.out.2.2 hb4
    clear hb4 H3 HG3 HMM hlt
    cases r with
    | false =>
      have HF : Hid (ReadIs l ⟨0, 0, 0, 0, 0, 0, 0⟩ 5) := HNO.out fun hm => by rw [HRD.out] at hm; have := hr.2 hm; cases this
      clear hr HNO HOK
      go_wp2_with (first
        | (refine wp_letAll rfl 33 _ _ rfl w.heap.size rfl #[.int .i64 0, .int .i64 0, .int .i64 0, .int .i64 0, .int .u64 0, .int .i64 0, .int .i64 0] rfl (by kernel_rfl) (by simp [Value.oneCell']) #[.int .i64 0, .int .i64 0, .int .i64 0, .int .i64 0, .int .u64 0, .int .i64 0, .int .i64 0] 33 HO4.out rfl ?_)
        | fail)
      intro WF hUF
      have R0 : Hid (_ = _) := hUF.blk.cell 0
      have R1 : Hid (_ = _) := hUF.blk.cell 1
      have R2 : Hid (_ = _) := hUF.blk.cell 2
      have R3 : Hid (_ = _) := hUF.blk.cell 3
      have R4 : Hid (_ = _) := hUF.blk.cell 4
      have R5 : Hid (_ = _) := hUF.blk.cell 5
      have R6 : Hid (_ = _) := hUF.blk.cell 6
      have HB : Hid (Below w.heap.size w WF) := hUF.bel _ _ (Nat.le_refl _) HB4.out
      clear hUF HO4 HB4 HG4
      go_wp2_with fail
      exact bodyPost_ret (v := .tuple #[.agg #[.int .i64 0, .int .i64 0, .int .i64 0, .int .i64 0, .int .u64 0, .int .i64 0, .int .i64 0], .int .i64 5]) (by simp [results, Try.results22, R0.out, R1.out, R2.out, R3.out, R4.out, R5.out, R6.out, go_sem]) rfl ⟨⟨0, 0, 0, 0, 0, 0, 0⟩, 5, rfl, HF.out, HB.out⟩
    | true =>
      have HF : Hid (ReadIs l (rd y0 y1 y2 y3 y4) 0) := by
        have := HOK.out (by rw [HRD.out]; exact hr.1 rfl)
        rw [HRD.out] at this
        exact this
      clear hr HNO HOK
      go_wp2_with (first
        | (refine wp_whole rfl 33 _ rfl (w.heap.size + 1) rfl 33 #[.int .i64 (y1 % 256), .int .i64 (y1 / 256 % 256), .int .i64 y0, .int .i64 y2, .int .u64 (y4 * 4294967296 + y3), .int .i64 (y1 / 65536 % 256), .int .i64 (y1 / 16777216)] _ HG4.out Try.underlying33 rfl (by kernel_rfl) ?_)
        | (refine wp_letAll rfl 33 _ _ rfl w.heap.size rfl #[.int .i64 (y1 % 256), .int .i64 (y1 / 256 % 256), .int .i64 y0, .int .i64 y2, .int .u64 (y4 * 4294967296 + y3), .int .i64 (y1 / 65536 % 256), .int .i64 (y1 / 16777216)] rfl (by kernel_rfl) (by simp [Value.oneCell']) #[.int .i64 0, .int .i64 0, .int .i64 0, .int .i64 0, .int .u64 0, .int .i64 0, .int .i64 0] 33 HO4.out rfl ?_)
        | fail)
      intro WF hUF
      have R0 : Hid (_ = _) := hUF.blk.cell 0
      have R1 : Hid (_ = _) := hUF.blk.cell 1
      have R2 : Hid (_ = _) := hUF.blk.cell 2
      have R3 : Hid (_ = _) := hUF.blk.cell 3
      have R4 : Hid (_ = _) := hUF.blk.cell 4
      have R5 : Hid (_ = _) := hUF.blk.cell 5
      have R6 : Hid (_ = _) := hUF.blk.cell 6
      have HB : Hid (Below w.heap.size w WF) := hUF.bel _ _ (Nat.le_refl _) HB4.out
      clear hUF HO4 HB4 HG4
      go_wp2_with fail
      exact bodyPost_ret (v := .tuple #[.agg #[.int .i64 (y1 % 256), .int .i64 (y1 / 256 % 256), .int .i64 y0, .int .i64 y2, .int .u64 (y4 * 4294967296 + y3), .int .i64 (y1 / 65536 % 256), .int .i64 (y1 / 16777216)], .int .i64 0]) (by simp [results, Try.results22, R0.out, R1.out, R2.out, R3.out, R4.out, R5.out, R6.out, go_sem]) rfl ⟨rd y0 y1 y2 y3 y4, 0, by rw [HV.out], HF.out, HB.out⟩
  · have hd : ((n : Int) != 5) = true := by simp; omega
    have HF : Hid (ReadIs l ⟨0, 0, 0, 0, 0, 0, 0⟩ 1) := ReadIs.size (by rw [hr.1]; exact hn)
    clear hn hr hw
    go_enter Try.func22, Try.ntmps22
    go_wp2_with (first
      | (refine wp_letAll rfl 33 _ _ rfl w.heap.size rfl #[.int .i64 0, .int .i64 0, .int .i64 0, .int .i64 0, .int .u64 0, .int .i64 0, .int .i64 0] rfl (by kernel_rfl) (by simp [Value.oneCell']) #[.int .i64 0, .int .i64 0, .int .i64 0, .int .i64 0, .int .u64 0, .int .i64 0, .int .i64 0] 33 HO0.out rfl ?_)
      | fail)
    intro WF hUF
    have R0 : Hid (_ = _) := hUF.blk.cell 0
    have R1 : Hid (_ = _) := hUF.blk.cell 1
    have R2 : Hid (_ = _) := hUF.blk.cell 2
    have R3 : Hid (_ = _) := hUF.blk.cell 3
    have R4 : Hid (_ = _) := hUF.blk.cell 4
    have R5 : Hid (_ = _) := hUF.blk.cell 5
    have R6 : Hid (_ = _) := hUF.blk.cell 6
    have HB : Hid (Below w.heap.size w WF) := hUF.bel _ _ (Nat.le_refl _) HB0.out
    clear hUF HO0 HB0
    go_wp2_with fail
    exact bodyPost_ret (v := .tuple #[.agg #[.int .i64 0, .int .i64 0, .int .i64 0, .int .i64 0, .int .u64 0, .int .i64 0, .int .i64 0], .int .i64 1]) (by simp [results, Try.results22, R0.out, R1.out, R2.out, R3.out, R4.out, R5.out, R6.out, go_sem]) rfl ⟨⟨0, 0, 0, 0, 0, 0, 0⟩, 1, rfl, HF.out, HB.out⟩

end Go.Proofs.Ytgipkpkjoicehaa.met
