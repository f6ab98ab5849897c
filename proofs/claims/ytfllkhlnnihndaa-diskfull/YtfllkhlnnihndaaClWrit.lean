/- The words behind writes. -/
import Derived.Test.YtfllkhlnnihndaaClMy
import Derived.Laws.CopyOwn
namespace Go.Proofs.Ytfllkhlnnihndaa.cell
open Go.RowKit
set_option maxRecDepth 100000

/-- copy of words over a row of noughts. -/
theorem copy_run (a : Addr) (n cc g : Nat) (zs : List Int) (w : World) (hz : zs.length = n) (hr : Blk w g (arr (List.replicate n 0)) 42) (hc : ∀ i, i < n → w.cell? (a.add i) = some (.int .u32 (zs.getD i 0))) :
    (Builtin.copy_ #[22, 22] 3 #[.slice (some ⟨g, 0, none⟩) n n, .slice (some a) n cc]).run Try.prog w = .ok (.int .i64 (n : Int)) (w.setRow g (arr zs)) := by
  have hrun := run_copy_row (P := Try.prog) w 22 22 3 42 g 0 n n a n cc (arr (List.replicate n 0)) 42 (zs.map (Value.int .u32)) Try.underlying22 (by kernel_rfl) hr (by
      rw [List.length_map, hz]; exact (Nat.min_self n).symm) (by
      intro j u hu
      by_cases hj : j < zs.length
      · simp [List.getElem?_eq_getElem hj] at hu
        subst hu
        have := hc j (by omega)
        simpa [List.getD, List.getElem?_eq_getElem hj] using this
      · rw [List.getElem?_eq_none (by simp; omega)] at hu; cases hu) (by simp [arr, hz]) (by
      intro u hu; obtain ⟨z, _, rfl⟩ := List.mem_map.1 hu; rfl)
  rw [hrun]
  congr 2
  · rw [List.length_map, hz]
  · unfold arr
    simp [hz]
theorem setRow_blk {w : World} {g : Nat} {c0 c1 : Array Value} {t : TypeId} (h : Blk w g c0 t) : Blk (w.setRow g c1) g c1 t := setRow_heap w g _ _ t _ h

/-- Two cells of a block are set. -/
def setW (w : World) (G : Nat) (p d : Int) : World := (w.setCell ⟨G, 0, none⟩ (.int .i64 p)).setCell ⟨G, 1, none⟩ (.int .u32 d)

set_option maxHeartbeats 2000000 in
theorem written_any (a b : Option Addr) (n m c1 c2 : Nat) (xs : List Int) (ls : List Wr) (w : World) (h1 : RowU w a n xs) (h2 : RowW w b m ls) (hn : 1 ≤ n) (hn2 : n ≤ 2048) (hm : m ≤ 4096) (hall : allN n ls = true) :
    Calls Try.prog 35 #[.slice a n c1, .slice b m c2] w fun e w' => ∃ g, e = .returned (.slice (some ⟨g, 0, none⟩) n n) ∧ RowU w' (some ⟨g, 0, none⟩) n (wrt xs ls) ∧ Below w.heap.size w w' := by
  have hmk : ∀ W : World, (Instr.makeSlice 22 (.int .i64 (n : Int)) (.int .i64 (n : Int))).run Try.prog W = .ok (.slice (some ⟨W.heap.size, 0, none⟩) n n) (W.alloc (.cells (arr (List.replicate n 0)) 42)) := make_u32 n (by omega)
  obtain ⟨b1, o1, rfl, l1, hc1⟩ := h1.at (by omega)
  have hz := h1.1
  have hcp := copy_run ⟨b1, o1, none⟩ n c1 w.heap.size xs (w.alloc (.cells (arr (List.replicate n 0)) 42)) hz (Blk.new _ _ _) (fun i hi => by
    rw [Addr.add_lit, World.cell?_alloc_lt w _ _ l1]; exact hc1 i hi)
  have HG0 : Hid (Blk ((w.alloc (.cells (arr (List.replicate n 0)) 42)).setRow w.heap.size (arr xs)) w.heap.size (arr xs) 42) := setRow_blk (Blk.new _ _ _)
  have HB0 : Hid (Below w.heap.size w ((w.alloc (.cells (arr (List.replicate n 0)) 42)).setRow w.heap.size (arr xs))) := below_setRow ((Below.refl _ _).alloc (Nat.le_refl _) _) (Nat.le_refl _) _
  have HR : Hid (RowW w b m ls) := h2
  have HA : Hid (allN n ls = true) := hall
  have HL : Hid (xs.length = n ∧ ls.length = m) := ⟨hz, h2.1⟩
  clear h1 h2 hc1 hall hz l1
  generalize arr (List.replicate n 0) = zz at *
  go_enter Try.func35, Try.ntmps35
  go_wp2_with fail
  generalize (w.alloc (Obj.cells zz 42)).setRow w.heap.size (arr xs) = W0 at *
  generalize hgg : w.heap.size = g at *
  have HGG : Hid (w.heap.size = g) := hgg
  clear hgg hcp hmk
  go_loopw [16] (fun i wr => ∃ k : Nat, k ≤ m ∧ i = .int .i64 (k : Int) ∧ Blk wr g (arr (wrt xs (ls.take k))) 42 ∧ Below g w wr) (fun i _ => m - (intOf i).toNat)
  case atStart => exact ⟨0, Nat.zero_le _, rfl, HG0.out, HB0.out⟩
  case round =>
    obtain ⟨k, hk, rfl, hg, hb⟩ := hrel
    have HK : Hid (Blk wr g (arr (wrt xs (ls.take k))) 42) := hg
    have HB : Hid (Below g w wr) := hb
    clear hg hb HG0 HB0
    by_cases hlt : k < m
    · obtain ⟨b2, o2, rfl, l2, hc2⟩ := HR.out.at (by omega)
      rw [HGG.out] at l2
      have f1 : wr.cell? ⟨b2, o2 + k * 2, none⟩ = some (.int .i64 (ls.getD k wr0).p) := (HB.out.cell (p := ⟨b2, o2 + k * 2, none⟩) l2).trans (hc2 k hlt).1
      have f2 : wr.cell? ⟨b2, o2 + k * 2 + 1, none⟩ = some (.int .u32 (ls.getD k wr0).d) := (HB.out.cell (p := ⟨b2, o2 + k * 2 + 1, none⟩) l2).trans (hc2 k hlt).2
      have hin := allN_at HA.out k (by have := HL.out.2; omega)
      have HST : Hid (wrt xs (ls.take (k + 1)) = (wrt xs (ls.take k)).set (ls.getD k wr0).p.toNat (ls.getD k wr0).d) := wrt_step xs ls k (by have := HL.out.2; omega)
      have HLZ : Hid ((wrt xs (ls.take k)).length = n) := by show _ = _; rw [wrt_len]; exact HL.out.1
      clear hc2 l2
      generalize (ls.getD k wr0).p = pz at *
      generalize (ls.getD k wr0).d = d at *
      generalize wrt xs (ls.take k) = zs at *
      obtain ⟨p, rfl⟩ : ∃ p : Nat, pz = p := ⟨pz.toNat, by omega⟩
      obtain ⟨_, hp⟩ := hin
      have hp' : p < n := by omega
      clear hp
      rw [Int.toNat_natCast] at HST
      have hN := Blk.new wr #[.int .i64 (p : Int), .int .u32 d] 44
      have hK := HK.out.alloc (.cells #[.int .i64 (p : Int), .int .u32 d] 44)
      have n0 := hN.cell 0
      have n1 := hN.cell 1
      have k0 := Blk.word hK p (by rw [HLZ.out]; exact hp')
      have k1 := hK.free p
      have HNX : Hid (Blk ((wr.alloc (.cells #[.int .i64 (p : Int), .int .u32 d] 44)).setCell ⟨g, p, none⟩ (.int .u32 d)) g (arr (wrt xs (ls.take (k + 1)))) 42) := by
        have h := hK.set p (.int .u32 d)
        rw [arr_set] at h
        rw [HST.out]; exact h
      have HBX : Hid (Below g w ((wr.alloc (.cells #[.int .i64 (p : Int), .int .u32 d] 44)).setCell ⟨g, p, none⟩ (.int .u32 d))) := by
        have h0 : g ≤ wr.heap.size := by have := HB.out.size; have h3 := HGG.out; omega
        exact bel_set (HB.out.alloc h0 _) g p _ (Nat.le_refl _)
      clear hN hK
      go_wp2_with fail
      go_roundw
      case rel => exact ⟨k + 1, by omega, by go_num, HNX.out, HBX.out⟩
      case measure => simp [intOf]; omega
    · obtain rfl : k = m := by omega
      have HX : Hid (RowU wr (some ⟨g, 0, none⟩) n (wrt xs ls)) := Blk.rowU (by have := HK.out; rw [List.take_of_length_le (by have := HL.out.2; omega)] at this; exact this) (by rw [wrt_len]; exact HL.out.1)
      go_wp2_with fail
      go_ret
      exact ⟨g, rfl, HX.out, by rw [HGG.out]; exact HB.out⟩

end Go.Proofs.Ytfllkhlnnihndaa.cell
