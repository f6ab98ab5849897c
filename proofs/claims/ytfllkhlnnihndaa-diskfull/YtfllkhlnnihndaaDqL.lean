/- disk.laying: the writes that put a record at the end. -/
import Derived.Test.YtfllkhlnnihndaaDkA
import Derived.Test.YtfllkhlnnihndaaDkPn
import Derived.Laws.MakeOwn
import Derived.Deep.DeepCutAuto
namespace Go.Proofs.Ytfllkhlnnihndaa.disk
open Go.RowKit Go.Proofs.Ytfllkhlnnihndaa.cell
set_option maxRecDepth 100000
set_option linter.unusedVariables false
set_option linter.unusedSimpArgs false

theorem make_wr (m : Nat) (h : m ≤ 100000) (w : World) : (Instr.makeSlice 31 (.int .i64 0) (.int .i64 ((m : Int) + 2))).run Try.prog w = .ok (.slice (some ⟨w.heap.size, 0, none⟩) 0 (m + 2)) (w.alloc (.cells (madeCells (Value.agg #[.int .i64 0, .int .u32 0]).cells ((m + 2) * 2)) 44)) := by
  obtain ⟨i0, hi, hz0, hz1, hz2⟩ := info_parts info_wr
  have := run_make (P := Try.prog) w 31 44 i0 (.agg #[.int .i64 0, .int .u32 0]) Try.underlying31 hi hz0 .i64 .i64 0 ((m : Int) + 2) (by omega) (by omega) (by rw [hz2]; omega) (by omega)
  rw [hz1, show ((m : Int) + 2).toNat = m + 2 by omega] at this
  exact this
theorem put_next2 (p k : Nat) (r : List Int) : putW p r k ++ [⟨(p : Int) + 1 + (k : Int), r.getD k 0⟩] = putW p r (k + 1) := by
  rw [putW, show ((p + k + 1 : Nat) : Int) = (p : Int) + 1 + (k : Int) by omega]
theorem app_yes2 {c : List Int} {p k : Nat} {r : List Int} (hk : r.length = k) (h : p + k + 1 < c.length) : putW p r k ++ [⟨(p : Int) + 1 + (k : Int), 0⟩] ++ [⟨(p : Int), (k : Int)⟩] = appW c p r := by
  subst hk
  rw [← app_yes h, show (p : Int) + 1 + (r.length : Int) = (p : Int) + (r.length : Int) + 1 by omega]
theorem app_no2 {c : List Int} {p k : Nat} {r : List Int} (hk : r.length = k) (h : ¬ p + k + 1 < c.length) : putW p r k ++ [⟨(p : Int), (k : Int)⟩] = appW c p r := by
  subst hk
  exact app_no h
set_option maxHeartbeats 4000000 in
theorem laying_any (a : Option Addr) (m cap2 : Nat) (r c : List Int) (p n : Nat) (w : World) (h : RowU w a m r) (h1 : 1 ≤ m) (h2 : m ≤ 64) (hp : p ≤ 2048) (hn : n ≤ 2048) (hc : c.length = n) :
    Calls Try.prog 29 #[.slice a m cap2, .int .i64 (p : Int), .int .i64 (n : Int)] w fun e w' => ∃ V, e = .returned V ∧ Lw w' w.heap.size V (appW c p r) ∧ Below w.heap.size w w' := by
  obtain ⟨b, o, rfl, lb, hcl⟩ := h.at (by omega)
  have HCL : Hid (∀ W, Below w.heap.size w W → ∀ j, j < m → W.cell? ⟨b, o + j, none⟩ = some (.int .u32 (r.getD j 0))) := fun W hB j hj => (hB.cell (p := ⟨b, o + j, none⟩) lb).trans (hcl j hj)
  have HN : Hid (c.length = n ∧ r.length = m) := ⟨hc, h.1⟩
  have hmk := make_wr m (by omega) w
  have HL0 : Hid (Lw (w.alloc (.cells (madeCells (Value.agg #[.int .i64 0, .int .u32 0]).cells ((m + 2) * 2)) 44)) w.heap.size (.slice (some ⟨w.heap.size, 0, none⟩) 0 (m + 2)) []) := World.ownsRow_made w _ (m + 2) (Nat.le_refl _) (by unfold maxLen; omega) (size_madeCells _ _)
  have HB0 : Hid (Below w.heap.size w (w.alloc (.cells (madeCells (Value.agg #[.int .i64 0, .int .u32 0]).cells ((m + 2) * 2)) 44))) := (Below.refl _ _).alloc (Nat.le_refl _) _
  clear h hc hcl lb
  generalize (w.alloc (.cells (madeCells (Value.agg #[.int .i64 0, .int .u32 0]).cells ((m + 2) * 2)) 44)) = W0 at *
  go_enter Try.func29, Try.ntmps29
  go_wp2_with fail
  clear hmk
  go_loopw [7, 8, 19] (fun v7 v8 v19 wr => ∃ (k : Nat) (V : Value), k ≤ m ∧ V = v7 ∧ v8 = .int .i64 ((p : Int) + 1 + (k : Int)) ∧ v19 = .int .i64 (k : Int) ∧ Lw wr w.heap.size V (putW p r k) ∧ Below w.heap.size w wr) (fun _ _ v19 _ => m - (intOf v19).toNat)
  case atStart => exact ⟨0, _, Nat.zero_le _, rfl, by go_num, rfl, HL0.out, HB0.out⟩
  case round =>
    obtain ⟨k, V, hk, hV, rfl, rfl, hlw, hbl⟩ := hrel
    subst hV
    have HBL : Hid (Below w.heap.size w wr) := hbl
    have hs6 : (putW p r k).length ≤ 1000000 := by rw [put_len]; omega
    have HUA : Hid (∀ o, Lw (wr.alloc o) w.heap.size V (putW p r k)) := fun o => hlw.alloc o
    have HBA : Hid (∀ o, Below w.heap.size w (wr.alloc o)) := fun o => hbl.alloc hbl.size o
    have HSA : Hid (∀ o, w.heap.size ≤ (wr.alloc o).heap.size) := fun o => (hbl.alloc hbl.size o).size
    clear hlw hbl HL0 HB0
    by_cases hkm : k < m
    · have k2 := HCL.out wr HBL.out k hkm
      have HPN : Hid (putW p r k ++ [⟨(p : Int) + 1 + (k : Int), r.getD k 0⟩] = putW p r (k + 1)) := put_next2 p k r
      generalize r.getD k 0 = u at *
      go_wp2_with (first | (refine wp_write rfl _ _ rfl w.heap.size wr.heap.size V (putW p r k) ⟨(p : Int) + 1 + (k : Int), u⟩ rfl rfl (HUA.out _) ⟨(Blk.new wr _ _).cell 0, (Blk.new wr _ _).cell 1⟩ hs6 (HSA.out _) ?_; intro v3 w3 h3 hg3; have hb3 := own_bel (HUA.out _) hg3 (HBA.out _) (Nat.le_refl _) (HSA.out _); have H3 : Hid (Lw w3 w.heap.size v3 (putW p r k ++ [(⟨(p : Int) + 1 + (k : Int), u⟩ : Wr)])) := h3; have HB3 : Hid (Below w.heap.size w w3) := hb3; clear h3 hg3 hb3) | fail)
      go_roundw
      case rel => exact ⟨k + 1, v3, by omega, rfl, by go_num, by go_num, by rw [← HPN.out]; exact H3.out, HB3.out⟩
      case measure => simp [intOf]; omega
    · obtain rfl : k = m := by omega
      by_cases hz : (p : Int) + 1 + (k : Int) < (n : Int)
      · have HQ : Hid (putW p r k ++ [⟨(p : Int) + 1 + (k : Int), 0⟩] ++ [⟨(p : Int), (k : Int)⟩] = appW c p r) := app_yes2 HN.out.2 (by rw [HN.out.1]; omega)
        have hs7 : (putW p r k ++ [(⟨(p : Int) + 1 + (k : Int), 0⟩ : Wr)]).length ≤ 1000000 := by rw [List.length_append, put_len]; simp; omega
        go_upto_region 11 with (first | (refine wp_write rfl _ _ rfl w.heap.size wr.heap.size V (putW p r k) ⟨(p : Int) + 1 + (k : Int), 0⟩ rfl rfl (HUA.out _) ⟨(Blk.new wr _ _).cell 0, (Blk.new wr _ _).cell 1⟩ hs6 (HSA.out _) ?_; intro v3 w3 h3 hg3; have hb3 := own_bel (HUA.out _) hg3 (HBA.out _) (Nat.le_refl _) (HSA.out _); have H3 : Hid (Lw w3 w.heap.size v3 (putW p r k ++ [(⟨(p : Int) + 1 + (k : Int), 0⟩ : Wr)])) := h3; have HB3 : Hid (Below w.heap.size w w3) := hb3; clear h3 hg3 hb3) | fail)
        have HU3 : Hid (∀ o, Lw (w3.alloc o) w.heap.size v3 (putW p r k ++ [(⟨(p : Int) + 1 + (k : Int), 0⟩ : Wr)])) := fun o => H3.out.alloc o
        have HBB : Hid (∀ o, Below w.heap.size w (w3.alloc o)) := fun o => HB3.out.alloc HB3.out.size o
        have HS3 : Hid (∀ o, w.heap.size ≤ (w3.alloc o).heap.size) := fun o => (HB3.out.alloc HB3.out.size o).size
        clear HUA HBA HSA HBL H3 HB3
        go_wp2_with (first | (refine wp_write rfl _ _ rfl w.heap.size w3.heap.size v3 (putW p r k ++ [(⟨(p : Int) + 1 + (k : Int), 0⟩ : Wr)]) ⟨(p : Int), (k : Int)⟩ rfl rfl (HU3.out _) ⟨(Blk.new w3 _ _).cell 0, (Blk.new w3 _ _).cell 1⟩ hs7 (HS3.out _) ?_; intro v4 w4 h3 hg3; have hb3 := own_bel (HU3.out _) hg3 (HBB.out _) (Nat.le_refl _) (HS3.out _); have H4 : Hid (Lw w4 w.heap.size v4 (putW p r k ++ [(⟨(p : Int) + 1 + (k : Int), 0⟩ : Wr)] ++ [(⟨(p : Int), (k : Int)⟩ : Wr)])) := h3; have HB4 : Hid (Below w.heap.size w w4) := hb3; clear h3 hg3 hb3) | fail)
        go_ret
        exact ⟨v4, rfl, by rw [← HQ.out]; exact H4.out, HB4.out⟩
      · have HQ : Hid (putW p r k ++ [⟨(p : Int), (k : Int)⟩] = appW c p r) := app_no2 HN.out.2 (by rw [HN.out.1]; omega)
        go_wp2_with (first | (refine wp_write rfl _ _ rfl w.heap.size wr.heap.size V (putW p r k) ⟨(p : Int), (k : Int)⟩ rfl rfl (HUA.out _) ⟨(Blk.new wr _ _).cell 0, (Blk.new wr _ _).cell 1⟩ hs6 (HSA.out _) ?_; intro v4 w4 h3 hg3; have hb3 := own_bel (HUA.out _) hg3 (HBA.out _) (Nat.le_refl _) (HSA.out _); have H4 : Hid (Lw w4 w.heap.size v4 (putW p r k ++ [(⟨(p : Int), (k : Int)⟩ : Wr)])) := h3; have HB4 : Hid (Below w.heap.size w w4) := hb3; clear h3 hg3 hb3) | fail)
        go_ret
        exact ⟨v4, rfl, by rw [← HQ.out]; exact H4.out, HB4.out⟩

end Go.Proofs.Ytfllkhlnnihndaa.disk
