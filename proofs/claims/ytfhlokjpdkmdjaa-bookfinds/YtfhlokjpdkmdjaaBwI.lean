/- The statement BookFinds. -/
import Derived.Test.YtfhlokjpdkmdjaaKbF
import Derived.Test.YtfhlokjpdkmdjaaBkU
import Derived.Test.YtfhlokjpdkmdjaaLetSO
import Derived.Test.YtfhlokjpdkmdjaaIRow
import Derived.Test.YtfhlokjpdkmdjaaOpAt
import Derived.Test.YtfhlokjpdkmdjaaCallFirst
import Derived.Test.YtfhlokjpdkmdjaaLet
import Derived.Deep.RegionHeld
import Derived.Deep.DeepCutAuto
namespace Go.Proofs.Ytfhlokjpdkmdjaa.book
open Go.RowKit
set_option maxRecDepth 100000
set_option linter.unusedVariables false
set_option linter.unusedSimpArgs false

theorem lc_upd {w W : World} {base g : Nat} {cs : Array Value} {t : TypeId} {v : Value} {l : List Cu} (h : Lc w base v l) (hU : Upd w W g cs t) (hg : g < base) : Lc W base v l := by
  refine ⟨h.1, ?_⟩
  rcases h.2 with hn | ⟨g', cap, cur, hv, hb, hc, rest⟩
  · exact .inl hn
  · exact .inr ⟨g', cap, cur, hv, hb, by rw [hU.oth g' (by omega)]; exact hc, rest⟩
theorem map_next (z : List Int) (k : Nat) (hk : k < z.length) : (z.take k).map cuM ++ [cuM (z.getD k 0)] = (z.take (k + 1)).map cuM := by
  rw [List.take_succ_eq_append_getElem hk, List.map_append]
  simp [List.getD, List.getElem?_eq_getElem hk]
set_option maxHeartbeats 4000000 in
theorem BookFinds_walk (K : KFind) (a : Option Addr) (n cap : Nat) (zs : List Int) (me : Int) (w : World) (h : irow.RowF w a n zs) (hl : n ≤ zs.length) (hn : n ≤ 1048576) (hme : (Lit.int .i64 me).wf = true) :
    Calls Try.prog 6 #[.slice a n cap, .int .i64 me] w fun e w' => e = .returned (.bool true) ∧ Below w.heap.size w w' := by
  have HR : Hid (irow.RowF w a n zs) := h
  have HK : Hid (∀ W p m cap' l, RowC W p m l → (p = none → cap' = 0) → m ≤ cap' → m ≤ 2000000 → Calls Try.prog 21 #[.agg #[.slice p m cap'], .int .i64 me] W fun e w' => FindPost W l me e w') := fun W p m cap' l h1 h2 h3 h4 => K W p m cap' l me h1 h2 h3 h4 hme
  have HFO : Hid (∀ W p m cap' l, RowC W p m l → m ≤ 2000000 → Calls Try.prog 22 #[.agg #[.slice p m cap'], .int .i64 me] W fun e w' => ∃ x, e = .returned (.int .i64 x) ∧ FoundIs l me x ∧ Below W.heap.size W w') := fun W p m cap' l h1 h2 => rfound p m cap' l me W h1 (by omega)
  have HX : Hid (Blk (w.alloc (.cells #[.slice none 0 0] 45)) w.heap.size #[.slice none 0 0] 45) := Blk.new w _ _
  have HB : Hid (Below w.heap.size w (w.alloc (.cells #[.slice none 0 0] 45))) := (Below.refl _ _).alloc (Nat.le_refl _) _
  have HLZ0 : Hid (n ≤ zs.length) := hl
  clear h K hme hl
  go_enter Try.func6, Try.ntmps6
  go_upto_region 2 with fail
  have HWw : Hid (w.heap.size ≤ (w.alloc (.cells #[.slice none 0 0] 45)).heap.size) := HB.out.size
  have HG5 : Hid (w.heap.size < (w.alloc (.cells #[.slice none 0 0] 45)).heap.size) := HX.out.lt
  generalize (w.alloc (.cells #[.slice none 0 0] 45)) = W0 at *
  have HG5w : Hid (w.heap.size ≤ w.heap.size) := Nat.le_refl _
  obtain ⟨g5, hg5⟩ : ∃ g5, g5 = w.heap.size := ⟨_, rfl⟩
  have HG5E : Hid (g5 = w.heap.size) := hg5
  rw [← hg5] at HX HG5
  rw [← hg5]
  have HG5w : Hid (w.heap.size ≤ g5) := by show _ ≤ _; rw [HG5E.out]; exact Nat.le_refl _
  clear hg5
  go_wp2_with fail
  go_loopw [6] (fun i wr => ∃ (k : Nat) (pa : Option Addr) (ps pc : Nat), k ≤ n ∧ i = .int .i64 (k : Int) ∧ Blk wr g5 #[.slice pa ps pc] 45 ∧ Lc wr W0.heap.size (.slice pa ps pc) ((zs.take k).map cuM) ∧ Below w.heap.size w wr ∧ W0.heap.size ≤ wr.heap.size) (fun i _ => n - (intOf i).toNat)
  case atStart => exact ⟨0, none, 0, 0, Nat.zero_le _, rfl, HX.out, Lc.zero _ _, HB.out, Nat.le_refl _⟩
  case round =>
    obtain ⟨k, pa, ps, pc, hk, rfl, hg, hlc, hb, hws⟩ := hrel
    have HG : Hid (Blk wr g5 #[.slice pa ps pc] 45) := hg
    have HLc : Hid (Lc wr W0.heap.size (.slice pa ps pc) ((zs.take k).map cuM)) := hlc
    have HBw : Hid (Below w.heap.size w wr) := hb
    have HWs : Hid (W0.heap.size ≤ wr.heap.size) := hws
    clear hg hlc hb hws HX HB
    by_cases hlt : k < n
    · obtain ⟨bl, off, rfl, hcell, hzw⟩ := HR.out k hlt
      have HC : Hid (∀ v, Below w.heap.size w v → v.cell? ⟨bl, off + k, none⟩ = some (.int .i64 (zs.getD k 0))) := fun v hv => (hv.cell (p := ⟨bl, off + k, none⟩) (World.block_lt_of_cell? w _ hcell)).trans hcell
      have HZ : Hid ((zs.take k).map cuM ++ [cuM (zs.getD k 0)] = (zs.take (k + 1)).map cuM) := map_next zs k (by have := HLZ0.out; omega)
      have hln : ((zs.take k).map cuM).length ≤ 2000000 := by rw [List.length_map, List.length_take]; omega
      have hdl : decide ((k : Int) < (n : Int)) = true := by simp; omega
      clear hcell hzw HK HFO
      generalize zs.getD k 0 = z at *
      generalize (zs.take k).map cuM = ls at *
      go_wp2_with fail
      refine wp_region_held_drew (S := fun v => Below w.heap.size w v) (by kernel_rfl) HBw.out.drew (fun hHeld => ?_)
      refine take_at 0 16 (.pointer (some ⟨g5, 0, none⟩)) _ rfl rfl (by kernel_rfl) (by kernel_rfl) (by kernel_rfl) (fun _ _ _ h => h) (Or.inl ⟨by rfl, fun v hv => by skip; clear hv; go_simp⟩) hHeld ?_
      simp only [Act.put, List.setIfInBounds_toArray, List.set_cons_zero, List.set_cons_succ]
      refine take_at 2 18 (.slice (some ⟨bl, off, none⟩) n cap) _ rfl rfl (by kernel_rfl) (by kernel_rfl) (by kernel_rfl) (fun _ _ _ h => h) (Or.inl ⟨by rfl, fun v hv => by skip; clear hv; go_simp⟩) hHeld ?_
      simp only [Act.put, List.setIfInBounds_toArray, List.set_cons_zero, List.set_cons_succ]
      refine take_at 3 19 (.int .i64 (k : Int)) _ rfl rfl (by kernel_rfl) (by kernel_rfl) (by kernel_rfl) (fun _ _ _ h => h) (Or.inl ⟨by rfl, fun v hv => by skip; clear hv; go_simp⟩) hHeld ?_
      simp only [Act.put, List.setIfInBounds_toArray, List.set_cons_zero, List.set_cons_succ]
      refine take_at 4 20 (.pointer (some ⟨bl, off + k, none⟩)) _ rfl rfl (by kernel_rfl) (by kernel_rfl) (by kernel_rfl) (fun _ _ _ h => h) (Or.inl ⟨by rfl, fun v hv => by skip; clear hv; go_simp⟩) hHeld ?_
      simp only [Act.put, List.setIfInBounds_toArray, List.set_cons_zero, List.set_cons_succ]
      refine take_at 5 21 (.int .i64 z) _ rfl rfl (by kernel_rfl) (by kernel_rfl) (by kernel_rfl) (fun _ _ _ h => h) (Or.inl ⟨by rfl, fun v hv => by have h2 := HC.out v hv; clear hv; go_simp⟩) hHeld ?_
      simp only [Act.put, List.setIfInBounds_toArray, List.set_cons_zero, List.set_cons_succ]
      refine take_at 6 22 (.agg #[.int .i64 z, .int .i64 0, .int .i64 0, .int .i64 0, .int .i64 0, .int .i64 0, .slice none 0 0]) _ rfl rfl (by kernel_rfl) (by kernel_rfl) (by kernel_rfl) (fun _ _ _ h => h) (Or.inl ⟨by rfl, fun v hv => by skip; clear hv; go_simp⟩) hHeld ?_
      simp only [Act.put, List.setIfInBounds_toArray, List.set_cons_zero, List.set_cons_succ]
      refine take_at 7 23 (.agg #[.int .i64 z, .int .i64 0, .int .i64 0, .int .i64 0, .int .i64 0, .int .i64 0, .slice none 0 0, .slice none 0 0]) _ rfl rfl (by kernel_rfl) (by kernel_rfl) (by kernel_rfl) (fun _ _ _ h => h) (Or.inl ⟨by rfl, fun v hv => by skip; clear hv; go_simp⟩) hHeld ?_
      simp only [Act.put, List.setIfInBounds_toArray, List.set_cons_zero, List.set_cons_succ]
      have HG0 : Hid (Blk wr.drew g5 #[.slice pa ps pc] 45) := HG.out
      have HL0 : Hid (Lc wr.drew W0.heap.size (.slice pa ps pc) ls) := HLc.out
      have HB0 : Hid (Below w.heap.size w wr.drew) := HBw.out.drew
      have HW0 : Hid (W0.heap.size ≤ wr.drew.heap.size) := HWs.out
      clear HG HLc HBw HC HWs
      generalize wr.drew = U at *
      refine wpAnyH_ready (rs := [1, 8]) (by kernel_rfl) (by simp) (AllReadyH.cons rfl (fun K hK => ?_) (AllReadyH.cons rfl (fun K hK => ?_) AllReadyH.nil))
      · rw [if_pos (by rfl)]
        refine wp_runOp (v := .slice pa ps pc) (w' := U) 17 rfl (by have h2 := HG0.out.cell 0; clear hK; go_simp) ?_
        refine hK.out _ _ HB0.out (fun hHeld => ?_)
        clear hK
        simp only [Act.put, List.setIfInBounds_toArray, List.set_cons_zero, List.set_cons_succ]
        refine wpAnyH_ready (rs := [8]) (by kernel_rfl) (by simp) (AllReadyH.cons rfl (fun K hK => ?_) AllReadyH.nil)
        rw [if_pos (by rfl)]
        have HBA : Hid (Below w.heap.size w (U.alloc (.cells #[.int .i64 z, .int .i64 0, .int .i64 0, .int .i64 0, .int .i64 0, .int .i64 0, .slice none 0 0, .slice none 0 0] 58))) := HB0.out.alloc HB0.out.size _
        have HGA : Hid (Blk (U.alloc (.cells #[.int .i64 z, .int .i64 0, .int .i64 0, .int .i64 0, .int .i64 0, .int .i64 0, .slice none 0 0, .slice none 0 0] 58)) g5 #[.slice pa ps pc] 45) := HG0.out.alloc _
        have HLA : Hid (Lc (U.alloc (.cells #[.int .i64 z, .int .i64 0, .int .i64 0, .int .i64 0, .int .i64 0, .int .i64 0, .slice none 0 0, .slice none 0 0] 58)) W0.heap.size (.slice pa ps pc) ls) := HL0.out.alloc _
        have HNA : Hid (Blk (U.alloc (.cells #[.int .i64 z, .int .i64 0, .int .i64 0, .int .i64 0, .int .i64 0, .int .i64 0, .slice none 0 0, .slice none 0 0] 58)) U.heap.size #[.int .i64 z, .int .i64 0, .int .i64 0, .int .i64 0, .int .i64 0, .int .i64 0, .slice none 0 0, .slice none 0 0] 58) := Blk.new _ _ _
        have HWA : Hid (W0.heap.size ≤ (U.alloc (.cells #[.int .i64 z, .int .i64 0, .int .i64 0, .int .i64 0, .int .i64 0, .int .i64 0, .slice none 0 0, .slice none 0 0] 58)).heap.size) := cell.alloc_le HW0.out _
        refine wp_runOp (v := .slice (some ⟨U.heap.size, 0, none⟩) 1 1) (w' := (U.alloc (.cells #[.int .i64 z, .int .i64 0, .int .i64 0, .int .i64 0, .int .i64 0, .int .i64 0, .slice none 0 0, .slice none 0 0] 58))) 24 rfl (by clear hK; go_simp) ?_
        refine hK.out _ _ HBA.out (fun hHeld => ?_)
        clear hK
        simp only [Act.put, List.setIfInBounds_toArray, List.set_cons_zero, List.set_cons_succ]
        generalize U.heap.size = gn at *
        generalize U.alloc _ = U2 at *
        refine wpAnyH_ready (rs := [9]) (by kernel_rfl) (by simp) (AllReadyH.cons rfl (fun K hK => ?_) AllReadyH.nil)
        rw [if_pos (by rfl)]
        refine step_cust _ _ rfl W0.heap.size gn _ ls (cuM z) rfl rfl HLA.out HNA.out hln HWA.out ?_
        intro v3 w3 h3 hg3 ho3
        obtain ⟨pa3, pc3, rfl, _, _, _⟩ := h3.row
        have HL3 : Hid (Lc w3 W0.heap.size (.slice pa3 (ls ++ [cuM z]).length pc3) (ls ++ [cuM z])) := h3
        have HB3 : Hid (Below w.heap.size w w3) := cell.own_bel HLA.out hg3 HBA.out HWw.out HBA.out.size
        have HG3 : Hid (Blk w3 g5 #[.slice pa ps pc] 45) := by
          show w3.heap[g5]? = _
          rw [hg3.block g5 HGA.out.lt (cell.own_far HLA.out HG5.out)]
          exact HGA.out
        have HW3 : Hid (W0.heap.size ≤ w3.heap.size) := Nat.le_trans HWA.out hg3.size
        have HF3 : Hid (∀ k, (Value.slice pa3 (ls ++ [cuM z]).length pc3).ownBlock = some k → W0.heap.size ≤ k) := fun k hk => (World.ownsRow.lt h3 k hk).1
        refine hK.out _ _ HB3.out (fun hHeld => ?_)
        clear hK h3 hg3 ho3 HLA HNA HGA HBA HWA
        simp only [Act.put, List.setIfInBounds_toArray, List.set_cons_zero, List.set_cons_succ]
        refine take_at 10 26 (.pointer (some ⟨g5, 0, none⟩)) _ rfl rfl (by kernel_rfl) (by kernel_rfl) (by kernel_rfl) (fun _ _ _ h => h) (Or.inl ⟨by rfl, fun v hv => by skip; clear hv; go_simp⟩) hHeld ?_
        simp only [Act.put, List.setIfInBounds_toArray, List.set_cons_zero, List.set_cons_succ]
        generalize hlz : (ls ++ [cuM z]).length = lz at *
        have HLZ : Hid ((ls ++ [cuM z]).length = lz) := hlz
        clear hlz
        refine wpAnyH_ready (rs := [11]) (by kernel_rfl) (by simp) (AllReadyH.cons rfl (fun K hK => ?_) AllReadyH.nil)
        rw [if_pos (by rfl)]
        refine wp_letOpS 43 _ _ rfl g5 0 rfl pa3 lz pc3 rfl (by kernel_rfl) #[.slice pa ps pc] 45 HG3.out (by simp) rfl ?_
        intro W4 hU
        have HB4 : Hid (Below w.heap.size w W4) := hU.bel _ _ HG5w.out HB3.out
        have HG4 : Hid (Blk W4 g5 #[.slice pa3 lz pc3] 45) := hU.blk
        have HL4 : Hid (Lc W4 W0.heap.size (.slice pa3 lz pc3) (ls ++ [cuM z])) := lc_upd HL3.out hU HG5.out
        have HW4 : Hid (W0.heap.size ≤ W4.heap.size) := by show _ ≤ _; rw [hU.size]; exact HW3.out
        refine hK.out _ _ HB4.out (fun hHeld => ?_)
        clear hK hU HB3 HG3 HL3 HW3 HF3
        refine wpAnyH_done (by kernel_rfl) ?_ _
        clear hHeld
        go_wp2_with fail
        go_roundw
        case rel => exact ⟨k + 1, pa3, lz, pc3, by omega, by go_num, HG4.out, by rw [← HZ.out]; exact HL4.out, HB4.out, HW4.out⟩
        case measure => simp [intOf]; omega
      · rw [if_pos (by rfl)]
        have HBA : Hid (Below w.heap.size w (U.alloc (.cells #[.int .i64 z, .int .i64 0, .int .i64 0, .int .i64 0, .int .i64 0, .int .i64 0, .slice none 0 0, .slice none 0 0] 58))) := HB0.out.alloc HB0.out.size _
        have HGA : Hid (Blk (U.alloc (.cells #[.int .i64 z, .int .i64 0, .int .i64 0, .int .i64 0, .int .i64 0, .int .i64 0, .slice none 0 0, .slice none 0 0] 58)) g5 #[.slice pa ps pc] 45) := HG0.out.alloc _
        have HLA : Hid (Lc (U.alloc (.cells #[.int .i64 z, .int .i64 0, .int .i64 0, .int .i64 0, .int .i64 0, .int .i64 0, .slice none 0 0, .slice none 0 0] 58)) W0.heap.size (.slice pa ps pc) ls) := HL0.out.alloc _
        have HNA : Hid (Blk (U.alloc (.cells #[.int .i64 z, .int .i64 0, .int .i64 0, .int .i64 0, .int .i64 0, .int .i64 0, .slice none 0 0, .slice none 0 0] 58)) U.heap.size #[.int .i64 z, .int .i64 0, .int .i64 0, .int .i64 0, .int .i64 0, .int .i64 0, .slice none 0 0, .slice none 0 0] 58) := Blk.new _ _ _
        have HWA : Hid (W0.heap.size ≤ (U.alloc (.cells #[.int .i64 z, .int .i64 0, .int .i64 0, .int .i64 0, .int .i64 0, .int .i64 0, .slice none 0 0, .slice none 0 0] 58)).heap.size) := cell.alloc_le HW0.out _
        refine wp_runOp (v := .slice (some ⟨U.heap.size, 0, none⟩) 1 1) (w' := (U.alloc (.cells #[.int .i64 z, .int .i64 0, .int .i64 0, .int .i64 0, .int .i64 0, .int .i64 0, .slice none 0 0, .slice none 0 0] 58))) 24 rfl (by clear hK; go_simp) ?_
        refine hK.out _ _ HBA.out (fun hHeld => ?_)
        clear hK
        simp only [Act.put, List.setIfInBounds_toArray, List.set_cons_zero, List.set_cons_succ]
        generalize U.heap.size = gn at *
        generalize U.alloc _ = U2 at *
        refine wpAnyH_ready (rs := [1]) (by kernel_rfl) (by simp) (AllReadyH.cons rfl (fun K hK => ?_) AllReadyH.nil)
        rw [if_pos (by rfl)]
        refine wp_runOp (v := .slice pa ps pc) (w' := U2) 17 rfl (by have h2 := HGA.out.cell 0; clear hK; go_simp) ?_
        refine hK.out _ _ HBA.out (fun hHeld => ?_)
        clear hK
        simp only [Act.put, List.setIfInBounds_toArray, List.set_cons_zero, List.set_cons_succ]
        refine wpAnyH_ready (rs := [9]) (by kernel_rfl) (by simp) (AllReadyH.cons rfl (fun K hK => ?_) AllReadyH.nil)
        rw [if_pos (by rfl)]
        refine step_cust _ _ rfl W0.heap.size gn _ ls (cuM z) rfl rfl HLA.out HNA.out hln HWA.out ?_
        intro v3 w3 h3 hg3 ho3
        obtain ⟨pa3, pc3, rfl, _, _, _⟩ := h3.row
        have HL3 : Hid (Lc w3 W0.heap.size (.slice pa3 (ls ++ [cuM z]).length pc3) (ls ++ [cuM z])) := h3
        have HB3 : Hid (Below w.heap.size w w3) := cell.own_bel HLA.out hg3 HBA.out HWw.out HBA.out.size
        have HG3 : Hid (Blk w3 g5 #[.slice pa ps pc] 45) := by
          show w3.heap[g5]? = _
          rw [hg3.block g5 HGA.out.lt (cell.own_far HLA.out HG5.out)]
          exact HGA.out
        have HW3 : Hid (W0.heap.size ≤ w3.heap.size) := Nat.le_trans HWA.out hg3.size
        have HF3 : Hid (∀ k, (Value.slice pa3 (ls ++ [cuM z]).length pc3).ownBlock = some k → W0.heap.size ≤ k) := fun k hk => (World.ownsRow.lt h3 k hk).1
        refine hK.out _ _ HB3.out (fun hHeld => ?_)
        clear hK h3 hg3 ho3 HLA HNA HGA HBA HWA
        simp only [Act.put, List.setIfInBounds_toArray, List.set_cons_zero, List.set_cons_succ]
        refine take_at 10 26 (.pointer (some ⟨g5, 0, none⟩)) _ rfl rfl (by kernel_rfl) (by kernel_rfl) (by kernel_rfl) (fun _ _ _ h => h) (Or.inl ⟨by rfl, fun v hv => by skip; clear hv; go_simp⟩) hHeld ?_
        simp only [Act.put, List.setIfInBounds_toArray, List.set_cons_zero, List.set_cons_succ]
        generalize hlz : (ls ++ [cuM z]).length = lz at *
        have HLZ : Hid ((ls ++ [cuM z]).length = lz) := hlz
        clear hlz
        refine wpAnyH_ready (rs := [11]) (by kernel_rfl) (by simp) (AllReadyH.cons rfl (fun K hK => ?_) AllReadyH.nil)
        rw [if_pos (by rfl)]
        refine wp_letOpS 43 _ _ rfl g5 0 rfl pa3 lz pc3 rfl (by kernel_rfl) #[.slice pa ps pc] 45 HG3.out (by simp) rfl ?_
        intro W4 hU
        have HB4 : Hid (Below w.heap.size w W4) := hU.bel _ _ HG5w.out HB3.out
        have HG4 : Hid (Blk W4 g5 #[.slice pa3 lz pc3] 45) := hU.blk
        have HL4 : Hid (Lc W4 W0.heap.size (.slice pa3 lz pc3) (ls ++ [cuM z])) := lc_upd HL3.out hU HG5.out
        have HW4 : Hid (W0.heap.size ≤ W4.heap.size) := by show _ ≤ _; rw [hU.size]; exact HW3.out
        refine hK.out _ _ HB4.out (fun hHeld => ?_)
        clear hK hU HB3 HG3 HL3 HW3 HF3
        refine wpAnyH_done (by kernel_rfl) ?_ _
        clear hHeld
        go_wp2_with fail
        go_roundw
        case rel => exact ⟨k + 1, pa3, lz, pc3, by omega, by go_num, HG4.out, by rw [← HZ.out]; exact HL4.out, HB4.out, HW4.out⟩
        case measure => simp [intOf]; omega
    · obtain rfl : k = n := by omega
      have hdl : decide ((k : Int) < (k : Int)) = false := by simp
      obtain ⟨pa2, pc2, hv2, hrow, hnil, hroom⟩ := HLc.out.row
      injection hv2 with e1 e2 e3
      have e4 : ((zs.take k).map cuM).length ≤ 2000000 := by rw [List.length_map, List.length_take]; omega
      subst e1
      subst e2
      subst e3
      have k0 : wr.cell? ⟨g5, 0, none⟩ = some (.slice pa ((zs.take k).map cuM).length pc) := HG.out.cell 0
      have HK1 : Hid (Calls Try.prog 21 #[.agg #[.slice pa ((zs.take k).map cuM).length pc], .int .i64 me] wr fun e w' => FindPost wr ((zs.take k).map cuM) me e w') := HK.out wr _ _ _ _ hrow hnil hroom e4
      have HF1 : Hid (∀ W, Below wr.heap.size wr W → Calls Try.prog 22 #[.agg #[.slice pa ((zs.take k).map cuM).length pc], .int .i64 me] W fun e w' => ∃ x, e = .returned (.int .i64 x) ∧ FoundIs ((zs.take k).map cuM) me x ∧ Below W.heap.size W w') := fun W hB => HFO.out W _ _ _ _ (hrow.below hB) e4
      clear hrow hnil hroom HK HFO HLc e4
      generalize ((zs.take k).map cuM).length = m at *
      generalize (zs.take k).map cuM = ls at *
      go_wp2_with fail
      refine HK1.out.mono ?_
      rintro e w5 ⟨x, f, rfl, hfi, hb5⟩
      have HFI : Hid (FindIs ls me x f) := hfi
      have k1 : w5.cell? ⟨g5, 0, none⟩ = some (.slice pa m pc) := (HG.out.next hb5).cell 0
      have HB5 : Hid (Below w.heap.size w w5) := HBw.out.trans (hb5.mono HBw.out.size)
      have HF2 : Hid (Calls Try.prog 22 #[.agg #[.slice pa m pc], .int .i64 me] w5 fun e w' => ∃ x, e = .returned (.int .i64 x) ∧ FoundIs ls me x ∧ Below w5.heap.size w5 w') := HF1.out w5 hb5
      clear hfi hb5 HF1 HK1 k0 HG HBw
      go_wp2_with fail
      refine HF2.out.mono ?_
      rintro e w6 ⟨y, rfl, hfo, hb6⟩
      have HB6 : Hid (Below w.heap.size w w6) := HB5.out.trans (hb6.mono HB5.out.size)
      have hboth := find_both HFI.out hfo
      clear hb6 hfo HFI HF2 k1
      rcases hboth with ⟨hy, rfl, rfl⟩ | ⟨hy, rfl, rfl⟩
      · have hd : decide (y < 0) = true := decide_eq_true hy
        clear hy
        go_wp2_with fail
        go_ret
        exact ⟨rfl, HB6.out⟩
      · have hd : decide (x < 0) = false := decide_eq_false (by omega)
        have he : (x == x) = true := by simp
        clear hy
        go_wp2_with fail
        go_ret
        exact ⟨rfl, HB6.out⟩

end Go.Proofs.Ytfhlokjpdkmdjaa.book
