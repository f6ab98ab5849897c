/- The lines of a bill, as the document has them. -/
import Derived.Test.YtmjjfljaelahoaaTfUm
import Derived.Test.YtmjjfljaelahoaaTfC
import Derived.Test.YtmjjfljaelahoaaTfL
namespace Go.Proofs.Ytmjjfljaelahoaa.tar
open Go.RowKit
set_option maxRecDepth 100000
set_option linter.unusedVariables false
set_option linter.unusedSimpArgs false

set_option maxHeartbeats 4000000 in
theorem rbilled (a : Option Addr) (len cap : Nat) (ls : List Du) (x n : Int) (w : World) (hr : RowD w a len ls) (hl : len ≤ maxLen) : Calls Try.prog 16 #[.slice a len cap, .int .i64 x, .int .i64 n] w fun e w' => BillPost 50 w ls x n e w' := by
  have HMY : Hid (Calls Try.prog 27 #[.slice a len cap, .int .i64 x, .int .i64 n] w fun e w' => ErrPost w (MayIs ls x n) e w') := rmay a len cap ls x n w hr hl
  go_enter Try.func16, Try.ntmps16
  go_wp2_with fail
  refine HMY.out.mono ?_
  rintro e w1 ⟨f, rfl, hf, hb⟩
  have HB : Hid (Below w.heap.size w w1) := hb
  have HF : Hid (MayIs ls x n f) := hf
  by_cases h0 : f = 0
  · subst h0
    have hm := hf.ok.1 rfl
    have hx0 := hm.2.1.1
    have hx1 := hm.2.1.2
    have hn0 := hm.2.2.1.1
    have hn1 := hm.2.2.1.2
    have HR : Hid (Right ls) := hm.1
    have hs := hm.2.2.2
    have hlen := hr.1
    have hl1 : 1 ≤ len := by have := hm.1.1.1; omega
    have hl8 : len ≤ 8 := by have := hm.1.1.2; omega
    obtain ⟨b, off, rfl, hbl, hc⟩ := (hr.below hb).at hl1
    have HC : Hid (∀ i, i < len → w1.cell? ⟨b, off + i * 2, none⟩ = some (.int .i64 (ls.getD i du0).a) ∧ w1.cell? ⟨b, off + i * 2 + 1, none⟩ = some (.int .i64 (ls.getD i du0).b)) := hc
    have HLEN : Hid (ls.length = len) := hlen
    clear hf hm hb hr hl HMY hc hlen
    go_wp2_with fail
    go_loopw [9, 10, 11] (fun u v z wr => ∃ (k : Nat) (V : Value), k ≤ len ∧ z = .int .i64 (k : Int) ∧ v = .int .i64 (low ls k) ∧ V = u ∧ Lt 50 wr w1.heap.size V (billK ls x (x + n) k) ∧ Below w1.heap.size w1 wr) (fun _ _ z _ => len - (intOf z).toNat)
    case atStart => exact ⟨0, _, Nat.zero_le _, rfl, rfl, rfl, Lt.zero _ _ _, Below.refl _ _⟩
    case round =>
      obtain ⟨k, V, hk, rfl, rfl, hV, hu, hb⟩ := hrel
      subst hV
      have HBW : Hid (Below w1.heap.size w1 wr) := hb
      by_cases hlt : k < len
      · have hdl : decide ((k : Int) < (len : Int)) = true := by simp; omega
        have hkl : k < ls.length := by rw [HLEN.out]; exact hlt
        have c0 : wr.cell? ⟨b, off + k * 2, none⟩ = some (.int .i64 (ls.getD k du0).a) := (hb.cell (p := ⟨b, off + k * 2, none⟩) hbl).trans (HC.out k hlt).1
        have c1 : wr.cell? ⟨b, off + k * 2 + 1, none⟩ = some (.int .i64 (ls.getD k du0).b) := (hb.cell (p := ⟨b, off + k * 2 + 1, none⟩) hbl).trans (HC.out k hlt).2
        have hp := HR.out.price k hkl
        have hup := HR.out.upto k hkl
        have hl0 := HR.out.low_pos k (by omega)
        have hlo1 : low ls k ≤ 10000000 := by have := low_mono HR.out k ls.length (by omega) (Nat.le_refl _); rw [HR.out.low_end] at this; exact this
        have HOV : Hid (∀ W, Calls Try.prog 29 #[.int .i64 (low ls k), .int .i64 (ls.getD k du0).a, .int .i64 x, .int .i64 (x + n)] W fun e w' => e = .returned (.int .i64 (ov (low ls k) (ls.getD k du0).a x (x + n))) ∧ w' = W) := fun W => roverlap _ _ x (x + n) W ⟨hl0, hlo1⟩ ⟨by omega, by omega⟩ ⟨by omega, by omega⟩ ⟨by omega, by omega⟩
        have hpb := prod_bd (ov_pos (low ls k) (ls.getD k du0).a x (x + n)) (ov_le _ _ x (x + n) hl0 hup.2) hp.1 hp.2
        have HL : Hid ((ls.getD k du0).a = low ls (k + 1)) := (low_next ls k).symm
        have HY : Hid (0 < ov (low ls k) (ls.getD k du0).a x (x + n) → billK ls x (x + n) (k + 1) = billK ls x (x + n) k ++ [⟨ov (low ls k) (ls.getD k du0).a x (x + n), (ls.getD k du0).b, ov (low ls k) (ls.getD k du0).a x (x + n) * (ls.getD k du0).b⟩]) := billK_yes ls x (x + n) k
        have HZ : Hid (¬ 0 < ov (low ls k) (ls.getD k du0).a x (x + n) → billK ls x (x + n) (k + 1) = billK ls x (x + n) k) := billK_no ls x (x + n) k
        have HU : Hid (Lt 50 wr w1.heap.size V (billK ls x (x + n) k)) := hu
        have hbl8 : (billK ls x (x + n) k).length ≤ 1000000 := by have := bill_len ls x (x + n) k; omega
        clear hb hu
        generalize billK ls x (x + n) k = Z at *
        generalize low ls k = lo at *
        generalize ov lo (ls.getD k du0).a x (x + n) = o at *
        generalize hga : (ls.getD k du0).a = u at *
        generalize hgb : (ls.getD k du0).b = p at *
        have HGA : Hid ((ls.getD k du0).a = u) := hga
        have HGB : Hid ((ls.getD k du0).b = p) := hgb
        clear hga hgb
        have hw1 : IntKind.i64.wrap (o * p) = o * p := by rw [IntKind.wrap_i64]; omega
        by_cases hpos : 0 < o
        · have hdp : decide (0 < o) = true := decide_eq_true hpos
          have HZ2 : Hid (billK ls x (x + n) (k + 1) = Z ++ [⟨o, p, o * p⟩]) := HY.out hpos
          clear HY HZ hpos
          go_wp2_with fail
          refine (HOV.out _).mono ?_
          rintro e w2 ⟨rfl, hw2⟩
          subst hw2
          go_upto_region 11 with fail
          refine wp_region_held_drew (S := fun v => v.cell? ⟨b, off + k * 2 + 1, none⟩ = some (.int .i64 p)) (by kernel_rfl) (show _ from c1) (fun hHeld => ?_)
          refine take_at 0 39 V _ rfl rfl (by kernel_rfl) (by kernel_rfl) (by kernel_rfl) (fun _ _ _ h => h) (Or.inl ⟨by rfl, fun v hv => by skip; clear hv; go_simp⟩) hHeld ?_
          simp only [Act.put, List.setIfInBounds_toArray, List.set_cons_zero, List.set_cons_succ]
          refine take_at 1 40 (.int .i64 o) _ rfl rfl (by kernel_rfl) (by kernel_rfl) (by kernel_rfl) (fun _ _ _ h => h) (Or.inl ⟨by rfl, fun v hv => by skip; clear hv; go_simp⟩) hHeld ?_
          simp only [Act.put, List.setIfInBounds_toArray, List.set_cons_zero, List.set_cons_succ]
          refine take_at 2 41 (.slice (some ⟨b, off, none⟩) len cap) _ rfl rfl (by kernel_rfl) (by kernel_rfl) (by kernel_rfl) (fun _ _ _ h => h) (Or.inl ⟨by rfl, fun v hv => by skip; clear hv; go_simp⟩) hHeld ?_
          simp only [Act.put, List.setIfInBounds_toArray, List.set_cons_zero, List.set_cons_succ]
          refine take_at 3 42 (.int .i64 (k : Int)) _ rfl rfl (by kernel_rfl) (by kernel_rfl) (by kernel_rfl) (fun _ _ _ h => h) (Or.inl ⟨by rfl, fun v hv => by skip; clear hv; go_simp⟩) hHeld ?_
          simp only [Act.put, List.setIfInBounds_toArray, List.set_cons_zero, List.set_cons_succ]
          refine take_at 4 43 (.pointer (some ⟨b, off + k * 2, none⟩)) _ rfl rfl (by kernel_rfl) (by kernel_rfl) (by kernel_rfl) (fun _ _ _ h => h) (Or.inl ⟨by rfl, fun v hv => by skip; clear hv; go_simp⟩) hHeld ?_
          simp only [Act.put, List.setIfInBounds_toArray, List.set_cons_zero, List.set_cons_succ]
          refine take_at 5 44 (.pointer (some ⟨b, off + k * 2 + 1, none⟩)) _ rfl rfl (by kernel_rfl) (by kernel_rfl) (by kernel_rfl) (fun _ _ _ h => h) (Or.inl ⟨by rfl, fun v hv => by skip; clear hv; go_simp⟩) hHeld ?_
          simp only [Act.put, List.setIfInBounds_toArray, List.set_cons_zero, List.set_cons_succ]
          refine take_at 6 45 (.int .i64 p) _ rfl rfl (by kernel_rfl) (by kernel_rfl) (by kernel_rfl) (fun _ _ _ h => h) (Or.inl ⟨by rfl, fun v hv => by have h2 := hv; clear hv; go_simp⟩) hHeld ?_
          simp only [Act.put, List.setIfInBounds_toArray, List.set_cons_zero, List.set_cons_succ]
          refine take_at 7 46 (.int .i64 o) _ rfl rfl (by kernel_rfl) (by kernel_rfl) (by kernel_rfl) (fun _ _ _ h => h) (Or.inl ⟨by rfl, fun v hv => by skip; clear hv; go_simp⟩) hHeld ?_
          simp only [Act.put, List.setIfInBounds_toArray, List.set_cons_zero, List.set_cons_succ]
          refine take_at 8 47 (.slice (some ⟨b, off, none⟩) len cap) _ rfl rfl (by kernel_rfl) (by kernel_rfl) (by kernel_rfl) (fun _ _ _ h => h) (Or.inl ⟨by rfl, fun v hv => by skip; clear hv; go_simp⟩) hHeld ?_
          simp only [Act.put, List.setIfInBounds_toArray, List.set_cons_zero, List.set_cons_succ]
          refine take_at 9 48 (.int .i64 (k : Int)) _ rfl rfl (by kernel_rfl) (by kernel_rfl) (by kernel_rfl) (fun _ _ _ h => h) (Or.inl ⟨by rfl, fun v hv => by skip; clear hv; go_simp⟩) hHeld ?_
          simp only [Act.put, List.setIfInBounds_toArray, List.set_cons_zero, List.set_cons_succ]
          refine take_at 10 49 (.pointer (some ⟨b, off + k * 2, none⟩)) _ rfl rfl (by kernel_rfl) (by kernel_rfl) (by kernel_rfl) (fun _ _ _ h => h) (Or.inl ⟨by rfl, fun v hv => by skip; clear hv; go_simp⟩) hHeld ?_
          simp only [Act.put, List.setIfInBounds_toArray, List.set_cons_zero, List.set_cons_succ]
          refine take_at 11 50 (.pointer (some ⟨b, off + k * 2 + 1, none⟩)) _ rfl rfl (by kernel_rfl) (by kernel_rfl) (by kernel_rfl) (fun _ _ _ h => h) (Or.inl ⟨by rfl, fun v hv => by skip; clear hv; go_simp⟩) hHeld ?_
          simp only [Act.put, List.setIfInBounds_toArray, List.set_cons_zero, List.set_cons_succ]
          refine take_at 12 51 (.int .i64 p) _ rfl rfl (by kernel_rfl) (by kernel_rfl) (by kernel_rfl) (fun _ _ _ h => h) (Or.inl ⟨by rfl, fun v hv => by have h2 := hv; clear hv; go_simp⟩) hHeld ?_
          simp only [Act.put, List.setIfInBounds_toArray, List.set_cons_zero, List.set_cons_succ]
          refine take_at 13 52 (.int .i64 (o * p)) _ rfl rfl (by kernel_rfl) (by kernel_rfl) (by kernel_rfl) (fun _ _ _ h => h) (Or.inl ⟨by rfl, fun v hv => by skip; clear hv; go_simp⟩) hHeld ?_
          simp only [Act.put, List.setIfInBounds_toArray, List.set_cons_zero, List.set_cons_succ]
          refine take_at 14 53 (.agg #[.int .i64 o, .int .i64 p, .int .i64 (o * p)]) _ rfl rfl (by kernel_rfl) (by kernel_rfl) (by kernel_rfl) (fun _ _ _ h => h) (Or.inl ⟨by rfl, fun v hv => by skip; clear hv; go_simp⟩) hHeld ?_
          simp only [Act.put, List.setIfInBounds_toArray, List.set_cons_zero, List.set_cons_succ]
          refine wpAnyH_ready (rs := [15]) (by kernel_rfl) (by simp) (AllReadyH.cons rfl (fun K hK => ?_) AllReadyH.nil)
          go_simp
          have HBA : Hid (Below w1.heap.size w1 (w2.alloc (.cells #[.int .i64 o, .int .i64 p, .int .i64 (o * p)] 50)).drew) := (HBW.out.alloc HBW.out.size _).drew
          have HUA : Hid (Lt 50 (w2.alloc (.cells #[.int .i64 o, .int .i64 p, .int .i64 (o * p)] 50)).drew w1.heap.size V Z) := HU.out.alloc _
          have HCA : Hid ((w2.alloc (.cells #[.int .i64 o, .int .i64 p, .int .i64 (o * p)] 50)).drew.cell? ⟨w2.heap.size, 0, none⟩ = some (.int .i64 o) ∧ (w2.alloc (.cells #[.int .i64 o, .int .i64 p, .int .i64 (o * p)] 50)).drew.cell? ⟨w2.heap.size, 1, none⟩ = some (.int .i64 p) ∧ (w2.alloc (.cells #[.int .i64 o, .int .i64 p, .int .i64 (o * p)] 50)).drew.cell? ⟨w2.heap.size, 2, none⟩ = some (.int .i64 (o * p))) := ⟨(Blk.new w2 _ _).cell 0, (Blk.new w2 _ _).cell 1, (Blk.new w2 _ _).cell 2⟩
          have HSA : Hid ((w2.alloc (.cells #[.int .i64 o, .int .i64 p, .int .i64 (o * p)] 50)).drew.cell? ⟨b, off + k * 2 + 1, none⟩ = some (.int .i64 p)) := (World.cell?_alloc_lt w2 _ ⟨b, off + k * 2 + 1, none⟩ (World.block_lt_of_cell? w2 _ c1)).trans c1
          generalize (w2.alloc (.cells #[.int .i64 o, .int .i64 p, .int .i64 (o * p)] 50)).drew = WA at *
          refine hK.out _ _ HSA.out (fun hHeld => ?_)
          clear hK K
          refine wpAnyH_ready (rs := [16]) (by kernel_rfl) (by simp) (AllReadyH.cons rfl (fun K hK => ?_) AllReadyH.nil)
          refine step_line lineT rfl _ _ rfl w1.heap.size w2.heap.size V Z ⟨o, p, o * p⟩ rfl rfl HUA.out HCA.out hbl8 HBA.out.size ?_
          intro v3 w3 h3 hg3
          have HB3 : Hid (Below w1.heap.size w1 w3) := own_bel HUA.out hg3 HBA.out (Nat.le_refl _) HBA.out.size
          have H3 : Hid (Lt 50 w3 w1.heap.size v3 (Z ++ [⟨o, p, o * p⟩])) := h3
          have d0 : w3.cell? ⟨b, off + k * 2, none⟩ = some (.int .i64 (ls.getD k du0).a) := (HB3.out.cell (p := ⟨b, off + k * 2, none⟩) hbl).trans (HC.out k hlt).1
          have d1 : w3.cell? ⟨b, off + k * 2 + 1, none⟩ = some (.int .i64 (ls.getD k du0).b) := (HB3.out.cell (p := ⟨b, off + k * 2 + 1, none⟩) hbl).trans (HC.out k hlt).2
          rw [HGA.out] at d0
          rw [HGB.out] at d1
          clear h3 hg3
          refine hK.out _ _ d1 (fun hHeld => ?_)
          clear hK K
          simp only [Act.put, List.setIfInBounds_toArray, List.set_cons_zero, List.set_cons_succ]
          refine take_at 17 9 v3 _ rfl rfl (by kernel_rfl) (by kernel_rfl) (by kernel_rfl) (fun _ _ _ h => h) (Or.inl ⟨by rfl, fun v hv => by skip; clear hv; go_simp⟩) hHeld ?_
          simp only [Act.put, List.setIfInBounds_toArray, List.set_cons_zero, List.set_cons_succ]
          refine wpAnyH_done (by kernel_rfl) ?_ _
          clear hHeld c0 c1 d1 HUA HBA HCA HSA HU
          go_wp2_with fail
          go_roundw
          case rel => exact ⟨k + 1, v3, by omega, by go_num, by rw [← HL.out], by first | rfl | trivial, by rw [HZ2.out]; exact H3.out, HB3.out⟩
          case measure => simp [intOf]; omega
        · have hdp : decide (0 < o) = false := decide_eq_false hpos
          have HZ2 : Hid (billK ls x (x + n) (k + 1) = Z) := HZ.out hpos
          clear HY HZ hpos
          go_wp2_with fail
          refine (HOV.out _).mono ?_
          rintro e w2 ⟨rfl, hw2⟩
          subst hw2
          go_wp2_with fail
          go_roundw
          case rel => exact ⟨k + 1, V, by omega, by go_num, by rw [← HL.out], by first | rfl | trivial, by rw [HZ2.out]; exact HU.out, HBW.out⟩
          case measure => simp [intOf]; omega
      · obtain rfl : k = len := by omega
        have hdl : decide ((k : Int) < (k : Int)) = false := by simp
        have HV : Hid (billK ls x (x + n) k = billK ls x (x + n) ls.length) := by show _ = _; rw [HLEN.out]
        have HU : Hid (Lt 50 wr w.heap.size V (billK ls x (x + n) k)) := hu.low HB.out.size
        have HB2 : Hid (Below w.heap.size w wr) := HB.out.trans (hb.mono HB.out.size)
        clear hb hu
        generalize low ls k = lo at *
        go_wp2_with fail
        go_ret2
        exact ⟨V, _, _, rfl, ⟨HF.out, .inl ⟨rfl, HV.out⟩⟩, HU.out, HB2.out⟩
  · have hne : (f != 0) = true := by simpa using h0
    have HN : Hid (f ≠ 0) := h0
    clear hf h0 hb hr hl HMY
    go_wp2_with fail
    go_ret2
    exact ⟨_, [], _, rfl, ⟨HF.out, .inr ⟨HN.out, rfl⟩⟩, Lt.zero _ _ _, HB.out⟩

end Go.Proofs.Ytmjjfljaelahoaa.tar
