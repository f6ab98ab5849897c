/- owing: debts that may be. -/
import Derived.Test.YtlolippocnngcacDbK
import Derived.Test.YtlolippocnngcacCkPick
import Derived.Test.YtlolippocnngcacLet
import Derived.Test.YtlolippocnngcacCallFirst
import Derived.Deep.DeepCutAuto
namespace Go.Proofs.Ytlolippocnngcac.deb
open Go.Proofs.Ytlolippocnngcac.tar (Du du0 Came RowD Ld TwoPost PairT)
open Go.Proofs.Ytlolippocnngcac.check (pick picked_any pick_nonneg pick_lt)
open Go.RowKit
set_option maxRecDepth 100000
set_option linter.unusedVariables false
set_option linter.unusedSimpArgs false

/-- Debts that may be were given back, none above so much. -/
def GaveO (w : World) (most : Nat) (e : Ending) (w' : World) : Prop := ∃ v ls, e = .returned v ∧ Mays ls ∧ (∀ d ∈ ls, d.a ≤ (most : Int)) ∧ Ld 46 w' w.heap.size v ls ∧ Below w.heap.size w w'
set_option maxHeartbeats 4000000 in
theorem owing_any (a : Option Addr) (len cap most : Nat) (hmo : most ≤ 1000000000) (rs : List Du) (w : World) (h : Came w a len cap rs) : Calls Try.prog 8 #[.slice a len cap, .int .i64 (most : Int)] w fun e w' => GaveO w most e w' := by
  have HM : Hid (Came w a len cap rs) := h
  have hlm : len ≤ 9223372036854775807 := by have := h.bytes; omega
  clear h
  go_enter Try.func8, Try.ntmps8
  go_wp2_with fail
  go_loopw [5, 6] (fun u z wr => ∃ (k : Nat) (V : Value) (Z : List Du), k ≤ len ∧ k ≤ 8 ∧ z = .int .i64 (k : Int) ∧ V = u ∧ Z.length = k ∧ (∀ d ∈ Z, Ok1 d ∧ d.a ≤ (most : Int)) ∧ Ld 46 wr w.heap.size V Z ∧ Below w.heap.size w wr) (fun _ z _ => 8 - (intOf z).toNat)
  case atStart => exact ⟨0, _, [], Nat.zero_le _, by decide, rfl, rfl, rfl, (fun d hd => by cases hd), tar.Ld.zero _ _ _, Below.refl _ _⟩
  case round =>
    obtain ⟨k, V, Z, hk, hk8, rfl, hV, hg, hok, hZ, hb⟩ := hrel
    subst hV
    have HB : Hid (Below w.heap.size w wr) := hb
    have HZ : Hid (Ld 46 wr w.heap.size V Z) := hZ
    have HOK : Hid (∀ d ∈ Z, Ok1 d ∧ d.a ≤ (most : Int)) := hok
    have HZL : Hid (Z.length = k) := hg
    have hzl : Z.length ≤ 1000000 := by omega
    clear hZ hok hg
    by_cases hlt : k < len ∧ k < 8
    · obtain ⟨hl1, hl2⟩ := hlt
      have hd1 : decide ((k : Int) < (len : Int)) = true := by simp; omega
      have hd2 : decide ((k : Int) < 8) = true := by simp; omega
      obtain ⟨b, off, rfl, hbl, hc⟩ := HM.out.row.at (by omega)
      have hw1 := (HM.out.wf (rs.getD k du0) (by have : k < rs.length := by rw [HM.out.row.1]; exact hl1
                                                 simp [List.getD, List.getElem?_eq_getElem this]))
      have c0 : wr.cell? ⟨b, off + k * 2, none⟩ = some (.int .i64 (rs.getD k du0).a) := (hb.cell (p := ⟨b, off + k * 2, none⟩) hbl).trans (hc k hl1).1
      have c1 : wr.cell? ⟨b, off + k * 2 + 1, none⟩ = some (.int .i64 (rs.getD k du0).b) := (hb.cell (p := ⟨b, off + k * 2 + 1, none⟩) hbl).trans (hc k hl1).2
      have HP1 : Hid (∀ W, Calls Try.prog 5 #[.int .i64 (rs.getD k du0).a, .int .i64 ((most : Int) + 1)] W fun e w' => e = .returned (.int .i64 (pick (rs.getD k du0).a ((most : Int) + 1))) ∧ w' = W) := fun W => picked_any _ _ W hw1.1 (by omega) (by omega)
      have HP2 : Hid (∀ W, Calls Try.prog 5 #[.int .i64 (rs.getD k du0).b, .int .i64 10001] W fun e w' => e = .returned (.int .i64 (pick (rs.getD k du0).b 10001)) ∧ w' = W) := fun W => picked_any _ _ W hw1.2 (by decide) (by decide)
      have q1 := pick_nonneg (rs.getD k du0).a ((most : Int) + 1) (by omega)
      have q2 := pick_lt (rs.getD k du0).a ((most : Int) + 1) (by omega)
      have q3 := pick_nonneg (rs.getD k du0).b 10001 (by decide)
      have q4 := pick_lt (rs.getD k du0).b 10001 (by decide)
      have hwm : IntKind.i64.wrap ((most : Int) + 1) = (most : Int) + 1 := by rw [IntKind.wrap_i64]; omega
      clear hc hb hw1
      generalize pick (rs.getD k du0).a ((most : Int) + 1) = d at *
      generalize pick (rs.getD k du0).b 10001 = p at *
      generalize (rs.getD k du0).a = x at *
      generalize (rs.getD k du0).b = y at *
      have HOK2 : Hid (∀ e ∈ Z ++ [(⟨d, p⟩ : Du)], Ok1 e ∧ e.a ≤ (most : Int)) := fun e he => by
        rcases List.mem_append.1 he with he | he
        · exact HOK.out e he
        · have e2 := List.mem_singleton.1 he
          subst e2
          exact ⟨⟨⟨q1, by show d ≤ _; omega⟩, q3, by show p ≤ _; omega⟩, by show d ≤ _; omega⟩
      go_wp2_with fail
      go_upto_region 5 with fail
      refine wp_region_held_drew (S := (fun v => v.cell? ⟨b, off + k * 2, none⟩ = some (.int .i64 x) ∧ v.cell? ⟨b, off + k * 2 + 1, none⟩ = some (.int .i64 y))) (by kernel_rfl) ⟨c0, c1⟩ (fun hHeld => ?_)
      refine take_at 0 17 V _ rfl rfl (by kernel_rfl) (by kernel_rfl) (by kernel_rfl) (fun _ _ _ h => h) (Or.inl ⟨by rfl, fun v hv => by skip; clear hv; go_simp⟩) hHeld ?_
      simp only [Act.put, List.setIfInBounds_toArray, List.set_cons_zero, List.set_cons_succ]
      refine take_at 1 18 (.slice (some ⟨b, off, none⟩) len cap) _ rfl rfl (by kernel_rfl) (by kernel_rfl) (by kernel_rfl) (fun _ _ _ h => h) (Or.inl ⟨by rfl, fun v hv => by skip; clear hv; go_simp⟩) hHeld ?_
      simp only [Act.put, List.setIfInBounds_toArray, List.set_cons_zero, List.set_cons_succ]
      refine take_at 2 19 (.int .i64 (k : Int)) _ rfl rfl (by kernel_rfl) (by kernel_rfl) (by kernel_rfl) (fun _ _ _ h => h) (Or.inl ⟨by rfl, fun v hv => by skip; clear hv; go_simp⟩) hHeld ?_
      simp only [Act.put, List.setIfInBounds_toArray, List.set_cons_zero, List.set_cons_succ]
      refine take_at 3 20 (.pointer (some ⟨b, off + k * 2, none⟩)) _ rfl rfl (by kernel_rfl) (by kernel_rfl) (by kernel_rfl) (fun _ _ _ h => h) (Or.inl ⟨by rfl, fun v hv => by skip; clear hv; go_simp⟩) hHeld ?_
      simp only [Act.put, List.setIfInBounds_toArray, List.set_cons_zero, List.set_cons_succ]
      refine take_at 4 21 (.pointer (some ⟨b, off + k * 2, none⟩)) _ rfl rfl (by kernel_rfl) (by kernel_rfl) (by kernel_rfl) (fun _ _ _ h => h) (Or.inl ⟨by rfl, fun v hv => by skip; clear hv; go_simp⟩) hHeld ?_
      simp only [Act.put, List.setIfInBounds_toArray, List.set_cons_zero, List.set_cons_succ]
      refine take_at 5 22 (.int .i64 x) _ rfl rfl (by kernel_rfl) (by kernel_rfl) (by kernel_rfl) (fun _ _ _ h => h) (Or.inl ⟨by rfl, fun v hv => by have h2 := hv.1; clear hv; go_simp⟩) hHeld ?_
      simp only [Act.put, List.setIfInBounds_toArray, List.set_cons_zero, List.set_cons_succ]
      refine take_at 6 23 (.int .i64 (most : Int)) _ rfl rfl (by kernel_rfl) (by kernel_rfl) (by kernel_rfl) (fun _ _ _ h => h) (Or.inl ⟨by rfl, fun v hv => by skip; clear hv; go_simp⟩) hHeld ?_
      simp only [Act.put, List.setIfInBounds_toArray, List.set_cons_zero, List.set_cons_succ]
      refine take_at 7 24 (.int .i64 ((most : Int) + 1)) _ rfl rfl (by kernel_rfl) (by kernel_rfl) (by kernel_rfl) (fun _ _ _ h => h) (Or.inl ⟨by rfl, fun v hv => by skip; clear hv; go_simp⟩) hHeld ?_
      simp only [Act.put, List.setIfInBounds_toArray, List.set_cons_zero, List.set_cons_succ]
      refine call_at 8 25 (.int .i64 d) _ rfl rfl (by kernel_rfl) (by kernel_rfl) (by kernel_rfl) (fun _ _ _ h => h) 5 #[.int .i64 x, .int .i64 ((most : Int) + 1)] ⟨by rfl, fun v hv => by clear hv; go_simp⟩ (fun v _ => HP1.out v) hHeld ?_
      simp only [Act.put, List.setIfInBounds_toArray, List.set_cons_zero, List.set_cons_succ]
      refine take_at 9 26 (.slice (some ⟨b, off, none⟩) len cap) _ rfl rfl (by kernel_rfl) (by kernel_rfl) (by kernel_rfl) (fun _ _ _ h => h) (Or.inl ⟨by rfl, fun v hv => by skip; clear hv; go_simp⟩) hHeld ?_
      simp only [Act.put, List.setIfInBounds_toArray, List.set_cons_zero, List.set_cons_succ]
      refine take_at 10 27 (.int .i64 (k : Int)) _ rfl rfl (by kernel_rfl) (by kernel_rfl) (by kernel_rfl) (fun _ _ _ h => h) (Or.inl ⟨by rfl, fun v hv => by skip; clear hv; go_simp⟩) hHeld ?_
      simp only [Act.put, List.setIfInBounds_toArray, List.set_cons_zero, List.set_cons_succ]
      refine take_at 11 28 (.pointer (some ⟨b, off + k * 2, none⟩)) _ rfl rfl (by kernel_rfl) (by kernel_rfl) (by kernel_rfl) (fun _ _ _ h => h) (Or.inl ⟨by rfl, fun v hv => by skip; clear hv; go_simp⟩) hHeld ?_
      simp only [Act.put, List.setIfInBounds_toArray, List.set_cons_zero, List.set_cons_succ]
      refine take_at 12 29 (.pointer (some ⟨b, off + k * 2 + 1, none⟩)) _ rfl rfl (by kernel_rfl) (by kernel_rfl) (by kernel_rfl) (fun _ _ _ h => h) (Or.inl ⟨by rfl, fun v hv => by skip; clear hv; go_simp⟩) hHeld ?_
      simp only [Act.put, List.setIfInBounds_toArray, List.set_cons_zero, List.set_cons_succ]
      refine take_at 13 30 (.int .i64 y) _ rfl rfl (by kernel_rfl) (by kernel_rfl) (by kernel_rfl) (fun _ _ _ h => h) (Or.inl ⟨by rfl, fun v hv => by have h2 := hv.2; clear hv; go_simp⟩) hHeld ?_
      simp only [Act.put, List.setIfInBounds_toArray, List.set_cons_zero, List.set_cons_succ]
      refine call_at 14 31 (.int .i64 p) _ rfl rfl (by kernel_rfl) (by kernel_rfl) (by kernel_rfl) (fun _ _ _ h => h) 5 #[.int .i64 y, .int .i64 10001] ⟨by rfl, fun v hv => by clear hv; go_simp⟩ (fun v _ => HP2.out v) hHeld ?_
      simp only [Act.put, List.setIfInBounds_toArray, List.set_cons_zero, List.set_cons_succ]
      refine take_at 15 32 (.agg #[.int .i64 d, .int .i64 p]) _ rfl rfl (by kernel_rfl) (by kernel_rfl) (by kernel_rfl) (fun _ _ _ h => h) (Or.inl ⟨by rfl, fun v hv => by skip; clear hv; go_simp⟩) hHeld ?_
      simp only [Act.put, List.setIfInBounds_toArray, List.set_cons_zero, List.set_cons_succ]
      refine wpAnyH_ready (rs := [16]) (by kernel_rfl) (by simp) (AllReadyH.cons rfl (fun K hK => ?_) AllReadyH.nil)
      go_simp
      have HBA : Hid (Below w.heap.size w (wr.alloc (.cells #[.int .i64 d, .int .i64 p] 46)).drew) := (HB.out.alloc HB.out.size _).drew
      have HUA : Hid (Ld 46 (wr.alloc (.cells #[.int .i64 d, .int .i64 p] 46)).drew w.heap.size V Z) := HZ.out.alloc _
      have HCA : Hid ((wr.alloc (.cells #[.int .i64 d, .int .i64 p] 46)).drew.cell? ⟨wr.heap.size, 0, none⟩ = some (.int .i64 d) ∧ (wr.alloc (.cells #[.int .i64 d, .int .i64 p] 46)).drew.cell? ⟨wr.heap.size, 1, none⟩ = some (.int .i64 p)) := ⟨(Blk.new wr _ _).cell 0, (Blk.new wr _ _).cell 1⟩
      have HSA : Hid ((wr.alloc (.cells #[.int .i64 d, .int .i64 p] 46)).drew.cell? ⟨b, off + k * 2, none⟩ = some (.int .i64 x) ∧ (wr.alloc (.cells #[.int .i64 d, .int .i64 p] 46)).drew.cell? ⟨b, off + k * 2 + 1, none⟩ = some (.int .i64 y)) := ⟨(World.cell?_alloc_lt wr _ ⟨b, off + k * 2, none⟩ (World.block_lt_of_cell? wr _ c0)).trans c0, (World.cell?_alloc_lt wr _ ⟨b, off + k * 2 + 1, none⟩ (World.block_lt_of_cell? wr _ c1)).trans c1⟩
      generalize (wr.alloc (.cells #[.int .i64 d, .int .i64 p] 46)).drew = WA at *
      refine hK.out _ _ HSA.out (fun hHeld => ?_)
      clear hK K
      refine wpAnyH_ready (rs := [17]) (by kernel_rfl) (by simp) (AllReadyH.cons rfl (fun K hK => ?_) AllReadyH.nil)
      refine tar.step_pair debtT rfl _ _ rfl w.heap.size wr.heap.size V Z ⟨d, p⟩ rfl rfl HUA.out HCA.out hzl HBA.out.size ?_
      intro v3 w3 h3 hg3
      have HB3 : Hid (Below w.heap.size w w3) := tar.own_bel HUA.out hg3 HBA.out (Nat.le_refl _) HBA.out.size
      have H3 : Hid (Ld 46 w3 w.heap.size v3 (Z ++ [⟨d, p⟩])) := h3
      have hbs : b < w.heap.size := hbl
      have hcc : w3.cell? ⟨b, off + k * 2, none⟩ = some (.int .i64 x) ∧ w3.cell? ⟨b, off + k * 2 + 1, none⟩ = some (.int .i64 y) := by
        have e1 := (HB3.out.cell (p := ⟨b, off + k * 2, none⟩) hbl).trans (HB.out.cell (p := ⟨b, off + k * 2, none⟩) hbl).symm
        have e2 := (HB3.out.cell (p := ⟨b, off + k * 2 + 1, none⟩) hbl).trans (HB.out.cell (p := ⟨b, off + k * 2 + 1, none⟩) hbl).symm
        exact ⟨e1.trans c0, e2.trans c1⟩
      clear h3 hg3
      refine hK.out _ _ hcc (fun hHeld => ?_)
      clear hK K
      simp only [Act.put, List.setIfInBounds_toArray, List.set_cons_zero, List.set_cons_succ]
      refine take_at 18 5 v3 _ rfl rfl (by kernel_rfl) (by kernel_rfl) (by kernel_rfl) (fun _ _ _ h => h) (Or.inl ⟨by rfl, fun v hv => by skip; clear hv; go_simp⟩) hHeld ?_
      simp only [Act.put, List.setIfInBounds_toArray, List.set_cons_zero, List.set_cons_succ]
      refine wpAnyH_done (by kernel_rfl) ?_ _
      clear hHeld c0 c1 hcc HUA HBA HCA HSA HZ
      go_wp2_with fail
      go_roundw
      case rel => exact ⟨k + 1, v3, _, by omega, by omega, by go_num, by first | rfl | trivial, by rw [List.length_append, HZL.out]; rfl, HOK2.out, H3.out, HB3.out⟩
      case measure => simp [intOf]; omega
    · have HMY : Hid (Mays Z) := ⟨by rw [HZL.out]; exact hk8, fits_mem fun d hd => (HOK.out d hd).1⟩
      have HMO : Hid (∀ d ∈ Z, d.a ≤ (most : Int)) := fun d hd => (HOK.out d hd).2
      clear hb
      by_cases hl1 : k < len
      · have hd1 : decide ((k : Int) < (len : Int)) = true := by simp; omega
        obtain rfl : k = 8 := by omega
        clear hlt hk8
        go_wp2_with fail
        go_ret
        exact ⟨V, Z, rfl, HMY.out, HMO.out, HZ.out, HB.out⟩
      · have hd1 : decide ((k : Int) < (len : Int)) = false := by simp; omega
        clear hlt
        go_wp2_with fail
        go_ret
        exact ⟨V, Z, rfl, HMY.out, HMO.out, HZ.out, HB.out⟩

end Go.Proofs.Ytlolippocnngcac.deb
