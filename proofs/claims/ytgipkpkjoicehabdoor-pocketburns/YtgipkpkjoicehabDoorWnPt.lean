/- The program's windows: taking. -/
import Derived.Test.YtgipkpkjoicehabDoorWnPj
import Derived.Test.YtgipkpkjoicehabDoorWnTk
namespace Go.Proofs.YtgipkpkjoicehabDoor.win
open Go.RowKit
set_option maxRecDepth 100000
set_option linter.unusedVariables false
set_option linter.unusedSimpArgs false

theorem took_low {h : Int} {b : Nat} {id : Int} (hb : b < 2 ^ 64) (h1 : id < h) (h2 : ¬ id ≤ h - 64) (hn : id ∉ mem h b 64) : took h b id = b ||| 2 ^ (h - id).toNat := by
  have hk : 2 ^ (h - id).toNat < 2 ^ 64 := Nat.pow_lt_pow_right (by decide) (by omega)
  refine bits_ext (took_lt hn) (Nat.or_lt_two_pow hb hk) fun t ht => ?_
  rw [took_bit hn t ht, Nat.testBit_or, Nat.testBit_two_pow, show max h id = h by omega]
  have e1 : (h - (t : Int) ∈ mem h b 64) ↔ b.testBit t = true := by
    rw [mem_all, show (h - (h - (t : Int))).toNat = t by omega]
    exact ⟨fun hx => hx.2.2, fun hx => ⟨by omega, by omega, hx⟩⟩
  have e2 : (h - (t : Int) = id) ↔ ((h - id).toNat = t) := by omega
  rw [Bool.eq_iff_iff, decide_eq_true_eq, Bool.or_eq_true, decide_eq_true_eq, e1, e2]
theorem took_high {h : Int} {b : Nat} {id : Int} (hb : b < 2 ^ 64) (h1 : h < id) (hn : id ∉ mem h b 64) : took h b id = b * 2 ^ min (id - h).toNat 64 % 2 ^ 64 ||| 1 := by
  have hk : b * 2 ^ min (id - h).toNat 64 % 2 ^ 64 < 2 ^ 64 := Nat.mod_lt _ (by decide)
  refine bits_ext (took_lt hn) (Nat.or_lt_two_pow hk (by decide)) fun t ht => ?_
  rw [took_bit hn t ht, Nat.testBit_or, Nat.testBit_mod_two_pow, Nat.testBit_mul_two_pow, show max h id = id by omega, decide_eq_true ht, Bool.true_and]
  have e2 : (id - (t : Int) = id) ↔ Nat.testBit 1 t = true := by
    rw [show (1 : Nat) = 2 ^ 0 from rfl, Nat.testBit_two_pow, decide_eq_true_eq]; omega
  have e1 : (id - (t : Int) ∈ mem h b 64) ↔ (decide (min (id - h).toNat 64 ≤ t) && b.testBit (t - min (id - h).toNat 64)) = true := by
    rw [mem_all, Bool.and_eq_true, decide_eq_true_eq]
    constructor
    · rintro ⟨a1, a2, a3⟩
      have e : min (id - h).toNat 64 = (id - h).toNat := by omega
      refine ⟨by omega, ?_⟩
      rw [e, show t - (id - h).toNat = (h - (id - (t : Int))).toNat by omega]; exact a3
    · rintro ⟨a1, a2⟩
      have e : min (id - h).toNat 64 = (id - h).toNat := by omega
      refine ⟨by omega, by omega, ?_⟩
      rw [show (h - (id - (t : Int))).toNat = t - (id - h).toNat by omega, ← e]; exact a2
  rw [Bool.eq_iff_iff, decide_eq_true_eq, Bool.or_eq_true, e1, e2]
theorem low_put {h : Int} {b : Nat} {id : Int} (hb : b < 2 ^ 64) (h1 : id < h) (h2 : ¬ id ≤ h - 64) (hn : id ∉ mem h b 64) :
    ∃ D : Int, Op.shift .shl .u64 1 .i64 (h - id) = pure (.int .u64 D) ∧ bits .or .u64 (b : Int) D = ((took h b id : Nat) : Int) := by
  have hk : 2 ^ (h - id).toNat < 2 ^ 64 := Nat.pow_lt_pow_right (by decide) (by omega)
  refine ⟨((2 ^ (h - id).toNat : Nat) : Int), ?_, ?_⟩
  · have := shl_any 1 (h - id) (by omega)
    rw [show min (h - id).toNat 64 = (h - id).toNat by omega] at this
    have e : IntKind.u64.wrap (((1 : Nat) : Int) * 2 ^ (h - id).toNat) = ((2 ^ (h - id).toNat : Nat) : Int) := by
      rw [show (((1 : Nat) : Int) * 2 ^ (h - id).toNat) = ((2 ^ (h - id).toNat : Nat) : Int) by simp, IntKind.wrap_u64]
      generalize 2 ^ (h - id).toNat = X at hk ⊢
      omega
    rw [e] at this
    exact this
  · rw [or64 _ _ hb hk, took_low hb h1 h2 hn]
theorem high_put {h : Int} {b : Nat} {id : Int} (hb : b < 2 ^ 64) (h1 : h < id) (hn : id ∉ mem h b 64) :
    ∃ D : Int, Op.shift .shl .u64 (b : Int) .i64 (id - h) = pure (.int .u64 D) ∧ bits .or .u64 D 1 = ((took h b id : Nat) : Int) := by
  refine ⟨((b * 2 ^ min (id - h).toNat 64 % 2 ^ 64 : Nat) : Int), ?_, ?_⟩
  · have := shl_any b (id - h) (by omega)
    have e : IntKind.u64.wrap ((b : Int) * 2 ^ min (id - h).toNat 64) = ((b * 2 ^ min (id - h).toNat 64 % 2 ^ 64 : Nat) : Int) := by
      rw [show ((b : Int) * 2 ^ min (id - h).toNat 64) = ((b * 2 ^ min (id - h).toNat 64 : Nat) : Int) by simp, IntKind.wrap_u64]
      omega
    rw [e] at this
    exact this
  · have := or64 (b * 2 ^ min (id - h).toNat 64 % 2 ^ 64) 1 (Nat.mod_lt _ (by decide)) (by decide)
    rw [← took_high hb h1 hn] at this
    exact this

set_option maxHeartbeats 4000000 in
theorem ptake (h : Int) (b : Nat) (id : Int) (w : World) (hb : b < 18446744073709551616) :
    Calls Tryd.prog 89 #[.agg #[.int .i64 h, .int .u64 (b : Int)], .int .i64 id] w fun e w' => TakePost w h b id e w' := by
  have HJ : Hid (∀ W, Calls Tryd.prog 62 #[.agg #[.int .i64 h, .int .u64 (b : Int)], .int .i64 id] W fun e w' => JudgePost W h b id e w') := fun W => pjudge h b id W hb
  have HX : Hid (Bxs w ((w.alloc (.cells #[.int .i64 h, .int .u64 (b : Int)] 34)).alloc (.cells #[.int .i64 0, .int .u64 0] 34)) h b) := Bxs.new w h b
  have c0 := HX.out.inn.cell 0
  have c1 := HX.out.inn.cell 1
  go_enter Tryd.func89, Tryd.ntmps89
  go_wp2_with fail
  refine (HJ.out _).mono ?_
  rintro e w1 ⟨c, rfl, hj, hb1⟩
  have HX1 : Hid (Bxs w w1 h b) := HX.out.next hb1
  have HJI : Hid (JudgeIs h b id c) := hj
  clear hb1 hj c0 c1 HX HJ
  have d0 := HX1.out.inn.cell 0
  have d1 := HX1.out.inn.cell 1
  have z0 := HX1.out.out.cell 0
  have z1 := HX1.out.out.cell 1
  have y0 := HX1.out.out.free 0
  have y1 := HX1.out.out.free 1
  by_cases hc : c = 0
  · subst hc
    have hin : May h b ∧ (1 ≤ id ∧ id ≤ 1048575) ∧ ¬ id ≤ h - 64 ∧ id ∉ mem h b 64 := by
      rcases HJI.out with ⟨_, h⟩ | ⟨_, _, h⟩ | ⟨_, _, _, h⟩ | ⟨_, _, _, _, h⟩ | ⟨a1, a2, a3, a4, _⟩
      · exact absurd h (by decide)
      · exact absurd h (by decide)
      · exact absurd h (by decide)
      · exact absurd h (by decide)
      · exact ⟨a1, a2, a3, a4⟩
    obtain ⟨hm, ⟨i1, i2⟩, h3, hnm⟩ := hin
    obtain ⟨l1, l2⟩ := may_low hm
    by_cases hlt : id < h
    · obtain ⟨D, hs, ho⟩ := low_put hb hlt h3 hnm
      have HTK : Hid (h = max h id) := by show _ = _; omega
      obtain ⟨N, hN⟩ : ∃ N, took h b id = N := ⟨_, rfl⟩
      have HN : Hid (N = took h b id) := hN.symm
      rw [hN] at ho
      have y2 := HX1.out.inn.free 1
      have x1 := HX1.out.inn.set 1 (.int .u64 (N : Int))
      have x2 : Blk (w1.setCell ⟨w.heap.size, 1, none⟩ (.int .u64 (N : Int))) (w.heap.size + 1) #[.int .i64 0, .int .u64 0] 34 := HX1.out.out.other 1 _ (by omega)
      clear hm hnm hN h3
      go_wp2_with fail
      go_region
      have HP : Hid (Blk (w1.setCell ⟨w.heap.size, 1, none⟩ (.int .u64 (N : Int))).drew w.heap.size #[.int .i64 h, .int .u64 (N : Int)] 34) := x1
      have HQ : Hid (Blk (w1.setCell ⟨w.heap.size, 1, none⟩ (.int .u64 (N : Int))).drew (w.heap.size + 1) #[.int .i64 0, .int .u64 0] 34) := x2
      have HR : Hid (Below w.heap.size w (w1.setCell ⟨w.heap.size, 1, none⟩ (.int .u64 (N : Int))).drew) := bel_drew (bel_set HX1.out.bel w.heap.size 1 (.int .u64 (N : Int)) (Nat.le_refl _)) 1
      clear x1 x2 HX1 y2 d0 d1 z0 z1 y0 y1 hs ho
      generalize (w1.setCell ⟨w.heap.size, 1, none⟩ (.int .u64 (N : Int))).drew = W2 at *
      have d0 := HP.out.cell 0
      have d1 := HP.out.cell 1
      have z0 := HQ.out.cell 0
      have z1 := HQ.out.cell 1
      have y0 := HQ.out.free 0
      have y1 := HQ.out.free 1
      have HXX := (HQ.out.set 0 (.int .i64 h)).set 1 (.int .u64 (N : Int))
      have R0 : Hid (_ = _) := HXX.cell 0
      have R1 : Hid (_ = _) := HXX.cell 1
      have HB : Hid (Below w.heap.size w ((W2.setCell ⟨w.heap.size + 1, 0, none⟩ (.int .i64 h)).setCell ⟨w.heap.size + 1, 1, none⟩ (.int .u64 (N : Int)))) := bel_set (bel_set HR.out _ _ _ (Nat.le_succ _)) _ _ _ (Nat.le_succ _)
      clear HXX HP HQ HR
      go_wp2_with fail
      exact bodyPost_ret (v := .tuple #[.agg #[.int .i64 h, .int .u64 (N : Int)], .int .i64 0]) (by simp [results, Tryd.results89, R0.out, R1.out, go_sem]) rfl ⟨h, N, 0, rfl, HJI.out, fun h => absurd rfl h, fun _ => ⟨HTK.out, HN.out⟩, HB.out⟩
    · have hgt : h < id := by
        rcases hm with ⟨hx, _⟩ | ⟨_, _, hx, _⟩
        · omega
        · by_cases e : h < id
          · exact e
          · exfalso
            have e' : id = h := by omega
            exact hnm ((mem_all h b id).2 ⟨by omega, by omega, by rw [e', Int.sub_self]; exact hx⟩)
      obtain ⟨D, hs, ho⟩ := high_put hb hgt hnm
      have HTK : Hid (id = max h id) := by show _ = _; omega
      obtain ⟨N, hN⟩ : ∃ N, took h b id = N := ⟨_, rfl⟩
      have HN : Hid (N = took h b id) := hN.symm
      rw [hN] at ho
      have HXX := (HX1.out.out.set 0 (.int .i64 id)).set 1 (.int .u64 (N : Int))
      have R0 : Hid (_ = _) := HXX.cell 0
      have R1 : Hid (_ = _) := HXX.cell 1
      have HB : Hid (Below w.heap.size w ((w1.setCell ⟨w.heap.size + 1, 0, none⟩ (.int .i64 id)).setCell ⟨w.heap.size + 1, 1, none⟩ (.int .u64 (N : Int)))) := bel_set (bel_set HX1.out.bel _ _ _ (Nat.le_succ _)) _ _ _ (Nat.le_succ _)
      have dl : decide (id < h) = false := by simp; omega
      clear HXX hm hnm hN h3 hlt
      go_wp2_with fail
      exact bodyPost_ret (v := .tuple #[.agg #[.int .i64 id, .int .u64 (N : Int)], .int .i64 0]) (by simp [results, Tryd.results89, R0.out, R1.out, go_sem]) rfl ⟨id, N, 0, rfl, HJI.out, fun h => absurd rfl h, fun _ => ⟨HTK.out, HN.out⟩, HB.out⟩
  · have HNZ : Hid (c ≠ 0) := hc
    have hq : (c != 0) = true := by simp [hc]
    have HXX := (HX1.out.out.set 0 (.int .i64 0)).set 1 (.int .u64 0)
    have R0 : Hid (_ = _) := HXX.cell 0
    have R1 : Hid (_ = _) := HXX.cell 1
    have HB : Hid (Below w.heap.size w ((w1.setCell ⟨w.heap.size + 1, 0, none⟩ (.int .i64 0)).setCell ⟨w.heap.size + 1, 1, none⟩ (.int .u64 0))) := bel_set (bel_set HX1.out.bel _ _ _ (Nat.le_succ _)) _ _ _ (Nat.le_succ _)
    clear HXX HX1 hc
    go_wp2_with fail
    exact bodyPost_ret (v := .tuple #[.agg #[.int .i64 0, .int .u64 0], .int .i64 c]) (by simp [results, Tryd.results89, R0.out, R1.out, go_sem]) rfl ⟨0, 0, c, rfl, HJI.out, fun _ => ⟨rfl, rfl⟩, fun h => absurd h HNZ.out, HB.out⟩
end Go.Proofs.YtgipkpkjoicehabDoor.win
