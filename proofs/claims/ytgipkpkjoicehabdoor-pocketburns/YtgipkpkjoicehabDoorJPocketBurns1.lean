import Derived.Test.YtgipkpkjoicehabDoorWnPj
import Derived.Test.YtgipkpkjoicehabDoorWnTk
import Derived.Test.YtgipkpkjoicehabDoorMpD
import Derived.Test.YtgipkpkjoicehabDoorOpAt
import Derived.Deep.DeepCutAuto
import Derived.Test.YtgipkpkjoicehabDoorRows
import Derived.WalkKit
import Derived.ProofKit
import Derived.OpenShut
import Derived.Below
import Derived.Laws.IdiomArrays
import Derived.Test.YtgipkpkjoicehabDoorWide
import Derived.WalkSmall
import Derived.Deep.QuietTactic
import Derived.BigRegion
import Derived.BigQuiet
import Derived.Laws.ResultCell
import Derived.ChangeKeysEq
import Derived.Laws.Bits64
import Derived.Test.YtgipkpkjoicehabDoorBlk
import Derived.Lib.OthersKept
import Derived.Test.YtgipkpkjoicehabDoorBitw
import Derived.Deep.RegionWith
import Derived.Test.YtgipkpkjoicehabDoorTkOpen
import Derived.Test.YtgipkpkjoicehabDoorTkFlN
import Derived.Lib.QuietBelow
import Derived.OwnWalk
import Derived.Deep.RegionHeld
import Derived.Test.YtgipkpkjoicehabDoorProg
import Derived.Test.YtgipkpkjoicehabDoorOrPv
import Derived.Test.YtgipkpkjoicehabDoorOrD
import Derived.Test.YtgipkpkjoicehabDoorMtD
import Derived.Test.YtgipkpkjoicehabDoorMjI
import Derived.Test.YtgipkpkjoicehabDoorMpM
import Derived.Test.YtgipkpkjoicehabDoorWRow
import Derived.Test.YtgipkpkjoicehabDoorMtP

/- The program's windows: taking. -/
namespace Go.Proofs.YtgipkpkjoicehabDoor.win
open Go.RowKit
set_option maxRecDepth 100000
set_option linter.unusedVariables false
set_option linter.unusedSimpArgs false

theorem took_low {h : Int} {b : Nat} {id : Int} (hb : b < 2 ^ 64) (h1 : id < h) (h2 : ¬ id ≤ h - 64) (hn : id ∉ mem h b 64) : took h b id = b ||| 2 ^ (h - id).toNat := by
  have hk : 2 ^ (h - id).toNat < 2 ^ 64 := Nat.pow_lt_pow_right (by decide) (by omega)
  refine bits_ext (took_lt hn) (Nat.or_lt_two_pow hb hk) fun t ht => ?_
  rw [took_bit hn t ht, Nat.testBit_or, Nat.testBit_two_pow, show max h id = h by omega]
  have e1 : (h - (t : Int) ∈ mem h b 64) ↔ b.testBit t = true := by
    rw [mem_all, show (h - (h - (t : Int))).toNat = t by omega]
    exact ⟨fun hx => hx.2.2, fun hx => ⟨by omega, by omega, hx⟩⟩
  have e2 : (h - (t : Int) = id) ↔ ((h - id).toNat = t) := by omega
  rw [Bool.eq_iff_iff, decide_eq_true_eq, Bool.or_eq_true, decide_eq_true_eq, e1, e2]
theorem took_high {h : Int} {b : Nat} {id : Int} (hb : b < 2 ^ 64) (h1 : h < id) (hn : id ∉ mem h b 64) : took h b id = b * 2 ^ min (id - h).toNat 64 % 2 ^ 64 ||| 1 := by
  have hk : b * 2 ^ min (id - h).toNat 64 % 2 ^ 64 < 2 ^ 64 := Nat.mod_lt _ (by decide)
  refine bits_ext (took_lt hn) (Nat.or_lt_two_pow hk (by decide)) fun t ht => ?_
  rw [took_bit hn t ht, Nat.testBit_or, Nat.testBit_mod_two_pow, Nat.testBit_mul_two_pow, show max h id = id by omega, decide_eq_true ht, Bool.true_and]
  have e2 : (id - (t : Int) = id) ↔ Nat.testBit 1 t = true := by
    rw [show (1 : Nat) = 2 ^ 0 from rfl, Nat.testBit_two_pow, decide_eq_true_eq]; omega
  have e1 : (id - (t : Int) ∈ mem h b 64) ↔ (decide (min (id - h).toNat 64 ≤ t) && b.testBit (t - min (id - h).toNat 64)) = true := by
    rw [mem_all, Bool.and_eq_true, decide_eq_true_eq]
    constructor
    · rintro ⟨a1, a2, a3⟩
      have e : min (id - h).toNat 64 = (id - h).toNat := by omega
      refine ⟨by omega, ?_⟩
      rw [e, show t - (id - h).toNat = (h - (id - (t : Int))).toNat by omega]; exact a3
    · rintro ⟨a1, a2⟩
      have e : min (id - h).toNat 64 = (id - h).toNat := by omega
      refine ⟨by omega, by omega, ?_⟩
      rw [show (h - (id - (t : Int))).toNat = t - (id - h).toNat by omega, ← e]; exact a2
  rw [Bool.eq_iff_iff, decide_eq_true_eq, Bool.or_eq_true, e1, e2]
theorem low_put {h : Int} {b : Nat} {id : Int} (hb : b < 2 ^ 64) (h1 : id < h) (h2 : ¬ id ≤ h - 64) (hn : id ∉ mem h b 64) :
    ∃ D : Int, Op.shift .shl .u64 1 .i64 (h - id) = pure (.int .u64 D) ∧ bits .or .u64 (b : Int) D = ((took h b id : Nat) : Int) := by
  have hk : 2 ^ (h - id).toNat < 2 ^ 64 := Nat.pow_lt_pow_right (by decide) (by omega)
  refine ⟨((2 ^ (h - id).toNat : Nat) : Int), ?_, ?_⟩
  · have := shl_any 1 (h - id) (by omega)
    rw [show min (h - id).toNat 64 = (h - id).toNat by omega] at this
    have e : IntKind.u64.wrap (((1 : Nat) : Int) * 2 ^ (h - id).toNat) = ((2 ^ (h - id).toNat : Nat) : Int) := by
      rw [show (((1 : Nat) : Int) * 2 ^ (h - id).toNat) = ((2 ^ (h - id).toNat : Nat) : Int) by simp, IntKind.wrap_u64]
      generalize 2 ^ (h - id).toNat = X at hk ⊢
      omega
    rw [e] at this
    exact this
  · rw [or64 _ _ hb hk, took_low hb h1 h2 hn]
theorem high_put {h : Int} {b : Nat} {id : Int} (hb : b < 2 ^ 64) (h1 : h < id) (hn : id ∉ mem h b 64) :
    ∃ D : Int, Op.shift .shl .u64 (b : Int) .i64 (id - h) = pure (.int .u64 D) ∧ bits .or .u64 D 1 = ((took h b id : Nat) : Int) := by
  refine ⟨((b * 2 ^ min (id - h).toNat 64 % 2 ^ 64 : Nat) : Int), ?_, ?_⟩
  · have := shl_any b (id - h) (by omega)
    have e : IntKind.u64.wrap ((b : Int) * 2 ^ min (id - h).toNat 64) = ((b * 2 ^ min (id - h).toNat 64 % 2 ^ 64 : Nat) : Int) := by
      rw [show ((b : Int) * 2 ^ min (id - h).toNat 64) = ((b * 2 ^ min (id - h).toNat 64 : Nat) : Int) by simp, IntKind.wrap_u64]
      omega
    rw [e] at this
    exact this
  · have := or64 (b * 2 ^ min (id - h).toNat 64 % 2 ^ 64) 1 (Nat.mod_lt _ (by decide)) (by decide)
    rw [← took_high hb h1 hn] at this
    exact this

set_option maxHeartbeats 4000000 in
theorem ptake (h : Int) (b : Nat) (id : Int) (w : World) (hb : b < 18446744073709551616) :
    Calls Tryd.prog 89 #[.agg #[.int .i64 h, .int .u64 (b : Int)], .int .i64 id] w fun e w' => TakePost w h b id e w' := by
  have HJ : Hid (∀ W, Calls Tryd.prog 62 #[.agg #[.int .i64 h, .int .u64 (b : Int)], .int .i64 id] W fun e w' => JudgePost W h b id e w') := fun W => pjudge h b id W hb
  have HX : Hid (Bxs w ((w.alloc (.cells #[.int .i64 h, .int .u64 (b : Int)] 34)).alloc (.cells #[.int .i64 0, .int .u64 0] 34)) h b) := Bxs.new w h b
  have c0 := HX.out.inn.cell 0
  have c1 := HX.out.inn.cell 1
  go_enter Tryd.func89, Tryd.ntmps89
  go_wp2_with fail
  refine (HJ.out _).mono ?_
  rintro e w1 ⟨c, rfl, hj, hb1⟩
  have HX1 : Hid (Bxs w w1 h b) := HX.out.next hb1
  have HJI : Hid (JudgeIs h b id c) := hj
  clear hb1 hj c0 c1 HX HJ
  have d0 := HX1.out.inn.cell 0
  have d1 := HX1.out.inn.cell 1
  have z0 := HX1.out.out.cell 0
  have z1 := HX1.out.out.cell 1
  have y0 := HX1.out.out.free 0
  have y1 := HX1.out.out.free 1
  by_cases hc : c = 0
  · subst hc
    have hin : May h b ∧ (1 ≤ id ∧ id ≤ 1048575) ∧ ¬ id ≤ h - 64 ∧ id ∉ mem h b 64 := by
      rcases HJI.out with ⟨_, h⟩ | ⟨_, _, h⟩ | ⟨_, _, _, h⟩ | ⟨_, _, _, _, h⟩ | ⟨a1, a2, a3, a4, _⟩
      · exact absurd h (by decide)
      · exact absurd h (by decide)
      · exact absurd h (by decide)
      · exact absurd h (by decide)
      · exact ⟨a1, a2, a3, a4⟩
    obtain ⟨hm, ⟨i1, i2⟩, h3, hnm⟩ := hin
    obtain ⟨l1, l2⟩ := may_low hm
    by_cases hlt : id < h
    · obtain ⟨D, hs, ho⟩ := low_put hb hlt h3 hnm
      have HTK : Hid (h = max h id) := by show _ = _; omega
      obtain ⟨N, hN⟩ : ∃ N, took h b id = N := ⟨_, rfl⟩
      have HN : Hid (N = took h b id) := hN.symm
      rw [hN] at ho
      have y2 := HX1.out.inn.free 1
      have x1 := HX1.out.inn.set 1 (.int .u64 (N : Int))
      have x2 : Blk (w1.setCell ⟨w.heap.size, 1, none⟩ (.int .u64 (N : Int))) (w.heap.size + 1) #[.int .i64 0, .int .u64 0] 34 := HX1.out.out.other 1 _ (by omega)
      clear hm hnm hN h3
      go_wp2_with fail
      go_region
      have HP : Hid (Blk (w1.setCell ⟨w.heap.size, 1, none⟩ (.int .u64 (N : Int))).drew w.heap.size #[.int .i64 h, .int .u64 (N : Int)] 34) := x1
      have HQ : Hid (Blk (w1.setCell ⟨w.heap.size, 1, none⟩ (.int .u64 (N : Int))).drew (w.heap.size + 1) #[.int .i64 0, .int .u64 0] 34) := x2
      have HR : Hid (Below w.heap.size w (w1.setCell ⟨w.heap.size, 1, none⟩ (.int .u64 (N : Int))).drew) := bel_drew (bel_set HX1.out.bel w.heap.size 1 (.int .u64 (N : Int)) (Nat.le_refl _)) 1
      clear x1 x2 HX1 y2 d0 d1 z0 z1 y0 y1 hs ho
      generalize (w1.setCell ⟨w.heap.size, 1, none⟩ (.int .u64 (N : Int))).drew = W2 at *
      have d0 := HP.out.cell 0
      have d1 := HP.out.cell 1
      have z0 := HQ.out.cell 0
      have z1 := HQ.out.cell 1
      have y0 := HQ.out.free 0
      have y1 := HQ.out.free 1
      have HXX := (HQ.out.set 0 (.int .i64 h)).set 1 (.int .u64 (N : Int))
      have R0 : Hid (_ = _) := HXX.cell 0
      have R1 : Hid (_ = _) := HXX.cell 1
      have HB : Hid (Below w.heap.size w ((W2.setCell ⟨w.heap.size + 1, 0, none⟩ (.int .i64 h)).setCell ⟨w.heap.size + 1, 1, none⟩ (.int .u64 (N : Int)))) := bel_set (bel_set HR.out _ _ _ (Nat.le_succ _)) _ _ _ (Nat.le_succ _)
      clear HXX HP HQ HR
      go_wp2_with fail
      exact bodyPost_ret (v := .tuple #[.agg #[.int .i64 h, .int .u64 (N : Int)], .int .i64 0]) (by simp [results, Tryd.results89, R0.out, R1.out, go_sem]) rfl ⟨h, N, 0, rfl, HJI.out, fun h => absurd rfl h, fun _ => ⟨HTK.out, HN.out⟩, HB.out⟩
    · have hgt : h < id := by
        rcases hm with ⟨hx, _⟩ | ⟨_, _, hx, _⟩
        · omega
        · by_cases e : h < id
          · exact e
          · exfalso
            have e' : id = h := by omega
            exact hnm ((mem_all h b id).2 ⟨by omega, by omega, by rw [e', Int.sub_self]; exact hx⟩)
      obtain ⟨D, hs, ho⟩ := high_put hb hgt hnm
      have HTK : Hid (id = max h id) := by show _ = _; omega
      obtain ⟨N, hN⟩ : ∃ N, took h b id = N := ⟨_, rfl⟩
      have HN : Hid (N = took h b id) := hN.symm
      rw [hN] at ho
      have HXX := (HX1.out.out.set 0 (.int .i64 id)).set 1 (.int .u64 (N : Int))
      have R0 : Hid (_ = _) := HXX.cell 0
      have R1 : Hid (_ = _) := HXX.cell 1
      have HB : Hid (Below w.heap.size w ((w1.setCell ⟨w.heap.size + 1, 0, none⟩ (.int .i64 id)).setCell ⟨w.heap.size + 1, 1, none⟩ (.int .u64 (N : Int)))) := bel_set (bel_set HX1.out.bel _ _ _ (Nat.le_succ _)) _ _ _ (Nat.le_succ _)
      have dl : decide (id < h) = false := by simp; omega
      clear HXX hm hnm hN h3 hlt
      go_wp2_with fail
      exact bodyPost_ret (v := .tuple #[.agg #[.int .i64 id, .int .u64 (N : Int)], .int .i64 0]) (by simp [results, Tryd.results89, R0.out, R1.out, go_sem]) rfl ⟨id, N, 0, rfl, HJI.out, fun h => absurd rfl h, fun _ => ⟨HTK.out, HN.out⟩, HB.out⟩
  · have HNZ : Hid (c ≠ 0) := hc
    have hq : (c != 0) = true := by simp [hc]
    have HXX := (HX1.out.out.set 0 (.int .i64 0)).set 1 (.int .u64 0)
    have R0 : Hid (_ = _) := HXX.cell 0
    have R1 : Hid (_ = _) := HXX.cell 1
    have HB : Hid (Below w.heap.size w ((w1.setCell ⟨w.heap.size + 1, 0, none⟩ (.int .i64 0)).setCell ⟨w.heap.size + 1, 1, none⟩ (.int .u64 0))) := bel_set (bel_set HX1.out.bel _ _ _ (Nat.le_succ _)) _ _ _ (Nat.le_succ _)
    clear HXX HX1 hc
    go_wp2_with fail
    exact bodyPost_ret (v := .tuple #[.agg #[.int .i64 0, .int .u64 0], .int .i64 c]) (by simp [results, Tryd.results89, R0.out, R1.out, go_sem]) rfl ⟨0, 0, c, rfl, HJI.out, fun _ => ⟨rfl, rfl⟩, fun h => absurd h HNZ.out, HB.out⟩
end Go.Proofs.YtgipkpkjoicehabDoor.win

/- A meter at work takes a token that was sold here. -/
namespace Go.Proofs.YtgipkpkjoicehabDoor.met
open Go.RowKit
set_option maxRecDepth 100000
set_option linter.unusedVariables false
set_option linter.unusedSimpArgs false

/-- What taking gives. -/
def TakeQ (w : World) (g : Nat) (m : Mt) (i : Int) (no : Prop) (f x : Int) (m' : Mt) (e : Ending) (w' : World) : Prop :=
  Chg w w' g ∧ ((∃ j, win.JudgeIs m.h m.b i j ∧ j ≠ 0 ∧ e = .returned (.tuple #[.int .i64 0, .int .i64 j]) ∧ Wk w' g m) ∨ (win.JudgeIs m.h m.b i 0 ∧ no ∧ e = .returned (.tuple #[.int .i64 0, .int .i64 f]) ∧ Wk w' g m) ∨
    (win.JudgeIs m.h m.b i 0 ∧ ¬ no ∧ e = .returned (.tuple #[.int .i64 x, .int .i64 0]) ∧ Wk w' g { m' with h := max m.h i, b := win.took m.h m.b i, bad := 0 }))
set_option maxHeartbeats 4000000 in
theorem take_abs (K : Nat) (g : Nat) (m : Mt) (c i am t : Int) (no : Prop) (f x : Int) (m' : Mt) (w : World) (hw : Wk w g m) (hb : m.b < 18446744073709551616) (hf : f ≠ 0)
    (hK : ∀ args w, (callFunc K args).run Tryd.prog w = .ok (.enter K args) w)
    (hd : ∀ W, Calls Tryd.prog 90 #[.pointer (some ⟨g, 0, none⟩), .int .i64 c] W fun e w' => e = .returned (.func (.func K) #[.pointer (some ⟨g, 0, none⟩)] #[]) ∧ w' = W)
    (ha : ∀ W, Wk W g m → Calls Tryd.prog K #[.pointer (some ⟨g, 0, none⟩), .int .i64 am] W fun e w' => Deed W g m no f x m' e w') :
    Calls Tryd.prog 69 #[.pointer (some ⟨g, 0, none⟩), .agg #[.int .i64 c, .int .i64 i, .int .i64 am, .int .i64 t]] w fun e w' => TakeQ w g m i no f x m' e w' := by
  have HT : Hid (∀ W, Calls Tryd.prog 89 #[.agg #[.int .i64 m.h, .int .u64 (m.b : Int)], .int .i64 i] W fun e w' => win.TakePost W m.h m.b i e w') := fun W => win.ptake m.h m.b i W hb
  have HD : Hid (∀ W, Calls Tryd.prog 90 #[.pointer (some ⟨g, 0, none⟩), .int .i64 c] W fun e w' => e = .returned (.func (.func K) #[.pointer (some ⟨g, 0, none⟩)] #[]) ∧ w' = W) := hd
  have HA : Hid (∀ W, Wk W g m → Calls Tryd.prog K #[.pointer (some ⟨g, 0, none⟩), .int .i64 am] W fun e w' => Deed W g m no f x m' e w') := ha
  have HGL : Hid (g < w.heap.size) := Blk.lt hw
  have HW0 : Hid (Wk (w.alloc (.cells #[.int .i64 c, .int .i64 i, .int .i64 am, .int .i64 t] 50)).drew g m) := Blk.drew (Blk.alloc hw _) 1
  have HK0 : Hid (Blk (w.alloc (.cells #[.int .i64 c, .int .i64 i, .int .i64 am, .int .i64 t] 50)).drew (w.heap.size) #[.int .i64 c, .int .i64 i, .int .i64 am, .int .i64 t] 50) := Blk.drew (Blk.new _ _ _) 1
  have HB0 : Hid (Below w.heap.size w (w.alloc (.cells #[.int .i64 c, .int .i64 i, .int .i64 am, .int .i64 t] 50)).drew) := bel_drew ((Below.refl _ _).alloc (Nat.le_refl _) _) 1
  have hfq : (f != 0) = true := by simp [hf]
  clear hw hb hf hd ha
  obtain ⟨me, rev, cr, h, b, bad, lock⟩ := m
  obtain ⟨me2, rev2, cr2, h2, b2, bad2, lock2⟩ := m'
  unfold Wk Mt.cells at HW0
  simp only [] at HT HW0
  go_enter Tryd.func69, Tryd.ntmps69
  go_wp2_with fail
  go_cut [6, 7] (fun v6 v7 wc => ∃ (G : Nat) (h1 : Int) (b1 : Nat) (j : Int), v6 = .pointer (some ⟨G, 0, none⟩) ∧ v7 = .int .i64 j ∧ G ≠ g ∧ Blk wc g #[.int .i64 me, .int .i64 rev, .int .i64 cr, .int .i64 h, .int .u64 (b : Int), .int .i64 bad, .int .i64 lock] 100 ∧ Blk wc (w.heap.size) #[.int .i64 c, .int .i64 i, .int .i64 am, .int .i64 t] 50 ∧ Blk wc G #[.int .i64 h1, .int .u64 (b1 : Int)] 34 ∧ Below w.heap.size w wc ∧ win.JudgeIs h b i j ∧ (j = 0 → h1 = max h i ∧ b1 = win.took h b i))
  case first =>
    clear HD HA hK hfq
    refine wp_region_held_drew (S := fun v => Blk v g #[.int .i64 me, .int .i64 rev, .int .i64 cr, .int .i64 h, .int .u64 (b : Int), .int .i64 bad, .int .i64 lock] 100 ∧ Blk v (w.heap.size) #[.int .i64 c, .int .i64 i, .int .i64 am, .int .i64 t] 50) (by kernel_rfl) ⟨HW0.out, HK0.out⟩ (fun hHeld => ?_)
    refine take_at 0 11 (.pointer (some ⟨g, 0, none⟩)) _ rfl rfl (by kernel_rfl) (by kernel_rfl) (by kernel_rfl) (fun _ _ _ h => h) (Or.inl ⟨by rfl, fun v hv => by skip; clear hv; go_simp⟩) hHeld ?_
    simp only [Act.put, List.setIfInBounds_toArray, List.set_cons_zero, List.set_cons_succ]
    refine take_at 1 12 (.pointer (some ⟨g, 0, none⟩)) _ rfl rfl (by kernel_rfl) (by kernel_rfl) (by kernel_rfl) (fun _ _ _ h => h) (Or.inl ⟨by rfl, fun v hv => by skip; clear hv; go_simp⟩) hHeld ?_
    simp only [Act.put, List.setIfInBounds_toArray, List.set_cons_zero, List.set_cons_succ]
    refine take_at 2 13 (.pointer (some ⟨g, 0, none⟩)) _ rfl rfl (by kernel_rfl) (by kernel_rfl) (by kernel_rfl) (fun _ _ _ h => h) (Or.inl ⟨by rfl, fun v hv => by skip; clear hv; go_simp⟩) hHeld ?_
    simp only [Act.put, List.setIfInBounds_toArray, List.set_cons_zero, List.set_cons_succ]
    refine take_at 3 14 (.pointer (some ⟨g, 3, none⟩)) _ rfl rfl (by kernel_rfl) (by kernel_rfl) (by kernel_rfl) (fun _ _ _ h => h) (Or.inl ⟨by rfl, fun v hv => by skip; clear hv; go_simp⟩) hHeld ?_
    simp only [Act.put, List.setIfInBounds_toArray, List.set_cons_zero, List.set_cons_succ]
    refine take_at 4 15 (.agg #[.int .i64 h, .int .u64 (b : Int)]) _ rfl rfl (by kernel_rfl) (by kernel_rfl) (by kernel_rfl) (fun _ _ _ h => h) (Or.inl ⟨by rfl, fun v hv => by have h2 : v.cell? ⟨g, 3, none⟩ = some (.int .i64 h) := Blk.cell hv.1 3; have h3 : v.cell? ⟨g, 4, none⟩ = some (.int .u64 (b : Int)) := Blk.cell hv.1 4; clear hv; go_simp⟩) hHeld ?_
    simp only [Act.put, List.setIfInBounds_toArray, List.set_cons_zero, List.set_cons_succ]
    refine take_at 5 16 (.pointer (some ⟨w.heap.size, 1, none⟩)) _ rfl rfl (by kernel_rfl) (by kernel_rfl) (by kernel_rfl) (fun _ _ _ h => h) (Or.inl ⟨by rfl, fun v hv => by skip; clear hv; go_simp⟩) hHeld ?_
    simp only [Act.put, List.setIfInBounds_toArray, List.set_cons_zero, List.set_cons_succ]
    refine take_at 6 17 (.int .i64 i) _ rfl rfl (by kernel_rfl) (by kernel_rfl) (by kernel_rfl) (fun _ _ _ h => h) (Or.inl ⟨by rfl, fun v hv => by have h2 : v.cell? ⟨w.heap.size, 1, none⟩ = some (.int .i64 i) := Blk.cell hv.2 1; clear hv; go_simp⟩) hHeld ?_
    simp only [Act.put, List.setIfInBounds_toArray, List.set_cons_zero, List.set_cons_succ]
    generalize (w.alloc (.cells #[.int .i64 c, .int .i64 i, .int .i64 am, .int .i64 t] 50)).drew = V at *
    refine wpAnyH_ready (rs := [7, 11]) (by kernel_rfl) (by simp) (AllReadyH.cons rfl (fun K hK => ?_) (AllReadyH.cons rfl (fun K hK => ?_) AllReadyH.nil))
    · rw [if_pos (by rfl)]
      refine wp_callOp 18 rfl (by clear hK; go_simp) (HT.out _) ?_
      rintro e w1 ⟨h1, b1, j, rfl, hj, hne, heq, hb1⟩
      have HW1 : Hid (Blk w1 g #[.int .i64 me, .int .i64 rev, .int .i64 cr, .int .i64 h, .int .u64 (b : Int), .int .i64 bad, .int .i64 lock] 100) := HW0.out.next hb1
      have HK1 : Hid (Blk w1 (w.heap.size) #[.int .i64 c, .int .i64 i, .int .i64 am, .int .i64 t] 50) := HK0.out.next hb1
      have HB1 : Hid (Below w.heap.size w w1) := bel_step HB0.out hb1
      have HJ : Hid (win.JudgeIs h b i j) := hj
      have HQ : Hid (j = 0 → h1 = max h i ∧ b1 = win.took h b i) := heq
      refine ⟨_, rfl, hK.out _ _ ⟨HW1.out, HK1.out⟩ (fun hHeld => ?_)⟩
      clear hK hj hne heq hb1 HT
      simp only [Act.put, List.setIfInBounds_toArray, List.set_cons_zero, List.set_cons_succ]
      refine take_at 8 10 (.tuple #[.agg #[.int .i64 h1, .int .u64 (b1 : Int)], .int .i64 j]) _ rfl rfl (by kernel_rfl) (by kernel_rfl) (by kernel_rfl) (fun _ _ _ h => h) (Or.inl ⟨by rfl, fun v hv => by skip; clear hv; go_simp⟩) hHeld ?_
      simp only [Act.put, List.setIfInBounds_toArray, List.set_cons_zero, List.set_cons_succ]
      refine take_at 9 19 (.agg #[.int .i64 h1, .int .u64 (b1 : Int)]) _ rfl rfl (by kernel_rfl) (by kernel_rfl) (by kernel_rfl) (fun _ _ _ h => h) (Or.inl ⟨by rfl, fun v hv => by skip; clear hv; go_simp⟩) hHeld ?_
      simp only [Act.put, List.setIfInBounds_toArray, List.set_cons_zero, List.set_cons_succ]
      refine take_at 10 20 (.int .i64 j) _ rfl rfl (by kernel_rfl) (by kernel_rfl) (by kernel_rfl) (fun _ _ _ h => h) (Or.inl ⟨by rfl, fun v hv => by skip; clear hv; go_simp⟩) hHeld ?_
      simp only [Act.put, List.setIfInBounds_toArray, List.set_cons_zero, List.set_cons_succ]
      have HL : Hid (g < w1.heap.size ∧ w.heap.size < w1.heap.size) := ⟨HW1.out.lt, HK1.out.lt⟩
      have HW2 : Hid (Blk (w1.alloc (.cells #[.int .i64 0, .int .u64 0] 34)) g #[.int .i64 me, .int .i64 rev, .int .i64 cr, .int .i64 h, .int .u64 (b : Int), .int .i64 bad, .int .i64 lock] 100) := HW1.out.alloc _
      have HK2 : Hid (Blk (w1.alloc (.cells #[.int .i64 0, .int .u64 0] 34)) (w.heap.size) #[.int .i64 c, .int .i64 i, .int .i64 am, .int .i64 t] 50) := HK1.out.alloc _
      have HG2 : Hid (Blk (w1.alloc (.cells #[.int .i64 0, .int .u64 0] 34)) w1.heap.size #[.int .i64 0, .int .u64 0] 34) := Blk.new _ _ _
      have HB2 : Hid (Below w.heap.size w (w1.alloc (.cells #[.int .i64 0, .int .u64 0] 34))) := HB1.out.alloc HB1.out.size _
      refine wpAnyH_ready (rs := [11]) (by kernel_rfl) (by simp) (AllReadyH.cons rfl (fun K hK => ?_) AllReadyH.nil)
      rw [if_pos (by rfl)]
      refine wp_runOp (v := .pointer (some ⟨w1.heap.size, 0, none⟩)) (w' := w1.alloc (.cells #[.int .i64 0, .int .u64 0] 34)) 6 rfl (by clear hK; go_simp) ?_
      refine hK.out _ _ ⟨HW2.out, HK2.out⟩ (fun hHeld => ?_)
      clear hK
      simp only [Act.put, List.setIfInBounds_toArray, List.set_cons_zero, List.set_cons_succ]
      refine wpAnyH_ready (rs := [12]) (by kernel_rfl) (by simp) (AllReadyH.cons rfl (fun K hK => ?_) AllReadyH.nil)
      rw [if_pos (by rfl)]
      refine wp_letOp 34 _ _ rfl w1.heap.size rfl #[.int .i64 h1, .int .u64 (b1 : Int)] rfl (by kernel_rfl) (by simp [Value.oneCell']) #[.int .i64 0, .int .u64 0] 34 HG2.out rfl rfl ?_
      intro W3 hU3
      have hl := HL.out
      have HW3 : Hid (Blk W3 g #[.int .i64 me, .int .i64 rev, .int .i64 cr, .int .i64 h, .int .u64 (b : Int), .int .i64 bad, .int .i64 lock] 100) := hU3.keep HW2.out (by omega)
      have HK3 : Hid (Blk W3 (w.heap.size) #[.int .i64 c, .int .i64 i, .int .i64 am, .int .i64 t] 50) := hU3.keep HK2.out (by omega)
      have HG3 : Hid (Blk W3 w1.heap.size #[.int .i64 h1, .int .u64 (b1 : Int)] 34) := hU3.blk
      have HB3 : Hid (Below w.heap.size w W3) := hU3.bel _ _ (by omega) HB2.out
      have HGN : Hid (w1.heap.size ≠ g) := by show _ ≠ _; omega
      refine hK.out _ _ ⟨HW3.out, HK3.out⟩ (fun hHeld => ?_)
      clear hK hU3 hl
      refine take_at 13 7 (.int .i64 j) _ rfl rfl (by kernel_rfl) (by kernel_rfl) (by kernel_rfl) (fun _ _ _ h => h) (Or.inl ⟨by rfl, fun v hv => by skip; clear hv; go_simp⟩) hHeld ?_
      simp only [Act.put, List.setIfInBounds_toArray, List.set_cons_zero, List.set_cons_succ]
      refine wpAnyH_done (by kernel_rfl) ?_ _
      clear hHeld
      go_wp2_with fail
      go_meet
      case rel => exact ⟨_, h1, b1, j, rfl, rfl, HGN.out, HW3.out, HK3.out, HG3.out, HB3.out, HJ.out, HQ.out⟩
    · rw [if_pos (by rfl)]
      have HL : Hid (g < V.heap.size ∧ w.heap.size < V.heap.size) := ⟨HW0.out.lt, HK0.out.lt⟩
      have HW2 : Hid (Blk (V.alloc (.cells #[.int .i64 0, .int .u64 0] 34)) g #[.int .i64 me, .int .i64 rev, .int .i64 cr, .int .i64 h, .int .u64 (b : Int), .int .i64 bad, .int .i64 lock] 100) := HW0.out.alloc _
      have HK2 : Hid (Blk (V.alloc (.cells #[.int .i64 0, .int .u64 0] 34)) (w.heap.size) #[.int .i64 c, .int .i64 i, .int .i64 am, .int .i64 t] 50) := HK0.out.alloc _
      have HG2 : Hid (Blk (V.alloc (.cells #[.int .i64 0, .int .u64 0] 34)) V.heap.size #[.int .i64 0, .int .u64 0] 34) := Blk.new _ _ _
      have HB2 : Hid (Below w.heap.size w (V.alloc (.cells #[.int .i64 0, .int .u64 0] 34))) := HB0.out.alloc HB0.out.size _
      refine wp_runOp (v := .pointer (some ⟨V.heap.size, 0, none⟩)) (w' := V.alloc (.cells #[.int .i64 0, .int .u64 0] 34)) 6 rfl (by clear hK; go_simp) ?_
      refine hK.out _ _ ⟨HW2.out, HK2.out⟩ (fun hHeld => ?_)
      clear hK
      simp only [Act.put, List.setIfInBounds_toArray, List.set_cons_zero, List.set_cons_succ]
      refine wpAnyH_ready (rs := [7]) (by kernel_rfl) (by simp) (AllReadyH.cons rfl (fun K hK => ?_) AllReadyH.nil)
      rw [if_pos (by rfl)]
      refine wp_callOp 18 rfl (by clear hK; go_simp) (HT.out _) ?_
      rintro e w1 ⟨h1, b1, j, rfl, hj, hne, heq, hb1⟩
      have HW1 : Hid (Blk w1 g #[.int .i64 me, .int .i64 rev, .int .i64 cr, .int .i64 h, .int .u64 (b : Int), .int .i64 bad, .int .i64 lock] 100) := HW2.out.next hb1
      have HK1 : Hid (Blk w1 (w.heap.size) #[.int .i64 c, .int .i64 i, .int .i64 am, .int .i64 t] 50) := HK2.out.next hb1
      have HB1 : Hid (Below w.heap.size w w1) := bel_step HB2.out hb1
      have HJ : Hid (win.JudgeIs h b i j) := hj
      have HQ : Hid (j = 0 → h1 = max h i ∧ b1 = win.took h b i) := heq
      have HG4 : Hid (Blk w1 V.heap.size #[.int .i64 0, .int .u64 0] 34) := HG2.out.next hb1
      refine ⟨_, rfl, hK.out _ _ ⟨HW1.out, HK1.out⟩ (fun hHeld => ?_)⟩
      clear hK hj hne heq hb1 HT
      simp only [Act.put, List.setIfInBounds_toArray, List.set_cons_zero, List.set_cons_succ]
      refine take_at 8 10 (.tuple #[.agg #[.int .i64 h1, .int .u64 (b1 : Int)], .int .i64 j]) _ rfl rfl (by kernel_rfl) (by kernel_rfl) (by kernel_rfl) (fun _ _ _ h => h) (Or.inl ⟨by rfl, fun v hv => by skip; clear hv; go_simp⟩) hHeld ?_
      simp only [Act.put, List.setIfInBounds_toArray, List.set_cons_zero, List.set_cons_succ]
      refine take_at 9 19 (.agg #[.int .i64 h1, .int .u64 (b1 : Int)]) _ rfl rfl (by kernel_rfl) (by kernel_rfl) (by kernel_rfl) (fun _ _ _ h => h) (Or.inl ⟨by rfl, fun v hv => by skip; clear hv; go_simp⟩) hHeld ?_
      simp only [Act.put, List.setIfInBounds_toArray, List.set_cons_zero, List.set_cons_succ]
      refine take_at 10 20 (.int .i64 j) _ rfl rfl (by kernel_rfl) (by kernel_rfl) (by kernel_rfl) (fun _ _ _ h => h) (Or.inl ⟨by rfl, fun v hv => by skip; clear hv; go_simp⟩) hHeld ?_
      simp only [Act.put, List.setIfInBounds_toArray, List.set_cons_zero, List.set_cons_succ]
      refine wpAnyH_ready (rs := [12]) (by kernel_rfl) (by simp) (AllReadyH.cons rfl (fun K hK => ?_) AllReadyH.nil)
      rw [if_pos (by rfl)]
      refine wp_letOp 34 _ _ rfl V.heap.size rfl #[.int .i64 h1, .int .u64 (b1 : Int)] rfl (by kernel_rfl) (by simp [Value.oneCell']) #[.int .i64 0, .int .u64 0] 34 HG4.out rfl rfl ?_
      intro W3 hU3
      have hl := HL.out
      have HW3 : Hid (Blk W3 g #[.int .i64 me, .int .i64 rev, .int .i64 cr, .int .i64 h, .int .u64 (b : Int), .int .i64 bad, .int .i64 lock] 100) := hU3.keep HW1.out (by omega)
      have HK3 : Hid (Blk W3 (w.heap.size) #[.int .i64 c, .int .i64 i, .int .i64 am, .int .i64 t] 50) := hU3.keep HK1.out (by omega)
      have HG3 : Hid (Blk W3 V.heap.size #[.int .i64 h1, .int .u64 (b1 : Int)] 34) := hU3.blk
      have HB3 : Hid (Below w.heap.size w W3) := hU3.bel _ _ (by omega) HB1.out
      have HGN : Hid (V.heap.size ≠ g) := by show _ ≠ _; omega
      refine hK.out _ _ ⟨HW3.out, HK3.out⟩ (fun hHeld => ?_)
      clear hK hU3 hl
      refine take_at 13 7 (.int .i64 j) _ rfl rfl (by kernel_rfl) (by kernel_rfl) (by kernel_rfl) (fun _ _ _ h => h) (Or.inl ⟨by rfl, fun v hv => by skip; clear hv; go_simp⟩) hHeld ?_
      simp only [Act.put, List.setIfInBounds_toArray, List.set_cons_zero, List.set_cons_succ]
      refine wpAnyH_done (by kernel_rfl) ?_ _
      clear hHeld
      go_wp2_with fail
      go_meet
      case rel => exact ⟨_, h1, b1, j, rfl, rfl, HGN.out, HW3.out, HK3.out, HG3.out, HB3.out, HJ.out, HQ.out⟩
  case rest =>
    obtain ⟨G, h1, b1, j, rfl, rfl, hGn, hw3, hk3, hg3, hb3, hj3, hq3⟩ := hcut
    have HGN : Hid (G ≠ g) := hGn
    have HW3 : Hid (Blk wc g #[.int .i64 me, .int .i64 rev, .int .i64 cr, .int .i64 h, .int .u64 (b : Int), .int .i64 bad, .int .i64 lock] 100) := hw3
    have HK3 : Hid (Blk wc (w.heap.size) #[.int .i64 c, .int .i64 i, .int .i64 am, .int .i64 t] 50) := hk3
    have HG3 : Hid (Blk wc G #[.int .i64 h1, .int .u64 (b1 : Int)] 34) := hg3
    have HB3 : Hid (Below w.heap.size w wc) := hb3
    have HJ : Hid (win.JudgeIs h b i j) := hj3
    have HQ : Hid (j = 0 → h1 = max h i ∧ b1 = win.took h b i) := hq3
    clear hGn hw3 hk3 hg3 hb3 hj3 hq3 HT HW0 HK0 HB0
    by_cases hj : j = 0
    · subst hj
      have HE : Hid (h1 = max h i ∧ b1 = win.took h b i) := HQ.out rfl
      clear HQ
      have k0 : wc.cell? ⟨w.heap.size, 0, none⟩ = some (.int .i64 c) := HK3.out.cell 0
      have k2 : wc.cell? ⟨w.heap.size, 2, none⟩ = some (.int .i64 am) := HK3.out.cell 2
      go_wp2_with fail
      refine (HD.out _).mono ?_
      rintro e w4 ⟨rfl, rfl⟩
      clear HD
      go_wp2_with fail
      refine (HA.out _ HW3.out).mono ?_
      rintro e w5 ⟨hc5, ⟨hno, rfl, hw5⟩ | ⟨hno, rfl, hw5⟩⟩
      · have HF : Hid (Chg w w5 g ∧ no ∧ Wk w5 g ⟨me, rev, cr, h, b, bad, lock⟩) := ⟨(Chg.of HB3.out).trans hc5, hno, hw5⟩
        clear hc5 hno hw5 k0 k2
        go_wp2_with fail
        go_ret2
        exact ⟨HF.out.1, .inr (.inl ⟨HJ.out, HF.out.2.1, rfl, HF.out.2.2⟩)⟩
      · have HN : Hid (¬ no) := hno
        have HG5 : Hid (Blk w5 G #[.int .i64 h1, .int .u64 (b1 : Int)] 34) := hc5.keep HG3.out HGN.out
        have HC5 : Hid (Chg w w5 g) := (Chg.of HB3.out).trans hc5
        have HW5 : Hid (Blk w5 g #[.int .i64 me2, .int .i64 rev2, .int .i64 cr2, .int .i64 h2, .int .u64 (b2 : Int), .int .i64 bad2, .int .i64 lock2] 100) := hw5
        clear hc5 hno hw5 k0 k2 HW3 HK3 HG3 HB3
        have z0 : w5.cell? ⟨G, 0, none⟩ = some (.int .i64 h1) := HG5.out.cell 0
        have z1 : w5.cell? ⟨G, 1, none⟩ = some (.int .u64 (b1 : Int)) := HG5.out.cell 1
        go_wp2_with (first
          | (refine wp_let rfl 34 _ _ rfl g 3 rfl (.agg #[.int .i64 h1, .int .u64 (b1 : Int)]) rfl #[.int .i64 h1, .int .u64 (b1 : Int)] rfl (by kernel_rfl) (by simp [Value.oneCell']) #[.int .i64 me2, .int .i64 rev2, .int .i64 cr2, .int .i64 h2, .int .u64 (b2 : Int), .int .i64 bad2, .int .i64 lock2] 100 HW5.out (by simp) #[.int .i64 me2, .int .i64 rev2, .int .i64 cr2, .int .i64 h1, .int .u64 (b1 : Int), .int .i64 bad2, .int .i64 lock2] rfl ?_)
          | fail)
        intro W6 hU6
        have HW6 : Hid (Blk W6 g #[.int .i64 me2, .int .i64 rev2, .int .i64 cr2, .int .i64 h1, .int .u64 (b1 : Int), .int .i64 bad2, .int .i64 lock2] 100) := hU6.blk
        have HC6 : Hid (Chg w W6 g) := HC5.out.trans (.upd hU6)
        clear hU6 z0 z1 HG5 HC5 HW5
        go_wp2_with (first
          | (refine wp_let1 rfl 3 _ _ rfl g 5 rfl .i64 0 rfl (by kernel_rfl) #[.int .i64 me2, .int .i64 rev2, .int .i64 cr2, .int .i64 h1, .int .u64 (b1 : Int), .int .i64 bad2, .int .i64 lock2] 100 HW6.out (by simp) ?_)
          | fail)
        intro W7 hU7
        have HW7 : Hid (Blk W7 g #[.int .i64 me2, .int .i64 rev2, .int .i64 cr2, .int .i64 h1, .int .u64 (b1 : Int), .int .i64 0, .int .i64 lock2] 100) := hU7.blk
        have HC7 : Hid (Chg w W7 g) := HC6.out.trans (.upd hU7)
        clear hU7 HW6 HC6
        go_wp2_with fail
        go_ret2
        exact ⟨HC7.out, .inr (.inr ⟨HJ.out, HN.out, rfl, by rw [← HE.out.1, ← HE.out.2]; exact HW7.out⟩)⟩
    · have hq : (j != 0) = true := by simp [hj]
      have HF : Hid (Chg w wc g ∧ j ≠ 0 ∧ Wk wc g ⟨me, rev, cr, h, b, bad, lock⟩) := ⟨.of HB3.out, hj, HW3.out⟩
      clear hj HW3 HK3 HG3 HB3
      go_wp2_with fail
      go_ret2
      exact ⟨HF.out.1, .inl ⟨j, HJ.out, HF.out.2.1, rfl, HF.out.2.2⟩⟩

end Go.Proofs.YtgipkpkjoicehabDoor.met

/- A wide number that came in: its three words, out of its reading and back into it. -/
namespace Go.Proofs.YtgipkpkjoicehabDoor.words
open Go.ChangeShapes Go.WideShapes Go.ChangeAt Go.RowKit
set_option maxRecDepth 100000

theorem cells_word : Tryd.prog.cellsOf 60 = 1 := by kernel_rfl
theorem cells_wide : Tryd.prog.cellsOf 77 = 3 := by kernel_rfl

theorem list3 {α : Type} (l : List α) (h : (⟨l⟩ : Array α).size = 3) : ∃ a b c, l = [a, b, c] := by
  match l, h with
  | [a, b, c], _ => exact ⟨a, b, c, rfl⟩

theorem open_wide {H : Type} {enc : TypeId × Value → H} {W : World} {r : Reach} {b0 b1 : Nat} {spare : Nat → Bool} {held : Bool} {v : Value} {d : DataW H} {ps : List MemPlace}
    (hval : Value.okWide Tryd.prog W r b0 77 v) (h : DataW.Trod enc Tryd.prog W b1 spare held 77 v d ps) :
    ∃ x y z, v = .agg #[.int .u32 x, .int .u32 y, .int .u32 z] ∧ d = .agg [.lit (.int .u32 x), .lit (.int .u32 y), .lit (.int .u32 z)] ∧ ps = [] ∧
      ((Lit.int .u32 x).wf = true ∧ (Lit.int .u32 y).wf = true ∧ (Lit.int .u32 z).wf = true) := by
  obtain ⟨cs, rfl, hsz, _⟩ : ∃ cs, v = .agg cs ∧ cs.size = Tryd.prog.cellsOf 77 ∧ Row.okWide Tryd.prog W r b0 77 cs := by
    simpa [Value.okWide, Tryd.underlying77] using hval
  rw [cells_wide] at hsz
  obtain ⟨l⟩ := cs
  obtain ⟨c0, c1, c2, rfl⟩ := list3 l hsz
  obtain ⟨fuel, hf⟩ := h
  obtain ⟨y0, y1, y2, m, hx, hy0, hy1, hy2⟩ := trod_array3 Tryd.underlying77 cells_word hf
  obtain ⟨x0, e0, rfl, w0⟩ := DataW.trod_int Tryd.underlying60 hy0
  obtain ⟨x1, e1, rfl, w1⟩ := DataW.trod_int Tryd.underlying60 hy1
  obtain ⟨x2, e2, rfl, w2⟩ := DataW.trod_int Tryd.underlying60 hy2
  simp at e0 e1 e2
  subst e0 e1 e2
  simp only [Prod.mk.injEq] at hx
  obtain ⟨rfl, rfl⟩ := hx
  exact ⟨x0, x1, x2, rfl, rfl, rfl, w0, w1, w2⟩

theorem shut_wide {H : Type} {enc : TypeId × Value → H} {W : World} {b1 : Nat} {spare : Nat → Bool} {held : Bool} {x y z : Int}
    (hw : (Lit.int .u32 x).wf = true ∧ (Lit.int .u32 y).wf = true ∧ (Lit.int .u32 z).wf = true) :
    DataW.Trod enc Tryd.prog W b1 spare held 77 (.agg #[.int .u32 x, .int .u32 y, .int .u32 z]) (.agg [.lit (.int .u32 x), .lit (.int .u32 y), .lit (.int .u32 z)]) [] :=
  ⟨2, by simp [DataW.trod, Value.cells, Tryd.underlying77, Tryd.underlying60, cells_wide, cells_word, hw.1, hw.2.1, hw.2.2, show List.range 3 = [0, 1, 2] from rfl]⟩

end Go.Proofs.YtgipkpkjoicehabDoor.words

/- A number that a closure carries on, in a variable of its own: what a call does to it, and to nothing else. -/
namespace Go.Proofs.YtgipkpkjoicehabDoor.words
open Go.RowKit

/-- Behind w0, w: block B holds v, and may be written; every other block that was there is as it was. -/
structure Acc (w0 w : World) (B : Nat) (v : Value) : Prop where
  os : w.os = w0.os
  tape : w.tape = w0.tape
  output : w.output = w0.output
  size : w0.heap.size ≤ w.heap.size
  block : ∀ k, k < w0.heap.size → k ≠ B → w.heap[k]? = w0.heap[k]?
  old : B < w0.heap.size
  cell : w.cell? ⟨B, 0, none⟩ = some v
  free : w.frozen? ⟨B, 0, none⟩ = false

theorem Acc.trans {w0 w1 w2 : World} {B : Nat} {v v' : Value} (h : Acc w0 w1 B v) (h' : Acc w1 w2 B v') : Acc w0 w2 B v' :=
  ⟨h'.os.trans h.os, h'.tape.trans h.tape, h'.output.trans h.output, Nat.le_trans h.size h'.size, fun k hk hB => (h'.block k (Nat.lt_of_lt_of_le hk h.size) hB).trans (h.block k hk hB), h.old, h'.cell, h'.free⟩

theorem Acc.refl {w : World} {B : Nat} {v : Value} (hc : w.cell? ⟨B, 0, none⟩ = some v) (hf : w.frozen? ⟨B, 0, none⟩ = false) : Acc w w B v := by
  refine ⟨rfl, rfl, rfl, Nat.le_refl _, fun _ _ _ => rfl, ?_, hc, hf⟩
  by_cases hh : B < w.heap.size
  · exact hh
  · simp [World.cell?, Array.getElem?_eq_none (show w.heap.size ≤ B by omega)] at hc

theorem Acc.set {w0 w : World} {B : Nat} {v : Value} (h : Acc w0 w B v) (u : Value) : Acc w0 (w.setCell ⟨B, 0, none⟩ u) B u := by
  refine ⟨h.os, h.tape, h.output, by simp [World.setCell]; exact h.size, fun k hk hB => ?_, h.old, ?_, ?_⟩
  · simp only [World.setCell, Array.getElem?_modify]
    rw [if_neg (fun e => hB e.symm)]
    exact h.block k hk hB
  · apply World.cell?_setCell_same; exact h.cell
  · rw [World.frozen?_setCell]; exact h.free

theorem Acc.drewN {w0 w : World} {B : Nat} {v : Value} (h : Acc w0 w B v) (n : Nat) : Acc w0 (w.drewN n) B v := ⟨h.os, h.tape, h.output, h.size, h.block, h.old, h.cell, h.free⟩

/-- Three cells of a block. -/
def Trio (w : World) (G : Nat) (y0 y1 y2 : Value) : Prop := w.heap[G]? = some (.cells #[y0, y1, y2] 77 (0, 0))

theorem Trio.c0 {w : World} {G : Nat} {y0 y1 y2 : Value} (h : Trio w G y0 y1 y2) : w.cell? ⟨G, 0, none⟩ = some y0 := by unfold Trio at h; simp [World.cell?, h]
theorem Trio.c1 {w : World} {G : Nat} {y0 y1 y2 : Value} (h : Trio w G y0 y1 y2) : w.cell? ⟨G, 1, none⟩ = some y1 := by unfold Trio at h; simp [World.cell?, h]
theorem Trio.c2 {w : World} {G : Nat} {y0 y1 y2 : Value} (h : Trio w G y0 y1 y2) : w.cell? ⟨G, 2, none⟩ = some y2 := by unfold Trio at h; simp [World.cell?, h]
theorem Trio.free {w : World} {G : Nat} {y0 y1 y2 : Value} (h : Trio w G y0 y1 y2) (i : Nat) : w.frozen? ⟨G, i, none⟩ = false := by unfold Trio at h; simp [World.frozen?, h]
theorem Trio.acc {w w' : World} {G B : Nat} {y0 y1 y2 v : Value} (h : Trio w G y0 y1 y2) (ha : Acc w w' B v) (hG : G ≠ B) : Trio w' G y0 y1 y2 := by
  have hlt : G < w.heap.size := by
    by_cases hh : G < w.heap.size
    · exact hh
    · unfold Trio at h; rw [Array.getElem?_eq_none (by omega)] at h; cases h
  unfold Trio at *
  rw [ha.block G hlt hG]; exact h
theorem Trio.set0 {w : World} {G : Nat} {y0 y1 y2 : Value} (h : Trio w G y0 y1 y2) (u : Value) : Trio (w.setCell ⟨G, 0, none⟩ u) G u y1 y2 := by
  unfold Trio at *; simp [World.setCell, Array.getElem?_modify, h]
theorem Trio.set1 {w : World} {G : Nat} {y0 y1 y2 : Value} (h : Trio w G y0 y1 y2) (u : Value) : Trio (w.setCell ⟨G, 1, none⟩ u) G y0 u y2 := by
  unfold Trio at *; simp [World.setCell, Array.getElem?_modify, h]
theorem Trio.set2 {w : World} {G : Nat} {y0 y1 y2 : Value} (h : Trio w G y0 y1 y2) (u : Value) : Trio (w.setCell ⟨G, 2, none⟩ u) G y0 y1 u := by
  unfold Trio at *; simp [World.setCell, Array.getElem?_modify, h]
theorem Trio.other {w : World} {G G' : Nat} {y0 y1 y2 : Value} (h : Trio w G y0 y1 y2) (i : Nat) (u : Value) (hne : G' ≠ G) : Trio (w.setCell ⟨G', i, none⟩ u) G y0 y1 y2 := by
  unfold Trio at *; simp only [World.setCell, Array.getElem?_modify]; rw [if_neg hne]; exact h

/-- A write to a new block. -/
theorem Acc.setNew {w0 w : World} {B : Nat} {v : Value} (h : Acc w0 w B v) (G i : Nat) (u : Value) (hG : w0.heap.size ≤ G) : Acc w0 (w.setCell ⟨G, i, none⟩ u) B v := by
  have hne : G ≠ B := by have := h.old; omega
  refine ⟨h.os, h.tape, h.output, by simp [World.setCell]; exact h.size, fun k hk hB => ?_, h.old, ?_, ?_⟩
  · simp only [World.setCell, Array.getElem?_modify]
    rw [if_neg (by omega)]
    exact h.block k hk hB
  · rw [World.cell?_setCell_other]
    · exact h.cell
    · intro e; exact hne (congrArg Addr.block e)
  · rw [World.frozen?_setCell]; exact h.free
theorem Acc.alloc {w0 w : World} {B : Nat} {v : Value} (h : Acc w0 w B v) (o : Obj) : Acc w0 (w.alloc o) B v := by
  have hlt : ∀ k, k < w.heap.size → (w.alloc o).heap[k]? = w.heap[k]? := fun k hk => by
    show (w.heap.push o)[k]? = _
    rw [Array.getElem?_push, if_neg (by omega)]
  have hB := Nat.lt_of_lt_of_le h.old h.size
  refine ⟨h.os, h.tape, h.output, ?_, fun k hk hB => ?_, h.old, ?_, ?_⟩
  · show _ ≤ (w.heap.push o).size
    have := h.size
    simp; omega
  · rw [hlt k (Nat.lt_of_lt_of_le hk h.size)]; exact h.block k hk hB
  · rw [← h.cell]; exact World.cell?_of_block (w := w) (a := ⟨B, 0, none⟩) (hlt B hB)
  · have : ((w.alloc o).frozen? ⟨B, 0, none⟩) = w.frozen? ⟨B, 0, none⟩ := by simp only [World.frozen?, hlt B hB]
    rw [this]; exact h.free

theorem trio_a (w : World) (x y z : Value) (o : Obj) : Trio ((w.alloc (.cells #[x, y, z] 77)).alloc o) w.heap.size x y z := by
  show ((w.heap.push _).push o)[w.heap.size]? = _
  rw [Array.getElem?_push, if_neg (by simp), Array.getElem?_push_size]
theorem trio_b (w : World) (o : Obj) (x y z : Value) : Trio ((w.alloc o).alloc (.cells #[x, y, z] 77)) (w.heap.size + 1) x y z := by
  show ((w.heap.push o).push _)[w.heap.size + 1]? = _
  have : w.heap.size + 1 = (w.heap.push o).size := by simp
  rw [this, Array.getElem?_push_size]

/-- What is made of each word, the least first, while the number at B goes from v0 to v1, v2 and v3. -/
theorem upward_any (K : Nat) (caps : Array Value) (B : Nat) (v0 v1 v2 v3 : Value) (x0 x1 x2 y0 y1 y2 : Int) (w : World) (h : Acc w w B v0) (hK : ∀ args w, (callFunc K args).run Tryd.prog w = .ok (.enter K args) w)
    (s0 : ∀ w', Acc w w' B v0 → Calls Tryd.prog K (#[.int .u32 x0] ++ caps) w' fun e w'' => e = .returned (.int .u32 y0) ∧ Acc w' w'' B v1)
    (s1 : ∀ w', Acc w w' B v1 → Calls Tryd.prog K (#[.int .u32 x1] ++ caps) w' fun e w'' => e = .returned (.int .u32 y1) ∧ Acc w' w'' B v2)
    (s2 : ∀ w', Acc w w' B v2 → Calls Tryd.prog K (#[.int .u32 x2] ++ caps) w' fun e w'' => e = .returned (.int .u32 y2) ∧ Acc w' w'' B v3) :
    Calls Tryd.prog 74 #[.agg #[.int .u32 x0, .int .u32 x1, .int .u32 x2], .func (.func K) #[] caps] w fun e w' => e = .returned (.agg #[.int .u32 y0, .int .u32 y1, .int .u32 y2]) ∧ Acc w w' B v3 := by
  have HS0 : Hid (∀ w', Acc w w' B v0 → Calls Tryd.prog K (#[.int .u32 x0] ++ caps) w' fun e w'' => e = .returned (.int .u32 y0) ∧ Acc w' w'' B v1) := s0
  have HS1 : Hid (∀ w', Acc w w' B v1 → Calls Tryd.prog K (#[.int .u32 x1] ++ caps) w' fun e w'' => e = .returned (.int .u32 y1) ∧ Acc w' w'' B v2) := s1
  have HS2 : Hid (∀ w', Acc w w' B v2 → Calls Tryd.prog K (#[.int .u32 x2] ++ caps) w' fun e w'' => e = .returned (.int .u32 y2) ∧ Acc w' w'' B v3) := s2
  have HA : Hid (Acc w w B v0) := h
  clear s0 s1 s2 h
  go_enter Tryd.func74, Tryd.ntmps74
  go_wp2_with fail
  refine wp_loop_rounds 4 ?_
  rw [rounds_succ]
  go_wp2_with fail
  refine (HS0.out _ ((HA.out.alloc _).alloc _)).mono ?_
  rintro e w1 ⟨rfl, h1⟩
  have hB := HA.out.old
  have T1 : Trio w1 w.heap.size (.int .u32 x0) (.int .u32 x1) (.int .u32 x2) := (trio_a _ _ _ _ _).acc h1 (by omega)
  have R1 : Trio w1 (w.heap.size + 1) (.int .u32 0) (.int .u32 0) (.int .u32 0) := (trio_b _ _ _ _ _).acc h1 (by omega)
  have A1 := ((HA.out.alloc _).alloc _).trans h1
  have c0 := T1.c0
  have f0 := T1.free 0
  have T1' := T1.set0 (.int .u32 y0)
  have d1 := T1'.c1
  have HT : Hid (Trio (w1.setCell ⟨w.heap.size, 0, none⟩ (.int .u32 y0)) w.heap.size (.int .u32 y0) (.int .u32 x1) (.int .u32 x2)) := T1'
  have HR : Hid (Trio (w1.setCell ⟨w.heap.size, 0, none⟩ (.int .u32 y0)) (w.heap.size + 1) (.int .u32 0) (.int .u32 0) (.int .u32 0)) := R1.other _ _ (by omega)
  have HA1 : Hid (Acc w (w1.setCell ⟨w.heap.size, 0, none⟩ (.int .u32 y0)) B v1) := A1.setNew _ _ _ (Nat.le_refl _)
  clear h1 T1 R1 A1 T1' HA HS0
  go_wp2_with fail
  rw [rounds_succ]
  go_wp2_with fail
  refine (HS1.out _ HA1.out).mono ?_
  rintro e w2 ⟨rfl, h2⟩
  have T2 := HT.out.acc h2 (by omega)
  have R2 := HR.out.acc h2 (by omega)
  have A2 := HA1.out.trans h2
  clear c0 f0 d1 HT HR HA1 HS1 h2
  have c1 := T2.c1
  have f1 := T2.free 1
  have T2' := T2.set1 (.int .u32 y1)
  have d2 := T2'.c2
  have HT : Hid (Trio (w2.setCell ⟨w.heap.size, 1, none⟩ (.int .u32 y1)) w.heap.size (.int .u32 y0) (.int .u32 y1) (.int .u32 x2)) := T2'
  have HR : Hid (Trio (w2.setCell ⟨w.heap.size, 1, none⟩ (.int .u32 y1)) (w.heap.size + 1) (.int .u32 0) (.int .u32 0) (.int .u32 0)) := R2.other _ _ (by omega)
  have HA2 : Hid (Acc w (w2.setCell ⟨w.heap.size, 1, none⟩ (.int .u32 y1)) B v2) := A2.setNew _ _ _ (Nat.le_refl _)
  clear T2 R2 A2 T2'
  go_wp2_with fail
  rw [rounds_succ]
  go_wp2_with fail
  refine (HS2.out _ HA2.out).mono ?_
  rintro e w3 ⟨rfl, h3⟩
  have T3 := HT.out.acc h3 (by omega)
  have R3 := HR.out.acc h3 (by omega)
  have A3 := HA2.out.trans h3
  clear c1 f1 d2 HT HR HA2 HS2 h3
  have c2 := T3.c2
  have f2 := T3.free 2
  have T3' := T3.set2 (.int .u32 y2)
  have R3' := R3.other (G' := w.heap.size) 2 (.int .u32 y2) (by omega)
  have e0 := T3'.c0
  have e1 := T3'.c1
  have e2 := T3'.c2
  have r0 := R3'.c0
  have r1 := R3'.c1
  have r2 := R3'.c2
  have g0 := R3'.free 0
  have g1 := R3'.free 1
  have g2 := R3'.free 2
  have HR3 : Hid (Trio (w3.setCell ⟨w.heap.size, 2, none⟩ (.int .u32 y2)) (w.heap.size + 1) (.int .u32 0) (.int .u32 0) (.int .u32 0)) := R3'
  have HA3 : Hid (Acc w (w3.setCell ⟨w.heap.size, 2, none⟩ (.int .u32 y2)) B v3) := A3.setNew _ _ _ (Nat.le_refl _)
  clear T3 R3 A3 T3' R3'
  go_wp2_with fail
  rw [rounds_succ]
  go_wp2_with fail
  have RR := ((HR3.out.set0 (.int .u32 y0)).set1 (.int .u32 y1)).set2 (.int .u32 y2)
  have AA := ((HA3.out.setNew (w.heap.size + 1) 0 (.int .u32 y0) (by omega)).setNew (w.heap.size + 1) 1 (.int .u32 y1) (by omega)).setNew (w.heap.size + 1) 2 (.int .u32 y2) (by omega)
  refine bodyPost_ret (v := .agg #[.int .u32 y0, .int .u32 y1, .int .u32 y2]) (by simp [results, Tryd.results74, RR.c0, RR.c1, RR.c2, go_sem]) rfl ⟨rfl, AA⟩

theorem below_set {B : Nat} {w w' : World} (h : Below B w w') (G i : Nat) (u : Value) (hG : B ≤ G) : Below B w (w'.setCell ⟨G, i, none⟩ u) := by
  refine ⟨h.os, h.tape, h.output, by simp [World.setCell]; exact h.size, fun k hk => ?_⟩
  rw [← h.block k hk]
  simp only [World.setCell, Array.getElem?_modify]
  rw [if_neg (by omega)]
theorem Acc.below {w0 w1 w : World} {B : Nat} {v : Value} (hb : Below w0.heap.size w0 w1) (h : Acc w1 w B v) (hB : w0.heap.size ≤ B) : Below w0.heap.size w0 w :=
  hb.trans ⟨h.os, h.tape, h.output, h.size, fun k hk => h.block k (Nat.lt_of_lt_of_le hk hb.size) (by omega)⟩

theorem trio_c (w : World) (cs : Array Value) (x y z u : Value) (T : TypeId) :
    ((((w.alloc (.cells cs 77)).alloc (.cells #[x, y, z] 77)).alloc (.cells #[u] T)).cell? ⟨w.heap.size + 1 + 1, 0, none⟩ = some u) ∧
    ((((w.alloc (.cells cs 77)).alloc (.cells #[x, y, z] 77)).alloc (.cells #[u] T)).frozen? ⟨w.heap.size + 1 + 1, 0, none⟩ = false) ∧
    Trio (((w.alloc (.cells cs 77)).alloc (.cells #[x, y, z] 77)).alloc (.cells #[u] T)) (w.heap.size + 1) x y z := by
  have e : (((w.heap.push (.cells cs 77)).push (.cells #[x, y, z] 77)).push (.cells #[u] T))[w.heap.size + 1 + 1]? = some (.cells #[u] T) := by
    have : w.heap.size + 1 + 1 = ((w.heap.push (.cells cs 77)).push (.cells #[x, y, z] 77)).size := by simp
    rw [this, Array.getElem?_push_size]
  refine ⟨?_, ?_, ?_⟩
  · simp only [World.cell?, World.alloc, e]; rfl
  · simp only [World.frozen?, World.alloc, e]; rfl
  · show (((w.heap.push _).push _).push _)[w.heap.size + 1]? = _
    rw [Array.getElem?_push, if_neg (by simp)]
    have : w.heap.size + 1 = (w.heap.push (.cells cs 77)).size := by simp
    rw [this, Array.getElem?_push_size]

theorem Trio.alloc {w : World} {G : Nat} {y0 y1 y2 : Value} (h : Trio w G y0 y1 y2) (o : Obj) : Trio (w.alloc o) G y0 y1 y2 := by
  have hlt : G < w.heap.size := by
    by_cases hh : G < w.heap.size
    · exact hh
    · unfold Trio at h; rw [Array.getElem?_eq_none (by omega)] at h; cases h
  unfold Trio at *
  show (w.heap.push o)[G]? = _
  rw [Array.getElem?_push, if_neg (by omega)]; exact h

theorem below_put {B : Nat} {w w' : World} (h : Below B w w') (G i j k : Nat) (u v x : Value) (hG : B ≤ G) : Below B w (((w'.setCell ⟨G, i, none⟩ u).setCell ⟨G, j, none⟩ v).setCell ⟨G, k, none⟩ x).drew :=
  (below_set (below_set (below_set h G i u hG) G j v hG) G k x hG).drew

theorem bel2 (w : World) (o1 o2 : Obj) : Below w.heap.size w ((w.alloc o1).alloc o2) := ((Below.refl _ _).alloc (Nat.le_refl _) o1).alloc (by simp) o2
theorem bel3 (w : World) (o1 o2 o3 : Obj) : Below w.heap.size w (((w.alloc o1).alloc o2).alloc o3) := (bel2 w o1 o2).alloc (by simp; omega) _

theorem Acc.keep {w0 w : World} {B M : Nat} {v u : Value} (h : Acc w0 w B v) (hc : w0.cell? ⟨M, 0, none⟩ = some u) (hM : M ≠ B) : w.cell? ⟨M, 0, none⟩ = some u := by
  have hlt : M < w0.heap.size := by
    by_cases hh : M < w0.heap.size
    · exact hh
    · simp [World.cell?, Array.getElem?_eq_none (show w0.heap.size ≤ M by omega)] at hc
  rw [← hc]
  exact World.cell?_of_block (w := w0) (a := ⟨M, 0, none⟩) (h.block M hlt hM)

theorem bel4 (w : World) (o1 o2 o3 o4 : Obj) : Below w.heap.size w ((((w.alloc o1).alloc o2).alloc o3).alloc o4) := (bel3 w o1 o2 o3).alloc (by simp; omega) _

theorem trio_d (w : World) (cs : Array Value) (m : Value) (T : TypeId) (x y z u : Value) (U : TypeId) :
    (((((w.alloc (.cells cs 77)).alloc (.cells #[m] T)).alloc (.cells #[x, y, z] 77)).alloc (.cells #[u] U)).cell? ⟨w.heap.size + 1 + 1 + 1, 0, none⟩ = some u) ∧
    (((((w.alloc (.cells cs 77)).alloc (.cells #[m] T)).alloc (.cells #[x, y, z] 77)).alloc (.cells #[u] U)).frozen? ⟨w.heap.size + 1 + 1 + 1, 0, none⟩ = false) ∧
    Trio ((((w.alloc (.cells cs 77)).alloc (.cells #[m] T)).alloc (.cells #[x, y, z] 77)).alloc (.cells #[u] U)) (w.heap.size + 1 + 1) x y z ∧
    ((((w.alloc (.cells cs 77)).alloc (.cells #[m] T)).alloc (.cells #[x, y, z] 77)).alloc (.cells #[u] U)).cell? ⟨w.heap.size + 1, 0, none⟩ = some m := by
  have s1 : w.heap.size + 1 = (w.heap.push (.cells cs 77)).size := by simp
  have s2 : w.heap.size + 1 + 1 = ((w.heap.push (.cells cs 77)).push (.cells #[m] T)).size := by simp
  have s3 : w.heap.size + 1 + 1 + 1 = (((w.heap.push (.cells cs 77)).push (.cells #[m] T)).push (.cells #[x, y, z] 77)).size := by simp
  have e : ((((w.heap.push (.cells cs 77)).push (.cells #[m] T)).push (.cells #[x, y, z] 77)).push (.cells #[u] U))[w.heap.size + 1 + 1 + 1]? = some (.cells #[u] U) := by
    rw [s3, Array.getElem?_push_size]
  have em : ((((w.heap.push (.cells cs 77)).push (.cells #[m] T)).push (.cells #[x, y, z] 77)).push (.cells #[u] U))[w.heap.size + 1]? = some (.cells #[m] T) := by
    rw [Array.getElem?_push, if_neg (by simp), Array.getElem?_push, if_neg (by simp), s1, Array.getElem?_push_size]
  refine ⟨?_, ?_, ?_, ?_⟩
  · simp only [World.cell?, World.alloc, e]; rfl
  · simp only [World.frozen?, World.alloc, e]; rfl
  · show ((((w.heap.push _).push _).push _).push _)[w.heap.size + 1 + 1]? = _
    rw [Array.getElem?_push, if_neg (by simp), s2, Array.getElem?_push_size]
  · simp only [World.cell?, World.alloc, em]; rfl

end Go.Proofs.YtgipkpkjoicehabDoor.words

/- What Plus and Times do to a number that is carried on. -/
namespace Go.Proofs.YtgipkpkjoicehabDoor.words
open Go.RowKit

theorem cutWord_any (B : Nat) (n : Int) (w : World) (hc : w.cell? ⟨B, 0, none⟩ = some (.int .u64 n)) (hf : w.frozen? ⟨B, 0, none⟩ = false) :
    Calls Tryd.prog 76 #[.pointer (some ⟨B, 0, none⟩)] w fun e w' => e = .returned (.int .u32 (n % 4294967296)) ∧ w' = w.setCell ⟨B, 0, none⟩ (.int .u64 (n / 4294967296)) := by
  go_enter Tryd.func76, Tryd.ntmps76
  go_wp2
  go_ret
  exact ⟨rfl, rfl⟩

/-- A number's word, carried on by Plus. -/
theorem plusStep_any (B : Nat) (n x : Int) (w : World) (hc : w.cell? ⟨B, 0, none⟩ = some (.int .u64 n)) (hf : w.frozen? ⟨B, 0, none⟩ = false) (h0 : 0 ≤ n) (h1 : n ≤ 4294967296) (x0 : 0 ≤ x) (x1 : x < 4294967296) :
    Calls Tryd.prog 85 #[.int .u32 x, .pointer (some ⟨B, 0, none⟩)] w fun e w' => e = .returned (.int .u32 ((n + x) % 4294967296)) ∧ Acc w w' B (.int .u64 ((n + x) / 4294967296)) := by
  have hA : Acc w w B (.int .u64 n) := Acc.refl hc hf
  have HA : Hid (Acc w w B (.int .u64 n)) := hA
  clear hA
  go_enter Tryd.func85, Tryd.ntmps85
  go_wp2_with fail
  refine (cutWord_any B (n + x) _ (by apply World.cell?_setCell_same; exact hc) (by rw [World.frozen?_setCell]; exact hf)).mono ?_
  rintro e w' ⟨rfl, rfl⟩
  go_wp2_with fail
  go_ret
  exact ⟨rfl, (HA.out.set _).set _⟩

/-- A number's word, carried on by Times. -/
theorem timesStep_any (B M : Nat) (n x m : Int) (w : World) (hc : w.cell? ⟨B, 0, none⟩ = some (.int .u64 n)) (hf : w.frozen? ⟨B, 0, none⟩ = false) (hm : w.cell? ⟨M, 0, none⟩ = some (.int .u32 m)) (h0 : 0 ≤ n) (h1 : n < 4294967296) (x0 : 0 ≤ x) (x1 : x < 4294967296) (m0 : 0 ≤ m) (m1 : m < 4294967296) :
    Calls Tryd.prog 75 #[.int .u32 x, .pointer (some ⟨B, 0, none⟩), .pointer (some ⟨M, 0, none⟩)] w fun e w' => e = .returned (.int .u32 ((n + x * m) % 4294967296)) ∧ Acc w w' B (.int .u64 ((n + x * m) / 4294967296)) := by
  have hA : Acc w w B (.int .u64 n) := Acc.refl hc hf
  have HA : Hid (Acc w w B (.int .u64 n)) := hA
  obtain ⟨p1, p2⟩ := prod_bd x0 x1 m0 m1
  clear hA
  go_enter Tryd.func75, Tryd.ntmps75
  go_wp2_with fail
  refine (cutWord_any B (n + x * m) _ (by apply World.cell?_setCell_same; exact hc) (by rw [World.frozen?_setCell]; exact hf)).mono ?_
  rintro e w' ⟨rfl, rfl⟩
  go_wp2_with fail
  go_ret
  exact ⟨rfl, (HA.out.set _).set _⟩

theorem run_plusStep (args : Array Value) (w : World) : (callFunc 85 args).run Tryd.prog w = .ok (.enter 85 args) w := by kernel_rfl

end Go.Proofs.YtgipkpkjoicehabDoor.words

/- What words.Plus and words.Times give back. -/
namespace Go.Proofs.YtgipkpkjoicehabDoor.words
open Go.RowKit

/-- A wide number as the program holds it. -/
abbrev wv (w : W3) : Value := .agg #[.int .u32 w.a, .int .u32 w.b, .int .u32 w.c]

set_option maxHeartbeats 1000000 in
theorem plus_any (x : W3) (a : Int) (w : World) (hx : x.ok) (a0 : 0 ≤ a) (a1 : a < 4294967296) :
    Calls Tryd.prog 63 #[wv x, .int .u32 a] w fun e w' => e = .returned (.tuple #[wv (plusW x a), .int .u32 (plusO x a)]) ∧ Below w.heap.size w w' := by
  obtain ⟨x0, x1, x2⟩ := x
  obtain ⟨⟨h0, h0'⟩, ⟨h1, h1'⟩, h2, h2'⟩ := hx
  simp only at h0 h0' h1 h1' h2 h2'
  go_enter Tryd.func63, Tryd.ntmps63
  go_wp2_with fail
  have hB : w.heap.size + 1 + 1 = ((w.alloc (.cells #[.int .u32 x0, .int .u32 x1, .int .u32 x2] 77)).alloc (.cells #[.int .u32 0, .int .u32 0, .int .u32 0] 77)).heap.size := by simp
  have hc := trio_c w #[.int .u32 x0, .int .u32 x1, .int .u32 x2] (.int .u32 0) (.int .u32 0) (.int .u32 0) (.int .u64 a) 32
  have hb3 := bel3 w (.cells #[.int .u32 x0, .int .u32 x1, .int .u32 x2] 77) (.cells #[.int .u32 0, .int .u32 0, .int .u32 0] 77) (.cells #[.int .u64 a] 32)
  refine (upward_any 85 #[.pointer (some ⟨w.heap.size + 1 + 1, 0, none⟩)] (w.heap.size + 1 + 1) (.int .u64 a) (.int .u64 ((a + x0) / 4294967296)) (.int .u64 (((a + x0) / 4294967296 + x1) / 4294967296)) (.int .u64 ((((a + x0) / 4294967296 + x1) / 4294967296 + x2) / 4294967296)) x0 x1 x2
    ((a + x0) % 4294967296) (((a + x0) / 4294967296 + x1) % 4294967296) ((((a + x0) / 4294967296 + x1) / 4294967296 + x2) % 4294967296) _ (Acc.refl hc.1 hc.2.1) run_plusStep
    (fun w' h => plusStep_any _ _ _ w' h.cell h.free (by omega) (by omega) h0 h0')
    (fun w' h => plusStep_any _ _ _ w' h.cell h.free (by omega) (by omega) h1 h1')
    (fun w' h => plusStep_any _ _ _ w' h.cell h.free (by omega) (by omega) h2 h2')).mono ?_
  rintro e w1 ⟨he, hA⟩
  have hR : Trio w1 (w.heap.size + 1) (.int .u32 0) (.int .u32 0) (.int .u32 0) := hc.2.2.acc hA (by omega)
  have HB : Hid (Below w.heap.size w w1) := hA.below hb3 (by omega)
  have hcell := hA.cell
  have hsz : w.heap.size + 1 + 1 < w1.heap.size := Nat.lt_of_lt_of_le hA.old hA.size
  have EW : wv (plusW ⟨x0, x1, x2⟩ a) = .agg #[.int .u32 ((a + x0) % 4294967296), .int .u32 (((a + x0) / 4294967296 + x1) % 4294967296), .int .u32 ((((a + x0) / 4294967296 + x1) / 4294967296 + x2) % 4294967296)] := rfl
  have EO : plusO ⟨x0, x1, x2⟩ a = (((a + x0) / 4294967296 + x1) / 4294967296 + x2) / 4294967296 := rfl
  have z0 : 0 ≤ (((a + x0) / 4294967296 + x1) / 4294967296 + x2) / 4294967296 := by omega
  have z1 : (((a + x0) / 4294967296 + x1) / 4294967296 + x2) / 4294967296 ≤ 1 := by omega
  have HE : Hid (.returned (.tuple #[wv (plusW ⟨x0, x1, x2⟩ a), .int .u32 (plusO ⟨x0, x1, x2⟩ a)]) = Ending.returned (.tuple #[.agg #[.int .u32 ((a + x0) % 4294967296), .int .u32 (((a + x0) / 4294967296 + x1) % 4294967296), .int .u32 ((((a + x0) / 4294967296 + x1) / 4294967296 + x2) % 4294967296)], .int .u32 ((((a + x0) / 4294967296 + x1) / 4294967296 + x2) / 4294967296)])) := by
    have : Ending.returned (.tuple #[wv (plusW ⟨x0, x1, x2⟩ a), .int .u32 (plusO ⟨x0, x1, x2⟩ a)]) = Ending.returned (.tuple #[.agg #[.int .u32 ((a + x0) % 4294967296), .int .u32 (((a + x0) / 4294967296 + x1) % 4294967296), .int .u32 ((((a + x0) / 4294967296 + x1) / 4294967296 + x2) % 4294967296)], .int .u32 ((((a + x0) / 4294967296 + x1) / 4294967296 + x2) / 4294967296)]) := by rw [EW, EO]
    exact this
  clear hA hc hb3 hB EW EO
  have HE2 : Hid (e = .returned (.agg #[.int .u32 ((a + x0) % 4294967296), .int .u32 (((a + x0) / 4294967296 + x1) % 4294967296), .int .u32 ((((a + x0) / 4294967296 + x1) / 4294967296 + x2) % 4294967296)])) := he
  clear he
  generalize hz : (((a + x0) / 4294967296 + x1) / 4294967296 + x2) / 4294967296 = z at hcell z0 z1 HE HE2
  generalize hy0 : (a + x0) % 4294967296 = y0 at HE HE2
  generalize hy1 : ((a + x0) / 4294967296 + x1) % 4294967296 = y1 at HE HE2
  generalize hy2 : (((a + x0) / 4294967296 + x1) / 4294967296 + x2) % 4294967296 = y2 at HE HE2
  clear hz hy0 hy1 hy2
  obtain rfl := HE2.out
  clear HE2
  have hR := hR.alloc (.cells #[.int .u32 y0, .int .u32 y1, .int .u32 y2] 77)
  have r0 := hR.c0
  have r1 := hR.c1
  have r2 := hR.c2
  have g0 := hR.free 0
  have g1 := hR.free 1
  have g2 := hR.free 2
  have HR : Hid (Trio (w1.alloc (.cells #[.int .u32 y0, .int .u32 y1, .int .u32 y2] 77)) (w.heap.size + 1) (.int .u32 0) (.int .u32 0) (.int .u32 0)) := hR
  clear hR
  go_wp2_with fail
  go_region
  all_goals go_wp2_with fail
  have RR := ((HR.out.set0 (.int .u32 y0)).set1 (.int .u32 y1)).set2 (.int .u32 y2)
  refine bodyPost_ret (v := .tuple #[.agg #[.int .u32 y0, .int .u32 y1, .int .u32 y2], .int .u32 z]) (by simp [results, Tryd.results63, RR.c0, RR.c1, RR.c2, go_sem]) rfl ⟨HE.out.symm, ?_⟩
  exact below_put (HB.out.alloc HB.out.size _) _ _ _ _ _ _ _ (by omega)

end Go.Proofs.YtgipkpkjoicehabDoor.words

/- What words.Times gives back. -/
namespace Go.Proofs.YtgipkpkjoicehabDoor.words
open Go.RowKit

theorem run_timesStep (args : Array Value) (w : World) : (callFunc 75 args).run Tryd.prog w = .ok (.enter 75 args) w := by kernel_rfl

set_option maxHeartbeats 1000000 in
theorem times_any (x : W3) (m : Int) (w : World) (hx : x.ok) (m0 : 0 ≤ m) (m1 : m < 4294967296) :
    Calls Tryd.prog 53 #[wv x, .int .u32 m] w fun e w' => e = .returned (.tuple #[wv (timesW x m), .int .u32 (timesO x m)]) ∧ Below w.heap.size w w' := by
  obtain ⟨x0, x1, x2⟩ := x
  obtain ⟨⟨h0, h0'⟩, ⟨h1, h1'⟩, h2, h2'⟩ := hx
  simp only at h0 h0' h1 h1' h2 h2'
  go_enter Tryd.func53, Tryd.ntmps53
  go_wp2_with fail
  obtain ⟨p0, p0'⟩ := prod_bd h0 h0' m0 m1
  obtain ⟨p1, p1'⟩ := prod_bd h1 h1' m0 m1
  obtain ⟨p2, p2'⟩ := prod_bd h2 h2' m0 m1
  have hc := trio_d w #[.int .u32 x0, .int .u32 x1, .int .u32 x2] (.int .u32 m) 60 (.int .u32 0) (.int .u32 0) (.int .u32 0) (.int .u64 0) 32
  have hb3 := bel4 w (.cells #[.int .u32 x0, .int .u32 x1, .int .u32 x2] 77) (.cells #[.int .u32 m] 60) (.cells #[.int .u32 0, .int .u32 0, .int .u32 0] 77) (.cells #[.int .u64 0] 32)
  have e0 : (0 : Int) + x0 * m = x0 * m := by omega
  refine (upward_any 75 #[.pointer (some ⟨w.heap.size + 1 + 1 + 1, 0, none⟩), .pointer (some ⟨w.heap.size + 1, 0, none⟩)] (w.heap.size + 1 + 1 + 1) (.int .u64 0) (.int .u64 ((x0 * m) / 4294967296)) (.int .u64 (((x0 * m) / 4294967296 + x1 * m) / 4294967296)) (.int .u64 ((((x0 * m) / 4294967296 + x1 * m) / 4294967296 + x2 * m) / 4294967296)) x0 x1 x2
    ((x0 * m) % 4294967296) (((x0 * m) / 4294967296 + x1 * m) % 4294967296) ((((x0 * m) / 4294967296 + x1 * m) / 4294967296 + x2 * m) % 4294967296) _ (Acc.refl hc.1 hc.2.1) run_timesStep
    (fun w' h => by have := timesStep_any (w.heap.size + 1 + 1 + 1) (w.heap.size + 1) 0 x0 m w' h.cell h.free (h.keep hc.2.2.2 (by omega)) (by omega) (by omega) h0 h0' m0 m1; rw [e0] at this; exact this)
    (fun w' h => timesStep_any _ _ _ _ _ w' h.cell h.free (h.keep hc.2.2.2 (by omega)) (by omega) (by omega) h1 h1' m0 m1)
    (fun w' h => timesStep_any _ _ _ _ _ w' h.cell h.free (h.keep hc.2.2.2 (by omega)) (by omega) (by omega) h2 h2' m0 m1)).mono ?_
  rintro e w1 ⟨he, hA⟩
  have hR : Trio w1 (w.heap.size + 1 + 1) (.int .u32 0) (.int .u32 0) (.int .u32 0) := hc.2.2.1.acc hA (by omega)
  have HB : Hid (Below w.heap.size w w1) := hA.below hb3 (by omega)
  have hcell := hA.cell
  have hsz : w.heap.size + 1 + 1 + 1 < w1.heap.size := Nat.lt_of_lt_of_le hA.old hA.size
  have EW : wv (timesW ⟨x0, x1, x2⟩ m) = .agg #[.int .u32 ((x0 * m) % 4294967296), .int .u32 (((x0 * m) / 4294967296 + x1 * m) % 4294967296), .int .u32 ((((x0 * m) / 4294967296 + x1 * m) / 4294967296 + x2 * m) % 4294967296)] := rfl
  have EO : timesO ⟨x0, x1, x2⟩ m = (((x0 * m) / 4294967296 + x1 * m) / 4294967296 + x2 * m) / 4294967296 := rfl
  have z0 : 0 ≤ (((x0 * m) / 4294967296 + x1 * m) / 4294967296 + x2 * m) / 4294967296 := by omega
  have z1 : (((x0 * m) / 4294967296 + x1 * m) / 4294967296 + x2 * m) / 4294967296 < 4294967296 := by omega
  have HE : Hid (.returned (.tuple #[wv (timesW ⟨x0, x1, x2⟩ m), .int .u32 (timesO ⟨x0, x1, x2⟩ m)]) = Ending.returned (.tuple #[.agg #[.int .u32 ((x0 * m) % 4294967296), .int .u32 (((x0 * m) / 4294967296 + x1 * m) % 4294967296), .int .u32 ((((x0 * m) / 4294967296 + x1 * m) / 4294967296 + x2 * m) % 4294967296)], .int .u32 ((((x0 * m) / 4294967296 + x1 * m) / 4294967296 + x2 * m) / 4294967296)])) := by
    have : Ending.returned (.tuple #[wv (timesW ⟨x0, x1, x2⟩ m), .int .u32 (timesO ⟨x0, x1, x2⟩ m)]) = Ending.returned (.tuple #[.agg #[.int .u32 ((x0 * m) % 4294967296), .int .u32 (((x0 * m) / 4294967296 + x1 * m) % 4294967296), .int .u32 ((((x0 * m) / 4294967296 + x1 * m) / 4294967296 + x2 * m) % 4294967296)], .int .u32 ((((x0 * m) / 4294967296 + x1 * m) / 4294967296 + x2 * m) / 4294967296)]) := by rw [EW, EO]
    exact this
  clear hA hc hb3 EW EO e0 p0 p0' p1 p1' p2 p2'
  have HE2 : Hid (e = .returned (.agg #[.int .u32 ((x0 * m) % 4294967296), .int .u32 (((x0 * m) / 4294967296 + x1 * m) % 4294967296), .int .u32 ((((x0 * m) / 4294967296 + x1 * m) / 4294967296 + x2 * m) % 4294967296)])) := he
  clear he
  generalize hz : (((x0 * m) / 4294967296 + x1 * m) / 4294967296 + x2 * m) / 4294967296 = z at hcell z0 z1 HE HE2
  generalize hy0 : (x0 * m) % 4294967296 = y0 at HE HE2
  generalize hy1 : ((x0 * m) / 4294967296 + x1 * m) % 4294967296 = y1 at HE HE2
  generalize hy2 : (((x0 * m) / 4294967296 + x1 * m) / 4294967296 + x2 * m) % 4294967296 = y2 at HE HE2
  clear hz hy0 hy1 hy2
  obtain rfl := HE2.out
  clear HE2
  have hR := hR.alloc (.cells #[.int .u32 y0, .int .u32 y1, .int .u32 y2] 77)
  have r0 := hR.c0
  have r1 := hR.c1
  have r2 := hR.c2
  have g0 := hR.free 0
  have g1 := hR.free 1
  have g2 := hR.free 2
  have HR : Hid (Trio (w1.alloc (.cells #[.int .u32 y0, .int .u32 y1, .int .u32 y2] 77)) (w.heap.size + 1 + 1) (.int .u32 0) (.int .u32 0) (.int .u32 0)) := hR
  clear hR
  go_wp2_with fail
  go_region
  all_goals go_wp2_with fail
  have RR := ((HR.out.set0 (.int .u32 y0)).set1 (.int .u32 y1)).set2 (.int .u32 y2)
  refine bodyPost_ret (v := .tuple #[.agg #[.int .u32 y0, .int .u32 y1, .int .u32 y2], .int .u32 z]) (by simp [results, Tryd.results53, RR.c0, RR.c1, RR.c2, go_sem]) rfl ⟨HE.out.symm, ?_⟩
  exact below_put (HB.out.alloc HB.out.size _) _ _ _ _ _ _ _ (by omega)

end Go.Proofs.YtgipkpkjoicehabDoor.words

/- Wide numbers in variables of their own, while calls are made. -/
namespace Go.Proofs.YtgipkpkjoicehabDoor.words
open Go.RowKit

theorem u32_bd {x : Int} (h : (Lit.int .u32 x).wf = true) : 0 ≤ x ∧ x < 4294967296 := by
  have := bounds_u32 h
  omega
theorem ok_wf {x y z : Int} (h : (Lit.int .u32 x).wf = true ∧ (Lit.int .u32 y).wf = true ∧ (Lit.int .u32 z).wf = true) : W3.ok ⟨x, y, z⟩ := ⟨u32_bd h.1, u32_bd h.2.1, u32_bd h.2.2⟩

/-- A wide number lies in block G. -/
abbrev Wat (w : World) (G : Nat) (x : W3) : Prop := Trio w G (.int .u32 x.a) (.int .u32 x.b) (.int .u32 x.c)

theorem Trio.lt {w : World} {G : Nat} {y0 y1 y2 : Value} (h : Trio w G y0 y1 y2) : G < w.heap.size := by
  by_cases hh : G < w.heap.size
  · exact hh
  · unfold Trio at h; rw [Array.getElem?_eq_none (by omega)] at h; cases h
theorem Trio.below {w w' : World} {G : Nat} {y0 y1 y2 : Value} (h : Trio w G y0 y1 y2) (hb : Below w.heap.size w w') : Trio w' G y0 y1 y2 := by
  have hlt := h.lt
  unfold Trio at *
  rw [hb.block G hlt]; exact h
theorem trio_new (w : World) (x y z : Value) : Trio (w.alloc (.cells #[x, y, z] 77)) w.heap.size x y z := by
  show (w.heap.push _)[w.heap.size]? = _
  rw [Array.getElem?_push_size]

/-- A wide number is written into block G. -/
abbrev put3 (w : World) (G : Nat) (a b c : Value) : World := ((w.setCell ⟨G, 0, none⟩ a).setCell ⟨G, 1, none⟩ b).setCell ⟨G, 2, none⟩ c
theorem Trio.put {w : World} {G : Nat} {y0 y1 y2 : Value} (h : Trio w G y0 y1 y2) (a b c : Value) : Trio (put3 w G a b c) G a b c := ((h.set0 a).set1 b).set2 c
theorem Trio.putOther {w : World} {G G' : Nat} {y0 y1 y2 : Value} (h : Trio w G y0 y1 y2) (hne : G' ≠ G) (a b c : Value) : Trio (put3 w G' a b c) G y0 y1 y2 := ((h.other 0 a hne).other 1 b hne).other 2 c hne
theorem below_put3 {B : Nat} {w w' : World} (h : Below B w w') (G : Nat) (u v x : Value) (hG : B ≤ G) : Below B w (put3 w' G u v x) := below_set (below_set (below_set h G 0 u hG) G 1 v hG) G 2 x hG

theorem agg_ne {x y : W3} (h : x ≠ y) : ¬ (x.a = y.a ∧ x.b = y.b ∧ x.c = y.c) := fun ⟨h1, h2, h3⟩ => h (by cases x; cases y; simp_all)

end Go.Proofs.YtgipkpkjoicehabDoor.words

/- Wide numbers, with Plus and Times. -/


/- Two wide numbers are compared. -/
namespace Go.Proofs.YtgipkpkjoicehabDoor.words
open Go.RowKit

theorem eq1 (d : Nat) (a a' : Int) (w : World) : (Op.equalIn (d + 1) 60 (.int .u32 a) (.int .u32 a')).run Tryd.prog w = .ok (a == a') w := by
  simp [Op.equalIn, run_underlying Tryd.underlying60, go_sem]

theorem part0 (a b c : Int) (w : World) : (part 60 #[.int .u32 a, .int .u32 b, .int .u32 c] 0).run Tryd.prog w = .ok (.int .u32 a) w := by kernel_rfl
theorem part1 (a b c : Int) (w : World) : (part 60 #[.int .u32 a, .int .u32 b, .int .u32 c] 1).run Tryd.prog w = .ok (.int .u32 b) w := by kernel_rfl
theorem part2 (a b c : Int) (w : World) : (part 60 #[.int .u32 a, .int .u32 b, .int .u32 c] 2).run Tryd.prog w = .ok (.int .u32 c) w := by kernel_rfl

set_option maxRecDepth 100000 in
theorem eq3 (a b c a' b' c' : Int) (w : World) :
    (Op.equalIn 10000 77 (.agg #[.int .u32 a, .int .u32 b, .int .u32 c]) (.agg #[.int .u32 a', .int .u32 b', .int .u32 c'])).run Tryd.prog w = .ok (a == a' && (b == b' && c == c')) w := by
  obtain ⟨i0, hi⟩ : ∃ i, Tryd.prog.info? 60 = some i := ⟨_, rfl⟩
  rw [show (10000 : Nat) = 9999 + 1 from rfl, run_equalIn_array (w := w) 9999 _ _ Tryd.underlying77 hi, cells_word, show List.range 3 = [0, 1, 2] from rfl]
  simp only [Op.eqItems, Sem.run_bind, Nat.mul_one, part0, Result.andThen_ok, show (9999 : Nat) = 9998 + 1 from rfl, eq1]
  by_cases ha : a = a'
  · by_cases hb : b = b'
    · by_cases hc : c = c'
      · simp [part1, part2, Sem.run_bind, eq1, ha, hb, hc]
      · simp [part1, part2, Sem.run_bind, eq1, ha, hb, hc]
    · simp [part1, Sem.run_bind, eq1, ha, hb]
  · simp [ha]

theorem eq3_same (x : W3) (w : World) : (Op.equalIn 10000 77 (wv x) (wv x)).run Tryd.prog w = .ok true w := by
  rw [eq3]; simp
theorem eq3_other {x y : W3} (h : x ≠ y) (w : World) : (Op.equalIn 10000 77 (wv x) (wv y)).run Tryd.prog w = .ok false w := by
  rw [eq3]
  have := agg_ne h
  congr 1
  simp
  intro h1 h2 h3
  exact this ⟨h1, h2, h3⟩

end Go.Proofs.YtgipkpkjoicehabDoor.words

/- What words.Cmp gives back. -/
namespace Go.Proofs.YtgipkpkjoicehabDoor.words
open Go.RowKit

theorem nan_any (x : Int) (w : World) : Calls Tryd.prog 86 #[.int .u32 x] w fun e w' => e = .returned (.bool false) ∧ w' = w := by
  have h : (x != x) = false := by simp
  go_enter Tryd.func86, Tryd.ntmps86
  go_wp2
  go_ret
  exact ⟨rfl, rfl⟩

theorem compare_any (p q : Int) (w : World) : Calls Tryd.prog 64 #[.int .u32 p, .int .u32 q] w fun e w' => e = .returned (.int .i64 (cmp3 p q)) ∧ w' = w := by
  unfold cmp3
  by_cases h1 : p < q
  · rw [if_pos h1]
    go_enter Tryd.func64, Tryd.ntmps64
    go_wp2_with fail
    refine (nan_any _ _).mono ?_
    rintro e w ⟨rfl, rfl⟩
    go_wp2_with fail
    refine (nan_any _ _).mono ?_
    rintro e w ⟨rfl, rfl⟩
    go_wp2_with fail
    go_ret
    exact ⟨rfl, rfl⟩
  · rw [if_neg h1]
    by_cases h2 : q < p
    · rw [if_pos h2]
      go_enter Tryd.func64, Tryd.ntmps64
      go_wp2_with fail
      refine (nan_any _ _).mono ?_
      rintro e w ⟨rfl, rfl⟩
      go_wp2_with fail
      refine (nan_any _ _).mono ?_
      rintro e w ⟨rfl, rfl⟩
      go_wp2_with fail
      go_ret
      exact ⟨rfl, rfl⟩
    · rw [if_neg h2]
      go_enter Tryd.func64, Tryd.ntmps64
      go_wp2_with fail
      refine (nan_any _ _).mono ?_
      rintro e w ⟨rfl, rfl⟩
      go_wp2_with fail
      refine (nan_any _ _).mono ?_
      rintro e w ⟨rfl, rfl⟩
      go_wp2_with fail
      go_ret
      exact ⟨rfl, rfl⟩

theorem cmp3_self (x : Int) : cmp3 x x = 0 := by unfold cmp3; rw [if_neg (by omega), if_neg (by omega)]

/-- The first words, from above, that are unlike tell which number is greater. -/
theorem cmp_2 {x y : W3} (hx : x.ok) (hy : y.ok) (h : x.c ≠ y.c) : cmp3 x.val y.val = cmp3 x.c y.c := by
  obtain ⟨x1, x2, x3⟩ := hx
  obtain ⟨y1, y2, y3⟩ := hy
  unfold cmp3 W3.val
  repeat' split
  all_goals omega
theorem cmp_1 {x y : W3} (hx : x.ok) (hy : y.ok) (h2 : x.c = y.c) (h : x.b ≠ y.b) : cmp3 x.val y.val = cmp3 x.b y.b := by
  obtain ⟨x1, x2, x3⟩ := hx
  obtain ⟨y1, y2, y3⟩ := hy
  unfold cmp3 W3.val
  repeat' split
  all_goals omega
theorem cmp_0 {x y : W3} (h2 : x.c = y.c) (h1 : x.b = y.b) : cmp3 x.val y.val = cmp3 x.a y.a := by
  unfold cmp3 W3.val
  repeat' split
  all_goals omega

theorem bel2d (w : World) (o1 o2 : Obj) (n : Nat) : Below w.heap.size w (((w.alloc o1).alloc o2).drewN n) := below_drewN (bel2 w o1 o2) n

set_option maxHeartbeats 1000000 in
theorem cmp_any (x y : W3) (w : World) (hx : x.ok) (hy : y.ok) :
    Calls Tryd.prog 41 #[wv x, wv y] w fun e w' => e = .returned (.int .i64 (cmp3 x.val y.val)) ∧ Below w.heap.size w w' := by
  by_cases he : x = y
  · subst he
    rw [cmp3_self]
    have q := eq3_same x
    obtain ⟨x0, x1, x2⟩ := x
    clear hx hy
    go_enter Tryd.func41, Tryd.ntmps41
    go_wp2_with fail
    go_ret
    exact ⟨rfl, bel2 _ _ _⟩
  · have q := eq3_other he
    have k2 := cmp_2 hx hy
    have k1 := cmp_1 hx hy
    have k0 := cmp_0 (x := x) (y := y)
    have hne := agg_ne he
    obtain ⟨x0, x1, x2⟩ := x
    obtain ⟨y0, y1, y2⟩ := y
    simp only at q k2 k1 k0 hne
    generalize W3.val ⟨x0, x1, x2⟩ = X at *
    generalize W3.val ⟨y0, y1, y2⟩ = Y at *
    clear hx hy he
    by_cases h2 : x2 = y2
    · subst h2
      have d2 : (x2 == x2) = true := by simp
      by_cases h1 : x1 = y1
      · subst h1
        have d1 : (x1 == x1) = true := by simp
        have h0 : x0 ≠ y0 := fun e => hne ⟨e, rfl, rfl⟩
        have d0 : (x0 == y0) = false := by simpa using h0
        rw [k0 rfl rfl]
        clear k0 k1 k2 hne h0
        go_enter Tryd.func41, Tryd.ntmps41
        go_wp2_with fail
        refine wp_loop_rounds 3 ?_
        rw [rounds_succ]
        go_wp2_with fail
        go_quiet (fail)
        go_wp2_with fail
        rw [rounds_succ]
        go_wp2_with fail
        go_quiet (fail)
        go_wp2_with fail
        rw [rounds_succ]
        go_wp2_with fail
        go_quiet (fail)
        go_wp2_with fail
        go_quiet (first | (go_at_call 64; exact (compare_any _ _ _).mono fun _ _ h => ⟨h.1, _, h.2⟩))
        go_wp2_with fail
        go_ret
        exact ⟨rfl, by first | exact below_drewN (bel2d _ _ _ _) _ | exact below_drewN (below_drewN (bel2d _ _ _ _) _) _⟩
      · have d1 : (x1 == y1) = false := by simpa using h1
        rw [k1 rfl h1]
        clear k0 k1 k2 hne h1
        go_enter Tryd.func41, Tryd.ntmps41
        go_wp2_with fail
        refine wp_loop_rounds 3 ?_
        rw [rounds_succ]
        go_wp2_with fail
        go_quiet (fail)
        go_wp2_with fail
        rw [rounds_succ]
        go_wp2_with fail
        go_quiet (fail)
        go_wp2_with fail
        go_quiet (first | (go_at_call 64; exact (compare_any _ _ _).mono fun _ _ h => ⟨h.1, _, h.2⟩))
        go_wp2_with fail
        go_ret
        exact ⟨rfl, by first | exact below_drewN (bel2d _ _ _ _) _ | exact below_drewN (below_drewN (bel2d _ _ _ _) _) _⟩
    · have d2 : (x2 == y2) = false := by simpa using h2
      rw [k2 h2]
      clear k0 k1 k2 hne h2
      go_enter Tryd.func41, Tryd.ntmps41
      go_wp2_with fail
      refine wp_loop_rounds 3 ?_
      rw [rounds_succ]
      go_wp2_with fail
      go_quiet (fail)
      go_wp2_with fail
      go_quiet (first | (go_at_call 64; exact (compare_any _ _ _).mono fun _ _ h => ⟨h.1, _, h.2⟩))
      go_wp2_with fail
      go_ret
      exact ⟨rfl, by first | exact below_drewN (bel2d _ _ _ _) _ | exact below_drewN (below_drewN (bel2d _ _ _ _) _) _⟩

end Go.Proofs.YtgipkpkjoicehabDoor.words

/- What & and | make of words, in natural numbers. -/
namespace Go.Proofs.YtgipkpkjoicehabDoor.words

theorem ofInt_nat (k a : Nat) (h : a < 2 ^ k) : (BitVec.ofInt k (a : Int)).toNat = a := by
  rw [BitVec.ofInt_natCast, BitVec.toNat_ofNat]; exact Nat.mod_eq_of_lt h
theorem wrap_u32 (n : Int) : IntKind.u32.wrap n = n % 4294967296 := by simp [IntKind.wrap, IntKind.bits, IntKind.signed]

theorem or64 (a b : Nat) (ha : a < 2 ^ 64) (hb : b < 2 ^ 64) : bits .or .u64 (a : Int) (b : Int) = ((a ||| b : Nat) : Int) := by
  have h := Nat.or_lt_two_pow ha hb
  show IntKind.u64.wrap ((BitVec.ofInt 64 (a : Int) ||| BitVec.ofInt 64 (b : Int)).toNat : Int) = _
  rw [BitVec.toNat_or, ofInt_nat 64 a ha, ofInt_nat 64 b hb, IntKind.wrap_u64]
  omega
theorem and64 (a b : Nat) (ha : a < 2 ^ 64) (hb : b < 2 ^ 64) : bits .and .u64 (a : Int) (b : Int) = ((a &&& b : Nat) : Int) := by
  have h : a &&& b < 2 ^ 64 := Nat.and_lt_two_pow a hb
  show IntKind.u64.wrap ((BitVec.ofInt 64 (a : Int) &&& BitVec.ofInt 64 (b : Int)).toNat : Int) = _
  rw [BitVec.toNat_and, ofInt_nat 64 a ha, ofInt_nat 64 b hb, IntKind.wrap_u64]
  omega
theorem or32 (a b : Nat) (ha : a < 2 ^ 32) (hb : b < 2 ^ 32) : bits .or .u32 (a : Int) (b : Int) = ((a ||| b : Nat) : Int) := by
  have h := Nat.or_lt_two_pow ha hb
  show IntKind.u32.wrap ((BitVec.ofInt 32 (a : Int) ||| BitVec.ofInt 32 (b : Int)).toNat : Int) = _
  rw [BitVec.toNat_or, ofInt_nat 32 a ha, ofInt_nat 32 b hb, wrap_u32]
  omega
theorem andNot32 (a b : Nat) (ha : a < 2 ^ 32) (hb : b < 2 ^ 32) : bits .andNot .u32 (a : Int) (b : Int) = ((a &&& (2 ^ 32 - 1 - b) : Nat) : Int) := by
  have h : a &&& (2 ^ 32 - 1 - b) < 2 ^ 32 := Nat.and_lt_two_pow a (by omega)
  show IntKind.u32.wrap ((BitVec.ofInt 32 (a : Int) &&& ~~~ BitVec.ofInt 32 (b : Int)).toNat : Int) = _
  rw [BitVec.toNat_and, BitVec.toNat_not, ofInt_nat 32 a ha, ofInt_nat 32 b hb, wrap_u32]
  omega

/-- Two words, the greater one shifted up. -/
theorem or_words (n x : Int) (n0 : 0 ≤ n) (n1 : n < 4294967296) (x0 : 0 ≤ x) (x1 : x < 4294967296) : bits .or .u64 (n * 4294967296) x = n * 4294967296 + x := by
  obtain ⟨p, rfl⟩ := Int.eq_ofNat_of_zero_le n0
  obtain ⟨q, rfl⟩ := Int.eq_ofNat_of_zero_le x0
  have e : ((p : Int) * 4294967296) = ((p * 4294967296 : Nat) : Int) := by simp
  rw [e, or64 _ _ (by omega) (by omega)]
  have h := Nat.shiftLeft_add_eq_or_of_lt (show q < 2 ^ 32 by omega) p
  rw [Nat.shiftLeft_eq] at h
  have h2 : p * 4294967296 ||| q = p * 4294967296 + q := h.symm
  rw [h2]; simp

end Go.Proofs.YtgipkpkjoicehabDoor.words

/- What is made of each word, the greatest first. -/
namespace Go.Proofs.YtgipkpkjoicehabDoor.words
open Go.RowKit

/-- What is made of each word, the greatest first, while the number at B goes from v0 to v1, v2 and v3. -/
theorem downward_any (K : Nat) (caps : Array Value) (B : Nat) (v0 v1 v2 v3 : Value) (x0 x1 x2 y0 y1 y2 : Int) (w : World) (h : Acc w w B v0) (hK : ∀ args w, (callFunc K args).run Tryd.prog w = .ok (.enter K args) w)
    (s0 : ∀ w', Acc w w' B v0 → Calls Tryd.prog K (#[.int .u32 x2] ++ caps) w' fun e w'' => e = .returned (.int .u32 y2) ∧ Acc w' w'' B v1)
    (s1 : ∀ w', Acc w w' B v1 → Calls Tryd.prog K (#[.int .u32 x1] ++ caps) w' fun e w'' => e = .returned (.int .u32 y1) ∧ Acc w' w'' B v2)
    (s2 : ∀ w', Acc w w' B v2 → Calls Tryd.prog K (#[.int .u32 x0] ++ caps) w' fun e w'' => e = .returned (.int .u32 y0) ∧ Acc w' w'' B v3) :
    Calls Tryd.prog 65 #[.agg #[.int .u32 x0, .int .u32 x1, .int .u32 x2], .func (.func K) #[] caps] w fun e w' => e = .returned (.agg #[.int .u32 y0, .int .u32 y1, .int .u32 y2]) ∧ Acc w w' B v3 := by
  have HS0 : Hid (∀ w', Acc w w' B v0 → Calls Tryd.prog K (#[.int .u32 x2] ++ caps) w' fun e w'' => e = .returned (.int .u32 y2) ∧ Acc w' w'' B v1) := s0
  have HS1 : Hid (∀ w', Acc w w' B v1 → Calls Tryd.prog K (#[.int .u32 x1] ++ caps) w' fun e w'' => e = .returned (.int .u32 y1) ∧ Acc w' w'' B v2) := s1
  have HS2 : Hid (∀ w', Acc w w' B v2 → Calls Tryd.prog K (#[.int .u32 x0] ++ caps) w' fun e w'' => e = .returned (.int .u32 y0) ∧ Acc w' w'' B v3) := s2
  have HA : Hid (Acc w w B v0) := h
  clear s0 s1 s2 h
  go_enter Tryd.func65, Tryd.ntmps65
  go_wp2_with fail
  refine wp_loop_rounds 4 ?_
  rw [rounds_succ]
  go_wp2_with fail
  refine (HS0.out _ ((HA.out.alloc _).alloc _)).mono ?_
  rintro e w1 ⟨rfl, h1⟩
  have hB := HA.out.old
  have T1 : Trio w1 w.heap.size (.int .u32 x0) (.int .u32 x1) (.int .u32 x2) := (trio_a _ _ _ _ _).acc h1 (by omega)
  have R1 : Trio w1 (w.heap.size + 1) (.int .u32 0) (.int .u32 0) (.int .u32 0) := (trio_b _ _ _ _ _).acc h1 (by omega)
  have A1 := ((HA.out.alloc _).alloc _).trans h1
  have c2 := T1.c2
  have f2 := T1.free 2
  have T1' := T1.set2 (.int .u32 y2)
  have d1 := T1'.c1
  have HT : Hid (Trio (w1.setCell ⟨w.heap.size, 2, none⟩ (.int .u32 y2)) w.heap.size (.int .u32 x0) (.int .u32 x1) (.int .u32 y2)) := T1'
  have HR : Hid (Trio (w1.setCell ⟨w.heap.size, 2, none⟩ (.int .u32 y2)) (w.heap.size + 1) (.int .u32 0) (.int .u32 0) (.int .u32 0)) := R1.other _ _ (by omega)
  have HA1 : Hid (Acc w (w1.setCell ⟨w.heap.size, 2, none⟩ (.int .u32 y2)) B v1) := A1.setNew _ _ _ (Nat.le_refl _)
  clear h1 T1 R1 A1 T1' HA HS0
  go_wp2_with fail
  rw [rounds_succ]
  go_wp2_with fail
  refine (HS1.out _ HA1.out).mono ?_
  rintro e w2 ⟨rfl, h2⟩
  have T2 := HT.out.acc h2 (by omega)
  have R2 := HR.out.acc h2 (by omega)
  have A2 := HA1.out.trans h2
  clear c2 f2 d1 HT HR HA1 HS1 h2
  have c1 := T2.c1
  have f1 := T2.free 1
  have T2' := T2.set1 (.int .u32 y1)
  have d2 := T2'.c0
  have HT : Hid (Trio (w2.setCell ⟨w.heap.size, 1, none⟩ (.int .u32 y1)) w.heap.size (.int .u32 x0) (.int .u32 y1) (.int .u32 y2)) := T2'
  have HR : Hid (Trio (w2.setCell ⟨w.heap.size, 1, none⟩ (.int .u32 y1)) (w.heap.size + 1) (.int .u32 0) (.int .u32 0) (.int .u32 0)) := R2.other _ _ (by omega)
  have HA2 : Hid (Acc w (w2.setCell ⟨w.heap.size, 1, none⟩ (.int .u32 y1)) B v2) := A2.setNew _ _ _ (Nat.le_refl _)
  clear T2 R2 A2 T2'
  go_wp2_with fail
  rw [rounds_succ]
  go_wp2_with fail
  refine (HS2.out _ HA2.out).mono ?_
  rintro e w3 ⟨rfl, h3⟩
  have T3 := HT.out.acc h3 (by omega)
  have R3 := HR.out.acc h3 (by omega)
  have A3 := HA2.out.trans h3
  clear c1 f1 d2 HT HR HA2 HS2 h3
  have c0 := T3.c0
  have f0 := T3.free 0
  have T3' := T3.set0 (.int .u32 y0)
  have R3' := R3.other (G' := w.heap.size) 0 (.int .u32 y0) (by omega)
  have e0 := T3'.c0
  have e1 := T3'.c1
  have e2 := T3'.c2
  have r0 := R3'.c0
  have r1 := R3'.c1
  have r2 := R3'.c2
  have g0 := R3'.free 0
  have g1 := R3'.free 1
  have g2 := R3'.free 2
  have HR3 : Hid (Trio (w3.setCell ⟨w.heap.size, 0, none⟩ (.int .u32 y0)) (w.heap.size + 1) (.int .u32 0) (.int .u32 0) (.int .u32 0)) := R3'
  have HA3 : Hid (Acc w (w3.setCell ⟨w.heap.size, 0, none⟩ (.int .u32 y0)) B v3) := A3.setNew _ _ _ (Nat.le_refl _)
  clear T3 R3 A3 T3' R3'
  go_wp2_with fail
  rw [rounds_succ]
  go_wp2_with fail
  have RR := ((HR3.out.set0 (.int .u32 y0)).set1 (.int .u32 y1)).set2 (.int .u32 y2)
  have AA := ((HA3.out.setNew (w.heap.size + 1) 0 (.int .u32 y0) (by omega)).setNew (w.heap.size + 1) 1 (.int .u32 y1) (by omega)).setNew (w.heap.size + 1) 2 (.int .u32 y2) (by omega)
  refine bodyPost_ret (v := .agg #[.int .u32 y0, .int .u32 y1, .int .u32 y2]) (by simp [results, Tryd.results65, RR.c0, RR.c1, RR.c2, go_sem]) rfl ⟨rfl, AA⟩

end Go.Proofs.YtgipkpkjoicehabDoor.words

/- What words.Over gives back. -/
namespace Go.Proofs.YtgipkpkjoicehabDoor.words
open Go.RowKit

/-- A number's word, carried on by Over. -/
theorem overStep_any (B M : Nat) (n x d : Int) (w : World) (hc : w.cell? ⟨B, 0, none⟩ = some (.int .u64 n)) (hf : w.frozen? ⟨B, 0, none⟩ = false) (hm : w.cell? ⟨M, 0, none⟩ = some (.int .u32 d)) (hBM : M ≠ B) (n0 : 0 ≤ n) (n1 : n < d) (x0 : 0 ≤ x) (x1 : x < 4294967296) (d0 : 0 < d) (d1 : d < 4294967296) :
    Calls Tryd.prog 66 #[.int .u32 x, .pointer (some ⟨B, 0, none⟩), .pointer (some ⟨M, 0, none⟩)] w fun e w' => e = .returned (.int .u32 ((n * 4294967296 + x) / d)) ∧ Acc w w' B (.int .u64 ((n * 4294967296 + x) % d)) := by
  have hA : Acc w w B (.int .u64 n) := Acc.refl hc hf
  have HA : Hid (Acc w w B (.int .u64 n)) := hA
  have hor := or_words n x n0 (by omega) x0 x1
  have q := word_div d0 n0 n1 x0 x1
  obtain ⟨q0, q1⟩ := q
  have r0 : 0 ≤ (n * 4294967296 + x) % d := Int.emod_nonneg _ (by omega)
  have r1 : (n * 4294967296 + x) % d < d := Int.emod_lt_of_pos _ d0
  clear hA
  go_enter Tryd.func66, Tryd.ntmps66
  go_wp2_with fail
  go_ret
  exact ⟨rfl, HA.out.set _⟩

theorem trio_e (w : World) (o1 o2 : Obj) (x y z : Value) : Trio (((w.alloc o1).alloc o2).alloc (.cells #[x, y, z] 77)) (w.heap.size + 1 + 1) x y z := by
  show (((w.heap.push o1).push o2).push _)[w.heap.size + 1 + 1]? = _
  have : w.heap.size + 1 + 1 = ((w.heap.push o1).push o2).size := by simp
  rw [this, Array.getElem?_push_size]

theorem run_overStep (args : Array Value) (w : World) : (callFunc 66 args).run Tryd.prog w = .ok (.enter 66 args) w := by kernel_rfl

theorem over_zero (x : W3) (w : World) :
    Calls Tryd.prog 42 #[wv x, .int .u32 0] w fun e w' => e = .returned (.tuple #[wv ⟨0, 0, 0⟩, .int .u32 0, .int .i64 4]) ∧ Below w.heap.size w w' := by
  obtain ⟨x0, x1, x2⟩ := x
  have hb := bel3 w (.cells #[.int .u32 x0, .int .u32 x1, .int .u32 x2] 77) (.cells #[.int .u32 0] 60) (.cells #[.int .u32 0, .int .u32 0, .int .u32 0] 77)
  have HB : Hid (Below w.heap.size w (((w.alloc (.cells #[.int .u32 x0, .int .u32 x1, .int .u32 x2] 77)).alloc (.cells #[.int .u32 0] 60)).alloc (.cells #[.int .u32 0, .int .u32 0, .int .u32 0] 77))) := hb
  clear hb
  go_enter Tryd.func42, Tryd.ntmps42
  go_wp2_with fail
  have RR := trio_e w (.cells #[.int .u32 x0, .int .u32 x1, .int .u32 x2] 77) (.cells #[.int .u32 0] 60) (.int .u32 0) (.int .u32 0) (.int .u32 0)
  refine bodyPost_ret (v := .tuple #[.agg #[.int .u32 0, .int .u32 0, .int .u32 0], .int .u32 0, .int .i64 4]) (by simp [results, Tryd.results42, RR.c0, RR.c1, RR.c2, go_sem]) rfl ⟨rfl, HB.out⟩

set_option maxHeartbeats 1000000 in
theorem over_any (x : W3) (d : Int) (w : World) (hx : x.ok) (d0 : 0 < d) (d1 : d < 4294967296) :
    Calls Tryd.prog 42 #[wv x, .int .u32 d] w fun e w' => e = .returned (.tuple #[wv (overW x d), .int .u32 (overR x d), .int .i64 0]) ∧ Below w.heap.size w w' := by
  obtain ⟨x0, x1, x2⟩ := x
  obtain ⟨⟨h0, h0'⟩, ⟨h1, h1'⟩, h2, h2'⟩ := hx
  simp only at h0 h0' h1 h1' h2 h2'
  have hd0 : (d == 0) = false := by simp; omega
  go_enter Tryd.func42, Tryd.ntmps42
  go_wp2_with fail
  have hc := trio_d w #[.int .u32 x0, .int .u32 x1, .int .u32 x2] (.int .u32 d) 60 (.int .u32 0) (.int .u32 0) (.int .u32 0) (.int .u64 0) 32
  have hb3 := bel4 w (.cells #[.int .u32 x0, .int .u32 x1, .int .u32 x2] 77) (.cells #[.int .u32 d] 60) (.cells #[.int .u32 0, .int .u32 0, .int .u32 0] 77) (.cells #[.int .u64 0] 32)
  have e0 : (0 : Int) * 4294967296 + x2 = x2 := by omega
  have r2 : 0 ≤ x2 % d := Int.emod_nonneg _ (by omega)
  have r2' : x2 % d < d := Int.emod_lt_of_pos _ d0
  have r1 : 0 ≤ ((x2 % d) * 4294967296 + x1) % d := Int.emod_nonneg _ (by omega)
  have r1' : ((x2 % d) * 4294967296 + x1) % d < d := Int.emod_lt_of_pos _ d0
  refine (downward_any 66 #[.pointer (some ⟨w.heap.size + 1 + 1 + 1, 0, none⟩), .pointer (some ⟨w.heap.size + 1, 0, none⟩)] (w.heap.size + 1 + 1 + 1) (.int .u64 0) (.int .u64 (x2 % d)) (.int .u64 (((x2 % d) * 4294967296 + x1) % d)) (.int .u64 (((((x2 % d) * 4294967296 + x1) % d) * 4294967296 + x0) % d)) x0 x1 x2
    (((((x2 % d) * 4294967296 + x1) % d) * 4294967296 + x0) / d) (((x2 % d) * 4294967296 + x1) / d) (x2 / d) _ (Acc.refl hc.1 hc.2.1) run_overStep
    (fun w' h => by have := overStep_any (w.heap.size + 1 + 1 + 1) (w.heap.size + 1) 0 x2 d w' h.cell h.free (h.keep hc.2.2.2 (by omega)) (by omega) (by omega) (by omega) h2 h2' d0 d1; rw [e0] at this; exact this)
    (fun w' h => overStep_any _ _ _ _ _ w' h.cell h.free (h.keep hc.2.2.2 (by omega)) (by omega) r2 r2' h1 h1' d0 d1)
    (fun w' h => overStep_any _ _ _ _ _ w' h.cell h.free (h.keep hc.2.2.2 (by omega)) (by omega) r1 r1' h0 h0' d0 d1)).mono ?_
  rintro e w1 ⟨he, hA⟩
  have hR : Trio w1 (w.heap.size + 1 + 1) (.int .u32 0) (.int .u32 0) (.int .u32 0) := hc.2.2.1.acc hA (by omega)
  have HB : Hid (Below w.heap.size w w1) := hA.below hb3 (by omega)
  have hcell := hA.cell
  have hsz : w.heap.size + 1 + 1 + 1 < w1.heap.size := Nat.lt_of_lt_of_le hA.old hA.size
  have z0 : 0 ≤ ((((x2 % d) * 4294967296 + x1) % d) * 4294967296 + x0) % d := Int.emod_nonneg _ (by omega)
  have z1 : ((((x2 % d) * 4294967296 + x1) % d) * 4294967296 + x0) % d < d := Int.emod_lt_of_pos _ d0
  have HE : Hid (Ending.returned (.tuple #[wv (overW ⟨x0, x1, x2⟩ d), .int .u32 (overR ⟨x0, x1, x2⟩ d), .int .i64 0]) = Ending.returned (.tuple #[.agg #[.int .u32 (((((x2 % d) * 4294967296 + x1) % d) * 4294967296 + x0) / d), .int .u32 (((x2 % d) * 4294967296 + x1) / d), .int .u32 (x2 / d)], .int .u32 (((((x2 % d) * 4294967296 + x1) % d) * 4294967296 + x0) % d), .int .i64 0])) := by
    have : Ending.returned (.tuple #[wv (overW ⟨x0, x1, x2⟩ d), .int .u32 (overR ⟨x0, x1, x2⟩ d), .int .i64 0]) = Ending.returned (.tuple #[.agg #[.int .u32 (((((x2 % d) * 4294967296 + x1) % d) * 4294967296 + x0) / d), .int .u32 (((x2 % d) * 4294967296 + x1) / d), .int .u32 (x2 / d)], .int .u32 (((((x2 % d) * 4294967296 + x1) % d) * 4294967296 + x0) % d), .int .i64 0]) := rfl
    exact this
  clear hA hc hb3 e0 r1 r1' r2 r2'
  have HE2 : Hid (e = .returned (.agg #[.int .u32 (((((x2 % d) * 4294967296 + x1) % d) * 4294967296 + x0) / d), .int .u32 (((x2 % d) * 4294967296 + x1) / d), .int .u32 (x2 / d)])) := he
  clear he
  generalize hz : ((((x2 % d) * 4294967296 + x1) % d) * 4294967296 + x0) % d = z at hcell z0 z1 HE HE2
  generalize hy0 : ((((x2 % d) * 4294967296 + x1) % d) * 4294967296 + x0) / d = y0 at HE HE2
  generalize hy1 : ((x2 % d) * 4294967296 + x1) / d = y1 at HE HE2
  generalize hy2 : x2 / d = y2 at HE HE2
  clear hz hy0 hy1 hy2
  obtain rfl := HE2.out
  clear HE2
  have hR := hR.alloc (.cells #[.int .u32 y0, .int .u32 y1, .int .u32 y2] 77)
  have r0 := hR.c0
  have r1 := hR.c1
  have r2 := hR.c2
  have g0 := hR.free 0
  have g1 := hR.free 1
  have g2 := hR.free 2
  have HR : Hid (Trio (w1.alloc (.cells #[.int .u32 y0, .int .u32 y1, .int .u32 y2] 77)) (w.heap.size + 1 + 1) (.int .u32 0) (.int .u32 0) (.int .u32 0)) := hR
  clear hR
  go_wp2_with fail
  go_region
  all_goals go_wp2_with fail
  have RR := ((HR.out.set0 (.int .u32 y0)).set1 (.int .u32 y1)).set2 (.int .u32 y2)
  refine bodyPost_ret (v := .tuple #[.agg #[.int .u32 y0, .int .u32 y1, .int .u32 y2], .int .u32 z, .int .i64 0]) (by simp [results, Tryd.results42, RR.c0, RR.c1, RR.c2, go_sem]) rfl ⟨HE.out.symm, ?_⟩
  exact below_put (HB.out.alloc HB.out.size _) _ _ _ _ _ _ _ (by omega)

end Go.Proofs.YtgipkpkjoicehabDoor.words

/- Blocks of memory: an iterator over a text; three cells that are stored. -/
namespace Go.Proofs.YtgipkpkjoicehabDoor
open Go.RowKit

/-- The iterator I of the text s stands at k. -/
def It (w : World) (I : Nat) (s : ByteArray) (k : Nat) : Prop := w.heap[I]? = some (.stringIter s k)
theorem It.lt {w : World} {I : Nat} {s : ByteArray} {k : Nat} (h : It w I s k) : I < w.heap.size := by
  unfold It at h
  by_cases hh : I < w.heap.size
  · exact hh
  · rw [Array.getElem?_eq_none (by omega)] at h; cases h
theorem It.next {w w' : World} {I : Nat} {s : ByteArray} {k : Nat} (h : It w I s k) (hb : Below w.heap.size w w') : It w' I s k := by
  have hl := h.lt
  unfold It at *
  rw [hb.block I hl]; exact h
theorem It.set {w : World} {I G : Nat} {s : ByteArray} {k : Nat} (h : It w I s k) (i : Nat) (u : Value) (hne : G ≠ I) : It (w.setCell ⟨G, i, none⟩ u) I s k := by
  unfold It at *
  simp only [World.setCell, Array.getElem?_modify]; rw [if_neg hne]; exact h
theorem It.pos {w : World} {I : Nat} {s : ByteArray} {k : Nat} (h : It w I s k) : w.iterPos I = k := by unfold It at h; simp [World.iterPos, h]
theorem Blk.iter {w : World} {G : Nat} {cs : Array Value} {t : TypeId} (h : Blk w G cs t) {I : Nat} (s : ByteArray) (k : Nat) (hne : G ≠ I) : Blk (w.iterAt I s k) G cs t := by
  unfold Blk at *
  rw [Lib.iterAt_other _ _ _ _ _ hne]; exact h

def set3 (w : World) (G : Nat) (a b c : Int) : World := ((w.setCell ⟨G, 0, none⟩ (.int .u32 a)).setCell ⟨G, 1, none⟩ (.int .u32 b)).setCell ⟨G, 2, none⟩ (.int .u32 c)
theorem bel_set3 {B : Nat} {w w' : World} (h : Below B w w') (G : Nat) (a b c : Int) (hG : B ≤ G) : Below B w (set3 w' G a b c) := bel_set (bel_set (bel_set h _ _ _ hG) _ _ _ hG) _ _ _ hG
theorem Blk.put3 {w : World} {G : Nat} {x y z : Value} {t : TypeId} (h : Blk w G #[x, y, z] t) (a b c : Int) : Blk (set3 w G a b c) G #[.int .u32 a, .int .u32 b, .int .u32 c] t := ((h.set 0 _).set 1 _).set 2 _
theorem Blk.off3 {w : World} {G G' : Nat} {cs : Array Value} {t : TypeId} (h : Blk w G cs t) (hne : G' ≠ G) (a b c : Int) : Blk (set3 w G' a b c) G cs t := ((h.other _ _ hne).other _ _ hne).other _ _ hne
theorem It.off3 {w : World} {I G : Nat} {s : ByteArray} {k : Nat} (h : It w I s k) (hne : G ≠ I) (a b c : Int) : It (set3 w G a b c) I s k := ((h.set _ _ hne).set _ _ hne).set _ _ hne

end Go.Proofs.YtgipkpkjoicehabDoor

/- What words.shift, words.ones and words.isField give back. -/
namespace Go.Proofs.YtgipkpkjoicehabDoor.words
open Go.RowKit

theorem pow_min {j : Nat} (hj : ¬ j ≤ 64) : ∃ d, 2 ^ j = 2 ^ 64 * 2 ^ d := ⟨j - 64, by rw [← Nat.pow_add]; congr 1; omega⟩

theorem sh_down (v j : Nat) (hj : 0 < j) (hv : v < 2 ^ 64) : ((sh v (-(j : Int)) : Nat) : Int) = (v : Int) / 2 ^ min j 64 := by
  unfold sh
  rw [if_pos (by omega), show (-(-(j : Int))).toNat = j by omega]
  by_cases h : j ≤ 64
  · rw [Nat.min_eq_left h]; simp
  · rw [Nat.min_eq_right (by omega)]
    have h1 : v / 2 ^ j = 0 := Nat.div_eq_of_lt (Nat.lt_of_lt_of_le hv (Nat.pow_le_pow_right (by decide) (by omega)))
    rw [h1]
    omega
theorem sh_up (v : Nat) (k : Int) (hk : 0 ≤ k) : ((sh v k : Nat) : Int) = IntKind.u64.wrap ((v : Int) * 2 ^ min k.toNat 64) := by
  unfold sh
  rw [if_neg (by omega), IntKind.wrap_u64]
  by_cases h : k.toNat ≤ 64
  · rw [Nat.min_eq_left h]; simp
  · rw [Nat.min_eq_right (by omega)]
    obtain ⟨d, hd⟩ := pow_min h
    rw [hd, Nat.mul_left_comm, Nat.mul_mod_right]
    omega

theorem ones_shift (n : Nat) (h0 : 1 ≤ n) (h1 : n ≤ 64) : ((onesN n : Nat) : Int) = 18446744073709551615 / 2 ^ (64 - n) := by
  have e : (18446744073709551615 : Int) / 2 ^ (64 - n) = ((18446744073709551615 / 2 ^ (64 - n) : Nat) : Int) := by simp
  rw [e]
  congr 1
  unfold onesN
  have hp : 2 ^ 64 = 2 ^ n * 2 ^ (64 - n) := by rw [← Nat.pow_add]; congr 1; omega
  have h2 : 0 < 2 ^ (64 - n) := Nat.two_pow_pos _
  have h3 : 0 < 2 ^ n := Nat.two_pow_pos _
  symm
  apply Nat.div_eq_of_lt_le
  · have : (2 ^ n - 1) * 2 ^ (64 - n) = 2 ^ 64 - 2 ^ (64 - n) := by rw [hp, Nat.sub_mul, Nat.one_mul]
    omega
  · have : (2 ^ n - 1 + 1) * 2 ^ (64 - n) = 2 ^ 64 := by rw [hp, Nat.sub_add_cancel h3]
    omega

theorem shift_any (v : Nat) (k : Int) (w : World) (hv : v < 2 ^ 64) (k0 : -96 ≤ k) (k1 : k ≤ 96) :
    Calls Tryd.prog 71 #[.int .u64 (v : Int), .int .i64 k] w fun e w' => e = .returned (.int .u64 (sh v k : Nat)) ∧ w' = w := by
  by_cases h : k < 0
  · obtain ⟨j, rfl⟩ : ∃ j : Nat, k = -(j : Int) := ⟨(-k).toNat, by omega⟩
    have hj : 0 < j := by omega
    have e := sh_down v j hj hv
    have e2 : -(-(j : Int)) = (j : Int) := by omega
    rw [e]
    clear e
    go_enter Tryd.func71, Tryd.ntmps71
    go_wp2
    go_ret
    exact ⟨rfl, rfl⟩
  · have e := sh_up v k (by omega)
    rw [e]
    clear e
    go_enter Tryd.func71, Tryd.ntmps71
    go_wp2
    go_ret
    exact ⟨rfl, rfl⟩

theorem ones_any (n : Nat) (w : World) (h0 : 1 ≤ n) (h1 : n ≤ 64) :
    Calls Tryd.prog 72 #[.int .i64 (n : Int)] w fun e w' => e = .returned (.int .u64 (onesN n : Nat)) ∧ w' = w := by
  rw [ones_shift n h0 h1]
  go_enter Tryd.func72, Tryd.ntmps72
  go_wp2
  go_ret
  exact ⟨rfl, rfl⟩

theorem isField_yes (lo n : Int) (w : World) (h0 : 0 ≤ lo) (h1 : 1 ≤ n) (h2 : n ≤ 64) (h3 : lo ≤ 96 - n) :
    Calls Tryd.prog 70 #[.int .i64 lo, .int .i64 n] w fun e w' => e = .returned (.bool true) ∧ w' = w := by
  go_enter Tryd.func70, Tryd.ntmps70
  go_wp2
  go_ret
  exact ⟨rfl, rfl⟩

end Go.Proofs.YtgipkpkjoicehabDoor.words

/- What words.Bits gives back. -/
namespace Go.Proofs.YtgipkpkjoicehabDoor.words
open Go.RowKit

theorem sh_lt (v : Nat) (k : Int) (hv : v < 2 ^ 64) : sh v k < 2 ^ 64 := by
  unfold sh
  split
  · exact Nat.lt_of_le_of_lt (Nat.div_le_self _ _) hv
  · exact Nat.mod_lt _ (by decide)

theorem ones_lt (n : Nat) (h : n ≤ 64) : onesN n < 2 ^ 64 := by
  unfold onesN
  have := Nat.pow_le_pow_right (show 0 < 2 by decide) h
  have h2 : 0 < 2 ^ n := Nat.two_pow_pos _
  omega

theorem idx0 (x y z : Int) (w : World) : (Instr.index 77 (.agg #[.int .u32 x, .int .u32 y, .int .u32 z]) (.int .i64 0)).run Tryd.prog w = .ok (.int .u32 x) w := by kernel_rfl
theorem idx1 (x y z : Int) (w : World) : (Instr.index 77 (.agg #[.int .u32 x, .int .u32 y, .int .u32 z]) (.int .i64 1)).run Tryd.prog w = .ok (.int .u32 y) w := by kernel_rfl
theorem idx2 (x y z : Int) (w : World) : (Instr.index 77 (.agg #[.int .u32 x, .int .u32 y, .int .u32 z]) (.int .i64 2)).run Tryd.prog w = .ok (.int .u32 z) w := by kernel_rfl

set_option maxHeartbeats 1000000 in
theorem bits_any (a b c lo n : Nat) (w : World) (ha : a < 2 ^ 32) (hb : b < 2 ^ 32) (hc : c < 2 ^ 32) (n0 : 1 ≤ n) (n1 : n ≤ 64) (hl : lo + n ≤ 96) :
    Calls Tryd.prog 47 #[.agg #[.int .u32 (a : Int), .int .u32 (b : Int), .int .u32 (c : Int)], .int .i64 (lo : Int), .int .i64 (n : Int)] w fun e w' => e = .returned (.tuple #[.int .u64 (bitsN a b c lo n : Nat), .int .i64 0]) ∧ Below w.heap.size w w' := by
  have a1 : (a : Int) < 4294967296 := by omega
  have b1 : (b : Int) < 4294967296 := by omega
  have c1 : (c : Int) < 4294967296 := by omega
  have HB : Hid (Below w.heap.size w (w.alloc (.cells #[.int .u32 (a : Int), .int .u32 (b : Int), .int .u32 (c : Int)] 77))) := (Below.refl _ w).alloc (Nat.le_refl _) _
  have hE : bitsN a b c lo n = (sh a (-(lo : Int)) ||| sh b (32 - (lo : Int)) ||| sh c (64 - (lo : Int))) &&& onesN n := by unfold bitsN; rw [Int.zero_sub]
  have HE : Hid (bitsN a b c lo n = (sh a (-(lo : Int)) ||| sh b (32 - (lo : Int)) ||| sh c (64 - (lo : Int))) &&& onesN n) := hE
  clear hE
  have i0 := idx0 (a : Int) (b : Int) (c : Int)
  have i1 := idx1 (a : Int) (b : Int) (c : Int)
  have i2 := idx2 (a : Int) (b : Int) (c : Int)
  go_enter Tryd.func47, Tryd.ntmps47
  go_wp2_with fail
  refine (isField_yes _ _ _ (by omega) (by omega) (by omega) (by omega)).mono ?_
  rintro e wr ⟨rfl, rfl⟩
  go_wp2_with fail
  refine wp_loop_rounds 4 ?_
  rw [rounds_succ]
  go_wp2_with fail
  refine (shift_any a _ _ (by omega) (by omega) (by omega)).mono ?_
  rintro e wr ⟨rfl, rfl⟩
  have o1 : bits .or .u64 0 ((sh a (-(lo : Int)) : Nat) : Int) = ((sh a (-(lo : Int)) : Nat) : Int) := by
    have := or64 0 (sh a (-(lo : Int))) (by decide) (sh_lt _ _ (by omega))
    simpa using this
  have l0 : sh a (-(lo : Int)) < 2 ^ 64 := sh_lt _ _ (by omega)
  generalize sh a (-(lo : Int)) = s0 at *
  go_wp2_with fail
  rw [rounds_succ]
  go_wp2_with fail
  refine (shift_any b _ _ (by omega) (by omega) (by omega)).mono ?_
  rintro e wr ⟨rfl, rfl⟩
  have l1 : sh b (32 - (lo : Int)) < 2 ^ 64 := sh_lt _ _ (by omega)
  have o2 := or64 s0 (sh b (32 - (lo : Int))) l0 l1
  have l01 := Nat.or_lt_two_pow l0 l1
  clear o1
  generalize sh b (32 - (lo : Int)) = s1 at *
  go_wp2_with fail
  rw [rounds_succ]
  go_wp2_with fail
  refine (shift_any c _ _ (by omega) (by omega) (by omega)).mono ?_
  rintro e wr ⟨rfl, rfl⟩
  have l2 : sh c (64 - (lo : Int)) < 2 ^ 64 := sh_lt _ _ (by omega)
  have o3 := or64 (s0 ||| s1) (sh c (64 - (lo : Int))) l01 l2
  have l02 := Nat.or_lt_two_pow l01 l2
  clear o2
  generalize sh c (64 - (lo : Int)) = s2 at *
  go_wp2_with fail
  rw [rounds_succ]
  go_wp2_with fail
  refine (ones_any n _ (by omega) (by omega)).mono ?_
  rintro e wr ⟨rfl, rfl⟩
  have ln : onesN n < 2 ^ 64 := ones_lt n (by omega)
  have o4 := and64 (s0 ||| s1 ||| s2) (onesN n) l02 ln
  clear o3
  go_wp2_with fail
  go_ret2
  exact ⟨by rw [HE.out]; rfl, HB.out⟩

end Go.Proofs.YtgipkpkjoicehabDoor.words

/- What words.Put gives back. -/
namespace Go.Proofs.YtgipkpkjoicehabDoor.words
open Go.RowKit

theorem run_putStep (args : Array Value) (w : World) : (callFunc 91 args).run Tryd.prog w = .ok (.enter 91 args) w := by kernel_rfl

theorem low32 (s : Nat) : ((s : Nat) : Int) % 4294967296 = ((s % 2 ^ 32 : Nat) : Int) := by omega

theorem putStep_abs (N At V : Nat) (x v n k M s r f g z y : Int) (w : World) (hn : w.cell? ⟨N, 0, none⟩ = some (.int .i64 n)) (hat : w.cell? ⟨At, 0, none⟩ = some (.int .i64 k)) (hf : w.frozen? ⟨At, 0, none⟩ = false) (hv : w.cell? ⟨V, 0, none⟩ = some (.int .u64 v))
    (HO : Hid (∀ w, Calls Tryd.prog 72 #[.int .i64 n] w fun e w' => e = .returned (.int .u64 M) ∧ w' = w))
    (HS : Hid (∀ w, Calls Tryd.prog 71 #[.int .u64 M, .int .i64 k] w fun e w' => e = .returned (.int .u64 s) ∧ w' = w))
    (HT : Hid (∀ w, Calls Tryd.prog 71 #[.int .u64 v, .int .i64 k] w fun e w' => e = .returned (.int .u64 r) ∧ w' = w))
    (q1 : s % 4294967296 = f) (q2 : r % 4294967296 = g) (o1 : bits .andNot .u32 x f = z) (o2 : bits .or .u32 z g = y) (k0 : -64 ≤ k) (k1 : k ≤ 96) :
    Calls Tryd.prog 91 #[.int .u32 x, .pointer (some ⟨N, 0, none⟩), .pointer (some ⟨At, 0, none⟩), .pointer (some ⟨V, 0, none⟩)] w fun e w' => e = .returned (.int .u32 y) ∧ Acc w w' At (.int .i64 (k - 32)) := by
  have hA : Acc w w At (.int .i64 k) := Acc.refl hat hf
  have HA : Hid (Acc w w At (.int .i64 k)) := hA
  clear hA
  go_enter Tryd.func91, Tryd.ntmps91
  go_wp2_with fail
  go_quiet (first
    | (go_at_call 72; exact (HO.out _).mono fun _ _ h => ⟨h.1, _, h.2⟩)
    | (go_at_call_of 71 (Value.int .u64 M); exact (HS.out _).mono fun _ _ h => ⟨h.1, _, h.2⟩)
    | (go_at_call_of 71 (Value.int .u64 v); exact (HT.out _).mono fun _ _ h => ⟨h.1, _, h.2⟩))
  go_wp2_with fail
  go_ret
  exact ⟨rfl, (HA.out.drewN _).set _⟩

theorem putStep_any (N At V : Nat) (x v n : Nat) (k : Int) (w : World) (hn : w.cell? ⟨N, 0, none⟩ = some (.int .i64 (n : Int))) (hat : w.cell? ⟨At, 0, none⟩ = some (.int .i64 k)) (hf : w.frozen? ⟨At, 0, none⟩ = false) (hv : w.cell? ⟨V, 0, none⟩ = some (.int .u64 (v : Int)))
    (x1 : x < 2 ^ 32) (v1 : v < 2 ^ 64) (n0 : 1 ≤ n) (n1 : n ≤ 64) (k0 : -64 ≤ k) (k1 : k ≤ 96) :
    Calls Tryd.prog 91 #[.int .u32 (x : Int), .pointer (some ⟨N, 0, none⟩), .pointer (some ⟨At, 0, none⟩), .pointer (some ⟨V, 0, none⟩)] w fun e w' => e = .returned (.int .u32 (putN x v n k : Nat)) ∧ Acc w w' At (.int .i64 (k - 32)) := by
  have l1 : sh (onesN n) k % 2 ^ 32 < 2 ^ 32 := Nat.mod_lt _ (by decide)
  have l2 : sh v k % 2 ^ 32 < 2 ^ 32 := Nat.mod_lt _ (by decide)
  have l3 : x &&& (2 ^ 32 - 1 - sh (onesN n) k % 2 ^ 32) < 2 ^ 32 := Nat.lt_of_le_of_lt Nat.and_le_left x1
  exact putStep_abs N At V x v n k (onesN n : Nat) (sh (onesN n) k : Nat) (sh v k : Nat) _ _ _ _ w hn hat hf hv
    (fun w => ones_any n w n0 n1) (fun w => shift_any _ _ w (ones_lt n n1) (by omega) k1) (fun w => shift_any _ _ w v1 (by omega) k1)
    (low32 _) (low32 _) (andNot32 x _ x1 l1) (or32 _ _ l3 l2) k0 k1

/-- Five variables of a call, the fourth a wide number. -/
theorem five (w : World) (cs : Array Value) (T1 T2 T3 T5 : TypeId) (m v x y z u : Value) (q : Nat) :
    (((((((w.alloc (.cells cs T1)).alloc (.cells #[m] T2)).alloc (.cells #[v] T3)).alloc (.cells #[x, y, z] 77)).drewN q).alloc (.cells #[u] T5)).cell? ⟨w.heap.size + 1, 0, none⟩ = some m) ∧
    (((((((w.alloc (.cells cs T1)).alloc (.cells #[m] T2)).alloc (.cells #[v] T3)).alloc (.cells #[x, y, z] 77)).drewN q).alloc (.cells #[u] T5)).cell? ⟨w.heap.size + 1 + 1, 0, none⟩ = some v) ∧
    Trio ((((((w.alloc (.cells cs T1)).alloc (.cells #[m] T2)).alloc (.cells #[v] T3)).alloc (.cells #[x, y, z] 77)).drewN q).alloc (.cells #[u] T5)) (w.heap.size + 1 + 1 + 1) x y z ∧
    (((((((w.alloc (.cells cs T1)).alloc (.cells #[m] T2)).alloc (.cells #[v] T3)).alloc (.cells #[x, y, z] 77)).drewN q).alloc (.cells #[u] T5)).cell? ⟨w.heap.size + 1 + 1 + 1 + 1, 0, none⟩ = some u) ∧
    (((((((w.alloc (.cells cs T1)).alloc (.cells #[m] T2)).alloc (.cells #[v] T3)).alloc (.cells #[x, y, z] 77)).drewN q).alloc (.cells #[u] T5)).frozen? ⟨w.heap.size + 1 + 1 + 1 + 1, 0, none⟩ = false) := by
  have hh : ((((((w.alloc (.cells cs T1)).alloc (.cells #[m] T2)).alloc (.cells #[v] T3)).alloc (.cells #[x, y, z] 77)).drewN q).alloc (.cells #[u] T5)).heap = ((((w.heap.push (.cells cs T1)).push (.cells #[m] T2)).push (.cells #[v] T3)).push (.cells #[x, y, z] 77)).push (.cells #[u] T5) := rfl
  have s1 : w.heap.size + 1 = (w.heap.push (.cells cs T1)).size := by simp
  have s2 : w.heap.size + 1 + 1 = ((w.heap.push (.cells cs T1)).push (.cells #[m] T2)).size := by simp
  have s3 : w.heap.size + 1 + 1 + 1 = (((w.heap.push (.cells cs T1)).push (.cells #[m] T2)).push (.cells #[v] T3)).size := by simp
  have s4 : w.heap.size + 1 + 1 + 1 + 1 = ((((w.heap.push (.cells cs T1)).push (.cells #[m] T2)).push (.cells #[v] T3)).push (.cells #[x, y, z] 77)).size := by simp
  generalize ((((((w.alloc (.cells cs T1)).alloc (.cells #[m] T2)).alloc (.cells #[v] T3)).alloc (.cells #[x, y, z] 77)).drewN q).alloc (.cells #[u] T5)) = W at *
  have e1 : W.heap[w.heap.size + 1]? = some (.cells #[m] T2) := by
    rw [hh, Array.getElem?_push, if_neg (by simp), Array.getElem?_push, if_neg (by simp), Array.getElem?_push, if_neg (by simp), s1, Array.getElem?_push_size]
  have e2 : W.heap[w.heap.size + 1 + 1]? = some (.cells #[v] T3) := by
    rw [hh, Array.getElem?_push, if_neg (by simp), Array.getElem?_push, if_neg (by simp), s2, Array.getElem?_push_size]
  have e3 : W.heap[w.heap.size + 1 + 1 + 1]? = some (.cells #[x, y, z] 77) := by
    rw [hh, Array.getElem?_push, if_neg (by simp), s3, Array.getElem?_push_size]
  have e4 : W.heap[w.heap.size + 1 + 1 + 1 + 1]? = some (.cells #[u] T5) := by
    rw [hh, s4, Array.getElem?_push_size]
  refine ⟨?_, ?_, e3, ?_, ?_⟩
  · simp only [World.cell?, e1]; rfl
  · simp only [World.cell?, e2]; rfl
  · simp only [World.cell?, e4]; rfl
  · simp only [World.frozen?, e4]; rfl

theorem bel5 (w : World) (o1 o2 o3 o4 o5 : Obj) (q : Nat) : Below w.heap.size w (((((w.alloc o1).alloc o2).alloc o3).alloc o4).drewN q |>.alloc o5) :=
  (below_drewN (bel4 w o1 o2 o3 o4) q).alloc (by show _ ≤ ((((w.heap.push o1).push o2).push o3).push o4).size; simp; omega) _

set_option maxHeartbeats 1000000 in
theorem put_any (a b c v lo n : Nat) (w : World) (ha : a < 2 ^ 32) (hb : b < 2 ^ 32) (hc : c < 2 ^ 32) (hv : v < 2 ^ n) (n0 : 1 ≤ n) (n1 : n ≤ 64) (hl : lo + n ≤ 96) :
    Calls Tryd.prog 73 #[.agg #[.int .u32 (a : Int), .int .u32 (b : Int), .int .u32 (c : Int)], .int .i64 (lo : Int), .int .i64 (n : Int), .int .u64 (v : Int)] w fun e w' =>
      e = .returned (.tuple #[.agg #[.int .u32 (putN a v n lo : Nat), .int .u32 (putN b v n ((lo : Int) - 32) : Nat), .int .u32 (putN c v n ((lo : Int) - 64) : Nat)], .int .i64 0]) ∧ Below w.heap.size w w' := by
  have v1 : v < 2 ^ 64 := Nat.lt_of_lt_of_le hv (Nat.pow_le_pow_right (by decide) n1)
  have HI : Hid (∀ w, Calls Tryd.prog 70 #[.int .i64 (lo : Int), .int .i64 (n : Int)] w fun e w' => e = .returned (.bool true) ∧ w' = w) := fun w => isField_yes _ _ w (by omega) (by omega) (by omega) (by omega)
  have HO : Hid (∀ w, Calls Tryd.prog 72 #[.int .i64 (n : Int)] w fun e w' => e = .returned (.int .u64 (onesN n : Nat)) ∧ w' = w) := fun w => ones_any n w n0 n1
  have hd : decide (((onesN n : Nat) : Int) < (v : Int)) = false := decide_eq_false (by unfold onesN; omega)
  have e64 : (lo : Int) - 32 - 32 = (lo : Int) - 64 := by omega
  generalize ((onesN n : Nat) : Int) = M at *
  rw [← e64]
  go_enter Tryd.func73, Tryd.ntmps73
  go_wp2_with fail
  go_quiet (first
    | (go_at_call 70; exact (HI.out _).mono fun _ _ h => ⟨h.1, _, h.2⟩)
    | (go_at_call 72; exact (HO.out _).mono fun _ _ h => ⟨h.1, _, h.2⟩))
  go_wp2_with fail
  obtain ⟨f1, f2, f3, f4, f5⟩ := five w #[.int .u32 (a : Int), .int .u32 (b : Int), .int .u32 (c : Int)] 77 3 32 3 (.int .i64 (n : Int)) (.int .u64 (v : Int)) (.int .u32 0) (.int .u32 0) (.int .u32 0) (.int .i64 (lo : Int)) nq
  have hb5 := bel5 w (.cells #[.int .u32 (a : Int), .int .u32 (b : Int), .int .u32 (c : Int)] 77) (.cells #[.int .i64 (n : Int)] 3) (.cells #[.int .u64 (v : Int)] 32) (.cells #[.int .u32 0, .int .u32 0, .int .u32 0] 77) (.cells #[.int .i64 (lo : Int)] 3) nq
  refine (upward_any 91 #[.pointer (some ⟨w.heap.size + 1, 0, none⟩), .pointer (some ⟨w.heap.size + 1 + 1 + 1 + 1, 0, none⟩), .pointer (some ⟨w.heap.size + 1 + 1, 0, none⟩)] (w.heap.size + 1 + 1 + 1 + 1) (.int .i64 (lo : Int)) (.int .i64 ((lo : Int) - 32)) (.int .i64 ((lo : Int) - 32 - 32)) (.int .i64 ((lo : Int) - 32 - 32 - 32)) a b c
    (putN a v n lo : Nat) (putN b v n ((lo : Int) - 32) : Nat) (putN c v n ((lo : Int) - 32 - 32) : Nat) _ (Acc.refl f4 f5) run_putStep
    (fun w' h => putStep_any _ _ _ _ _ _ _ w' (h.keep f1 (by omega)) h.cell h.free (h.keep f2 (by omega)) ha v1 n0 n1 (by omega) (by omega))
    (fun w' h => putStep_any _ _ _ _ _ _ _ w' (h.keep f1 (by omega)) h.cell h.free (h.keep f2 (by omega)) hb v1 n0 n1 (by omega) (by omega))
    (fun w' h => putStep_any _ _ _ _ _ _ _ w' (h.keep f1 (by omega)) h.cell h.free (h.keep f2 (by omega)) hc v1 n0 n1 (by omega) (by omega))).mono ?_
  rintro e w1 ⟨he, hA⟩
  have hR := f3.acc hA (by omega)
  have HB : Hid (Below w.heap.size w w1) := hA.below hb5 (by omega)
  clear hA f1 f2 f3 f4 f5 hb5
  have HE2 : Hid (e = .returned (.agg #[.int .u32 (putN a v n lo : Nat), .int .u32 (putN b v n ((lo : Int) - 32) : Nat), .int .u32 (putN c v n ((lo : Int) - 32 - 32) : Nat)])) := he
  clear he
  obtain ⟨y0, h0⟩ : ∃ y0 : Int, y0 = (putN a v n lo : Nat) := ⟨_, rfl⟩
  obtain ⟨y1, h1⟩ : ∃ y1 : Int, y1 = (putN b v n ((lo : Int) - 32) : Nat) := ⟨_, rfl⟩
  obtain ⟨y2, h2⟩ : ∃ y2 : Int, y2 = (putN c v n ((lo : Int) - 32 - 32) : Nat) := ⟨_, rfl⟩
  have HH : Hid (y0 = (putN a v n lo : Nat) ∧ y1 = (putN b v n ((lo : Int) - 32) : Nat) ∧ y2 = (putN c v n ((lo : Int) - 32 - 32) : Nat)) := ⟨h0, h1, h2⟩
  rw [← h0, ← h1, ← h2] at HE2
  obtain rfl := HE2.out
  clear HE2 h0 h1 h2
  have r0 := hR.c0
  have r1 := hR.c1
  have r2 := hR.c2
  have g0 := hR.free 0
  have g1 := hR.free 1
  have g2 := hR.free 2
  have HR : Hid (Trio w1 (w.heap.size + 1 + 1 + 1) (.int .u32 0) (.int .u32 0) (.int .u32 0)) := hR
  clear hR
  go_wp2_with fail
  have RR := HR.out.put (.int .u32 y0) (.int .u32 y1) (.int .u32 y2)
  refine bodyPost_ret (v := .tuple #[.agg #[.int .u32 y0, .int .u32 y1, .int .u32 y2], .int .i64 0]) (by simp [results, Tryd.results73, RR.c0, RR.c1, RR.c2, go_sem]) rfl ⟨?_, ?_⟩
  · rw [HH.out.1, HH.out.2.1, HH.out.2.2]
  · exact below_put3 HB.out _ _ _ _ (by omega)

end Go.Proofs.YtgipkpkjoicehabDoor.words

/- Why a token may not be. -/
namespace Go.Proofs.YtgipkpkjoicehabDoor.token
open Go.RowKit

theorem Eight.cell {w : World} {g : Nat} {a0 a1 a2 a3 a4 a5 a6 a7 : Int} (h : Eight w g a0 a1 a2 a3 a4 a5 a6 a7) :
    w.cell? ⟨g, 0, none⟩ = some (.int .i64 a0) ∧ w.cell? ⟨g, 1, none⟩ = some (.int .i64 a1) ∧ w.cell? ⟨g, 2, none⟩ = some (.int .i64 a2) ∧ w.cell? ⟨g, 3, none⟩ = some (.int .i64 a3) ∧
    w.cell? ⟨g, 4, none⟩ = some (.int .i64 a4) ∧ w.cell? ⟨g, 5, none⟩ = some (.int .i64 a5) ∧ w.cell? ⟨g, 6, none⟩ = some (.int .i64 a6) ∧ w.cell? ⟨g, 7, none⟩ = some (.int .i64 a7) := by
  obtain ⟨t, fr, h⟩ := h
  simp [World.cell?, h]

theorem has_any (lo hi n : Int) (w : World) :
    Calls Tryd.prog 67 #[.agg #[.int .i64 lo, .int .i64 hi], .int .i64 n] w fun e w' => e = .returned (.bool (hasI lo hi n)) ∧ Below w.heap.size w w' := by
  have hb : Below w.heap.size w (w.alloc (.cells #[.int .i64 lo, .int .i64 hi] 142)) := (Below.refl _ _).alloc (Nat.le_refl _) _
  by_cases h : lo ≤ n
  · have e : hasI lo hi n = decide (n ≤ hi) := by simp [hasI, h]
    rw [e]
    go_enter Tryd.func67, Tryd.ntmps67
    go_wp2
    go_ret
    exact ⟨rfl, hb⟩
  · have e : hasI lo hi n = false := by simp [hasI, h]
    have h' : n < lo := by omega
    rw [e]
    go_enter Tryd.func67, Tryd.ntmps67
    go_wp2
    go_ret
    exact ⟨rfl, hb⟩

end Go.Proofs.YtgipkpkjoicehabDoor.token

/- A token's fields, packed. -/
namespace Go.Proofs.YtgipkpkjoicehabDoor.token
open Go.Proofs.YtgipkpkjoicehabDoor.words
open Go.RowKit
set_option linter.unusedSimpArgs false

/-- Three words, and the number that they are. -/
structure WN (a b c V : Nat) : Prop where
  a1 : a < 2 ^ 32
  b1 : b < 2 ^ 32
  c1 : c < 2 ^ 32
  val : bigV a b c = V
theorem wn_zero : WN 0 0 0 0 := ⟨by decide, by decide, by decide, rfl⟩

theorem put_wn (a b c v lo n V : Nat) (w : World) (h : WN a b c V) (hv : v < 2 ^ n) (n0 : 1 ≤ n) (n1 : n ≤ 64) (hl : lo + n ≤ 96) (h0 : V / 2 ^ lo % 2 ^ n = 0) :
    Calls Tryd.prog 73 #[.agg #[.int .u32 (a : Int), .int .u32 (b : Int), .int .u32 (c : Int)], .int .i64 (lo : Int), .int .i64 (n : Int), .int .u64 (v : Int)] w fun e w' =>
      ∃ a' b' c' : Nat, e = .returned (.tuple #[.agg #[.int .u32 (a' : Int), .int .u32 (b' : Int), .int .u32 (c' : Int)], .int .i64 0]) ∧ WN a' b' c' (V + v * 2 ^ lo) ∧ Below w.heap.size w w' := by
  refine (put_any a b c v lo n w h.a1 h.b1 h.c1 hv n0 n1 hl).mono ?_
  rintro e w' ⟨he, hb⟩
  refine ⟨_, _, _, he, ⟨put_lt _ _ _ _ h.a1, put_lt _ _ _ _ h.b1, put_lt _ _ _ _ h.c1, ?_⟩, hb⟩
  rw [put_num h.a1 h.b1 h.c1 hv n1 hl (by rw [h.val]; exact h0), h.val]

/-- Where each field lies; its value; what is packed till then. -/
def loP : Nat → Nat
  | 0 => 57
  | 1 => 37
  | 2 => 16
  | _ => 0
def nP : Nat → Nat
  | 0 => 3
  | 1 => 20
  | 2 => 21
  | _ => 16
def vP (k : Tok) : Nat → Nat
  | 0 => k.c
  | 1 => k.i
  | 2 => k.a
  | _ => k.t
def pP (k : Tok) : Nat → Nat
  | 0 => 0
  | 1 => k.c * 144115188075855872
  | 2 => k.c * 144115188075855872 + k.i * 137438953472
  | 3 => k.c * 144115188075855872 + k.i * 137438953472 + k.a * 65536
  | _ => k.num
theorem step_P {k : Tok} (h : k.ok) (j : Nat) (hj : j < 4) : vP k j < 2 ^ nP j ∧ 1 ≤ nP j ∧ nP j ≤ 64 ∧ loP j + nP j ≤ 96 ∧ pP k j / 2 ^ loP j % 2 ^ nP j = 0 ∧ pP k (j + 1) = pP k j + vP k j * 2 ^ loP j ∧ vP k j < 9223372036854775808 := by
  have := h.c3; have := h.i2; have := h.t2; have := h.a2
  match j, hj with
  | 0, _ => exact ⟨by show k.c < 8; omega, by decide, by decide, by decide, by show 0 / _ % _ = 0; simp, by show k.c * 144115188075855872 = 0 + k.c * 144115188075855872; omega, by show k.c < _; omega⟩
  | 1, _ => exact ⟨by show k.i < 1048576; omega, by decide, by decide, by decide, by show k.c * 144115188075855872 / 137438953472 % 1048576 = 0; omega, by show k.c * 144115188075855872 + k.i * 137438953472 = k.c * 144115188075855872 + k.i * 137438953472; rfl, by show k.i < _; omega⟩
  | 2, _ => exact ⟨by show k.a < 2097152; omega, by decide, by decide, by decide, by show (k.c * 144115188075855872 + k.i * 137438953472) / 65536 % 2097152 = 0; omega, by show k.c * 144115188075855872 + k.i * 137438953472 + k.a * 65536 = k.c * 144115188075855872 + k.i * 137438953472 + k.a * 65536; rfl, by show k.a < _; omega⟩
  | 3, _ => exact ⟨by show k.t < 65536; omega, by decide, by decide, by decide, by show (k.c * 144115188075855872 + k.i * 137438953472 + k.a * 65536) / 1 % 65536 = 0; omega, by show k.num = k.c * 144115188075855872 + k.i * 137438953472 + k.a * 65536 + k.t * 1; unfold Tok.num; omega, by show k.t < _; omega⟩

theorem wrap_u (v : Nat) (h : v < 9223372036854775808) : IntKind.u64.wrap (v : Int) = (v : Int) := by rw [IntKind.wrap_u64]; omega

theorem idxP (j : Nat) (hj : j < 4) (w : World) :
    (Instr.index 140 (.agg #[.int .i64 57, .int .i64 3, .int .i64 37, .int .i64 20, .int .i64 16, .int .i64 21, .int .i64 0, .int .i64 16]) (.int .i64 (j : Int))).run Tryd.prog w = .ok (.agg #[.int .i64 (loP j : Int), .int .i64 (nP j : Int)]) w := by
  rcases (by omega : j = 0 ∨ j = 1 ∨ j = 2 ∨ j = 3) with rfl | rfl | rfl | rfl
  · kernel_rfl
  · kernel_rfl
  · kernel_rfl
  · kernel_rfl

/-- While the fields are packed: j of them are. -/
structure Pk (w wr : World) (k : Tok) (j a b c : Nat) : Prop where
  below : Below w.heap.size w wr
  fld : Blk wr (w.heap.size + 1 + 1) #[.int .i64 (k.c : Int), .int .i64 (k.i : Int), .int .i64 (k.a : Int), .int .i64 (k.t : Int)] 91
  res : Blk wr (w.heap.size + 1) #[.int .u32 0, .int .u32 0, .int .u32 0] 77
  num : Blk wr (w.heap.size + 1 + 1 + 1) #[.int .u32 (a : Int), .int .u32 (b : Int), .int .u32 (c : Int)] 77
  wn : WN a b c (pP k j)

theorem Pk.mk3 {w w2 : World} {k : Tok} {j a b c a' b' c' : Nat} (hB : Below w.heap.size w w2) (hF : Blk w2 (w.heap.size + 1 + 1) #[.int .i64 (k.c : Int), .int .i64 (k.i : Int), .int .i64 (k.a : Int), .int .i64 (k.t : Int)] 91) (hR : Blk w2 (w.heap.size + 1) #[.int .u32 0, .int .u32 0, .int .u32 0] 77)
    (hN : Blk w2 (w.heap.size + 1 + 1 + 1) #[.int .u32 (a : Int), .int .u32 (b : Int), .int .u32 (c : Int)] 77) (hwn : WN a' b' c' (pP k j)) :
    Pk w (((w2.setCell ⟨w.heap.size + 1 + 1 + 1, 0, none⟩ (.int .u32 (a' : Int))).setCell ⟨w.heap.size + 1 + 1 + 1, 1, none⟩ (.int .u32 (b' : Int))).setCell ⟨w.heap.size + 1 + 1 + 1, 2, none⟩ (.int .u32 (c' : Int))) k j a' b' c' :=
  ⟨bel_set (bel_set (bel_set hB _ _ _ (by omega)) _ _ _ (by omega)) _ _ _ (by omega), ((hF.other _ _ (by omega)).other _ _ (by omega)).other _ _ (by omega), ((hR.other _ _ (by omega)).other _ _ (by omega)).other _ _ (by omega), ((hN.set 0 _).set 1 _).set 2 _, hwn⟩

/-- What pack gives back. -/
def PackPost (w : World) (k : Tok) (e : Ending) (w' : World) : Prop := ∃ a b c : Nat, e = .returned (.agg #[.int .u32 (a : Int), .int .u32 (b : Int), .int .u32 (c : Int)]) ∧ WN a b c k.num ∧ Below w.heap.size w w'

set_option maxHeartbeats 1000000 in
theorem pack_any (k : Tok) (w : World) (hk : k.ok) (ht : TTab w) :
    Calls Tryd.prog 48 #[k.v] w fun e w' => PackPost w k e w' := by
  have hb0 : Below w.heap.size w ((((w.alloc (.cells #[.int .i64 (k.c : Int), .int .i64 (k.i : Int), .int .i64 (k.a : Int), .int .i64 (k.t : Int)] 50)).alloc (.cells #[.int .u32 0, .int .u32 0, .int .u32 0] 77)).alloc (.cells #[.int .i64 (k.c : Int), .int .i64 (k.i : Int), .int .i64 (k.a : Int), .int .i64 (k.t : Int)] 91)).alloc (.cells #[.int .u32 0, .int .u32 0, .int .u32 0] 77)) :=
    ((((Below.refl _ _).alloc (Nat.le_refl _) _).alloc (by simp) _).alloc (by simp; omega) _).alloc (by simp; omega) _
  obtain ⟨q0, q1, q2, q3, q4, q5, q6, q7⟩ := (ht.places.below hb0).cell
  have HP : Hid (Pk w ((((w.alloc (.cells #[.int .i64 (k.c : Int), .int .i64 (k.i : Int), .int .i64 (k.a : Int), .int .i64 (k.t : Int)] 50)).alloc (.cells #[.int .u32 0, .int .u32 0, .int .u32 0] 77)).alloc (.cells #[.int .i64 (k.c : Int), .int .i64 (k.i : Int), .int .i64 (k.a : Int), .int .i64 (k.t : Int)] 91)).alloc (.cells #[.int .u32 0, .int .u32 0, .int .u32 0] 77)) k 0 0 0 0) :=
    ⟨hb0, (Blk.new2 _ _ _ _ _).alloc _, ((Blk.new1 _ _ _ _).alloc _).alloc _, Blk.new3 _ _ _ _ _ _, wn_zero⟩
  have HK : Hid k.ok := hk
  clear hk ht hb0
  unfold Tok.v
  go_enter Tryd.func48, Tryd.ntmps48
  go_wp2_with fail
  generalize ((((w.alloc (.cells #[.int .i64 (k.c : Int), .int .i64 (k.i : Int), .int .i64 (k.a : Int), .int .i64 (k.t : Int)] 50)).alloc (.cells #[.int .u32 0, .int .u32 0, .int .u32 0] 77)).alloc (.cells #[.int .i64 (k.c : Int), .int .i64 (k.i : Int), .int .i64 (k.a : Int), .int .i64 (k.t : Int)] 91)).alloc (.cells #[.int .u32 0, .int .u32 0, .int .u32 0] 77)) = W0 at *
  clear q0 q1 q2 q3 q4 q5 q6 q7
  go_loopw [17] (fun v wr => ∃ j a b c : Nat, j ≤ 4 ∧ v = .int .i64 (j : Int) ∧ Pk w wr k j a b c) (fun v _ => 4 - (intOf v).toNat)
  case atStart => exact ⟨0, 0, 0, 0, by omega, rfl, HP.out⟩
  case round =>
    obtain ⟨j, a, b, c, hj, rfl, hp⟩ := hrel
    by_cases hlt : j < 4
    · have hst := step_P HK.out j hlt
      have HC : Hid (∀ W, Calls Tryd.prog 73 #[.agg #[.int .u32 (a : Int), .int .u32 (b : Int), .int .u32 (c : Int)], .int .i64 (loP j : Int), .int .i64 (nP j : Int), .int .u64 (IntKind.u64.wrap (vP k j : Int))] W fun e w' =>
          ∃ a' b' c' : Nat, e = .returned (.tuple #[.agg #[.int .u32 (a' : Int), .int .u32 (b' : Int), .int .u32 (c' : Int)], .int .i64 0]) ∧ WN a' b' c' (pP k (j + 1)) ∧ Below W.heap.size W w') := fun W => by
        rw [hst.2.2.2.2.2.1, wrap_u _ hst.2.2.2.2.2.2]
        exact put_wn a b c (vP k j) (loP j) (nP j) (pP k j) W hp.wn hst.1 hst.2.1 hst.2.2.1 hst.2.2.2.1 hst.2.2.2.2.1
      have hix := idxP j hlt
      have hv := hst.2.2.2.2.2.2
      have hf : ∀ W : World, Blk W (w.heap.size + 1 + 1) #[.int .i64 (k.c : Int), .int .i64 (k.i : Int), .int .i64 (k.a : Int), .int .i64 (k.t : Int)] 91 → W.cell? ⟨w.heap.size + 1 + 1, j, none⟩ = some (.int .i64 (vP k j : Int)) := fun W hB => by
        rw [hB.cell]
        rcases (by omega : j = 0 ∨ j = 1 ∨ j = 2 ∨ j = 3) with rfl | rfl | rfl | rfl <;> rfl
      generalize vP k j = v at *
      generalize loP j = lo at *
      generalize nP j = n at *
      clear hst
      have hjj : (j : Int) < 4 := by omega
      have hPl := Blk.new wr #[.int .i64 (lo : Int), .int .i64 (n : Int)] 139
      have hNu := hp.num.alloc (.cells #[.int .i64 (lo : Int), .int .i64 (n : Int)] 139)
      have hFi := hp.fld.alloc (.cells #[.int .i64 (lo : Int), .int .i64 (n : Int)] 139)
      have hRe := hp.res.alloc (.cells #[.int .i64 (lo : Int), .int .i64 (n : Int)] 139)
      have hBe := hp.below.alloc hp.below.size (.cells #[.int .i64 (lo : Int), .int .i64 (n : Int)] 139)
      have hne : wr.heap.size ≠ w.heap.size + 1 + 1 + 1 := by have := hp.num.lt; omega
      clear hp
      go_wp2_with fail
      generalize wr.alloc (.cells #[.int .i64 (lo : Int), .int .i64 (n : Int)] 139) = W1 at *
      have k0 : W1.drew.cell? ⟨w.heap.size + 1 + 1 + 1, 0, none⟩ = some (.int .u32 (a : Int)) := hNu.cell 0
      have k1 : W1.drew.cell? ⟨w.heap.size + 1 + 1 + 1, 1, none⟩ = some (.int .u32 (b : Int)) := hNu.cell 1
      have k2 : W1.drew.cell? ⟨w.heap.size + 1 + 1 + 1, 2, none⟩ = some (.int .u32 (c : Int)) := hNu.cell 2
      have KW : Hid (W1.drew.cell? ⟨wr.heap.size, 0, none⟩ = some (.int .i64 (lo : Int)) ∧ W1.drew.cell? ⟨wr.heap.size, 1, none⟩ = some (.int .i64 (n : Int)) ∧ W1.drew.cell? ⟨w.heap.size + 1 + 1, j, none⟩ = some (.int .i64 (v : Int))) := ⟨hPl.cell 0, hPl.cell 1, hf _ hFi⟩
      refine wp_region_held_drew (S := (fun v' => v'.cell? ⟨wr.heap.size, 0, none⟩ = some (.int .i64 (lo : Int)) ∧ v'.cell? ⟨wr.heap.size, 1, none⟩ = some (.int .i64 (n : Int)) ∧ v'.cell? ⟨w.heap.size + 1 + 1, j, none⟩ = some (.int .i64 (v : Int)))) (by kernel_rfl) KW.out (fun hHeld => ?_)
      refine wpAnyH_take (i := 1) (v := ?v1) rfl (by kernel_rfl) (by kernel_rfl) (by kernel_rfl) (fun _ _ _ h => h) (Or.inl ⟨by rfl, ?y1⟩) KW.out ?r1
      case y1 => (intro wz hSw; (try dsimp only at hSw); go_simp; try (with_reducible rfl))
      simp only [Act.put, List.setIfInBounds_toArray, List.set_cons_zero, List.set_cons_succ]
      refine wpAnyH_take (i := 2) (v := ?v2) rfl (by kernel_rfl) (by kernel_rfl) (by kernel_rfl) (fun _ _ _ h => h) (Or.inl ⟨by rfl, ?y2⟩) KW.out ?r2
      case y2 => (intro wz hSw; (try dsimp only at hSw); go_simp; try (with_reducible rfl))
      simp only [Act.put, List.setIfInBounds_toArray, List.set_cons_zero, List.set_cons_succ]
      refine wpAnyH_take (i := 3) (v := ?v3) rfl (by kernel_rfl) (by kernel_rfl) (by kernel_rfl) (fun _ _ _ h => h) (Or.inl ⟨by rfl, ?y3⟩) KW.out ?r3
      case y3 => (intro wz hSw; (try dsimp only at hSw); go_simp; try (with_reducible rfl))
      simp only [Act.put, List.setIfInBounds_toArray, List.set_cons_zero, List.set_cons_succ]
      refine wpAnyH_take (i := 4) (v := ?v4) rfl (by kernel_rfl) (by kernel_rfl) (by kernel_rfl) (fun _ _ _ h => h) (Or.inl ⟨by rfl, ?y4⟩) KW.out ?r4
      case y4 => (intro wz hSw; (try dsimp only at hSw); go_simp; try (with_reducible rfl))
      simp only [Act.put, List.setIfInBounds_toArray, List.set_cons_zero, List.set_cons_succ]
      refine wpAnyH_take (i := 5) (v := ?v5) rfl (by kernel_rfl) (by kernel_rfl) (by kernel_rfl) (fun _ _ _ h => h) (Or.inl ⟨by rfl, ?y5⟩) KW.out ?r5
      case y5 => (intro wz hSw; (try dsimp only at hSw); go_simp; try (with_reducible rfl))
      simp only [Act.put, List.setIfInBounds_toArray, List.set_cons_zero, List.set_cons_succ]
      refine wpAnyH_take (i := 6) (v := ?v6) rfl (by kernel_rfl) (by kernel_rfl) (by kernel_rfl) (fun _ _ _ h => h) (Or.inl ⟨by rfl, ?y6⟩) KW.out ?r6
      case y6 => (intro wz hSw; (try dsimp only at hSw); go_simp; try (with_reducible rfl))
      simp only [Act.put, List.setIfInBounds_toArray, List.set_cons_zero, List.set_cons_succ]
      refine wpAnyH_take (i := 7) (v := ?v7) rfl (by kernel_rfl) (by kernel_rfl) (by kernel_rfl) (fun _ _ _ h => h) (Or.inl ⟨by rfl, ?y7⟩) KW.out ?r7
      case y7 => (intro wz hSw; (try dsimp only at hSw); go_simp; try (with_reducible rfl))
      simp only [Act.put, List.setIfInBounds_toArray, List.set_cons_zero, List.set_cons_succ]
      refine wpAnyH_take (i := 8) (v := ?v8) rfl (by kernel_rfl) (by kernel_rfl) (by kernel_rfl) (fun _ _ _ h => h) (Or.inl ⟨by rfl, ?y8⟩) KW.out ?r8
      case y8 => (intro wz hSw; (try dsimp only at hSw); go_simp; try (with_reducible rfl))
      simp only [Act.put, List.setIfInBounds_toArray, List.set_cons_zero, List.set_cons_succ]
      refine wpAnyH_ready (rs := [0]) (by kernel_rfl) (by simp) ?_
      refine AllReadyH.cons rfl (fun K hK => ?_) AllReadyH.nil
      go_simp
      refine hK.out _ _ KW.out (fun _ => ?_)
      refine wpAnyH_ready (rs := [9]) (by kernel_rfl) (by simp) ?_
      refine AllReadyH.cons rfl (fun K hK => ?_) AllReadyH.nil
      go_simp
      refine (HC.out _).mono ?_
      rintro e w2 ⟨a', b', c', rfl, hwn, hb2⟩
      have hN2 : Blk w2 (w.heap.size + 1 + 1 + 1) #[.int .u32 (a : Int), .int .u32 (b : Int), .int .u32 (c : Int)] 77 := Blk.next (w := W1.drew) hNu hb2
      have hP2 : Blk w2 wr.heap.size #[.int .i64 (lo : Int), .int .i64 (n : Int)] 139 := Blk.next (w := W1.drew) hPl hb2
      have hF2 : Blk w2 (w.heap.size + 1 + 1) #[.int .i64 (k.c : Int), .int .i64 (k.i : Int), .int .i64 (k.a : Int), .int .i64 (k.t : Int)] 91 := Blk.next (w := W1.drew) hFi hb2
      have hR2 : Blk w2 (w.heap.size + 1) #[.int .u32 0, .int .u32 0, .int .u32 0] 77 := Blk.next (w := W1.drew) hRe hb2
      have hB2 : Below w.heap.size w w2 := bel_step (w := W1.drew) hBe.drew hb2
      have r0 := hN2.cell 0
      have r1 := hN2.cell 1
      have r2 := hN2.cell 2
      have f0 := hN2.free 0
      have f1 := hN2.free 1
      have f2 := hN2.free 2
      have K2 : Hid (w2.cell? ⟨wr.heap.size, 0, none⟩ = some (.int .i64 (lo : Int)) ∧ w2.cell? ⟨wr.heap.size, 1, none⟩ = some (.int .i64 (n : Int)) ∧ w2.cell? ⟨w.heap.size + 1 + 1, j, none⟩ = some (.int .i64 (v : Int))) := ⟨hP2.cell 0, hP2.cell 1, hf _ hF2⟩
      have HQ : Hid (Pk w (((w2.setCell ⟨w.heap.size + 1 + 1 + 1, 0, none⟩ (.int .u32 (a' : Int))).setCell ⟨w.heap.size + 1 + 1 + 1, 1, none⟩ (.int .u32 (b' : Int))).setCell ⟨w.heap.size + 1 + 1 + 1, 2, none⟩ (.int .u32 (c' : Int))) k (j + 1) a' b' c') := Pk.mk3 hB2 hF2 hR2 hN2 hwn
      have K3 : Hid ((((w2.setCell ⟨w.heap.size + 1 + 1 + 1, 0, none⟩ (.int .u32 (a' : Int))).setCell ⟨w.heap.size + 1 + 1 + 1, 1, none⟩ (.int .u32 (b' : Int))).setCell ⟨w.heap.size + 1 + 1 + 1, 2, none⟩ (.int .u32 (c' : Int))).cell? ⟨wr.heap.size, 0, none⟩ = some (.int .i64 (lo : Int)) ∧ (((w2.setCell ⟨w.heap.size + 1 + 1 + 1, 0, none⟩ (.int .u32 (a' : Int))).setCell ⟨w.heap.size + 1 + 1 + 1, 1, none⟩ (.int .u32 (b' : Int))).setCell ⟨w.heap.size + 1 + 1 + 1, 2, none⟩ (.int .u32 (c' : Int))).cell? ⟨wr.heap.size, 1, none⟩ = some (.int .i64 (n : Int)) ∧ (((w2.setCell ⟨w.heap.size + 1 + 1 + 1, 0, none⟩ (.int .u32 (a' : Int))).setCell ⟨w.heap.size + 1 + 1 + 1, 1, none⟩ (.int .u32 (b' : Int))).setCell ⟨w.heap.size + 1 + 1 + 1, 2, none⟩ (.int .u32 (c' : Int))).cell? ⟨w.heap.size + 1 + 1, j, none⟩ = some (.int .i64 (v : Int))) :=
        ⟨(((hP2.other _ _ (Ne.symm hne)).other _ _ (Ne.symm hne)).other _ _ (Ne.symm hne)).cell 0, (((hP2.other _ _ (Ne.symm hne)).other _ _ (Ne.symm hne)).other _ _ (Ne.symm hne)).cell 1, hf _ HQ.out.fld⟩
      clear hN2 hP2 hF2 hR2 hB2 hb2 hwn
      go_simp
      refine hK.out _ _ K2.out (fun _ => ?_)
      refine wpAnyH_take (i := 10) (v := ?v10) rfl (by kernel_rfl) (by kernel_rfl) (by kernel_rfl) (fun _ _ _ h => h) (Or.inl ⟨by rfl, ?y10⟩) K2.out ?r10
      case y10 => (intro wz hSw; (try dsimp only at hSw); go_simp; try (with_reducible rfl))
      simp only [Act.put, List.setIfInBounds_toArray, List.set_cons_zero, List.set_cons_succ]
      refine wpAnyH_take (i := 11) (v := ?v11) rfl (by kernel_rfl) (by kernel_rfl) (by kernel_rfl) (fun _ _ _ h => h) (Or.inl ⟨by rfl, ?y11⟩) K2.out ?r11
      case y11 => (intro wz hSw; (try dsimp only at hSw); go_simp; try (with_reducible rfl))
      simp only [Act.put, List.setIfInBounds_toArray, List.set_cons_zero, List.set_cons_succ]
      refine wpAnyH_take (i := 12) (v := ?v12) rfl (by kernel_rfl) (by kernel_rfl) (by kernel_rfl) (fun _ _ _ h => h) (Or.inl ⟨by rfl, ?y12⟩) K2.out ?r12
      case y12 => (intro wz hSw; (try dsimp only at hSw); go_simp; try (with_reducible rfl))
      simp only [Act.put, List.setIfInBounds_toArray, List.set_cons_zero, List.set_cons_succ]
      refine wpAnyH_ready (rs := [13]) (by kernel_rfl) (by simp) ?_
      refine AllReadyH.cons rfl (fun K hK => ?_) AllReadyH.nil
      go_simp
      refine hK.out _ _ K3.out (fun _ => ?_)
      refine wpAnyH_done (by kernel_rfl) ?_ _
      all_goals
        go_wp2_with fail
        go_roundw
        case rel => exact ⟨j + 1, a', b', c', by omega, by go_num, HQ.out⟩
        case measure => simp [intOf]; omega
    · obtain rfl : j = 4 := by omega
      have r0 := hp.num.cell 0
      have r1 := hp.num.cell 1
      have r2 := hp.num.cell 2
      have s0 := hp.res.cell 0
      have s1 := hp.res.cell 1
      have s2 := hp.res.cell 2
      have f0 := hp.res.free 0
      have f1 := hp.res.free 1
      have f2 := hp.res.free 2
      have HB : Hid (Below w.heap.size w (((wr.setCell ⟨w.heap.size + 1, 0, none⟩ (.int .u32 (a : Int))).setCell ⟨w.heap.size + 1, 1, none⟩ (.int .u32 (b : Int))).setCell ⟨w.heap.size + 1, 2, none⟩ (.int .u32 (c : Int)))) := bel_set (bel_set (bel_set hp.below _ _ _ (by omega)) _ _ _ (by omega)) _ _ _ (by omega)
      have HW : Hid (WN a b c k.num) := hp.wn
      have RR : Blk (((wr.setCell ⟨w.heap.size + 1, 0, none⟩ (.int .u32 (a : Int))).setCell ⟨w.heap.size + 1, 1, none⟩ (.int .u32 (b : Int))).setCell ⟨w.heap.size + 1, 2, none⟩ (.int .u32 (c : Int))) (w.heap.size + 1) #[.int .u32 (a : Int), .int .u32 (b : Int), .int .u32 (c : Int)] 77 := ((hp.res.set 0 _).set 1 _).set 2 _
      have R0 : Hid (_ = _) := RR.cell 0
      have R1 : Hid (_ = _) := RR.cell 1
      have R2 : Hid (_ = _) := RR.cell 2
      clear hp RR
      go_wp2_with fail
      refine bodyPost_ret (v := .agg #[.int .u32 (a : Int), .int .u32 (b : Int), .int .u32 (c : Int)]) (by simp [results, Tryd.results48, R0.out, R1.out, R2.out, go_sem]) rfl ⟨a, b, c, rfl, HW.out, HB.out⟩

end Go.Proofs.YtgipkpkjoicehabDoor.token

/- A field of a wide number. -/
namespace Go.Proofs.YtgipkpkjoicehabDoor.token
open Go.Proofs.YtgipkpkjoicehabDoor.words
open Go.RowKit
set_option linter.unusedSimpArgs false

theorem bits_wn (a b c lo n V : Nat) (w : World) (h : WN a b c V) (n0 : 1 ≤ n) (n1 : n ≤ 64) (hl : lo + n ≤ 96) :
    Calls Tryd.prog 47 #[.agg #[.int .u32 (a : Int), .int .u32 (b : Int), .int .u32 (c : Int)], .int .i64 (lo : Int), .int .i64 (n : Int)] w fun e w' => e = .returned (.tuple #[.int .u64 (V / 2 ^ lo % 2 ^ n : Nat), .int .i64 0]) ∧ Below w.heap.size w w' := by
  have := bits_any a b c lo n w h.a1 h.b1 h.c1 n0 n1 hl
  rwa [bits_num h.a1 h.b1 h.c1 n1, h.val] at this

theorem wrap_i (v : Nat) (h : v < 9223372036854775808) : IntKind.i64.wrap (v : Int) = (v : Int) := by rw [IntKind.wrap_i64]; omega

end Go.Proofs.YtgipkpkjoicehabDoor.token

/- Quiet regions, their operations one at a time: what follows is shut away. -/
namespace Go.Proofs.YtgipkpkjoicehabDoor
open Go.RowKit

/-- What is asked of the operations that are left, shut away. -/
structure WQ (P : Program) (ops : Array Oper) (C : World → Prop) (Q : Act → Prop) (l : List Oper) (a : Act) : Prop where
  out : wpQuiet P ops C Q l a
theorem wq_nil {P : Program} {ops : Array Oper} {C : World → Prop} {Q : Act → Prop} {a : Act} (h : Q a) : WQ P ops C Q [] a := ⟨h⟩
theorem wq_step {P : Program} {ops : Array Oper} {C : World → Prop} {Q : Act → Prop} {a : Act} {o : Oper} {rest : List Oper}
    (h : ∀ K : Act → Prop, (∀ a, WQ P ops C Q rest a → K a) → if Region.wanted o (yielded ops a.tmps) then o.quiet P a C K else K (a.put o.dst undef)) : WQ P ops C Q (o :: rest) a :=
  ⟨wpQuiet_step fun K hK => h K fun a ha => hK a ha.out⟩
theorem wq_skip {P : Program} {ops : Array Oper} {C : World → Prop} {Q : Act → Prop} {a : Act} {o : Oper} {rest : List Oper} (hw : Region.wanted o (yielded ops a.tmps) = false) (h : WQ P ops C Q rest (a.put o.dst undef)) : WQ P ops C Q (o :: rest) a := by
  refine ⟨?_⟩
  unfold wpQuiet
  rw [if_neg (by rw [hw]; decide)]
  exact h.out
theorem wq_below {P : Program} {id : Nat} {Q : Exit → Act → World → Prop} {a : Act} {w : World} {l : List Oper} (hm : P.follows .mixedOrders = true) (hB : Region.lexB .any l.toArray = true)
    (h : WQ P l.toArray (fun w' => ∃ p : Regrown, w' = Sort.grow (redrawn w p.d) p.os) (fun a' => ∀ w', (∃ p : Regrown, w' = Sort.grow (redrawn w p.d) p.os) → Q .normal a' w') l a) : (Code.region id l.toArray true).wp P Q a w :=
  wp_region_quiet_below hm hB h.out

end Go.Proofs.YtgipkpkjoicehabDoor

/- Why a token may not be: what flaw gives back. -/
namespace Go.Proofs.YtgipkpkjoicehabDoor.token
open Go.RowKit
set_option linter.unusedSimpArgs false

/-- What lies ready when the bounds are looked at. -/
structure Rdy (w W : World) (c i a t : Int) : Prop where
  below : Below w.heap.size w W
  b0 : W.cell? ⟨w.heap.size, 0, none⟩ = some (.int .i64 c)
  b1 : W.cell? ⟨w.heap.size, 1, none⟩ = some (.int .i64 i)
  b2 : W.cell? ⟨w.heap.size, 2, none⟩ = some (.int .i64 a)
  b3 : W.cell? ⟨w.heap.size, 3, none⟩ = some (.int .i64 t)
  i0 : W.cell? ⟨w.heap.size + 1, 0, none⟩ = some (.int .i64 1)
  i1 : W.cell? ⟨w.heap.size + 1, 1, none⟩ = some (.int .i64 1048575)
  t0 : W.cell? ⟨w.heap.size + 1 + 1, 0, none⟩ = some (.int .i64 0)
  t1 : W.cell? ⟨w.heap.size + 1 + 1, 1, none⟩ = some (.int .i64 65535)

theorem rdy_of (w : World) (c i a t : Int) : Rdy w (((w.alloc (.cells #[.int .i64 c, .int .i64 i, .int .i64 a, .int .i64 t] 50)).alloc (.cells #[.int .i64 1, .int .i64 1048575] 142)).alloc (.cells #[.int .i64 0, .int .i64 65535] 142)) c i a t := by
  have h0 := ((Blk.new w #[.int .i64 c, .int .i64 i, .int .i64 a, .int .i64 t] 50).alloc (.cells #[.int .i64 1, .int .i64 1048575] 142)).alloc (.cells #[.int .i64 0, .int .i64 65535] 142)
  have h1 := (Blk.new1 w (.cells #[.int .i64 c, .int .i64 i, .int .i64 a, .int .i64 t] 50) #[.int .i64 1, .int .i64 1048575] 142).alloc (.cells #[.int .i64 0, .int .i64 65535] 142)
  have h2 := Blk.new2 w (.cells #[.int .i64 c, .int .i64 i, .int .i64 a, .int .i64 t] 50) (.cells #[.int .i64 1, .int .i64 1048575] 142) #[.int .i64 0, .int .i64 65535] 142
  exact ⟨((((Below.refl _ _).alloc (Nat.le_refl _) _).alloc (by simp) _).alloc (by simp; omega) _), h0.cell 0, h0.cell 1, h0.cell 2, h0.cell 3, h1.cell 0, h1.cell 1, h2.cell 0, h2.cell 1⟩

theorem flaw_class (c i a t : Int) (w : World) (h : c < 0 ∨ 3 < c) :
    Calls Tryd.prog 44 #[.agg #[.int .i64 c, .int .i64 i, .int .i64 a, .int .i64 t]] w fun e w' => e = .returned (.int .i64 9) ∧ Below w.heap.size w w' := by
  have hb : Below w.heap.size w (w.alloc (.cells #[.int .i64 c, .int .i64 i, .int .i64 a, .int .i64 t] 50)) := (Below.refl _ _).alloc (Nat.le_refl _) _
  by_cases h0 : c < 0
  · clear h
    go_enter Tryd.func44, Tryd.ntmps44
    go_wp2
    go_ret
    exact ⟨rfl, hb⟩
  · have h1 : 0 ≤ c := by omega
    have h2 : 4 ≤ c := by omega
    clear h
    go_enter Tryd.func44, Tryd.ntmps44
    go_wp2
    go_ret
    exact ⟨rfl, hb⟩

set_option maxHeartbeats 4000000 in
theorem flaw_in (c : Nat) (lo hi i a t : Int) (w : World) (hc : c < 4) (g0 : w.cell? ⟨1, c * 2, none⟩ = some (.int .i64 lo)) (g1 : w.cell? ⟨1, c * 2 + 1, none⟩ = some (.int .i64 hi)) :
    Calls Tryd.prog 44 #[.agg #[.int .i64 (c : Int), .int .i64 i, .int .i64 a, .int .i64 t]] w fun e w' => e = .returned (.int .i64 (if hasI 1 1048575 i && (hasI lo hi a && hasI 0 65535 t) then 0 else 2)) ∧ Below w.heap.size w w' := by
  have HR : Hid (Rdy w (((w.alloc (.cells #[.int .i64 (c : Int), .int .i64 i, .int .i64 a, .int .i64 t] 50)).alloc (.cells #[.int .i64 1, .int .i64 1048575] 142)).alloc (.cells #[.int .i64 0, .int .i64 65535] 142)) c i a t) := rdy_of w c i a t
  have g0' := HR.out.below.cell (World.block_lt_of_cell? w _ g0)
  rw [g0] at g0'
  have g1' := HR.out.below.cell (World.block_lt_of_cell? w _ g1)
  rw [g1] at g1'
  have HI : Hid (∀ W, Calls Tryd.prog 67 #[.agg #[.int .i64 1, .int .i64 1048575], .int .i64 i] W fun e w' => e = .returned (.bool (hasI 1 1048575 i)) ∧ Below W.heap.size W w') := fun W => has_any _ _ _ W
  have HA : Hid (∀ W, Calls Tryd.prog 67 #[.agg #[.int .i64 lo, .int .i64 hi], .int .i64 a] W fun e w' => e = .returned (.bool (hasI lo hi a)) ∧ Below W.heap.size W w') := fun W => has_any _ _ _ W
  have HU : Hid (∀ W, Calls Tryd.prog 67 #[.agg #[.int .i64 0, .int .i64 65535], .int .i64 t] W fun e w' => e = .returned (.bool (hasI 0 65535 t)) ∧ Below W.heap.size W w') := fun W => has_any _ _ _ W
  clear g0 g1
  have c0 : ¬ (c : Int) < 0 := by omega
  have c1 : ¬ 4 ≤ (c : Int) := by omega
  have c2 : (c : Int) < 4 := by omega
  generalize hasI 1 1048575 i = bi at *
  generalize hasI lo hi a = ba at *
  generalize hasI 0 65535 t = bt at *
  cases bi with
  | false =>
    go_enter Tryd.func44, Tryd.ntmps44
    go_wp2_with fail
    generalize (((w.alloc (.cells #[.int .i64 (c : Int), .int .i64 i, .int .i64 a, .int .i64 t] 50)).alloc (.cells #[.int .i64 1, .int .i64 1048575] 142)).alloc (.cells #[.int .i64 0, .int .i64 65535] 142)) = W at *
    have k0 := cell_regrown HR.out.b0
    have k1 := cell_regrown HR.out.b1
    have k2 := cell_regrown HR.out.b2
    have k3 := cell_regrown HR.out.b3
    have k4 := cell_regrown HR.out.i0
    have k5 := cell_regrown HR.out.i1
    have k6 := cell_regrown HR.out.t0
    have k7 := cell_regrown HR.out.t1
    have k8 := cell_regrown g0'
    have k9 := cell_regrown g1'
    have HB : Hid (Below w.heap.size w W) := HR.out.below
    clear HR g0' g1'
    refine wq_below (by kernel_rfl) (by kernel_rfl) ?_
    iterate 3 (refine wq_step (fun K hK => ?_); go_simp; refine hK _ ?_; clear hK K)
    refine wq_step (fun K hK => ?_)
    go_simp
    apply Exists.intro
    refine ⟨fun _ => ?_, hK _ ?_⟩
    exact Calls.regrown_of (HI.out _)
    clear hK K
    iterate 2 (refine wq_step (fun K hK => ?_); go_simp; refine hK _ ?_; clear hK K)
    iterate 8 (refine wq_skip (by kernel_rfl) ?_; simp only [Act.put, List.setIfInBounds_toArray, List.set_cons_zero, List.set_cons_succ])
    iterate 2 (refine wq_step (fun K hK => ?_); go_simp; refine hK _ ?_; clear hK K)
    iterate 5 (refine wq_skip (by kernel_rfl) ?_; simp only [Act.put, List.setIfInBounds_toArray, List.set_cons_zero, List.set_cons_succ])
    iterate 1 (refine wq_step (fun K hK => ?_); go_simp; refine hK _ ?_; clear hK K)
    refine wq_nil ?_
    intro _ hw'
    obtain ⟨⟨dq, osq⟩, hw''⟩ := hw'
    subst hw''
    go_wp2_with fail
    go_ret
    exact ⟨rfl, HB.out.trans ((below_regrown W dq osq).mono HB.out.size)⟩
  | true =>
    cases ba with
    | false =>
      go_enter Tryd.func44, Tryd.ntmps44
      go_wp2_with fail
      generalize (((w.alloc (.cells #[.int .i64 (c : Int), .int .i64 i, .int .i64 a, .int .i64 t] 50)).alloc (.cells #[.int .i64 1, .int .i64 1048575] 142)).alloc (.cells #[.int .i64 0, .int .i64 65535] 142)) = W at *
      have k0 := cell_regrown HR.out.b0
      have k1 := cell_regrown HR.out.b1
      have k2 := cell_regrown HR.out.b2
      have k3 := cell_regrown HR.out.b3
      have k4 := cell_regrown HR.out.i0
      have k5 := cell_regrown HR.out.i1
      have k6 := cell_regrown HR.out.t0
      have k7 := cell_regrown HR.out.t1
      have k8 := cell_regrown g0'
      have k9 := cell_regrown g1'
      have HB : Hid (Below w.heap.size w W) := HR.out.below
      clear HR g0' g1'
      refine wq_below (by kernel_rfl) (by kernel_rfl) ?_
      iterate 3 (refine wq_step (fun K hK => ?_); go_simp; refine hK _ ?_; clear hK K)
      refine wq_step (fun K hK => ?_)
      go_simp
      apply Exists.intro
      refine ⟨fun _ => ?_, hK _ ?_⟩
      exact Calls.regrown_of (HI.out _)
      clear hK K
      iterate 8 (refine wq_step (fun K hK => ?_); go_simp; refine hK _ ?_; clear hK K)
      refine wq_step (fun K hK => ?_)
      go_simp
      apply Exists.intro
      refine ⟨fun _ => ?_, hK _ ?_⟩
      exact Calls.regrown_of (HA.out _)
      clear hK K
      iterate 3 (refine wq_step (fun K hK => ?_); go_simp; refine hK _ ?_; clear hK K)
      iterate 5 (refine wq_skip (by kernel_rfl) ?_; simp only [Act.put, List.setIfInBounds_toArray, List.set_cons_zero, List.set_cons_succ])
      iterate 1 (refine wq_step (fun K hK => ?_); go_simp; refine hK _ ?_; clear hK K)
      refine wq_nil ?_
      intro _ hw'
      obtain ⟨⟨dq, osq⟩, hw''⟩ := hw'
      subst hw''
      go_wp2_with fail
      go_ret
      exact ⟨rfl, HB.out.trans ((below_regrown W dq osq).mono HB.out.size)⟩
    | true =>
      cases bt with
      | false =>
        go_enter Tryd.func44, Tryd.ntmps44
        go_wp2_with fail
        generalize (((w.alloc (.cells #[.int .i64 (c : Int), .int .i64 i, .int .i64 a, .int .i64 t] 50)).alloc (.cells #[.int .i64 1, .int .i64 1048575] 142)).alloc (.cells #[.int .i64 0, .int .i64 65535] 142)) = W at *
        have k0 := cell_regrown HR.out.b0
        have k1 := cell_regrown HR.out.b1
        have k2 := cell_regrown HR.out.b2
        have k3 := cell_regrown HR.out.b3
        have k4 := cell_regrown HR.out.i0
        have k5 := cell_regrown HR.out.i1
        have k6 := cell_regrown HR.out.t0
        have k7 := cell_regrown HR.out.t1
        have k8 := cell_regrown g0'
        have k9 := cell_regrown g1'
        have HB : Hid (Below w.heap.size w W) := HR.out.below
        clear HR g0' g1'
        refine wq_below (by kernel_rfl) (by kernel_rfl) ?_
        iterate 3 (refine wq_step (fun K hK => ?_); go_simp; refine hK _ ?_; clear hK K)
        refine wq_step (fun K hK => ?_)
        go_simp
        apply Exists.intro
        refine ⟨fun _ => ?_, hK _ ?_⟩
        exact Calls.regrown_of (HI.out _)
        clear hK K
        iterate 8 (refine wq_step (fun K hK => ?_); go_simp; refine hK _ ?_; clear hK K)
        refine wq_step (fun K hK => ?_)
        go_simp
        apply Exists.intro
        refine ⟨fun _ => ?_, hK _ ?_⟩
        exact Calls.regrown_of (HA.out _)
        clear hK K
        iterate 6 (refine wq_step (fun K hK => ?_); go_simp; refine hK _ ?_; clear hK K)
        refine wq_step (fun K hK => ?_)
        go_simp
        apply Exists.intro
        refine ⟨fun _ => ?_, hK _ ?_⟩
        exact Calls.regrown_of (HU.out _)
        clear hK K
        iterate 2 (refine wq_step (fun K hK => ?_); go_simp; refine hK _ ?_; clear hK K)
        refine wq_nil ?_
        intro _ hw'
        obtain ⟨⟨dq, osq⟩, hw''⟩ := hw'
        subst hw''
        go_wp2_with fail
        go_ret
        exact ⟨rfl, HB.out.trans ((below_regrown W dq osq).mono HB.out.size)⟩
      | true =>
        go_enter Tryd.func44, Tryd.ntmps44
        go_wp2_with fail
        generalize (((w.alloc (.cells #[.int .i64 (c : Int), .int .i64 i, .int .i64 a, .int .i64 t] 50)).alloc (.cells #[.int .i64 1, .int .i64 1048575] 142)).alloc (.cells #[.int .i64 0, .int .i64 65535] 142)) = W at *
        have k0 := cell_regrown HR.out.b0
        have k1 := cell_regrown HR.out.b1
        have k2 := cell_regrown HR.out.b2
        have k3 := cell_regrown HR.out.b3
        have k4 := cell_regrown HR.out.i0
        have k5 := cell_regrown HR.out.i1
        have k6 := cell_regrown HR.out.t0
        have k7 := cell_regrown HR.out.t1
        have k8 := cell_regrown g0'
        have k9 := cell_regrown g1'
        have HB : Hid (Below w.heap.size w W) := HR.out.below
        clear HR g0' g1'
        refine wq_below (by kernel_rfl) (by kernel_rfl) ?_
        iterate 3 (refine wq_step (fun K hK => ?_); go_simp; refine hK _ ?_; clear hK K)
        refine wq_step (fun K hK => ?_)
        go_simp
        apply Exists.intro
        refine ⟨fun _ => ?_, hK _ ?_⟩
        exact Calls.regrown_of (HI.out _)
        clear hK K
        iterate 8 (refine wq_step (fun K hK => ?_); go_simp; refine hK _ ?_; clear hK K)
        refine wq_step (fun K hK => ?_)
        go_simp
        apply Exists.intro
        refine ⟨fun _ => ?_, hK _ ?_⟩
        exact Calls.regrown_of (HA.out _)
        clear hK K
        iterate 6 (refine wq_step (fun K hK => ?_); go_simp; refine hK _ ?_; clear hK K)
        refine wq_step (fun K hK => ?_)
        go_simp
        apply Exists.intro
        refine ⟨fun _ => ?_, hK _ ?_⟩
        exact Calls.regrown_of (HU.out _)
        clear hK K
        iterate 2 (refine wq_step (fun K hK => ?_); go_simp; refine hK _ ?_; clear hK K)
        refine wq_nil ?_
        intro _ hw'
        obtain ⟨⟨dq, osq⟩, hw''⟩ := hw'
        subst hw''
        go_wp2_with fail
        go_ret
        exact ⟨rfl, HB.out.trans ((below_regrown W dq osq).mono HB.out.size)⟩

theorem flaw_any (c i a t : Int) (w : World) (ht : TTab w) :
    Calls Tryd.prog 44 #[.agg #[.int .i64 c, .int .i64 i, .int .i64 a, .int .i64 t]] w fun e w' => e = .returned (.int .i64 (flawT c i a t)) ∧ Below w.heap.size w w' := by
  by_cases h : c < 0 ∨ 3 < c
  · rw [flawT_class h]; exact flaw_class c i a t w h
  · have h8 := ht.amounts.cell
    rw [flawT_in h]
    rcases (by omega : c = 0 ∨ c = 1 ∨ c = 2 ∨ c = 3) with rfl | rfl | rfl | rfl
    · exact flaw_in 0 1 2097151 i a t w (by omega) h8.1 h8.2.1
    · exact flaw_in 1 0 0 i a t w (by omega) h8.2.2.1 h8.2.2.2.1
    · exact flaw_in 2 1 15 i a t w (by omega) h8.2.2.2.2.1 h8.2.2.2.2.2.1
    · exact flaw_in 3 0 0 i a t w (by omega) h8.2.2.2.2.2.2.1 h8.2.2.2.2.2.2.2

end Go.Proofs.YtgipkpkjoicehabDoor.token

/- What Body gives back. -/
namespace Go.Proofs.YtgipkpkjoicehabDoor.token
open Go.Proofs.YtgipkpkjoicehabDoor.words
open Go.RowKit
set_option linter.unusedSimpArgs false

theorem bel_box (w : World) (o : Obj) : Below w.heap.size w (w.alloc o) := (Below.refl _ _).alloc (Nat.le_refl _) o

set_option maxHeartbeats 400000 in
theorem body_no (c i a t : Int) (w : World) (ht : TTab w) (h : flawT c i a t ≠ 0) :
    Calls Tryd.prog 28 #[.agg #[.int .i64 c, .int .i64 i, .int .i64 a, .int .i64 t]] w fun e w' => e = .returned (.tuple #[.int .i64 0, .int .i64 (flawT c i a t)]) ∧ Below w.heap.size w w' := by
  have HF : Hid (∀ W, TTab W → Calls Tryd.prog 44 #[.agg #[.int .i64 c, .int .i64 i, .int .i64 a, .int .i64 t]] W fun e w' => e = .returned (.int .i64 (flawT c i a t)) ∧ Below W.heap.size W w') := fun W hW => flaw_any c i a t W hW
  have hd : (flawT c i a t != 0) = true := by simpa using h
  have HB : Hid (Below w.heap.size w (w.alloc (.cells #[.int .i64 c, .int .i64 i, .int .i64 a, .int .i64 t] 50))) := bel_box _ _
  have HT : Hid (TTab (w.alloc (.cells #[.int .i64 c, .int .i64 i, .int .i64 a, .int .i64 t] 50))) := ht.below (bel_box _ _)
  clear ht h
  generalize flawT c i a t = f at *
  go_enter Tryd.func28, Tryd.ntmps28
  go_wp2_with fail
  refine (HF.out _ HT.out).mono ?_
  rintro e w1 ⟨rfl, hb1⟩
  have HB1 : Hid (Below w.heap.size w w1) := bel_step HB.out hb1
  clear hb1 HF HB HT
  go_wp2_with fail
  refine bodyPost_ret (v := .tuple #[.int .i64 0, .int .i64 f]) (by simp [results, Tryd.results28, go_sem]) rfl ⟨rfl, HB1.out⟩

set_option maxHeartbeats 400000 in
theorem body_ok (k : Tok) (w : World) (ht : TTab w) (hk : k.ok) :
    Calls Tryd.prog 28 #[k.v] w fun e w' => e = .returned (.tuple #[.int .i64 (k.body : Int), .int .i64 0]) ∧ Below w.heap.size w w' := by
  have HF : Hid (∀ W, TTab W → Calls Tryd.prog 44 #[.agg #[.int .i64 (k.c : Int), .int .i64 (k.i : Int), .int .i64 (k.a : Int), .int .i64 (k.t : Int)]] W fun e w' => e = .returned (.int .i64 0) ∧ Below W.heap.size W w') := fun W hW => by
    have := flaw_any k.c k.i k.a k.t W hW
    rwa [flaw_tok.2 hk] at this
  have HP : Hid (∀ W, TTab W → Calls Tryd.prog 48 #[.agg #[.int .i64 (k.c : Int), .int .i64 (k.i : Int), .int .i64 (k.a : Int), .int .i64 (k.t : Int)]] W fun e w' => PackPost W k e w') := fun W hW => pack_any k W hk hW
  have HQ : Hid (∀ (x y z : Nat) W, WN x y z k.num → Calls Tryd.prog 47 #[.agg #[.int .u32 (x : Int), .int .u32 (y : Int), .int .u32 (z : Int)], .int .i64 16, .int .i64 43] W fun e w' => e = .returned (.tuple #[.int .u64 (k.body : Int), .int .i64 0]) ∧ Below W.heap.size W w') := fun x y z W hW => by
    have := bits_wn x y z 16 43 k.num W hW (by omega) (by omega) (by omega)
    rwa [show k.num / 2 ^ 16 % 2 ^ 43 = k.body from body_num hk] at this
  have hwr : IntKind.i64.wrap (k.body : Int) = (k.body : Int) := wrap_i _ (by have := body_bd hk; omega)
  have HT : Hid (TTab (w.alloc (.cells #[.int .i64 (k.c : Int), .int .i64 (k.i : Int), .int .i64 (k.a : Int), .int .i64 (k.t : Int)] 50))) := ht.below (bel_box _ _)
  have HB : Hid (Below w.heap.size w (w.alloc (.cells #[.int .i64 (k.c : Int), .int .i64 (k.i : Int), .int .i64 (k.a : Int), .int .i64 (k.t : Int)] 50))) := bel_box _ _
  have HX : Hid (Blk (w.alloc (.cells #[.int .i64 (k.c : Int), .int .i64 (k.i : Int), .int .i64 (k.a : Int), .int .i64 (k.t : Int)] 50)) w.heap.size #[.int .i64 (k.c : Int), .int .i64 (k.i : Int), .int .i64 (k.a : Int), .int .i64 (k.t : Int)] 50) := Blk.new _ _ _
  clear ht hk
  unfold Tok.v
  generalize (k.body : Int) = bd at *
  go_enter Tryd.func28, Tryd.ntmps28
  go_wp2_with fail
  refine (HF.out _ HT.out).mono ?_
  rintro e w1 ⟨rfl, hb1⟩
  have HB1 : Hid (Below w.heap.size w w1) := bel_step HB.out hb1
  have HT1 : Hid (TTab w1) := HT.out.below hb1
  have hX := HX.out.next hb1
  have x0 := hX.cell 0
  have x1 := hX.cell 1
  have x2 := hX.cell 2
  have x3 := hX.cell 3
  clear hb1 HF HB HT HX hX
  go_wp2_with fail
  refine (HP.out _ HT1.out).mono ?_
  rintro e w2 ⟨x, y, z, rfl, hwn, hb2⟩
  have HB2 : Hid (Below w.heap.size w w2) := bel_step HB1.out hb2
  have HN : Hid (WN x y z k.num) := hwn
  clear hb2 hwn HB1 HT1 HP x0 x1 x2 x3
  go_wp2_with fail
  refine (HQ.out _ _ _ _ HN.out).mono ?_
  rintro e w3 ⟨rfl, hb3⟩
  have HB3 : Hid (Below w.heap.size w w3) := bel_step HB2.out hb3
  clear hb3 HB2 HQ
  go_wp2_with fail
  refine bodyPost_ret (v := .tuple #[.int .i64 bd, .int .i64 0]) (by simp [results, Tryd.results28, go_sem]) rfl ⟨rfl, HB3.out⟩

end Go.Proofs.YtgipkpkjoicehabDoor.token

/- A number, unpacked into a token's fields. -/
namespace Go.Proofs.YtgipkpkjoicehabDoor.token
open Go.Proofs.YtgipkpkjoicehabDoor.words
open Go.RowKit
set_option linter.unusedSimpArgs false

/-- The fields of a number. -/
def fP (V : Nat) : Nat → Nat
  | 0 => (tokOf V).c
  | 1 => (tokOf V).i
  | 2 => (tokOf V).a
  | _ => (tokOf V).t
theorem step_F (V j : Nat) (hj : j < 4) : 1 ≤ nP j ∧ nP j ≤ 64 ∧ loP j + nP j ≤ 96 ∧ V / 2 ^ loP j % 2 ^ nP j = fP V j ∧ fP V j < 9223372036854775808 := by
  match j, hj with
  | 0, _ => exact ⟨by decide, by decide, by decide, rfl, by show V / 144115188075855872 % 8 < _; omega⟩
  | 1, _ => exact ⟨by decide, by decide, by decide, rfl, by show V / 137438953472 % 1048576 < _; omega⟩
  | 2, _ => exact ⟨by decide, by decide, by decide, rfl, by show V / 65536 % 2097152 < _; omega⟩
  | 3, _ => exact ⟨by decide, by decide, by decide, by show V / 1 % 65536 = V % 65536; rw [Nat.div_one], by show V % 65536 < _; omega⟩
/-- The field that is unpacked, and those that are not yet. -/
def gP (V j i : Nat) : Nat := if i < j then fP V i else 0
/-- While the fields are unpacked: j of them are. -/
structure Uk (w wr : World) (V j a b c : Nat) : Prop where
  below : Below w.heap.size w wr
  num : Blk wr w.heap.size #[.int .u32 (a : Int), .int .u32 (b : Int), .int .u32 (c : Int)] 77
  res : Blk wr (w.heap.size + 1) #[.int .i64 0, .int .i64 0, .int .i64 0, .int .i64 0] 50
  fld : Blk wr (w.heap.size + 1 + 1) #[.int .i64 (gP V j 0 : Int), .int .i64 (gP V j 1 : Int), .int .i64 (gP V j 2 : Int), .int .i64 (gP V j 3 : Int)] 91

theorem uk_next {w wr : World} {V j a b c : Nat} (hj : j < 4) (hB : Below w.heap.size w wr) (hN : Blk wr w.heap.size #[.int .u32 (a : Int), .int .u32 (b : Int), .int .u32 (c : Int)] 77) (hR : Blk wr (w.heap.size + 1) #[.int .i64 0, .int .i64 0, .int .i64 0, .int .i64 0] 50)
    (hF : Blk wr (w.heap.size + 1 + 1) #[.int .i64 (gP V j 0 : Int), .int .i64 (gP V j 1 : Int), .int .i64 (gP V j 2 : Int), .int .i64 (gP V j 3 : Int)] 91) : Uk w (wr.setCell ⟨w.heap.size + 1 + 1, j, none⟩ (.int .i64 (fP V j : Int))) V (j + 1) a b c := by
  refine ⟨bel_set hB _ _ _ (by omega), hN.other _ _ (by omega), hR.other _ _ (by omega), ?_⟩
  have h := hF.set j (.int .i64 (fP V j : Int))
  rcases (by omega : j = 0 ∨ j = 1 ∨ j = 2 ∨ j = 3) with rfl | rfl | rfl | rfl <;> exact h

set_option maxHeartbeats 1000000 in
theorem unpack_any (a b c V : Nat) (w : World) (hw : WN a b c V) (ht : TTab w) :
    Calls Tryd.prog 43 #[.agg #[.int .u32 (a : Int), .int .u32 (b : Int), .int .u32 (c : Int)]] w fun e w' => e = .returned (tokOf V).v ∧ Below w.heap.size w w' := by
  have hb0 : Below w.heap.size w (((w.alloc (.cells #[.int .u32 (a : Int), .int .u32 (b : Int), .int .u32 (c : Int)] 77)).alloc (.cells #[.int .i64 0, .int .i64 0, .int .i64 0, .int .i64 0] 50)).alloc (.cells #[.int .i64 0, .int .i64 0, .int .i64 0, .int .i64 0] 91)) :=
    (((Below.refl _ _).alloc (Nat.le_refl _) _).alloc (by simp) _).alloc (by simp; omega) _
  obtain ⟨q0, q1, q2, q3, q4, q5, q6, q7⟩ := (ht.places.below hb0).cell
  have HP : Hid (Uk w (((w.alloc (.cells #[.int .u32 (a : Int), .int .u32 (b : Int), .int .u32 (c : Int)] 77)).alloc (.cells #[.int .i64 0, .int .i64 0, .int .i64 0, .int .i64 0] 50)).alloc (.cells #[.int .i64 0, .int .i64 0, .int .i64 0, .int .i64 0] 91)) V 0 a b c) :=
    ⟨hb0, ((Blk.new _ _ _).alloc _).alloc _, (Blk.new1 _ _ _ _).alloc _, Blk.new2 _ _ _ _ _⟩
  have HW : Hid (WN a b c V) := hw
  clear hw ht hb0
  go_enter Tryd.func43, Tryd.ntmps43
  go_wp2_with fail
  generalize (((w.alloc (.cells #[.int .u32 (a : Int), .int .u32 (b : Int), .int .u32 (c : Int)] 77)).alloc (.cells #[.int .i64 0, .int .i64 0, .int .i64 0, .int .i64 0] 50)).alloc (.cells #[.int .i64 0, .int .i64 0, .int .i64 0, .int .i64 0] 91)) = W0 at *
  clear q0 q1 q2 q3 q4 q5 q6 q7
  go_loopw [9] (fun v wr => ∃ j : Nat, j ≤ 4 ∧ v = .int .i64 (j : Int) ∧ Uk w wr V j a b c) (fun v _ => 4 - (intOf v).toNat)
  case atStart => exact ⟨0, by omega, rfl, HP.out⟩
  case round =>
    obtain ⟨j, hj, rfl, hp⟩ := hrel
    by_cases hlt : j < 4
    · have hst := step_F V j hlt
      have HC : Hid (∀ W, Calls Tryd.prog 47 #[.agg #[.int .u32 (a : Int), .int .u32 (b : Int), .int .u32 (c : Int)], .int .i64 (loP j : Int), .int .i64 (nP j : Int)] W fun e w' => e = .returned (.tuple #[.int .u64 (fP V j : Nat), .int .i64 0]) ∧ Below W.heap.size W w') := fun W => by
        have := bits_wn a b c (loP j) (nP j) V W HW.out hst.1 hst.2.1 hst.2.2.1
        rwa [hst.2.2.2.1] at this
      have hix := idxP j hlt
      have hwr : IntKind.i64.wrap (fP V j : Int) = (fP V j : Int) := wrap_i _ hst.2.2.2.2
      have HU : Hid (∀ W, Below wr.heap.size wr W → Uk w (W.setCell ⟨w.heap.size + 1 + 1, j, none⟩ (.int .i64 (fP V j : Int))) V (j + 1) a b c) := fun W hb => uk_next hlt (bel_step hp.below hb) (hp.num.next hb) (hp.res.next hb) (hp.fld.next hb)
      have HF : Hid (∀ W, Below wr.heap.size wr W → W.cell? ⟨w.heap.size + 1 + 1, j, none⟩ = some (.int .i64 (gP V j j : Int)) ∧ W.frozen? ⟨w.heap.size + 1 + 1, j, none⟩ = false) := fun W hb => by
        have h := hp.fld.next hb
        refine ⟨?_, h.free j⟩
        rw [h.cell]
        rcases (by omega : j = 0 ∨ j = 1 ∨ j = 2 ∨ j = 3) with rfl | rfl | rfl | rfl <;> rfl
      generalize fP V j = v at *
      generalize gP V j j = v0 at *
      generalize loP j = lo at *
      generalize nP j = n at *
      clear hst
      have hjj : (j : Int) < 4 := by omega
      have hPl := Blk.new wr #[.int .i64 (lo : Int), .int .i64 (n : Int)] 139
      have hNu := hp.num.alloc (.cells #[.int .i64 (lo : Int), .int .i64 (n : Int)] 139)
      have hBe : Below wr.heap.size wr (wr.alloc (.cells #[.int .i64 (lo : Int), .int .i64 (n : Int)] 139)) := (Below.refl _ _).alloc (Nat.le_refl _) _
      have k0 := hNu.cell 0
      have k1 := hNu.cell 1
      have k2 := hNu.cell 2
      have k3 := hPl.cell 0
      have k4 := hPl.cell 1
      have HB : Hid (Below wr.heap.size wr (wr.alloc (.cells #[.int .i64 (lo : Int), .int .i64 (n : Int)] 139))) := hBe
      clear hp hPl hNu hBe
      go_wp2_with fail
      refine (HC.out _).mono ?_
      rintro e w2 ⟨rfl, hb2⟩
      have hB2 := bel_step HB.out hb2
      obtain ⟨c0, f0⟩ := HF.out w2 hB2
      have HQ : Hid _ := HU.out w2 hB2
      clear hB2 hb2 HB k0 k1 k2 k3 k4 HC HF HU
      go_wp2_with fail
      go_roundw
      case rel => exact ⟨j + 1, by omega, by go_num, HQ.out⟩
      case measure => simp [intOf]; omega
    · obtain rfl : j = 4 := by omega
      have r0 := hp.fld.cell 0
      have r1 := hp.fld.cell 1
      have r2 := hp.fld.cell 2
      have r3 := hp.fld.cell 3
      have s0 := hp.res.cell 0
      have s1 := hp.res.cell 1
      have s2 := hp.res.cell 2
      have s3 := hp.res.cell 3
      have f0 := hp.res.free 0
      have f1 := hp.res.free 1
      have f2 := hp.res.free 2
      have f3 := hp.res.free 3
      have HV : Hid ((tokOf V).v = .agg #[.int .i64 (gP V 4 0 : Int), .int .i64 (gP V 4 1 : Int), .int .i64 (gP V 4 2 : Int), .int .i64 (gP V 4 3 : Int)]) := rfl
      generalize ((gP V 4 0 : Nat) : Int) = v0 at *
      generalize ((gP V 4 1 : Nat) : Int) = v1 at *
      generalize ((gP V 4 2 : Nat) : Int) = v2 at *
      generalize ((gP V 4 3 : Nat) : Int) = v3 at *
      have HB : Hid (Below w.heap.size w ((((wr.setCell ⟨w.heap.size + 1, 0, none⟩ (.int .i64 v0)).setCell ⟨w.heap.size + 1, 1, none⟩ (.int .i64 v1)).setCell ⟨w.heap.size + 1, 2, none⟩ (.int .i64 v2)).setCell ⟨w.heap.size + 1, 3, none⟩ (.int .i64 v3))) := bel_set (bel_set (bel_set (bel_set hp.below _ _ _ (by omega)) _ _ _ (by omega)) _ _ _ (by omega)) _ _ _ (by omega)
      have RR : Blk ((((wr.setCell ⟨w.heap.size + 1, 0, none⟩ (.int .i64 v0)).setCell ⟨w.heap.size + 1, 1, none⟩ (.int .i64 v1)).setCell ⟨w.heap.size + 1, 2, none⟩ (.int .i64 v2)).setCell ⟨w.heap.size + 1, 3, none⟩ (.int .i64 v3)) (w.heap.size + 1) #[.int .i64 v0, .int .i64 v1, .int .i64 v2, .int .i64 v3] 50 := (((hp.res.set 0 _).set 1 _).set 2 _).set 3 _
      have R0 : Hid (_ = _) := RR.cell 0
      have R1 : Hid (_ = _) := RR.cell 1
      have R2 : Hid (_ = _) := RR.cell 2
      have R3 : Hid (_ = _) := RR.cell 3
      clear hp RR
      go_wp2_with fail
      refine bodyPost_ret (v := .agg #[.int .i64 v0, .int .i64 v1, .int .i64 v2, .int .i64 v3]) (by simp [results, Tryd.results43, R0.out, R1.out, R2.out, R3.out, go_sem]) rfl ⟨by rw [HV.out], HB.out⟩

end Go.Proofs.YtgipkpkjoicehabDoor.token

/- Wide numbers, times a small one. -/
namespace Go.Proofs.YtgipkpkjoicehabDoor.token
open Go.Proofs.YtgipkpkjoicehabDoor.words
open Go.RowKit
set_option linter.unusedSimpArgs false

/-- Three words as a wide number, and back. -/
theorem wn_ok {a b c V : Nat} (h : WN a b c V) : W3.ok ⟨a, b, c⟩ ∧ W3.val ⟨a, b, c⟩ = V := by
  have h1 := h.a1; have h2 := h.b1; have h3 := h.c1
  have h4 := h.val
  refine ⟨⟨⟨by show (0 : Int) ≤ a; omega, by show (a : Int) < _; omega⟩, ⟨by show (0 : Int) ≤ b; omega, by show (b : Int) < _; omega⟩, by show (0 : Int) ≤ c; omega, by show (c : Int) < _; omega⟩, ?_⟩
  unfold bigV at h4
  unfold W3.val
  simp only
  omega
theorem wn_of {X : W3} (h : X.ok) {V : Nat} (hV : X.val = V) : ∃ a b c : Nat, X = ⟨a, b, c⟩ ∧ WN a b c V := by
  obtain ⟨x, y, z⟩ := X
  obtain ⟨⟨h0, h0'⟩, ⟨h1, h1'⟩, h2, h2'⟩ := h
  simp only at *
  obtain ⟨a, rfl⟩ := Int.eq_ofNat_of_zero_le h0
  obtain ⟨b, rfl⟩ := Int.eq_ofNat_of_zero_le h1
  obtain ⟨c, rfl⟩ := Int.eq_ofNat_of_zero_le h2
  refine ⟨a, b, c, rfl, by omega, by omega, by omega, ?_⟩
  unfold W3.val at hV
  unfold bigV
  simp only at hV
  omega
theorem times_wn (a b c V m : Nat) (w : World) (h : WN a b c V) (hm : m < 4294967296) (hv : V * m < 79228162514264337593543950336) :
    Calls Tryd.prog 53 #[.agg #[.int .u32 (a : Int), .int .u32 (b : Int), .int .u32 (c : Int)], .int .u32 (m : Int)] w fun e w' =>
      ∃ (a' b' c' : Nat) (o : Int), e = .returned (.tuple #[.agg #[.int .u32 (a' : Int), .int .u32 (b' : Int), .int .u32 (c' : Int)], .int .u32 o]) ∧ WN a' b' c' (V * m) ∧ Below w.heap.size w w' := by
  have hk := wn_ok h
  have ht := times_any ⟨a, b, c⟩ m w hk.1 (by omega) (by omega)
  obtain ⟨a', b', c', he, hn⟩ := wn_of (X := timesW ⟨a, b, c⟩ m) (carry3_ok _ _ _) (V := V * m) (by
    rw [times_mod, hk.2]
    unfold top
    rw [← Int.natCast_mul, Int.emod_eq_of_lt (by omega) (by omega)])
  refine ht.mono ?_
  rintro e w' ⟨rfl, hb⟩
  exact ⟨a', b', c', _, by rw [he], hn, hb⟩

end Go.Proofs.YtgipkpkjoicehabDoor.token

/- Twenty digits, read. -/
namespace Go.Proofs.YtgipkpkjoicehabDoor.token
open Go.Proofs.YtgipkpkjoicehabDoor.words Go.Proofs.YtgipkpkjoicehabDoor.check
open Go.RowKit
set_option linter.unusedSimpArgs false

theorem plus_wn (a b c V m : Nat) (w : World) (h : WN a b c V) (hm : m < 4294967296) (hv : V + m < 79228162514264337593543950336) :
    Calls Tryd.prog 63 #[.agg #[.int .u32 (a : Int), .int .u32 (b : Int), .int .u32 (c : Int)], .int .u32 (m : Int)] w fun e w' =>
      ∃ (a' b' c' : Nat) (o : Int), e = .returned (.tuple #[.agg #[.int .u32 (a' : Int), .int .u32 (b' : Int), .int .u32 (c' : Int)], .int .u32 o]) ∧ WN a' b' c' (V + m) ∧ Below w.heap.size w w' := by
  have hk := wn_ok h
  have ht := plus_any ⟨a, b, c⟩ m w hk.1 (by omega) (by omega)
  obtain ⟨a', b', c', he, hn⟩ := wn_of (X := plusW ⟨a, b, c⟩ m) (carry3_ok _ _ _) (V := V + m) (by
    have h1 := plus_val ⟨a, b, c⟩ m
    have h2 := plus_over hk.1 (x := (m : Int)) (by omega) (by omega)
    have h3 := W3.bd (carry3_ok ((m : Int) + (a : Int)) b c)
    rw [hk.2] at h1
    have h4 : 0 ≤ (plusW ⟨a, b, c⟩ m).val := h3.1
    unfold top at h1
    omega)
  refine ht.mono ?_
  rintro e w' ⟨rfl, hb⟩
  exact ⟨a', b', c', _, by rw [he], hn, hb⟩

/-- While digits are read: k of them are. -/
structure Rd (w wr : World) (s : ByteArray) (k a b c : Nat) : Prop where
  below : Below w.heap.size w wr
  res : Blk wr w.heap.size #[.int .u32 0, .int .u32 0, .int .u32 0] 77
  num : Blk wr (w.heap.size + 1) #[.int .u32 (a : Int), .int .u32 (b : Int), .int .u32 (c : Int)] 77
  it : It wr (w.heap.size + 1 + 1) s k
  wn : WN a b c (dv (s.data.toList.take k))

/-- What read gives back for twenty bytes. -/
def ReadPost (w : World) (s : ByteArray) (e : Ending) (w' : World) : Prop :=
  Below w.heap.size w w' ∧ ((allD s.data.toList = true ∧ ∃ a b c : Nat, e = .returned (.tuple #[.agg #[.int .u32 (a : Int), .int .u32 (b : Int), .int .u32 (c : Int)], .int .i64 0]) ∧ WN a b c (dv s.data.toList)) ∨
    (allD s.data.toList = false ∧ e = .returned (.tuple #[.agg #[.int .u32 0, .int .u32 0, .int .u32 0], .int .i64 7])))

set_option maxHeartbeats 400000 in
theorem read_len (s : ByteArray) (w : World) (h : s.size ≠ 20) :
    Calls Tryd.prog 40 #[.string s] w fun e w' => e = .returned (.tuple #[.agg #[.int .u32 0, .int .u32 0, .int .u32 0], .int .i64 6]) ∧ Below w.heap.size w w' := by
  have hd : ((s.size : Int) != 20) = true := by simp; omega
  have hX := Blk.new w #[.int .u32 0, .int .u32 0, .int .u32 0] 77
  have HB : Hid (Below w.heap.size w (w.alloc (.cells #[.int .u32 0, .int .u32 0, .int .u32 0] 77))) := bel_box _ _
  have R0 : Hid (_ = _) := hX.cell 0
  have R1 : Hid (_ = _) := hX.cell 1
  have R2 : Hid (_ = _) := hX.cell 2
  clear h hX
  go_enter Tryd.func40, Tryd.ntmps40
  go_wp2_with fail
  refine bodyPost_ret (v := .tuple #[.agg #[.int .u32 0, .int .u32 0, .int .u32 0], .int .i64 6]) (by simp [results, Tryd.results40, R0.out, R1.out, R2.out, go_sem]) rfl ⟨rfl, HB.out⟩

set_option maxHeartbeats 2000000 in
theorem read_any (s : ByteArray) (w : World) (h : s.size = 20) :
    Calls Tryd.prog 40 #[.string s] w fun e w' => ReadPost w s e w' := by
  have hd : ((s.size : Int) != 20) = false := by simp; omega
  have hb0 : Below w.heap.size w (((w.alloc (.cells #[.int .u32 0, .int .u32 0, .int .u32 0] 77)).alloc (.cells #[.int .u32 0, .int .u32 0, .int .u32 0] 77)).iter s 0) := ((bel_box _ _).alloc (by simp) _).alloc (by simp; omega) _
  have HR0 : Hid (Rd w (((w.alloc (.cells #[.int .u32 0, .int .u32 0, .int .u32 0] 77)).alloc (.cells #[.int .u32 0, .int .u32 0, .int .u32 0] 77)).iter s 0) s 0 0 0 0) :=
    ⟨hb0, ((Blk.new _ _ _).alloc _).alloc _, (Blk.new1 _ _ _ _).alloc _, by
      have := World.iter_heap ((w.alloc (.cells #[.int .u32 0, .int .u32 0, .int .u32 0] 77)).alloc (.cells #[.int .u32 0, .int .u32 0, .int .u32 0] 77)) s 0
      rwa [show ((w.alloc (.cells #[.int .u32 0, .int .u32 0, .int .u32 0] 77)).alloc (.cells #[.int .u32 0, .int .u32 0, .int .u32 0] 77)).heap.size = w.heap.size + 1 + 1 by simp] at this, wn_zero⟩
  have HS : Hid (s.size = 20) := h
  clear h hb0
  go_enter Tryd.func40, Tryd.ntmps40
  go_wp2_with fail
  generalize (((w.alloc (.cells #[.int .u32 0, .int .u32 0, .int .u32 0] 77)).alloc (.cells #[.int .u32 0, .int .u32 0, .int .u32 0] 77)).iter s 0) = W0 at *
  go_loopw [] (fun wr => ∃ k a b c : Nat, k ≤ s.size ∧ allD (s.data.toList.take k) = true ∧ Rd w wr s k a b c) (fun wr => s.size - wr.iterPos (w.heap.size + 1 + 1))
  case atStart => exact ⟨0, 0, 0, 0, Nat.zero_le _, rfl, HR0.out⟩
  case round =>
    obtain ⟨k, a, b, c, hk, hok, hl⟩ := hrel
    have HK : Hid (allD (s.data.toList.take k) = true) := hok
    have HP0 : Hid (wr.iterPos (w.heap.size + 1 + 1) = k) := hl.it.pos
    clear hok
    by_cases hp : k < s.size
    · by_cases ha : (s[k]'hp).toNat < 128
      · have hnx : ∀ ty, (Instr.next (.pointer (some ⟨w.heap.size + 1 + 1, 0, none⟩)) true ty).run Tryd.prog wr = _ := fun ty => Lib.run_next_ascii_at wr (w.heap.size + 1 + 1) s k ty hl.it hp ha
        have HN : Hid (isD s[k] = false → allD s.data.toList = false) := allD_take_no s k hp
        have HL : Hid (((s[k].toNat : Nat) : Int) < 48 → isD s[k] = false) := fun a => isD_lo a
        have HH : Hid (57 < ((s[k].toNat : Nat) : Int) → isD s[k] = false) := fun a => isD_hi a
        have BN := Lib.below_iterAt hl.below (k := w.heap.size + 1 + 1) (by omega) s (k + 1)
        have IT : It (wr.iterAt (w.heap.size + 1 + 1) s (k + 1)) (w.heap.size + 1 + 1) s (k + 1) := Lib.iterAt_heap wr (w.heap.size + 1 + 1) s k (k + 1) hl.it
        have RN := hl.res.iter (I := w.heap.size + 1 + 1) s (k + 1) (by omega)
        have NN := hl.num.iter (I := w.heap.size + 1 + 1) s (k + 1) (by omega)
        have HW : Hid (WN a b c (dv (s.data.toList.take k))) := hl.wn
        have HD : Hid (dv (s.data.toList.take (k + 1)) = dv (s.data.toList.take k) * 10 + (s[k].toNat - 48)) := by
          show _ = _
          rw [take_snoc s k hp, dv_snoc]
        have HA : Hid (48 ≤ ((s[k].toNat : Nat) : Int) → ((s[k].toNat : Nat) : Int) ≤ 57 → allD (s.data.toList.take (k + 1)) = true) := fun h1 h2 => by
          rw [take_snoc s k hp, allD_append, HK.out]; simp [allD, isD_yes h1 h2]
        have HV : Hid (dv (s.data.toList.take k) < 100000000000000000000) := by
          have h1 := dv_lt _ HK.out
          have h2 : (s.data.toList.take k).length ≤ 20 := by
            rw [List.length_take, len_eq, HS.out]; omega
          exact Nat.lt_of_lt_of_le h1 (Nat.pow_le_pow_right (by decide) h2)
        clear ha hl
        generalize hwn : wr.iterAt (w.heap.size + 1 + 1) s (k + 1) = wn at *
        clear hwn
        have r0 := RN.cell 0
        have r1 := RN.cell 1
        have r2 := RN.cell 2
        have g0 := RN.free 0
        have g1 := RN.free 1
        have g2 := RN.free 2
        have HZ : Hid (Below w.heap.size w (set3 wn w.heap.size 0 0 0) ∧ Blk (set3 wn w.heap.size 0 0 0) w.heap.size #[.int .u32 0, .int .u32 0, .int .u32 0] 77) := ⟨bel_set3 BN _ _ _ _ (Nat.le_refl _), RN.put3 0 0 0⟩
        have c0 := NN.cell 0
        have c1 := NN.cell 1
        have c2 := NN.cell 2
        generalize s[k] = ch at *
        generalize dv (s.data.toList.take k) = V at *
        have HI : Hid (It wn (w.heap.size + 1 + 1) s (k + 1)) := IT
        have HRN : Hid (Blk wn w.heap.size #[.int .u32 0, .int .u32 0, .int .u32 0] 77) := RN
        have HNN : Hid (Blk wn (w.heap.size + 1) #[.int .u32 (a : Int), .int .u32 (b : Int), .int .u32 (c : Int)] 77) := NN
        have HBN : Hid (Below w.heap.size w wn) := BN
        clear IT RN NN BN
        generalize hcc : ch.toNat = z at *
        clear hcc
        by_cases h1 : (z : Int) < 48
        · have R0 : Hid (_ = _) := HZ.out.2.cell 0
          have R1 : Hid (_ = _) := HZ.out.2.cell 1
          have R2 : Hid (_ = _) := HZ.out.2.cell 2
          unfold set3 at *
          go_wp2_with fail
          refine bodyPost_ret (v := .tuple #[.agg #[.int .u32 0, .int .u32 0, .int .u32 0], .int .i64 7]) (by simp [results, Tryd.results40, R0.out, R1.out, R2.out, go_sem]) rfl ⟨HZ.out.1, .inr ⟨HN.out (HL.out h1), rfl⟩⟩
        · by_cases h2 : 57 < (z : Int)
          · have R0 : Hid (_ = _) := HZ.out.2.cell 0
            have R1 : Hid (_ = _) := HZ.out.2.cell 1
            have R2 : Hid (_ = _) := HZ.out.2.cell 2
            unfold set3 at *
            go_wp2_with fail
            refine bodyPost_ret (v := .tuple #[.agg #[.int .u32 0, .int .u32 0, .int .u32 0], .int .i64 7]) (by simp [results, Tryd.results40, R0.out, R1.out, R2.out, go_sem]) rfl ⟨HZ.out.1, .inr ⟨HN.out (HH.out h2), rfl⟩⟩
          · clear r0 r1 r2 g0 g1 g2 HZ HN HL HH
            obtain ⟨d, rfl⟩ : ∃ d : Nat, z = d + 48 := ⟨z - 48, by omega⟩
            have hd9 : (d : Int) ≤ 9 := by omega
            have ez : (((d + 48 : Nat) : Int)) = (d : Int) + 48 := by omega
            have ed : (d : Int) + 48 - 48 = (d : Int) := by omega
            have hwz : IntKind.u32.wrap (d : Int) = (d : Int) := by rw [IntKind.wrap_u32]; omega
            have HA' : Hid (allD (s.data.toList.take (k + 1)) = true) := HA.out (by omega) (by omega)
            have HD' : Hid (dv (s.data.toList.take (k + 1)) = V * 10 + d) := by
              have := HD.out
              rwa [show d + 48 - 48 = d by omega] at this
            have HT : Hid (∀ W, Calls Tryd.prog 53 #[.agg #[.int .u32 (a : Int), .int .u32 (b : Int), .int .u32 (c : Int)], .int .u32 10] W fun e w' => ∃ (a' b' c' : Nat) (o : Int), e = .returned (.tuple #[.agg #[.int .u32 (a' : Int), .int .u32 (b' : Int), .int .u32 (c' : Int)], .int .u32 o]) ∧ WN a' b' c' (V * 10) ∧ Below W.heap.size W w') := fun W => times_wn a b c V 10 W HW.out (by omega) (by have := HV.out; omega)
            have HPl : Hid (∀ (x y z : Nat) W, WN x y z (V * 10) → Calls Tryd.prog 63 #[.agg #[.int .u32 (x : Int), .int .u32 (y : Int), .int .u32 (z : Int)], .int .u32 (d : Int)] W fun e w' => ∃ (a' b' c' : Nat) (o : Int), e = .returned (.tuple #[.agg #[.int .u32 (a' : Int), .int .u32 (b' : Int), .int .u32 (c' : Int)], .int .u32 o]) ∧ WN a' b' c' (V * 10 + d) ∧ Below W.heap.size W w') := fun x y z W hW => plus_wn x y z (V * 10) d W hW (by omega) (by have := HV.out; omega)
            rw [ez] at h1 h2
            simp only [ez] at hnx
            clear HA HD HW HV ez
            go_wp2_with fail
            refine (HT.out _).mono ?_
            clear c0 c1 c2
            rintro e w2 ⟨a2, b2, c2, o2, rfl, hw2, hb2⟩
            have HW2 : Hid (WN a2 b2 c2 (V * 10)) := hw2
            have HB2 : Hid (Below w.heap.size w w2) := bel_step HBN.out hb2
            have HI2 : Hid (It w2 (w.heap.size + 1 + 1) s (k + 1)) := HI.out.next hb2
            have HR2 : Hid (Blk w2 w.heap.size #[.int .u32 0, .int .u32 0, .int .u32 0] 77) := HRN.out.next hb2
            have hN2 := HNN.out.next hb2
            have HN3 : Hid (Blk (set3 w2 (w.heap.size + 1) a2 b2 c2) (w.heap.size + 1) #[.int .u32 (a2 : Int), .int .u32 (b2 : Int), .int .u32 (c2 : Int)] 77) := hN2.put3 a2 b2 c2
            have HB3 : Hid (Below w.heap.size w (set3 w2 (w.heap.size + 1) a2 b2 c2)) := bel_set3 HB2.out _ _ _ _ (by omega)
            have HI3 : Hid (It (set3 w2 (w.heap.size + 1) a2 b2 c2) (w.heap.size + 1 + 1) s (k + 1)) := HI2.out.off3 (by omega) _ _ _
            have HR3 : Hid (Blk (set3 w2 (w.heap.size + 1) a2 b2 c2) w.heap.size #[.int .u32 0, .int .u32 0, .int .u32 0] 77) := HR2.out.off3 (by omega) _ _ _
            have t0 := hN2.cell 0
            have t1 := hN2.cell 1
            have t2 := hN2.cell 2
            have u0 := hN2.free 0
            have u1 := hN2.free 1
            have u2 := hN2.free 2
            clear hw2 hb2 hN2 HBN HI HRN HNN HB2 HI2 HR2 HT
            unfold set3 at HN3 HB3 HI3 HR3
            go_wp2_with fail
            generalize (((w2.setCell ⟨w.heap.size + 1, 0, none⟩ (.int .u32 (a2 : Int))).setCell ⟨w.heap.size + 1, 1, none⟩ (.int .u32 (b2 : Int))).setCell ⟨w.heap.size + 1, 2, none⟩ (.int .u32 (c2 : Int))) = W3 at *
            clear t0 t1 t2 u0 u1 u2
            refine (HPl.out _ _ _ _ HW2.out).mono ?_
            rintro e w4 ⟨a4, b4, c4, o4, rfl, hw4, hb4⟩
            have HB4 : Hid (Below w.heap.size w w4) := bel_step HB3.out hb4
            have hN4 := HN3.out.next hb4
            have HL : Hid (Rd w (set3 w4 (w.heap.size + 1) a4 b4 c4) s (k + 1) a4 b4 c4) := by
              refine ⟨bel_set3 HB4.out _ _ _ _ (by omega), (HR3.out.next hb4).off3 (by omega) _ _ _, hN4.put3 _ _ _, (HI3.out.next hb4).off3 (by omega) _ _ _, ?_⟩
              rw [HD'.out]; exact hw4
            have t0 := hN4.cell 0
            have t1 := hN4.cell 1
            have t2 := hN4.cell 2
            have u0 := hN4.free 0
            have u1 := hN4.free 1
            have u2 := hN4.free 2
            clear hw4 hb4 hN4 HB3 HI3 HR3 HN3 HB4 HPl HW2
            unfold set3 at HL
            go_wp2_with fail
            go_roundw
            case rel => exact ⟨k + 1, a4, b4, c4, by omega, HA'.out, HL.out⟩
            case measure =>
              rw [HP0.out, HL.out.it.pos]
              omega
      · have hd := (decode_high s k hp (by omega)).1
        have hnx : ∀ ty, (Instr.next (.pointer (some ⟨w.heap.size + 1 + 1, 0, none⟩)) true ty).run Tryd.prog wr = _ := fun ty => Lib.run_next_any_at wr (w.heap.size + 1 + 1) s k ty hl.it hp
        have HN : Hid (allD s.data.toList = false) := allD_take_no s k hp (isD_hi (by omega))
        have BN := fun p => Lib.below_iterAt hl.below (k := w.heap.size + 1 + 1) (by omega) s p
        have RN := fun p => hl.res.iter (I := w.heap.size + 1 + 1) s p (by omega)
        clear ha hl
        have hd2 := decode_le s k
        generalize (Utf8.decode s k).1 = r at *
        generalize (Utf8.decode s k).2 = n at *
        have BN := BN (k + n)
        have RN := RN (k + n)
        generalize hwn : wr.iterAt (w.heap.size + 1 + 1) s (k + n) = wn at *
        clear hwn
        have r0 := RN.cell 0
        have r1 := RN.cell 1
        have r2 := RN.cell 2
        have g0 := RN.free 0
        have g1 := RN.free 1
        have g2 := RN.free 2
        have HZ : Hid (Below w.heap.size w (set3 wn w.heap.size 0 0 0) ∧ Blk (set3 wn w.heap.size 0 0 0) w.heap.size #[.int .u32 0, .int .u32 0, .int .u32 0] 77) := ⟨bel_set3 BN _ _ _ _ (Nat.le_refl _), RN.put3 0 0 0⟩
        have R0 : Hid (_ = _) := HZ.out.2.cell 0
        have R1 : Hid (_ = _) := HZ.out.2.cell 1
        have R2 : Hid (_ = _) := HZ.out.2.cell 2
        clear BN RN
        unfold set3 at *
        go_wp2_with fail
        refine bodyPost_ret (v := .tuple #[.agg #[.int .u32 0, .int .u32 0, .int .u32 0], .int .i64 7]) (by simp [results, Tryd.results40, R0.out, R1.out, R2.out, go_sem]) rfl ⟨HZ.out.1, .inr ⟨HN.out, rfl⟩⟩
    · have hnx : ∀ ty, (Instr.next (.pointer (some ⟨w.heap.size + 1 + 1, 0, none⟩)) true ty).run Tryd.prog wr = _ := fun ty => Lib.run_next_end_at wr (w.heap.size + 1 + 1) s k ty hl.it hp
      have hkt : s.data.toList.take k = s.data.toList := List.take_of_length_le (by rw [len_eq]; omega)
      have HP : Hid (allD s.data.toList = true ∧ WN a b c (dv s.data.toList)) := by
        have h1 := HK.out
        have h2 := hl.wn
        rw [hkt] at h1 h2
        exact ⟨h1, h2⟩
      have r0 := hl.res.cell 0
      have r1 := hl.res.cell 1
      have r2 := hl.res.cell 2
      have g0 := hl.res.free 0
      have g1 := hl.res.free 1
      have g2 := hl.res.free 2
      have c0 := hl.num.cell 0
      have c1 := hl.num.cell 1
      have c2 := hl.num.cell 2
      have HZ : Hid (Below w.heap.size w (set3 wr w.heap.size a b c) ∧ Blk (set3 wr w.heap.size a b c) w.heap.size #[.int .u32 (a : Int), .int .u32 (b : Int), .int .u32 (c : Int)] 77) := ⟨bel_set3 hl.below _ _ _ _ (Nat.le_refl _), hl.res.put3 a b c⟩
      have R0 : Hid (_ = _) := HZ.out.2.cell 0
      have R1 : Hid (_ = _) := HZ.out.2.cell 1
      have R2 : Hid (_ = _) := HZ.out.2.cell 2
      clear hl hkt
      unfold set3 at *
      go_wp2_with fail
      refine bodyPost_ret (v := .tuple #[.agg #[.int .u32 (a : Int), .int .u32 (b : Int), .int .u32 (c : Int)], .int .i64 0]) (by simp [results, Tryd.results40, R0.out, R1.out, R2.out, go_sem]) rfl ⟨HZ.out.1, .inl ⟨HP.out.1, a, b, c, rfl, HP.out.2⟩⟩

end Go.Proofs.YtgipkpkjoicehabDoor.token

/- What Parse gives back. -/
namespace Go.Proofs.YtgipkpkjoicehabDoor.token
open Go.Proofs.YtgipkpkjoicehabDoor.words Go.Proofs.YtgipkpkjoicehabDoor.check
open Go.RowKit
set_option linter.unusedSimpArgs false

theorem over_wn (a b c V : Nat) (w : World) (h : WN a b c V) :
    Calls Tryd.prog 42 #[.agg #[.int .u32 (a : Int), .int .u32 (b : Int), .int .u32 (c : Int)], .int .u32 97] w fun e w' =>
      ∃ a' b' c' : Nat, e = .returned (.tuple #[.agg #[.int .u32 (a' : Int), .int .u32 (b' : Int), .int .u32 (c' : Int)], .int .u32 ((V % 97 : Nat) : Int), .int .i64 0]) ∧ WN a' b' c' (V / 97) ∧ Below w.heap.size w w' := by
  have hk := wn_ok h
  have ho := over_any ⟨a, b, c⟩ 97 w hk.1 (by omega) (by omega)
  have h1 := over_val ⟨a, b, c⟩ 97
  have h2 := over_left (w := ⟨a, b, c⟩) 97 (by omega)
  rw [hk.2] at h1
  have hr : overR ⟨a, b, c⟩ 97 = ((V % 97 : Nat) : Int) := by omega
  obtain ⟨a', b', c', he, hn⟩ := wn_of (over_ok hk.1 (d := 97) (by omega)) (V := V / 97) (by omega)
  refine ho.mono ?_
  rintro e w' ⟨rfl, hb⟩
  exact ⟨a', b', c', by rw [he, hr], hn, hb⟩
theorem cmp_wn (a b c V : Nat) (w : World) (h : WN a b c V) :
    Calls Tryd.prog 41 #[.agg #[.int .u32 (a : Int), .int .u32 (b : Int), .int .u32 (c : Int)], .agg #[.int .u32 0, .int .u32 0, .int .u32 4]] w fun e w' => e = .returned (.int .i64 (cmp3 (V : Int) 73786976294838206464)) ∧ Below w.heap.size w w' := by
  have hk := wn_ok h
  have hc := cmp_any ⟨a, b, c⟩ ⟨0, 0, 4⟩ w hk.1 (by unfold W3.ok; decide)
  rwa [hk.2, show W3.val ⟨0, 0, 4⟩ = 73786976294838206464 by unfold W3.val; decide] at hc

theorem bel_set4 {w w' : World} (h : Below w.heap.size w w') (x y z u : Int) : Below w.heap.size w (((((w').setCell ⟨w.heap.size, 0, none⟩ (.int .i64 x)).setCell ⟨w.heap.size, 1, none⟩ (.int .i64 y)).setCell ⟨w.heap.size, 2, none⟩ (.int .i64 z)).setCell ⟨w.heap.size, 3, none⟩ (.int .i64 u)) := bel_set (bel_set (bel_set (bel_set h _ _ _ (Nat.le_refl _)) _ _ _ (Nat.le_refl _)) _ _ _ (Nat.le_refl _)) _ _ _ (Nat.le_refl _)
theorem blk_set4 {w w' : World} {p q r v : Value} (h : Blk w' w.heap.size #[p, q, r, v] 50) (x y z u : Int) : Blk (((((w').setCell ⟨w.heap.size, 0, none⟩ (.int .i64 x)).setCell ⟨w.heap.size, 1, none⟩ (.int .i64 y)).setCell ⟨w.heap.size, 2, none⟩ (.int .i64 z)).setCell ⟨w.heap.size, 3, none⟩ (.int .i64 u)) w.heap.size #[.int .i64 x, .int .i64 y, .int .i64 z, .int .i64 u] 50 := (((h.set 0 _).set 1 _).set 2 _).set 3 _

set_option maxHeartbeats 400000 in
theorem parse_6 (s : ByteArray) (w : World) (h : s.size ≠ 20) :
    Calls Tryd.prog 25 #[.string s] w fun e w' => e = .returned (.tuple #[noTok, .int .i64 6]) ∧ Below w.heap.size w w' := by
  have HF : Hid (∀ W, Calls Tryd.prog 40 #[.string s] W fun e w' => e = .returned (.tuple #[.agg #[.int .u32 0, .int .u32 0, .int .u32 0], .int .i64 6]) ∧ Below W.heap.size W w') := fun W => read_len s W h
  have hR0 := Blk.new w #[.int .i64 0, .int .i64 0, .int .i64 0, .int .i64 0] 50
  have HR0 : Hid (Blk (w.alloc (.cells #[.int .i64 0, .int .i64 0, .int .i64 0, .int .i64 0] 50)) w.heap.size #[.int .i64 0, .int .i64 0, .int .i64 0, .int .i64 0] 50) := hR0
  have HB0 : Hid (Below w.heap.size w (w.alloc (.cells #[.int .i64 0, .int .i64 0, .int .i64 0, .int .i64 0] 50))) := bel_box _ _
  clear hR0
  clear h
  go_enter Tryd.func25, Tryd.ntmps25
  go_wp2_with fail
  refine (HF.out _).mono ?_
  rintro e w1 ⟨rfl, hb1⟩
  have hR := (HR0.out.next hb1).alloc (.cells #[.int .u32 0, .int .u32 0, .int .u32 0] 77)
  have hB := (bel_step HB0.out hb1).alloc (bel_step HB0.out hb1).size (.cells #[.int .u32 0, .int .u32 0, .int .u32 0] 77)
  clear hb1 HF HR0 HB0
  have RR := blk_set4 (w := w) hR (0) (0) (0) (0)
  have HBB : Hid (Below w.heap.size w (((((w1.alloc (.cells #[.int .u32 0, .int .u32 0, .int .u32 0] 77)).setCell ⟨w.heap.size, 0, none⟩ (.int .i64 0)).setCell ⟨w.heap.size, 1, none⟩ (.int .i64 0)).setCell ⟨w.heap.size, 2, none⟩ (.int .i64 0)).setCell ⟨w.heap.size, 3, none⟩ (.int .i64 0))) := bel_set4 hB (0) (0) (0) (0)
  have R0 : Hid (_ = _) := RR.cell 0
  have R1 : Hid (_ = _) := RR.cell 1
  have R2 : Hid (_ = _) := RR.cell 2
  have R3 : Hid (_ = _) := RR.cell 3
  have p0 := hR.cell 0
  have p1 := hR.cell 1
  have p2 := hR.cell 2
  have p3 := hR.cell 3
  have f0 := hR.free 0
  have f1 := hR.free 1
  have f2 := hR.free 2
  have f3 := hR.free 3
  clear RR hR hB
  go_wp2_with fail
  refine bodyPost_ret (v := .tuple #[.agg #[.int .i64 0, .int .i64 0, .int .i64 0, .int .i64 0], .int .i64 6]) (by simp [results, Tryd.results25, R0.out, R1.out, R2.out, R3.out, go_sem]) rfl ⟨rfl, HBB.out⟩

set_option maxHeartbeats 400000 in
theorem parse_7 (s : ByteArray) (w : World) (h : s.size = 20) (h1 : allD s.data.toList = false) :
    Calls Tryd.prog 25 #[.string s] w fun e w' => e = .returned (.tuple #[noTok, .int .i64 7]) ∧ Below w.heap.size w w' := by
  have HF : Hid (∀ W, Calls Tryd.prog 40 #[.string s] W fun e w' => e = .returned (.tuple #[.agg #[.int .u32 0, .int .u32 0, .int .u32 0], .int .i64 7]) ∧ Below W.heap.size W w') := fun W => (read_any s W h).mono fun e w' hp => by
    rcases hp.2 with ⟨hx, _⟩ | ⟨_, hx⟩
    · rw [h1] at hx; cases hx
    · exact ⟨hx, hp.1⟩
  have hR0 := Blk.new w #[.int .i64 0, .int .i64 0, .int .i64 0, .int .i64 0] 50
  have HR0 : Hid (Blk (w.alloc (.cells #[.int .i64 0, .int .i64 0, .int .i64 0, .int .i64 0] 50)) w.heap.size #[.int .i64 0, .int .i64 0, .int .i64 0, .int .i64 0] 50) := hR0
  have HB0 : Hid (Below w.heap.size w (w.alloc (.cells #[.int .i64 0, .int .i64 0, .int .i64 0, .int .i64 0] 50))) := bel_box _ _
  clear hR0
  clear h h1
  go_enter Tryd.func25, Tryd.ntmps25
  go_wp2_with fail
  refine (HF.out _).mono ?_
  rintro e w1 ⟨rfl, hb1⟩
  have hR := (HR0.out.next hb1).alloc (.cells #[.int .u32 0, .int .u32 0, .int .u32 0] 77)
  have hB := (bel_step HB0.out hb1).alloc (bel_step HB0.out hb1).size (.cells #[.int .u32 0, .int .u32 0, .int .u32 0] 77)
  clear hb1 HF HR0 HB0
  have RR := blk_set4 (w := w) hR (0) (0) (0) (0)
  have HBB : Hid (Below w.heap.size w (((((w1.alloc (.cells #[.int .u32 0, .int .u32 0, .int .u32 0] 77)).setCell ⟨w.heap.size, 0, none⟩ (.int .i64 0)).setCell ⟨w.heap.size, 1, none⟩ (.int .i64 0)).setCell ⟨w.heap.size, 2, none⟩ (.int .i64 0)).setCell ⟨w.heap.size, 3, none⟩ (.int .i64 0))) := bel_set4 hB (0) (0) (0) (0)
  have R0 : Hid (_ = _) := RR.cell 0
  have R1 : Hid (_ = _) := RR.cell 1
  have R2 : Hid (_ = _) := RR.cell 2
  have R3 : Hid (_ = _) := RR.cell 3
  have p0 := hR.cell 0
  have p1 := hR.cell 1
  have p2 := hR.cell 2
  have p3 := hR.cell 3
  have f0 := hR.free 0
  have f1 := hR.free 1
  have f2 := hR.free 2
  have f3 := hR.free 3
  clear RR hR hB
  go_wp2_with fail
  refine bodyPost_ret (v := .tuple #[.agg #[.int .i64 0, .int .i64 0, .int .i64 0, .int .i64 0], .int .i64 7]) (by simp [results, Tryd.results25, R0.out, R1.out, R2.out, R3.out, go_sem]) rfl ⟨rfl, HBB.out⟩

set_option maxHeartbeats 1000000 in
theorem parse_big2 (s : ByteArray) (V : Nat) (w : World) (ht : TTab w) (h : s.size = 20) (h1 : allD s.data.toList = true) (hV : dv s.data.toList = V) (h2 : 73786976294838206464 ≤ V) :
    Calls Tryd.prog 25 #[.string s] w fun e w' => e = .returned (.tuple #[noTok, .int .i64 2]) ∧ Below w.heap.size w w' := by
  have HF : Hid (∀ W, Calls Tryd.prog 40 #[.string s] W fun e w' => ∃ a b c : Nat, e = .returned (.tuple #[.agg #[.int .u32 (a : Int), .int .u32 (b : Int), .int .u32 (c : Int)], .int .i64 0]) ∧ WN a b c V ∧ Below W.heap.size W w') := fun W => (read_any s W h).mono fun e w' hp => by
    rcases hp.2 with ⟨_, a, b, c, he, hw⟩ | ⟨hx, _⟩
    · rw [hV] at hw; exact ⟨a, b, c, he, hw, hp.1⟩
    · rw [h1] at hx; cases hx
  have hR0 := Blk.new w #[.int .i64 0, .int .i64 0, .int .i64 0, .int .i64 0] 50
  have HR0 : Hid (Blk (w.alloc (.cells #[.int .i64 0, .int .i64 0, .int .i64 0, .int .i64 0] 50)) w.heap.size #[.int .i64 0, .int .i64 0, .int .i64 0, .int .i64 0] 50) := hR0
  have HB0 : Hid (Below w.heap.size w (w.alloc (.cells #[.int .i64 0, .int .i64 0, .int .i64 0, .int .i64 0] 50))) := bel_box _ _
  clear hR0
  have HT0 : Hid (TTab w) := ht
  have HC : Hid (cmp3 (V : Int) 73786976294838206464 = (if (73786976294838206464 : Int) < V then 1 else 0) ∧ True) := ⟨by unfold cmp3; rw [if_neg (by omega)], trivial⟩
  have hcc : (0 : Int) ≤ (if (73786976294838206464 : Int) < V then 1 else 0) := by split <;> omega
  generalize (if (73786976294838206464 : Int) < (V : Int) then (1 : Int) else 0) = cc at *
  clear h2
  clear h h1 hV ht
  go_enter Tryd.func25, Tryd.ntmps25
  go_wp2_with fail
  refine (HF.out _).mono ?_
  rintro e w1 ⟨a, b, c, rfl, hw1, hb1⟩
  have HR1 : Hid (Blk (w1.alloc (.cells #[.int .u32 (a : Int), .int .u32 (b : Int), .int .u32 (c : Int)] 77)) w.heap.size #[.int .i64 0, .int .i64 0, .int .i64 0, .int .i64 0] 50) := (HR0.out.next hb1).alloc _
  have HB1 : Hid (Below w.heap.size w (w1.alloc (.cells #[.int .u32 (a : Int), .int .u32 (b : Int), .int .u32 (c : Int)] 77))) := (bel_step HB0.out hb1).alloc (bel_step HB0.out hb1).size _
  have hN1 := Blk.new w1 #[.int .u32 (a : Int), .int .u32 (b : Int), .int .u32 (c : Int)] 77
  have HN1 : Hid (Blk (w1.alloc (.cells #[.int .u32 (a : Int), .int .u32 (b : Int), .int .u32 (c : Int)] 77)) w1.heap.size #[.int .u32 (a : Int), .int .u32 (b : Int), .int .u32 (c : Int)] 77) := hN1
  have HW : Hid (WN a b c V) := hw1
  have c0 := hN1.cell 0
  have c1 := hN1.cell 1
  have c2 := hN1.cell 2
  clear hb1 HF HR0 HB0 hw1 hN1
  go_wp2_with fail
  refine (cmp_wn a b c V _ HW.out).mono ?_
  rintro e w2 ⟨rfl, hb2⟩
  have HR2 : Hid (Blk w2 w.heap.size #[.int .i64 0, .int .i64 0, .int .i64 0, .int .i64 0] 50) := HR1.out.next hb2
  have HB2 : Hid (Below w.heap.size w w2) := bel_step HB1.out hb2
  have hN2 := HN1.out.next hb2
  have n0 := hN2.cell 0
  have n1 := hN2.cell 1
  have n2 := hN2.cell 2
  clear hb2 c0 c1 c2 HR1 HB1 HN1 hN2
  rw [HC.out.1]
  have hR := HR2.out
  have hB := HB2.out
  clear HR2 HB2
  have RR := blk_set4 (w := w) hR (0) (0) (0) (0)
  have HBB : Hid (Below w.heap.size w (((((w2).setCell ⟨w.heap.size, 0, none⟩ (.int .i64 0)).setCell ⟨w.heap.size, 1, none⟩ (.int .i64 0)).setCell ⟨w.heap.size, 2, none⟩ (.int .i64 0)).setCell ⟨w.heap.size, 3, none⟩ (.int .i64 0))) := bel_set4 hB (0) (0) (0) (0)
  have R0 : Hid (_ = _) := RR.cell 0
  have R1 : Hid (_ = _) := RR.cell 1
  have R2 : Hid (_ = _) := RR.cell 2
  have R3 : Hid (_ = _) := RR.cell 3
  have p0 := hR.cell 0
  have p1 := hR.cell 1
  have p2 := hR.cell 2
  have p3 := hR.cell 3
  have f0 := hR.free 0
  have f1 := hR.free 1
  have f2 := hR.free 2
  have f3 := hR.free 3
  clear RR hR hB
  go_wp2_with fail
  refine bodyPost_ret (v := .tuple #[.agg #[.int .i64 0, .int .i64 0, .int .i64 0, .int .i64 0], .int .i64 2]) (by simp [results, Tryd.results25, R0.out, R1.out, R2.out, R3.out, go_sem]) rfl ⟨rfl, HBB.out⟩

set_option maxHeartbeats 1000000 in
theorem parse_8 (s : ByteArray) (V : Nat) (w : World) (ht : TTab w) (h : s.size = 20) (h1 : allD s.data.toList = true) (hV : dv s.data.toList = V) (h2 : V < 73786976294838206464) (h3 : V % 97 ≠ 0) :
    Calls Tryd.prog 25 #[.string s] w fun e w' => e = .returned (.tuple #[noTok, .int .i64 8]) ∧ Below w.heap.size w w' := by
  have HF : Hid (∀ W, Calls Tryd.prog 40 #[.string s] W fun e w' => ∃ a b c : Nat, e = .returned (.tuple #[.agg #[.int .u32 (a : Int), .int .u32 (b : Int), .int .u32 (c : Int)], .int .i64 0]) ∧ WN a b c V ∧ Below W.heap.size W w') := fun W => (read_any s W h).mono fun e w' hp => by
    rcases hp.2 with ⟨_, a, b, c, he, hw⟩ | ⟨hx, _⟩
    · rw [hV] at hw; exact ⟨a, b, c, he, hw, hp.1⟩
    · rw [h1] at hx; cases hx
  have hR0 := Blk.new w #[.int .i64 0, .int .i64 0, .int .i64 0, .int .i64 0] 50
  have HR0 : Hid (Blk (w.alloc (.cells #[.int .i64 0, .int .i64 0, .int .i64 0, .int .i64 0] 50)) w.heap.size #[.int .i64 0, .int .i64 0, .int .i64 0, .int .i64 0] 50) := hR0
  have HB0 : Hid (Below w.heap.size w (w.alloc (.cells #[.int .i64 0, .int .i64 0, .int .i64 0, .int .i64 0] 50))) := bel_box _ _
  clear hR0
  have HT0 : Hid (TTab w) := ht
  have HC : Hid (cmp3 (V : Int) 73786976294838206464 = -1) := (by unfold cmp3; rw [if_pos (by omega)] : cmp3 (V : Int) 73786976294838206464 = -1)
  obtain ⟨rr, hrr⟩ : ∃ rr : Int, ((V % 97 : Nat) : Int) = rr := ⟨_, rfl⟩
  have hr : (rr != 0) = true := by simp; omega
  have HRR : Hid (((V % 97 : Nat) : Int) = rr) := hrr
  clear h2 h3 hrr
  clear h h1 hV ht
  go_enter Tryd.func25, Tryd.ntmps25
  go_wp2_with fail
  refine (HF.out _).mono ?_
  rintro e w1 ⟨a, b, c, rfl, hw1, hb1⟩
  have HR1 : Hid (Blk (w1.alloc (.cells #[.int .u32 (a : Int), .int .u32 (b : Int), .int .u32 (c : Int)] 77)) w.heap.size #[.int .i64 0, .int .i64 0, .int .i64 0, .int .i64 0] 50) := (HR0.out.next hb1).alloc _
  have HB1 : Hid (Below w.heap.size w (w1.alloc (.cells #[.int .u32 (a : Int), .int .u32 (b : Int), .int .u32 (c : Int)] 77))) := (bel_step HB0.out hb1).alloc (bel_step HB0.out hb1).size _
  have hN1 := Blk.new w1 #[.int .u32 (a : Int), .int .u32 (b : Int), .int .u32 (c : Int)] 77
  have HN1 : Hid (Blk (w1.alloc (.cells #[.int .u32 (a : Int), .int .u32 (b : Int), .int .u32 (c : Int)] 77)) w1.heap.size #[.int .u32 (a : Int), .int .u32 (b : Int), .int .u32 (c : Int)] 77) := hN1
  have HW : Hid (WN a b c V) := hw1
  have c0 := hN1.cell 0
  have c1 := hN1.cell 1
  have c2 := hN1.cell 2
  clear hb1 HF HR0 HB0 hw1 hN1
  go_wp2_with fail
  refine (cmp_wn a b c V _ HW.out).mono ?_
  rintro e w2 ⟨rfl, hb2⟩
  have HR2 : Hid (Blk w2 w.heap.size #[.int .i64 0, .int .i64 0, .int .i64 0, .int .i64 0] 50) := HR1.out.next hb2
  have HB2 : Hid (Below w.heap.size w w2) := bel_step HB1.out hb2
  have hN2 := HN1.out.next hb2
  have n0 := hN2.cell 0
  have n1 := hN2.cell 1
  have n2 := hN2.cell 2
  clear hb2 c0 c1 c2 HR1 HB1 HN1 hN2
  rw [HC.out]
  go_wp2_with fail
  refine (over_wn a b c V _ HW.out).mono ?_
  rintro e w3 ⟨a', b', c', rfl, hw3, hb3⟩
  rw [HRR.out]
  have HR3 : Hid (Blk (w3.alloc (.cells #[.int .u32 (a' : Int), .int .u32 (b' : Int), .int .u32 (c' : Int)] 77)) w.heap.size #[.int .i64 0, .int .i64 0, .int .i64 0, .int .i64 0] 50) := (HR2.out.next hb3).alloc _
  have HB3 : Hid (Below w.heap.size w (w3.alloc (.cells #[.int .u32 (a' : Int), .int .u32 (b' : Int), .int .u32 (c' : Int)] 77))) := (bel_step HB2.out hb3).alloc (bel_step HB2.out hb3).size _
  have hN3 := Blk.new w3 #[.int .u32 (a' : Int), .int .u32 (b' : Int), .int .u32 (c' : Int)] 77
  have HW3 : Hid (WN a' b' c' (V / 97)) := hw3
  clear hb3 n0 n1 n2 HR2 HB2 HW HC hw3
  clear HW3 hN3 HRR
  have hR := HR3.out
  have hB := HB3.out
  clear HR3 HB3
  have RR := blk_set4 (w := w) hR (0) (0) (0) (0)
  have HBB : Hid (Below w.heap.size w (((((w3.alloc (.cells #[.int .u32 (a' : Int), .int .u32 (b' : Int), .int .u32 (c' : Int)] 77)).setCell ⟨w.heap.size, 0, none⟩ (.int .i64 0)).setCell ⟨w.heap.size, 1, none⟩ (.int .i64 0)).setCell ⟨w.heap.size, 2, none⟩ (.int .i64 0)).setCell ⟨w.heap.size, 3, none⟩ (.int .i64 0))) := bel_set4 hB (0) (0) (0) (0)
  have R0 : Hid (_ = _) := RR.cell 0
  have R1 : Hid (_ = _) := RR.cell 1
  have R2 : Hid (_ = _) := RR.cell 2
  have R3 : Hid (_ = _) := RR.cell 3
  have p0 := hR.cell 0
  have p1 := hR.cell 1
  have p2 := hR.cell 2
  have p3 := hR.cell 3
  have f0 := hR.free 0
  have f1 := hR.free 1
  have f2 := hR.free 2
  have f3 := hR.free 3
  clear RR hR hB
  go_wp2_with fail
  refine bodyPost_ret (v := .tuple #[.agg #[.int .i64 0, .int .i64 0, .int .i64 0, .int .i64 0], .int .i64 8]) (by simp [results, Tryd.results25, R0.out, R1.out, R2.out, R3.out, go_sem]) rfl ⟨rfl, HBB.out⟩

set_option maxHeartbeats 1000000 in
theorem parse_2 (s : ByteArray) (V : Nat) (w : World) (ht : TTab w) (h : s.size = 20) (h1 : allD s.data.toList = true) (hV : dv s.data.toList = V) (h2 : V < 73786976294838206464) (h3 : V % 97 = 0) (k : Tok) (hk : tokOf (V / 97) = k) (h4 : ¬ k.ok) :
    Calls Tryd.prog 25 #[.string s] w fun e w' => e = .returned (.tuple #[noTok, .int .i64 2]) ∧ Below w.heap.size w w' := by
  have HF : Hid (∀ W, Calls Tryd.prog 40 #[.string s] W fun e w' => ∃ a b c : Nat, e = .returned (.tuple #[.agg #[.int .u32 (a : Int), .int .u32 (b : Int), .int .u32 (c : Int)], .int .i64 0]) ∧ WN a b c V ∧ Below W.heap.size W w') := fun W => (read_any s W h).mono fun e w' hp => by
    rcases hp.2 with ⟨_, a, b, c, he, hw⟩ | ⟨hx, _⟩
    · rw [hV] at hw; exact ⟨a, b, c, he, hw, hp.1⟩
    · rw [h1] at hx; cases hx
  have hR0 := Blk.new w #[.int .i64 0, .int .i64 0, .int .i64 0, .int .i64 0] 50
  have HR0 : Hid (Blk (w.alloc (.cells #[.int .i64 0, .int .i64 0, .int .i64 0, .int .i64 0] 50)) w.heap.size #[.int .i64 0, .int .i64 0, .int .i64 0, .int .i64 0] 50) := hR0
  have HB0 : Hid (Below w.heap.size w (w.alloc (.cells #[.int .i64 0, .int .i64 0, .int .i64 0, .int .i64 0] 50))) := bel_box _ _
  clear hR0
  have HT0 : Hid (TTab w) := ht
  have HC : Hid (cmp3 (V : Int) 73786976294838206464 = -1) := (by unfold cmp3; rw [if_pos (by omega)] : cmp3 (V : Int) 73786976294838206464 = -1)
  have hff : (flawT k.c k.i k.a k.t != 0) = true := by
    simp only [bne_iff_ne, ne_eq]
    exact fun h => h4 (flaw_tok.1 h)
  have hrz : V % 97 = 0 := h3
  have HFL : Hid (∀ W, TTab W → Calls Tryd.prog 44 #[.agg #[.int .i64 (k.c : Int), .int .i64 (k.i : Int), .int .i64 (k.a : Int), .int .i64 (k.t : Int)]] W fun e w' => e = .returned (.int .i64 (flawT k.c k.i k.a k.t)) ∧ Below W.heap.size W w') := fun W hW => flaw_any k.c k.i k.a k.t W hW
  have HK : Hid (tokOf (V / 97) = k) := hk
  clear h2 h3 h4 hk
  generalize flawT k.c k.i k.a k.t = ff at *
  clear h h1 hV ht
  go_enter Tryd.func25, Tryd.ntmps25
  go_wp2_with fail
  refine (HF.out _).mono ?_
  rintro e w1 ⟨a, b, c, rfl, hw1, hb1⟩
  have HR1 : Hid (Blk (w1.alloc (.cells #[.int .u32 (a : Int), .int .u32 (b : Int), .int .u32 (c : Int)] 77)) w.heap.size #[.int .i64 0, .int .i64 0, .int .i64 0, .int .i64 0] 50) := (HR0.out.next hb1).alloc _
  have HB1 : Hid (Below w.heap.size w (w1.alloc (.cells #[.int .u32 (a : Int), .int .u32 (b : Int), .int .u32 (c : Int)] 77))) := (bel_step HB0.out hb1).alloc (bel_step HB0.out hb1).size _
  have hN1 := Blk.new w1 #[.int .u32 (a : Int), .int .u32 (b : Int), .int .u32 (c : Int)] 77
  have HN1 : Hid (Blk (w1.alloc (.cells #[.int .u32 (a : Int), .int .u32 (b : Int), .int .u32 (c : Int)] 77)) w1.heap.size #[.int .u32 (a : Int), .int .u32 (b : Int), .int .u32 (c : Int)] 77) := hN1
  have HW : Hid (WN a b c V) := hw1
  have c0 := hN1.cell 0
  have c1 := hN1.cell 1
  have c2 := hN1.cell 2
  clear hb1 HF HR0 HB0 hw1 hN1
  go_wp2_with fail
  refine (cmp_wn a b c V _ HW.out).mono ?_
  rintro e w2 ⟨rfl, hb2⟩
  have HR2 : Hid (Blk w2 w.heap.size #[.int .i64 0, .int .i64 0, .int .i64 0, .int .i64 0] 50) := HR1.out.next hb2
  have HB2 : Hid (Below w.heap.size w w2) := bel_step HB1.out hb2
  have hN2 := HN1.out.next hb2
  have n0 := hN2.cell 0
  have n1 := hN2.cell 1
  have n2 := hN2.cell 2
  clear hb2 c0 c1 c2 HR1 HB1 HN1 hN2
  rw [HC.out]
  go_wp2_with fail
  refine (over_wn a b c V _ HW.out).mono ?_
  rintro e w3 ⟨a', b', c', rfl, hw3, hb3⟩
  rw [hrz]
  have HR3 : Hid (Blk (w3.alloc (.cells #[.int .u32 (a' : Int), .int .u32 (b' : Int), .int .u32 (c' : Int)] 77)) w.heap.size #[.int .i64 0, .int .i64 0, .int .i64 0, .int .i64 0] 50) := (HR2.out.next hb3).alloc _
  have HB3 : Hid (Below w.heap.size w (w3.alloc (.cells #[.int .u32 (a' : Int), .int .u32 (b' : Int), .int .u32 (c' : Int)] 77))) := (bel_step HB2.out hb3).alloc (bel_step HB2.out hb3).size _
  have hN3 := Blk.new w3 #[.int .u32 (a' : Int), .int .u32 (b' : Int), .int .u32 (c' : Int)] 77
  have HW3 : Hid (WN a' b' c' (V / 97)) := hw3
  clear hb3 n0 n1 n2 HR2 HB2 HW HC hw3
  have HT3 : Hid (TTab (w3.alloc (.cells #[.int .u32 (a' : Int), .int .u32 (b' : Int), .int .u32 (c' : Int)] 77))) := HT0.out.below HB3.out
  have m0 := hN3.cell 0
  have m1 := hN3.cell 1
  have m2 := hN3.cell 2
  clear hN3
  go_wp2_with fail
  refine (unpack_any a' b' c' (V / 97) _ HW3.out HT3.out).mono ?_
  rintro e w4 ⟨he4, hb4⟩
  have HE4 : Hid (e = .returned (tokOf (V / 97)).v) := he4
  clear he4
  rw [HK.out] at HE4
  unfold Tok.v at HE4
  obtain rfl := HE4.out
  clear HE4
  have HR4 : Hid (Blk (w4.alloc (.cells #[.int .i64 (k.c : Int), .int .i64 (k.i : Int), .int .i64 (k.a : Int), .int .i64 (k.t : Int)] 50)) w.heap.size #[.int .i64 0, .int .i64 0, .int .i64 0, .int .i64 0] 50) := (HR3.out.next hb4).alloc _
  have HB4 : Hid (Below w.heap.size w (w4.alloc (.cells #[.int .i64 (k.c : Int), .int .i64 (k.i : Int), .int .i64 (k.a : Int), .int .i64 (k.t : Int)] 50))) := (bel_step HB3.out hb4).alloc (bel_step HB3.out hb4).size _
  have hK4 := Blk.new w4 #[.int .i64 (k.c : Int), .int .i64 (k.i : Int), .int .i64 (k.a : Int), .int .i64 (k.t : Int)] 50
  have HK4 : Hid (Blk (w4.alloc (.cells #[.int .i64 (k.c : Int), .int .i64 (k.i : Int), .int .i64 (k.a : Int), .int .i64 (k.t : Int)] 50)) w4.heap.size #[.int .i64 (k.c : Int), .int .i64 (k.i : Int), .int .i64 (k.a : Int), .int .i64 (k.t : Int)] 50) := hK4
  have HT4 : Hid (TTab (w4.alloc (.cells #[.int .i64 (k.c : Int), .int .i64 (k.i : Int), .int .i64 (k.a : Int), .int .i64 (k.t : Int)] 50))) := HT0.out.below HB4.out
  have k0 := hK4.cell 0
  have k1 := hK4.cell 1
  have k2 := hK4.cell 2
  have k3 := hK4.cell 3
  clear hb4 m0 m1 m2 HR3 HB3 HT3 HW3 hK4
  go_wp2_with fail
  refine (HFL.out _ HT4.out).mono ?_
  rintro e w5 ⟨rfl, hb5⟩
  have hR := HR4.out.next hb5
  have hB := bel_step HB4.out hb5
  have hK5 := HK4.out.next hb5
  clear hb5 k0 k1 k2 k3 HR4 HB4 HT4 HK4 HFL hK5
  have RR := blk_set4 (w := w) hR (0) (0) (0) (0)
  have HBB : Hid (Below w.heap.size w (((((w5).setCell ⟨w.heap.size, 0, none⟩ (.int .i64 0)).setCell ⟨w.heap.size, 1, none⟩ (.int .i64 0)).setCell ⟨w.heap.size, 2, none⟩ (.int .i64 0)).setCell ⟨w.heap.size, 3, none⟩ (.int .i64 0))) := bel_set4 hB (0) (0) (0) (0)
  have R0 : Hid (_ = _) := RR.cell 0
  have R1 : Hid (_ = _) := RR.cell 1
  have R2 : Hid (_ = _) := RR.cell 2
  have R3 : Hid (_ = _) := RR.cell 3
  have p0 := hR.cell 0
  have p1 := hR.cell 1
  have p2 := hR.cell 2
  have p3 := hR.cell 3
  have f0 := hR.free 0
  have f1 := hR.free 1
  have f2 := hR.free 2
  have f3 := hR.free 3
  clear RR hR hB
  go_wp2_with fail
  refine bodyPost_ret (v := .tuple #[.agg #[.int .i64 0, .int .i64 0, .int .i64 0, .int .i64 0], .int .i64 2]) (by simp [results, Tryd.results25, R0.out, R1.out, R2.out, R3.out, go_sem]) rfl ⟨rfl, HBB.out⟩

set_option maxHeartbeats 1000000 in
theorem parse_0 (s : ByteArray) (V : Nat) (w : World) (ht : TTab w) (h : s.size = 20) (h1 : allD s.data.toList = true) (hV : dv s.data.toList = V) (h2 : V < 73786976294838206464) (h3 : V % 97 = 0) (k : Tok) (hk : tokOf (V / 97) = k) (h4 : k.ok) :
    Calls Tryd.prog 25 #[.string s] w fun e w' => e = .returned (.tuple #[k.v, .int .i64 0]) ∧ Below w.heap.size w w' := by
  have HF : Hid (∀ W, Calls Tryd.prog 40 #[.string s] W fun e w' => ∃ a b c : Nat, e = .returned (.tuple #[.agg #[.int .u32 (a : Int), .int .u32 (b : Int), .int .u32 (c : Int)], .int .i64 0]) ∧ WN a b c V ∧ Below W.heap.size W w') := fun W => (read_any s W h).mono fun e w' hp => by
    rcases hp.2 with ⟨_, a, b, c, he, hw⟩ | ⟨hx, _⟩
    · rw [hV] at hw; exact ⟨a, b, c, he, hw, hp.1⟩
    · rw [h1] at hx; cases hx
  have hR0 := Blk.new w #[.int .i64 0, .int .i64 0, .int .i64 0, .int .i64 0] 50
  have HR0 : Hid (Blk (w.alloc (.cells #[.int .i64 0, .int .i64 0, .int .i64 0, .int .i64 0] 50)) w.heap.size #[.int .i64 0, .int .i64 0, .int .i64 0, .int .i64 0] 50) := hR0
  have HB0 : Hid (Below w.heap.size w (w.alloc (.cells #[.int .i64 0, .int .i64 0, .int .i64 0, .int .i64 0] 50))) := bel_box _ _
  clear hR0
  have HT0 : Hid (TTab w) := ht
  have HC : Hid (cmp3 (V : Int) 73786976294838206464 = -1) := (by unfold cmp3; rw [if_pos (by omega)] : cmp3 (V : Int) 73786976294838206464 = -1)
  have hrz : V % 97 = 0 := h3
  have HFL : Hid (∀ W, TTab W → Calls Tryd.prog 44 #[.agg #[.int .i64 (k.c : Int), .int .i64 (k.i : Int), .int .i64 (k.a : Int), .int .i64 (k.t : Int)]] W fun e w' => e = .returned (.int .i64 0) ∧ Below W.heap.size W w') := fun W hW => by
    have := flaw_any k.c k.i k.a k.t W hW
    rwa [flaw_tok.2 h4] at this
  have HK : Hid (tokOf (V / 97) = k) := hk
  clear h2 h3 h4 hk
  clear h h1 hV ht
  go_enter Tryd.func25, Tryd.ntmps25
  go_wp2_with fail
  refine (HF.out _).mono ?_
  rintro e w1 ⟨a, b, c, rfl, hw1, hb1⟩
  have HR1 : Hid (Blk (w1.alloc (.cells #[.int .u32 (a : Int), .int .u32 (b : Int), .int .u32 (c : Int)] 77)) w.heap.size #[.int .i64 0, .int .i64 0, .int .i64 0, .int .i64 0] 50) := (HR0.out.next hb1).alloc _
  have HB1 : Hid (Below w.heap.size w (w1.alloc (.cells #[.int .u32 (a : Int), .int .u32 (b : Int), .int .u32 (c : Int)] 77))) := (bel_step HB0.out hb1).alloc (bel_step HB0.out hb1).size _
  have hN1 := Blk.new w1 #[.int .u32 (a : Int), .int .u32 (b : Int), .int .u32 (c : Int)] 77
  have HN1 : Hid (Blk (w1.alloc (.cells #[.int .u32 (a : Int), .int .u32 (b : Int), .int .u32 (c : Int)] 77)) w1.heap.size #[.int .u32 (a : Int), .int .u32 (b : Int), .int .u32 (c : Int)] 77) := hN1
  have HW : Hid (WN a b c V) := hw1
  have c0 := hN1.cell 0
  have c1 := hN1.cell 1
  have c2 := hN1.cell 2
  clear hb1 HF HR0 HB0 hw1 hN1
  go_wp2_with fail
  refine (cmp_wn a b c V _ HW.out).mono ?_
  rintro e w2 ⟨rfl, hb2⟩
  have HR2 : Hid (Blk w2 w.heap.size #[.int .i64 0, .int .i64 0, .int .i64 0, .int .i64 0] 50) := HR1.out.next hb2
  have HB2 : Hid (Below w.heap.size w w2) := bel_step HB1.out hb2
  have hN2 := HN1.out.next hb2
  have n0 := hN2.cell 0
  have n1 := hN2.cell 1
  have n2 := hN2.cell 2
  clear hb2 c0 c1 c2 HR1 HB1 HN1 hN2
  rw [HC.out]
  go_wp2_with fail
  refine (over_wn a b c V _ HW.out).mono ?_
  rintro e w3 ⟨a', b', c', rfl, hw3, hb3⟩
  rw [hrz]
  have HR3 : Hid (Blk (w3.alloc (.cells #[.int .u32 (a' : Int), .int .u32 (b' : Int), .int .u32 (c' : Int)] 77)) w.heap.size #[.int .i64 0, .int .i64 0, .int .i64 0, .int .i64 0] 50) := (HR2.out.next hb3).alloc _
  have HB3 : Hid (Below w.heap.size w (w3.alloc (.cells #[.int .u32 (a' : Int), .int .u32 (b' : Int), .int .u32 (c' : Int)] 77))) := (bel_step HB2.out hb3).alloc (bel_step HB2.out hb3).size _
  have hN3 := Blk.new w3 #[.int .u32 (a' : Int), .int .u32 (b' : Int), .int .u32 (c' : Int)] 77
  have HW3 : Hid (WN a' b' c' (V / 97)) := hw3
  clear hb3 n0 n1 n2 HR2 HB2 HW HC hw3
  have HT3 : Hid (TTab (w3.alloc (.cells #[.int .u32 (a' : Int), .int .u32 (b' : Int), .int .u32 (c' : Int)] 77))) := HT0.out.below HB3.out
  have m0 := hN3.cell 0
  have m1 := hN3.cell 1
  have m2 := hN3.cell 2
  clear hN3
  go_wp2_with fail
  refine (unpack_any a' b' c' (V / 97) _ HW3.out HT3.out).mono ?_
  rintro e w4 ⟨he4, hb4⟩
  have HE4 : Hid (e = .returned (tokOf (V / 97)).v) := he4
  clear he4
  rw [HK.out] at HE4
  unfold Tok.v at HE4
  obtain rfl := HE4.out
  clear HE4
  have HR4 : Hid (Blk (w4.alloc (.cells #[.int .i64 (k.c : Int), .int .i64 (k.i : Int), .int .i64 (k.a : Int), .int .i64 (k.t : Int)] 50)) w.heap.size #[.int .i64 0, .int .i64 0, .int .i64 0, .int .i64 0] 50) := (HR3.out.next hb4).alloc _
  have HB4 : Hid (Below w.heap.size w (w4.alloc (.cells #[.int .i64 (k.c : Int), .int .i64 (k.i : Int), .int .i64 (k.a : Int), .int .i64 (k.t : Int)] 50))) := (bel_step HB3.out hb4).alloc (bel_step HB3.out hb4).size _
  have hK4 := Blk.new w4 #[.int .i64 (k.c : Int), .int .i64 (k.i : Int), .int .i64 (k.a : Int), .int .i64 (k.t : Int)] 50
  have HK4 : Hid (Blk (w4.alloc (.cells #[.int .i64 (k.c : Int), .int .i64 (k.i : Int), .int .i64 (k.a : Int), .int .i64 (k.t : Int)] 50)) w4.heap.size #[.int .i64 (k.c : Int), .int .i64 (k.i : Int), .int .i64 (k.a : Int), .int .i64 (k.t : Int)] 50) := hK4
  have HT4 : Hid (TTab (w4.alloc (.cells #[.int .i64 (k.c : Int), .int .i64 (k.i : Int), .int .i64 (k.a : Int), .int .i64 (k.t : Int)] 50))) := HT0.out.below HB4.out
  have k0 := hK4.cell 0
  have k1 := hK4.cell 1
  have k2 := hK4.cell 2
  have k3 := hK4.cell 3
  clear hb4 m0 m1 m2 HR3 HB3 HT3 HW3 hK4
  go_wp2_with fail
  refine (HFL.out _ HT4.out).mono ?_
  rintro e w5 ⟨rfl, hb5⟩
  have hR := HR4.out.next hb5
  have hB := bel_step HB4.out hb5
  have hK5 := HK4.out.next hb5
  have l0 := hK5.cell 0
  have l1 := hK5.cell 1
  have l2 := hK5.cell 2
  have l3 := hK5.cell 3
  clear hb5 k0 k1 k2 k3 HR4 HB4 HT4 HK4 HFL hK5
  have RR := blk_set4 (w := w) hR ((k.c : Int)) ((k.i : Int)) ((k.a : Int)) ((k.t : Int))
  have HBB : Hid (Below w.heap.size w (((((w5).setCell ⟨w.heap.size, 0, none⟩ (.int .i64 (k.c : Int))).setCell ⟨w.heap.size, 1, none⟩ (.int .i64 (k.i : Int))).setCell ⟨w.heap.size, 2, none⟩ (.int .i64 (k.a : Int))).setCell ⟨w.heap.size, 3, none⟩ (.int .i64 (k.t : Int)))) := bel_set4 hB ((k.c : Int)) ((k.i : Int)) ((k.a : Int)) ((k.t : Int))
  have R0 : Hid (_ = _) := RR.cell 0
  have R1 : Hid (_ = _) := RR.cell 1
  have R2 : Hid (_ = _) := RR.cell 2
  have R3 : Hid (_ = _) := RR.cell 3
  have p0 := hR.cell 0
  have p1 := hR.cell 1
  have p2 := hR.cell 2
  have p3 := hR.cell 3
  have f0 := hR.free 0
  have f1 := hR.free 1
  have f2 := hR.free 2
  have f3 := hR.free 3
  clear RR hR hB
  go_wp2_with fail
  refine bodyPost_ret (v := .tuple #[.agg #[.int .i64 (k.c : Int), .int .i64 (k.i : Int), .int .i64 (k.a : Int), .int .i64 (k.t : Int)], .int .i64 0]) (by simp [results, Tryd.results25, R0.out, R1.out, R2.out, R3.out, go_sem]) rfl ⟨rfl, HBB.out⟩

/-- What Parse answers, at every text. -/
theorem parse_any (s : ByteArray) (w : World) (ht : TTab w) :
    Calls Tryd.prog 25 #[.string s] w fun e w' => e = .returned (.tuple #[parseV s.data.toList, .int .i64 (parseE s.data.toList)]) ∧ Below w.heap.size w w' := by
  have hl := len_eq s
  by_cases h : s.size = 20
  · cases h1 : allD s.data.toList with
    | false =>
      obtain ⟨e1, e2⟩ := parse_dig (l := s.data.toList) (by omega) h1
      rw [e1, e2]; exact parse_7 s w h h1
    | true =>
      by_cases h2 : dv s.data.toList < 73786976294838206464
      · by_cases h3 : dv s.data.toList % 97 = 0
        · cases h4 : okB (tokOf (dv s.data.toList / 97)) with
          | false =>
            obtain ⟨e1, e2⟩ := parse_no (l := s.data.toList) (by omega) h1 h2 h3 h4
            rw [e1, e2]
            exact parse_2 s _ w ht h h1 rfl h2 h3 _ rfl (fun hk => by rw [okB_ok.2 hk] at h4; cases h4)
          | true =>
            obtain ⟨e1, e2⟩ := Go.Proofs.YtgipkpkjoicehabDoor.token.parse_ok (l := s.data.toList) (by omega) h1 h2 h3 h4
            rw [e1, e2]
            exact parse_0 s _ w ht h h1 rfl h2 h3 _ rfl (okB_ok.1 h4)
        · obtain ⟨e1, e2⟩ := parse_chk (l := s.data.toList) (by omega) h1 h2 h3
          rw [e1, e2]; exact parse_8 s _ w ht h h1 rfl h2 h3
      · obtain ⟨e1, e2⟩ := parse_big (l := s.data.toList) (by omega) h1 (by omega)
        rw [e1, e2]; exact parse_big2 s _ w ht h h1 rfl (by omega)
  · obtain ⟨e1, e2⟩ := parse_len (l := s.data.toList) (by omega)
    rw [e1, e2]; exact parse_6 s w h

end Go.Proofs.YtgipkpkjoicehabDoor.token

/- Whether a token was sold here, under the key of now or of before. -/
namespace Go.Proofs.YtgipkpkjoicehabDoor.met
open Go.RowKit Go.Proofs.YtgipkpkjoicehabDoor.ora
set_option maxRecDepth 100000
set_option linter.unusedVariables false
set_option linter.unusedSimpArgs false

/-- While it is found out: the meter at work, and the box of the oracle. -/
structure Kn (w wr : World) (g : Nat) (m : Mt) (a : Option Addr) (n cap : Nat) (l : List Pr) : Prop where
  wk : Wk wr g m
  box : Blk wr w.heap.size #[.slice a n cap] 25
  row : RowP wr a n l
  bel : Below w.heap.size w wr
theorem Kn.next {w wr w' : World} {g : Nat} {m : Mt} {a : Option Addr} {n cap : Nat} {l : List Pr} (h : Kn w wr g m a n cap l) (hb : Below wr.heap.size wr w') : Kn w w' g m a n cap l := ⟨h.wk.next hb, h.box.next hb, h.row.below hb, bel_step h.bel hb⟩
theorem Kn.new {w : World} {g : Nat} {m : Mt} {a : Option Addr} {n : Nat} (cap : Nat) {l : List Pr} (hw : Wk w g m) (hr : RowP w a n l) : Kn w (w.alloc (.cells #[.slice a n cap] 25)) g m a n cap l := by
  have hb : Below w.heap.size w (w.alloc (.cells #[.slice a n cap] 25)) := (Below.refl _ _).alloc (Nat.le_refl _) _
  exact ⟨hw.alloc _, Blk.new _ _ _, hr.below hb, hb⟩
theorem Kn.drew {w wr : World} {g : Nat} {m : Mt} {a : Option Addr} {n cap : Nat} {l : List Pr} (h : Kn w wr g m a n cap l) (q : Nat) : Kn w (wr.drewN q) g m a n cap l := ⟨h.wk, h.box, h.row, bel_drew h.bel q⟩
theorem Kn.cells {w wr : World} {g n cap : Nat} {a : Option Addr} {l : List Pr} {me rev cr h : Int} {b : Nat} {bad lock : Int} (hk : Kn w wr g ⟨me, rev, cr, h, b, bad, lock⟩ a n cap l) : wr.cell? ⟨w.heap.size, 0, none⟩ = some (.slice a n cap) ∧ wr.cell? ⟨g, 0, none⟩ = some (.int .i64 me) ∧ wr.cell? ⟨g, 1, none⟩ = some (.int .i64 rev) :=
  ⟨hk.box.cell 0, Blk.cell hk.wk 0, Blk.cell hk.wk 1⟩
/-- What is found out. -/
def Know (w : World) (g : Nat) (m : Mt) (l : List Pr) (bo t : Int) (e : Ending) (w' : World) : Prop :=
  Chg w w' g ∧ ((Here l m.me m.rev bo t ∧ e = .returned (.int .i64 0) ∧ Wk w' g m) ∨ (¬ Here l m.me m.rev bo t ∧ Early l m.me m.rev bo t ∧ e = .returned (.int .i64 11) ∧ Wk w' g m) ∨ (¬ Here l m.me m.rev bo t ∧ ¬ Early l m.me m.rev bo t ∧ e = .returned (.int .i64 12) ∧ Wk w' g (badTry m)))
theorem not_early {l : List Pr} (hm : May l) {me rev bo t : Int} (h : ∀ k : Nat, (k : Int) < rev → ¬ Is l me (k : Int) bo t) : ¬ Early l me rev bo t := by
  rintro ⟨j, hj, h1, h2, h3, h4⟩
  have hp := (hm.each j hj).1.2.1
  refine h (l.getD j pr0).r.toNat (by omega) ?_
  rw [here_is hm]
  exact ⟨j, hj, h1, h2, h3, by omega⟩
set_option maxHeartbeats 2000000 in
theorem pknow (g : Nat) (m : Mt) (a : Option Addr) (n cap : Nat) (l : List Pr) (bo t : Int) (w : World) (hw : Wk w g m) (hr : RowP w a n l) (hl : May l) (hm : m.may) :
    Calls Tryd.prog 68 #[.pointer (some ⟨g, 0, none⟩), .agg #[.slice a n cap], .int .i64 bo, .int .i64 t] w fun e w' => Know w g m l bo t e w' := by
  have HV : Hid (∀ W r, RowP W a n l → Calls Tryd.prog 87 #[.agg #[.slice a n cap], .int .i64 m.me, .int .i64 r, .int .i64 bo, .int .i64 t] W fun e w' => ora.Told W (Is l m.me r bo t) e w') := fun W r h => pov a n cap l m.me r bo t W h
  have HBD : Hid (∀ W, Wk W g m → Calls Tryd.prog 88 #[.pointer (some ⟨g, 0, none⟩)] W fun e w' => e = .returned (.tuple #[]) ∧ Wk w' g (badTry m) ∧ Chg W w' g) := fun W h => pbad g m W h hm.bad
  have HHE : Hid (Is l m.me m.rev bo t ↔ Here l m.me m.rev bo t) := here_is hl m.me m.rev bo t
  have HEA : Hid (∀ k : Nat, (k : Int) < m.rev → Is l m.me (k : Int) bo t → Early l m.me m.rev bo t) := fun k hk h => (early_is hl m.me m.rev bo t).2 ⟨_, hk, h⟩
  have HNE : Hid ((∀ k : Nat, (k : Int) < m.rev → ¬ Is l m.me (k : Int) bo t) → ¬ Early l m.me m.rev bo t) := fun h => not_early hl h
  have HK0 : Hid (Kn w (w.alloc (.cells #[.slice a n cap] 25)) g m a n cap l) := Kn.new cap hw hr
  have hv0 := hm.rev
  clear hw hr hl hm
  obtain ⟨me, rev, cr, h, b, bad, lock⟩ := m
  simp only [] at HV HHE HEA HNE hv0
  have HV0 : Hid (Kn w (w.alloc (.cells #[.slice a n cap] 25)).drew g ⟨me, rev, cr, h, b, bad, lock⟩ a n cap l) := HK0.out.drew 1
  have KD : Hid ((w.alloc (.cells #[.slice a n cap] 25)).drew.cell? ⟨w.heap.size, 0, none⟩ = some (.slice a n cap) ∧ (w.alloc (.cells #[.slice a n cap] 25)).drew.cell? ⟨g, 0, none⟩ = some (.int .i64 me) ∧ (w.alloc (.cells #[.slice a n cap] 25)).drew.cell? ⟨g, 1, none⟩ = some (.int .i64 rev)) := HV0.out.cells
  go_enter Tryd.func68, Tryd.ntmps68
  go_wp2_with fail
  go_region_held_law (fun v => v.cell? ⟨w.heap.size, 0, none⟩ = some (.slice a n cap) ∧ v.cell? ⟨g, 0, none⟩ = some (.int .i64 me) ∧ v.cell? ⟨g, 1, none⟩ = some (.int .i64 rev))
    (first | with_reducible exact KD.out | with_reducible exact K1.out)
    (first
      | (go_at_call 87; refine (HV.out _ _ (by with_reducible exact HV0.out.row)).mono ?_; rintro e w1 ⟨r, rfl, hr, hb1⟩
         have HK1 : Hid (Kn w w1 g ⟨me, rev, cr, h, b, bad, lock⟩ a n cap l) := HV0.out.next hb1
         have K1 : Hid (w1.cell? ⟨w.heap.size, 0, none⟩ = some (.slice a n cap) ∧ w1.cell? ⟨g, 0, none⟩ = some (.int .i64 me) ∧ w1.cell? ⟨g, 1, none⟩ = some (.int .i64 rev)) := HK1.out.cells
         clear hb1))
  have HR : Hid (r = true ↔ Is l me rev bo t) := hr
  clear hr KD HV0 HK0
  cases r with
  | true =>
    have HF : Hid (Here l me rev bo t) := HHE.out.1 (HR.out.1 rfl)
    clear HR
    go_wp2_with fail
    go_ret
    exact ⟨.of HK1.out.bel, .inl ⟨HF.out, rfl, HK1.out.wk⟩⟩
  | false =>
    have HF : Hid (¬ Here l me rev bo t) := fun h => by have := HR.out.2 (HHE.out.2 h); cases this
    clear HR
    have c1 : w1.cell? ⟨g, 1, none⟩ = some (.int .i64 rev) := K1.out.2.2
    go_wp2_with fail
    clear c1 K1
    go_loopw [29] (fun j wr => ∃ k : Nat, j = .int .i64 (k : Int) ∧ (k : Int) ≤ rev ∧ Hid (∀ i : Nat, i < k → ¬ Is l me (i : Int) bo t) ∧ Kn w wr g ⟨me, rev, cr, h, b, bad, lock⟩ a n cap l) (fun j _ => (rev - intOf j).toNat)
    case atStart => exact ⟨0, rfl, hv0.1, (fun i hi => absurd hi (Nat.not_lt_zero _)), HK1.out⟩
    case round =>
      obtain ⟨k, rfl, hk, HN, hkn⟩ := hrel
      have HK : Hid (Kn w wr g ⟨me, rev, cr, h, b, bad, lock⟩ a n cap l) := hkn
      clear hkn HK1
      by_cases hlt : (k : Int) < rev
      · have hd : decide ((k : Int) < rev) = true := by simp [hlt]
        have HVr : Hid (Kn w wr.drew g ⟨me, rev, cr, h, b, bad, lock⟩ a n cap l) := HK.out.drew 1
        have KDr : Hid (wr.drew.cell? ⟨w.heap.size, 0, none⟩ = some (.slice a n cap) ∧ wr.drew.cell? ⟨g, 0, none⟩ = some (.int .i64 me) ∧ wr.drew.cell? ⟨g, 1, none⟩ = some (.int .i64 rev)) := HVr.out.cells
        go_wp2_with fail
        go_region_held_law (fun v => v.cell? ⟨w.heap.size, 0, none⟩ = some (.slice a n cap) ∧ v.cell? ⟨g, 0, none⟩ = some (.int .i64 me) ∧ v.cell? ⟨g, 1, none⟩ = some (.int .i64 rev))
          (first | with_reducible exact KDr.out | with_reducible exact K2.out)
          (first
            | (go_at_call 87; refine (HV.out _ _ (by with_reducible exact HVr.out.row)).mono ?_; rintro e w2 ⟨r, rfl, hr, hb2⟩
               have HK2 : Hid (Kn w w2 g ⟨me, rev, cr, h, b, bad, lock⟩ a n cap l) := HVr.out.next hb2
               have K2 : Hid (w2.cell? ⟨w.heap.size, 0, none⟩ = some (.slice a n cap) ∧ w2.cell? ⟨g, 0, none⟩ = some (.int .i64 me) ∧ w2.cell? ⟨g, 1, none⟩ = some (.int .i64 rev)) := HK2.out.cells
               clear hb2))
        have HR : Hid (r = true ↔ Is l me (k : Int) bo t) := hr
        clear hr KDr HVr HK K2
        cases r with
        | true =>
          have HE : Hid (Early l me rev bo t) := HEA.out k hlt (HR.out.1 rfl)
          clear HR hd
          go_wp2_with fail
          go_ret
          exact ⟨.of HK2.out.bel, .inr (.inl ⟨HF.out, HE.out, rfl, HK2.out.wk⟩)⟩
        | false =>
          have HNX : Hid (∀ i : Nat, i < k + 1 → ¬ Is l me (i : Int) bo t) := fun i hi h => by
            by_cases e : i = k
            · subst e; have := HR.out.2 h; cases this
            · exact HN.out i (by omega) h
          clear HR hd
          go_wp2_with fail
          go_roundw
          case rel => exact ⟨k + 1, by go_num, by omega, HNX, HK2.out⟩
          case measure => simp [intOf]; omega
      · have hd : decide ((k : Int) < rev) = false := by simp; omega
        have HE : Hid (¬ Early l me rev bo t) := HNE.out fun i hi => HN.out i (by omega)
        clear HN hlt hk
        go_wp2_with fail
        refine (HBD.out _ HK.out.wk).mono ?_
        rintro e w3 ⟨rfl, hw3, hc3⟩
        have HW3 : Hid (Wk w3 g (badTry ⟨me, rev, cr, h, b, bad, lock⟩)) := hw3
        have HC3 : Hid (Chg w w3 g) := (Chg.of HK.out.bel).trans hc3
        clear hw3 hc3
        go_wp2_with fail
        go_ret
        exact ⟨HC3.out, .inr (.inr ⟨HF.out, HE.out, rfl, HW3.out⟩)⟩

end Go.Proofs.YtgipkpkjoicehabDoor.met

/- What the program's keying does. -/
namespace Go.Proofs.YtgipkpkjoicehabDoor.met
open Go.RowKit Go.Proofs.YtgipkpkjoicehabDoor.ora
set_option maxRecDepth 100000
set_option linter.unusedVariables false
set_option linter.unusedSimpArgs false

def KKey (I : World → Prop) : Prop := ∀ W (m : Mt) a n cap l c i am t, I W → m.b < 18446744073709551616 → RowP W a n l → (a = none → cap = 0) → n ≤ cap → Calls Tryd.prog 26 #[m.v, .agg #[.slice a n cap], .agg #[.int .i64 c, .int .i64 i, .int .i64 am, .int .i64 t]] W fun e w' => KeyPost W m l c i am t e w'

end Go.Proofs.YtgipkpkjoicehabDoor.met

/- A meter at work keys a token in. -/
namespace Go.Proofs.YtgipkpkjoicehabDoor.met
open Go.RowKit Go.Proofs.YtgipkpkjoicehabDoor.ora Go.Proofs.YtgipkpkjoicehabDoor.token
set_option maxRecDepth 100000
set_option linter.unusedVariables false
set_option linter.unusedSimpArgs false

/-- What taking gives, of keying. -/
def TakeK (w : World) (g : Nat) (m : Mt) (c i am : Int) (e : Ending) (w' : World) : Prop :=
  Chg w w' g ∧ ∃ m' x f, e = .returned (.tuple #[.int .i64 x, .int .i64 f]) ∧ Wk w' g m' ∧ ∀ (l : List Pr) (t bo : Int), (m.may ∧ May l) → flawT c i am t = 0 → m.lock ≤ 0 → Here l m.me m.rev bo t → KeyIs m l c i am t bo m' x f
theorem run_fill (args : Array Value) (w : World) : (callFunc 94 args).run Tryd.prog w = .ok (.enter 94 args) w := by kernel_rfl
theorem run_empty (args : Array Value) (w : World) : (callFunc 95 args).run Tryd.prog w = .ok (.enter 95 args) w := by kernel_rfl
theorem run_rekey (args : Array Value) (w : World) : (callFunc 96 args).run Tryd.prog w = .ok (.enter 96 args) w := by kernel_rfl
theorem fill_bd {i am t : Int} (h : flawT 0 i am t = 0) : 0 ≤ am ∧ am ≤ 2097151 := by
  obtain ⟨k, hk, h1, h2, h3, h4⟩ := flaw_ok h
  rw [flawT_in (by omega)] at h
  split at h
  · rename_i h5
    simp only [Bool.and_eq_true, hasI_yes] at h5
    have h6 := h5.2.1
    unfold amLo amHi at h6
    simp at h6
    omega
  · cases h
theorem ptakes (g : Nat) (m : Mt) (c i am t : Int) (w : World) (hw : Wk w g m) (hb : m.b < 18446744073709551616) (hm : m.may) (hf : flawT c i am t = 0) (h3 : c ≠ 3) :
    Calls Tryd.prog 69 #[.pointer (some ⟨g, 0, none⟩), .agg #[.int .i64 c, .int .i64 i, .int .i64 am, .int .i64 t]] w fun e w' => TakeK w g m c i am e w' := by
  have hc : 0 ≤ c ∧ c ≤ 3 := by
    by_cases hx : c < 0 ∨ 3 < c
    · rw [flawT_class hx] at hf; cases hf
    · omega
  rcases (by omega : c = 0 ∨ c = 1 ∨ c = 2) with rfl | rfl | rfl
  · refine (take_abs 94 g m 0 i am t (99999999 - m.cr < am) 15 am { m with cr := m.cr + am } w hw hb (by decide) run_fill (fun W => pdeed0 g W) (fun W h => pfill g m am W h hm.cr (fill_bd hf))).mono ?_
    rintro e w' ⟨hch, ⟨j, hj, hj0, rfl, hw'⟩ | ⟨hj, hno, rfl, hw'⟩ | ⟨hj, hno, rfl, hw'⟩⟩
    · exact ⟨hch, m, 0, j, rfl, hw', fun l t bo h1 h2 h4 h5 => .judge j h1 h2 h4 (by decide) h5 hj hj0⟩
    · exact ⟨hch, m, 0, 15, rfl, hw', fun l t bo h1 h2 h4 h5 => .full h1 h2 h4 (by decide) h5 hj (fun hn => hn ⟨rfl, hno⟩)⟩
    · exact ⟨hch, _, am, 0, rfl, hw', fun l t bo h1 h2 h4 h5 => .take h1 h2 h4 (by decide) h5 hj (fun hn => hno hn.2) (fun hn => by have := hn.1; omega)⟩
  · refine (take_abs 95 g m 1 i am t False 1 0 { m with cr := 0 } w hw hb (by decide) run_empty (fun W => pdeed1 g W) (fun W h => pempty g m am W h)).mono ?_
    rintro e w' ⟨hch, ⟨j, hj, hj0, rfl, hw'⟩ | ⟨hj, hno, rfl, hw'⟩ | ⟨hj, hno, rfl, hw'⟩⟩
    · exact ⟨hch, m, 0, j, rfl, hw', fun l t bo h1 h2 h4 h5 => .judge j h1 h2 h4 (by decide) h5 hj hj0⟩
    · exact hno.elim
    · exact ⟨hch, _, 0, 0, rfl, hw', fun l t bo h1 h2 h4 h5 => .take h1 h2 h4 (by decide) h5 hj (fun hn => by have := hn.1; omega) (fun hn => by have := hn.1; omega)⟩
  · refine (take_abs 96 g m 2 i am t (am ≤ m.rev) 24 0 { m with rev := am } w hw hb (by decide) run_rekey (fun W => pdeed2 g W) (fun W h => prekey g m am W h)).mono ?_
    rintro e w' ⟨hch, ⟨j, hj, hj0, rfl, hw'⟩ | ⟨hj, hno, rfl, hw'⟩ | ⟨hj, hno, rfl, hw'⟩⟩
    · exact ⟨hch, m, 0, j, rfl, hw', fun l t bo h1 h2 h4 h5 => .judge j h1 h2 h4 (by decide) h5 hj hj0⟩
    · exact ⟨hch, m, 0, 24, rfl, hw', fun l t bo h1 h2 h4 h5 => .key h1 h2 h4 (by decide) h5 hj (fun hn => by have := hn.1; omega) (fun hn => hn ⟨rfl, hno⟩)⟩
    · exact ⟨hch, _, 0, 0, rfl, hw', fun l t bo h1 h2 h4 h5 => .take h1 h2 h4 (by decide) h5 hj (fun hn => by have := hn.1; omega) (fun hn => hno hn.2)⟩
/-- A token's body, or why it has none. -/
def BodyK (w : World) (c i am t : Int) (e : Ending) (w' : World) : Prop := ∃ bo, e = .returned (.tuple #[.int .i64 bo, .int .i64 (flawT c i am t)]) ∧ (flawT c i am t = 0 → bo = bodyI c i am) ∧ Below w.heap.size w w'
theorem pbodyk (c i am t : Int) (w : World) (ht : TTab w) : Calls Tryd.prog 28 #[.agg #[.int .i64 c, .int .i64 i, .int .i64 am, .int .i64 t]] w fun e w' => BodyK w c i am t e w' := by
  by_cases hf : flawT c i am t = 0
  · obtain ⟨k, hk, h1, h2, h3, h4⟩ := flaw_ok hf
    unfold BodyK
    rw [hf, h1, h2, h3, h4]
    refine (body_ok k w ht hk).mono ?_
    rintro e w' ⟨rfl, hb⟩
    exact ⟨_, rfl, fun _ => (body_tok k).symm, hb⟩
  · refine (body_no c i am t w ht hf).mono ?_
    rintro e w' ⟨rfl, hb⟩
    exact ⟨0, rfl, fun h => absurd h hf, hb⟩
/-- What a meter at work gives. -/
def KeyW (w : World) (g : Nat) (m : Mt) (l : List Pr) (c i am t : Int) (e : Ending) (w' : World) : Prop :=
  Chg w w' g ∧ ∃ m' x f, e = .returned (.tuple #[.int .i64 x, .int .i64 f]) ∧ Wk w' g m' ∧ KeyIs m l c i am t (bodyI c i am) m' x f
set_option maxHeartbeats 2000000 in
theorem pkeyw (g : Nat) (m : Mt) (a : Option Addr) (n cap : Nat) (l : List Pr) (c i am t : Int) (w : World) (ht : TTab w) (hw : Wk w g m) (hr : RowP w a n l) (hb : m.b < 18446744073709551616) (hm : m.may) (hl : May l) :
    Calls Tryd.prog 46 #[.pointer (some ⟨g, 0, none⟩), .agg #[.slice a n cap], .agg #[.int .i64 c, .int .i64 i, .int .i64 am, .int .i64 t]] w fun e w' => KeyW w g m l c i am t e w' := by
  have HMA : Hid (m.may ∧ May l) := ⟨hm, hl⟩
  have HBO : Hid (∀ W, TTab W → Calls Tryd.prog 28 #[.agg #[.int .i64 c, .int .i64 i, .int .i64 am, .int .i64 t]] W fun e w' => BodyK W c i am t e w') := fun W h => pbodyk c i am t W h
  have HKN : Hid (∀ W bo, Wk W g m → RowP W a n l → Calls Tryd.prog 68 #[.pointer (some ⟨g, 0, none⟩), .agg #[.slice a n cap], .int .i64 bo, .int .i64 t] W fun e w' => Know W g m l bo t e w') := fun W bo h1 h2 => pknow g m a n cap l bo t W h1 h2 hl hm
  have HTK : Hid (∀ W, flawT c i am t = 0 → c ≠ 3 → Wk W g m → Calls Tryd.prog 69 #[.pointer (some ⟨g, 0, none⟩), .agg #[.int .i64 c, .int .i64 i, .int .i64 am, .int .i64 t]] W fun e w' => TakeK W g m c i am e w') := fun W h1 h2 h3 => ptakes g m c i am t W h3 hb hm h1 h2
  have hb0 : Below w.heap.size w ((w.alloc (.cells #[.slice a n cap] 25)).alloc (.cells #[.int .i64 c, .int .i64 i, .int .i64 am, .int .i64 t] 50)) := ((Below.refl _ _).alloc (Nat.le_refl _) _).alloc (by simp) _
  have HT0 : Hid (TTab ((w.alloc (.cells #[.slice a n cap] 25)).alloc (.cells #[.int .i64 c, .int .i64 i, .int .i64 am, .int .i64 t] 50))) := ht.below hb0
  have HW0 : Hid (Wk ((w.alloc (.cells #[.slice a n cap] 25)).alloc (.cells #[.int .i64 c, .int .i64 i, .int .i64 am, .int .i64 t] 50)) g m) := hw.next hb0
  have HO0 : Hid (Blk ((w.alloc (.cells #[.slice a n cap] 25)).alloc (.cells #[.int .i64 c, .int .i64 i, .int .i64 am, .int .i64 t] 50)) (w.heap.size) #[.slice a n cap] 25) := (Blk.new _ _ _).alloc _
  have HK0 : Hid (Blk ((w.alloc (.cells #[.slice a n cap] 25)).alloc (.cells #[.int .i64 c, .int .i64 i, .int .i64 am, .int .i64 t] 50)) (w.heap.size + 1) #[.int .i64 c, .int .i64 i, .int .i64 am, .int .i64 t] 50) := Blk.new1 w _ _ _
  have HR0 : Hid (RowP ((w.alloc (.cells #[.slice a n cap] 25)).alloc (.cells #[.int .i64 c, .int .i64 i, .int .i64 am, .int .i64 t] 50)) a n l) := hr.below hb0
  have HB0 : Hid (Below w.heap.size w ((w.alloc (.cells #[.slice a n cap] 25)).alloc (.cells #[.int .i64 c, .int .i64 i, .int .i64 am, .int .i64 t] 50))) := hb0
  have HGL : Hid (g < w.heap.size) := Blk.lt hw
  clear ht hw hr hb hm hl hb0
  obtain ⟨me, rev, cr, h, b, bad, lock⟩ := m
  go_enter Tryd.func46, Tryd.ntmps46
  go_wp2_with (first | (refine wp_whole rfl 50 _ rfl (w.heap.size + 1) rfl 50 #[.int .i64 c, .int .i64 i, .int .i64 am, .int .i64 t] _ HK0.out Tryd.underlying50 rfl (by kernel_rfl) ?_) | fail)
  refine (HBO.out _ HT0.out).mono ?_
  rintro e w1 ⟨bo, rfl, hbo, hb1⟩
  have HW1 : Hid (Blk w1 g #[.int .i64 me, .int .i64 rev, .int .i64 cr, .int .i64 h, .int .u64 (b : Int), .int .i64 bad, .int .i64 lock] 100) := HW0.out.next hb1
  have HO1 : Hid (Blk w1 (w.heap.size) #[.slice a n cap] 25) := HO0.out.next hb1
  have HK1 : Hid (Blk w1 (w.heap.size + 1) #[.int .i64 c, .int .i64 i, .int .i64 am, .int .i64 t] 50) := HK0.out.next hb1
  have HR1 : Hid (RowP w1 a n l) := HR0.out.below hb1
  have HB1 : Hid (Below w.heap.size w w1) := bel_step HB0.out hb1
  have HBE : Hid (flawT c i am t = 0 → bo = bodyI c i am) := hbo
  clear hbo hb1 HBO HT0 HW0 HO0 HK0 HR0 HB0
  by_cases hf : flawT c i am t = 0
  · have HF : Hid (flawT c i am t = 0) := hf
    have HBI : Hid (bo = bodyI c i am) := HBE.out hf
    rw [hf]
    clear hf HBE
    have q6 : w1.cell? ⟨g, 6, none⟩ = some (.int .i64 lock) := HW1.out.cell 6
    by_cases hlk : 0 < lock
    · have HL : Hid (¬ lock ≤ 0) := by show ¬ _; omega
      have hd : decide (0 < lock) = true := by simp [hlk]
      have HX : Hid (KeyW w g ⟨me, rev, cr, h, b, bad, lock⟩ l c i am t (.returned (.tuple #[.int .i64 0, .int .i64 10])) w1) := ⟨.of HB1.out, ⟨me, rev, cr, h, b, bad, lock⟩, 0, 10, rfl, HW1.out, .locked HMA.out HF.out HL.out⟩
      clear hlk HL
      go_wp2_with fail
      go_ret2
      exact HX.out
    · have HL : Hid (lock ≤ 0) := by show _ ≤ _; omega
      have hd : decide (0 < lock) = false := by simp; omega
      clear hlk
      have k0 : w1.cell? ⟨w.heap.size + 1, 0, none⟩ = some (.int .i64 c) := HK1.out.cell 0
      by_cases h3 : c = 3
      · have HC : Hid (¬ (c ≠ 3)) := fun h => h h3
        have hq : (c == 3) = true := by simp [h3]
        have HX : Hid (KeyW w g ⟨me, rev, cr, h, b, bad, lock⟩ l c i am t (.returned (.tuple #[.int .i64 0, .int .i64 0])) w1) := ⟨.of HB1.out, ⟨me, rev, cr, h, b, bad, lock⟩, 0, 0, rfl, HW1.out, .test HMA.out HF.out HL.out HC.out⟩
        clear h3 HC
        go_wp2_with fail
        go_ret2
        exact HX.out
      · have HC : Hid (c ≠ 3) := h3
        have hq : (c == 3) = false := by simp [h3]
        have k3 : w1.cell? ⟨w.heap.size + 1, 3, none⟩ = some (.int .i64 t) := HK1.out.cell 3
        have o0 : w1.cell? ⟨w.heap.size, 0, none⟩ = some (.slice a n cap) := HO1.out.cell 0
        clear h3
        go_wp2_with fail
        refine (HKN.out _ _ HW1.out HR1.out).mono ?_
        rintro e w2 ⟨hc2, ⟨hh, rfl, hw2⟩ | ⟨hh, he, rfl, hw2⟩ | ⟨hh, he, rfl, hw2⟩⟩
        · have hgl := HGL.out
          have HH : Hid (Here l me rev bo t) := hh
          have HW2 : Hid (Wk w2 g ⟨me, rev, cr, h, b, bad, lock⟩) := hw2
          have HC2 : Hid (Chg w w2 g) := (Chg.of HB1.out).trans hc2
          have HK2 : Hid (Blk w2 (w.heap.size + 1) #[.int .i64 c, .int .i64 i, .int .i64 am, .int .i64 t] 50) := hc2.keep HK1.out (by omega)
          clear hh hw2 hc2 hgl HKN q6 k0 k3 o0 HW1 HO1 HK1 HR1 HB1
          go_wp2_with (first | (refine wp_whole rfl 50 _ rfl (w.heap.size + 1) rfl 50 #[.int .i64 c, .int .i64 i, .int .i64 am, .int .i64 t] _ HK2.out Tryd.underlying50 rfl (by kernel_rfl) ?_) | fail)
          refine (HTK.out _ HF.out HC.out HW2.out).mono ?_
          rintro e w3 ⟨hc3, m', x, f, rfl, hw3, hk3⟩
          have HK3 : Hid (KeyIs ⟨me, rev, cr, h, b, bad, lock⟩ l c i am t (bodyI c i am) m' x f) := hk3 l t _ HMA.out HF.out HL.out (by rw [← HBI.out]; exact HH.out)
          have HW3 : Hid (Wk w3 g m') := hw3
          have HC3 : Hid (Chg w w3 g) := HC2.out.trans hc3
          clear hc3 hw3 hk3 HTK HW2 HC2 HK2
          go_wp2_with fail
          go_ret2
          exact ⟨HC3.out, m', x, f, rfl, HW3.out, HK3.out⟩
        · have HX : Hid (KeyW w g ⟨me, rev, cr, h, b, bad, lock⟩ l c i am t (.returned (.tuple #[.int .i64 0, .int .i64 11])) w2) := ⟨(Chg.of HB1.out).trans hc2, _, 0, 11, rfl, hw2, .old HMA.out HF.out HL.out HC.out (by rw [← HBI.out]; exact hh) (by rw [← HBI.out]; exact he)⟩
          clear hh he hw2 hc2 q6 k0 k3 o0 HKN
          go_wp2_with fail
          go_ret2
          exact HX.out
        · have HX : Hid (KeyW w g ⟨me, rev, cr, h, b, bad, lock⟩ l c i am t (.returned (.tuple #[.int .i64 0, .int .i64 12])) w2) := ⟨(Chg.of HB1.out).trans hc2, _, 0, 12, rfl, hw2, .tag HMA.out HF.out HL.out HC.out (by rw [← HBI.out]; exact hh) (by rw [← HBI.out]; exact he)⟩
          clear hh he hw2 hc2 q6 k0 k3 o0 HKN
          go_wp2_with fail
          go_ret2
          exact HX.out
  · have HF : Hid (¬ flawT c i am t = 0) := hf
    have HX : Hid (KeyIs ⟨me, rev, cr, h, b, bad, lock⟩ l c i am t (bodyI c i am) ⟨me, rev, cr, h, b, bad, lock⟩ 0 (flawT c i am t)) := .flaw HMA.out hf
    have hd : (flawT c i am t != 0) = true := by simp [hf]
    clear hf HBE HF HKN HTK HMA
    generalize flawT c i am t = fl at *
    go_wp2_with fail
    go_ret2
    exact ⟨.of HB1.out, ⟨me, rev, cr, h, b, bad, lock⟩, 0, fl, rfl, HW1.out, HX.out⟩

end Go.Proofs.YtgipkpkjoicehabDoor.met

/- The program's keying. -/
namespace Go.Proofs.YtgipkpkjoicehabDoor.met
open Go.RowKit Go.Proofs.YtgipkpkjoicehabDoor.ora Go.Proofs.YtgipkpkjoicehabDoor.token
set_option maxRecDepth 100000
set_option linter.unusedVariables false
set_option linter.unusedSimpArgs false

set_option maxHeartbeats 4000000 in
theorem pkey (m : Mt) (a : Option Addr) (n cap : Nat) (l : List Pr) (c i am t : Int) (w : World) (ht : TTab w) (hb : m.b < 18446744073709551616) (hr : RowP w a n l) :
    Calls Tryd.prog 26 #[m.v, .agg #[.slice a n cap], .agg #[.int .i64 c, .int .i64 i, .int .i64 am, .int .i64 t]] w fun e w' => KeyPost w m l c i am t e w' := by
  have HM : Hid (∀ W, Calls Tryd.prog 36 #[m.v] W fun e w' => Told W m.may e w') := fun W => pmay_any m W hb
  have HOM : Hid (∀ W, RowP W a n l → Calls Tryd.prog 45 #[.agg #[.slice a n cap]] W fun e w' => ora.Told W (May l) e w') := fun W h => pom a n cap l W h
  have HKW : Hid (∀ W g, TTab W → Wk W g m → RowP W a n l → m.may → May l → Calls Tryd.prog 46 #[.pointer (some ⟨g, 0, none⟩), .agg #[.slice a n cap], .agg #[.int .i64 c, .int .i64 i, .int .i64 am, .int .i64 t]] W fun e w' => KeyW W g m l c i am t e w') := fun W g h1 h2 h3 h4 h5 => pkeyw g m a n cap l c i am t W h1 h2 h3 hb h4 h5
  clear hb
  obtain ⟨me, rev, cr, h, b, bad, lock⟩ := m
  unfold Mt.v Mt.cells at *
  simp only [] at HM ⊢
  have HM0 : Hid (Blk ((((w.alloc (.cells #[.int .i64 me, .int .i64 rev, .int .i64 cr, .int .i64 h, .int .u64 (b : Int), .int .i64 bad, .int .i64 lock] 36)).alloc (.cells #[.slice a n cap] 25)).alloc (.cells #[.int .i64 c, .int .i64 i, .int .i64 am, .int .i64 t] 50)).alloc (.cells #[.int .i64 0, .int .i64 0, .int .i64 0, .int .i64 0, .int .u64 0, .int .i64 0, .int .i64 0] 36)) (w.heap.size) #[.int .i64 me, .int .i64 rev, .int .i64 cr, .int .i64 h, .int .u64 (b : Int), .int .i64 bad, .int .i64 lock] 36) := (((Blk.new _ _ _).alloc _).alloc _).alloc _
  have HO0 : Hid (Blk ((((w.alloc (.cells #[.int .i64 me, .int .i64 rev, .int .i64 cr, .int .i64 h, .int .u64 (b : Int), .int .i64 bad, .int .i64 lock] 36)).alloc (.cells #[.slice a n cap] 25)).alloc (.cells #[.int .i64 c, .int .i64 i, .int .i64 am, .int .i64 t] 50)).alloc (.cells #[.int .i64 0, .int .i64 0, .int .i64 0, .int .i64 0, .int .u64 0, .int .i64 0, .int .i64 0] 36)) (w.heap.size + 1) #[.slice a n cap] 25) := ((Blk.new1 w _ _ _).alloc _).alloc _
  have HK0 : Hid (Blk ((((w.alloc (.cells #[.int .i64 me, .int .i64 rev, .int .i64 cr, .int .i64 h, .int .u64 (b : Int), .int .i64 bad, .int .i64 lock] 36)).alloc (.cells #[.slice a n cap] 25)).alloc (.cells #[.int .i64 c, .int .i64 i, .int .i64 am, .int .i64 t] 50)).alloc (.cells #[.int .i64 0, .int .i64 0, .int .i64 0, .int .i64 0, .int .u64 0, .int .i64 0, .int .i64 0] 36)) (w.heap.size + 1 + 1) #[.int .i64 c, .int .i64 i, .int .i64 am, .int .i64 t] 50) := (Blk.new2 w _ _ _ _).alloc _
  have HR0 : Hid (Blk ((((w.alloc (.cells #[.int .i64 me, .int .i64 rev, .int .i64 cr, .int .i64 h, .int .u64 (b : Int), .int .i64 bad, .int .i64 lock] 36)).alloc (.cells #[.slice a n cap] 25)).alloc (.cells #[.int .i64 c, .int .i64 i, .int .i64 am, .int .i64 t] 50)).alloc (.cells #[.int .i64 0, .int .i64 0, .int .i64 0, .int .i64 0, .int .u64 0, .int .i64 0, .int .i64 0] 36)) (w.heap.size + 1 + 1 + 1) #[.int .i64 0, .int .i64 0, .int .i64 0, .int .i64 0, .int .u64 0, .int .i64 0, .int .i64 0] 36) := Blk.new3 w _ _ _ _ _
  have HB0 : Hid (Below w.heap.size w ((((w.alloc (.cells #[.int .i64 me, .int .i64 rev, .int .i64 cr, .int .i64 h, .int .u64 (b : Int), .int .i64 bad, .int .i64 lock] 36)).alloc (.cells #[.slice a n cap] 25)).alloc (.cells #[.int .i64 c, .int .i64 i, .int .i64 am, .int .i64 t] 50)).alloc (.cells #[.int .i64 0, .int .i64 0, .int .i64 0, .int .i64 0, .int .u64 0, .int .i64 0, .int .i64 0] 36))) := ((((Below.refl _ _).alloc (Nat.le_refl _) _).alloc (by simp) _).alloc (by simp; omega) _).alloc (by simp; omega) _
  have HT : Hid (∀ W, Below w.heap.size w W → TTab W) := fun W h => ht.below h
  have HRW : Hid (∀ W, Below w.heap.size w W → RowP W a n l) := fun W h => hr.below h
  clear ht hr
  go_enter Tryd.func26, Tryd.ntmps26
  go_wp2_with (first | (refine wp_whole rfl 36 _ rfl (w.heap.size) rfl 36 #[.int .i64 me, .int .i64 rev, .int .i64 cr, .int .i64 h, .int .u64 (b : Int), .int .i64 bad, .int .i64 lock] _ HM0.out Tryd.underlying36 rfl (by kernel_rfl) ?_) | fail)
  refine (HM.out _).mono ?_
  rintro e w1 ⟨r, rfl, hr1, hb1⟩
  have HM1 : Hid (Blk w1 (w.heap.size) #[.int .i64 me, .int .i64 rev, .int .i64 cr, .int .i64 h, .int .u64 (b : Int), .int .i64 bad, .int .i64 lock] 36) := HM0.out.next hb1
  have HO1 : Hid (Blk w1 (w.heap.size + 1) #[.slice a n cap] 25) := HO0.out.next hb1
  have HK1 : Hid (Blk w1 (w.heap.size + 1 + 1) #[.int .i64 c, .int .i64 i, .int .i64 am, .int .i64 t] 50) := HK0.out.next hb1
  have HR1 : Hid (Blk w1 (w.heap.size + 1 + 1 + 1) #[.int .i64 0, .int .i64 0, .int .i64 0, .int .i64 0, .int .u64 0, .int .i64 0, .int .i64 0] 36) := HR0.out.next hb1
  have HB1 : Hid (Below w.heap.size w w1) := bel_step HB0.out hb1
  clear hb1 HM0 HO0 HK0 HR0 HB0 HM
  cases r with
  | false =>
    have HN : Hid (¬ (Mt.may ⟨me, rev, cr, h, b, bad, lock⟩ ∧ May l)) := fun h => by have := hr1.2 h.1; cases this
    clear hr1
    go_wp2_with (first | (refine wp_letAll rfl 36 _ _ rfl (w.heap.size + 1 + 1 + 1) rfl #[.int .i64 0, .int .i64 0, .int .i64 0, .int .i64 0, .int .u64 0, .int .i64 0, .int .i64 0] rfl (by kernel_rfl) (by simp [Value.oneCell']) #[.int .i64 0, .int .i64 0, .int .i64 0, .int .i64 0, .int .u64 0, .int .i64 0, .int .i64 0] 36 HR1.out rfl ?_) | fail)
    intro WF hUF
    have HBF : Hid (Below w.heap.size w WF) := hUF.bel _ _ (by omega) HB1.out
    have R0 : Hid (WF.cell? ⟨w.heap.size + 1 + 1 + 1, 0, none⟩ = some (.int .i64 0)) := hUF.blk.cell 0
    have R1 : Hid (WF.cell? ⟨w.heap.size + 1 + 1 + 1, 1, none⟩ = some (.int .i64 0)) := hUF.blk.cell 1
    have R2 : Hid (WF.cell? ⟨w.heap.size + 1 + 1 + 1, 2, none⟩ = some (.int .i64 0)) := hUF.blk.cell 2
    have R3 : Hid (WF.cell? ⟨w.heap.size + 1 + 1 + 1, 3, none⟩ = some (.int .i64 0)) := hUF.blk.cell 3
    have R4 : Hid (WF.cell? ⟨w.heap.size + 1 + 1 + 1, 4, none⟩ = some (.int .u64 0)) := hUF.blk.cell 4
    have R5 : Hid (WF.cell? ⟨w.heap.size + 1 + 1 + 1, 5, none⟩ = some (.int .i64 0)) := hUF.blk.cell 5
    have R6 : Hid (WF.cell? ⟨w.heap.size + 1 + 1 + 1, 6, none⟩ = some (.int .i64 0)) := hUF.blk.cell 6
    clear hUF
    go_wp2_with fail
    exact bodyPost_ret (v := .tuple #[.agg #[.int .i64 0, .int .i64 0, .int .i64 0, .int .i64 0, .int .u64 0, .int .i64 0, .int .i64 0], .int .i64 0, .int .i64 5]) (by simp [results, Tryd.results26, R0.out, R1.out, R2.out, R3.out, R4.out, R5.out, R6.out, go_sem]) rfl ⟨mt0, 0, 5, rfl, .state HN.out, HBF.out⟩
  | true =>
    have HY : Hid (Mt.may ⟨me, rev, cr, h, b, bad, lock⟩) := hr1.1 rfl
    clear hr1
    have o1 : w1.cell? ⟨w.heap.size + 1, 0, none⟩ = some (.slice a n cap) := HO1.out.cell 0
    go_wp2_with fail
    refine (HOM.out _ (HRW.out _ HB1.out)).mono ?_
    rintro e w2 ⟨r, rfl, hr2, hb2⟩
    have HM2 : Hid (Blk w2 (w.heap.size) #[.int .i64 me, .int .i64 rev, .int .i64 cr, .int .i64 h, .int .u64 (b : Int), .int .i64 bad, .int .i64 lock] 36) := HM1.out.next hb2
    have HO2 : Hid (Blk w2 (w.heap.size + 1) #[.slice a n cap] 25) := HO1.out.next hb2
    have HK2 : Hid (Blk w2 (w.heap.size + 1 + 1) #[.int .i64 c, .int .i64 i, .int .i64 am, .int .i64 t] 50) := HK1.out.next hb2
    have HR2 : Hid (Blk w2 (w.heap.size + 1 + 1 + 1) #[.int .i64 0, .int .i64 0, .int .i64 0, .int .i64 0, .int .u64 0, .int .i64 0, .int .i64 0] 36) := HR1.out.next hb2
    have HB2 : Hid (Below w.heap.size w w2) := bel_step HB1.out hb2
    clear hb2 o1 HM1 HO1 HK1 HR1 HB1 HOM
    cases r with
    | false =>
      have HN : Hid (¬ (Mt.may ⟨me, rev, cr, h, b, bad, lock⟩ ∧ May l)) := fun h => by have := hr2.2 h.2; cases this
      clear hr2
      go_wp2_with (first | (refine wp_letAll rfl 36 _ _ rfl (w.heap.size + 1 + 1 + 1) rfl #[.int .i64 0, .int .i64 0, .int .i64 0, .int .i64 0, .int .u64 0, .int .i64 0, .int .i64 0] rfl (by kernel_rfl) (by simp [Value.oneCell']) #[.int .i64 0, .int .i64 0, .int .i64 0, .int .i64 0, .int .u64 0, .int .i64 0, .int .i64 0] 36 HR2.out rfl ?_) | fail)
      intro WF hUF
      have HBF : Hid (Below w.heap.size w WF) := hUF.bel _ _ (by omega) HB2.out
      have R0 : Hid (WF.cell? ⟨w.heap.size + 1 + 1 + 1, 0, none⟩ = some (.int .i64 0)) := hUF.blk.cell 0
      have R1 : Hid (WF.cell? ⟨w.heap.size + 1 + 1 + 1, 1, none⟩ = some (.int .i64 0)) := hUF.blk.cell 1
      have R2 : Hid (WF.cell? ⟨w.heap.size + 1 + 1 + 1, 2, none⟩ = some (.int .i64 0)) := hUF.blk.cell 2
      have R3 : Hid (WF.cell? ⟨w.heap.size + 1 + 1 + 1, 3, none⟩ = some (.int .i64 0)) := hUF.blk.cell 3
      have R4 : Hid (WF.cell? ⟨w.heap.size + 1 + 1 + 1, 4, none⟩ = some (.int .u64 0)) := hUF.blk.cell 4
      have R5 : Hid (WF.cell? ⟨w.heap.size + 1 + 1 + 1, 5, none⟩ = some (.int .i64 0)) := hUF.blk.cell 5
      have R6 : Hid (WF.cell? ⟨w.heap.size + 1 + 1 + 1, 6, none⟩ = some (.int .i64 0)) := hUF.blk.cell 6
      clear hUF
      go_wp2_with fail
      exact bodyPost_ret (v := .tuple #[.agg #[.int .i64 0, .int .i64 0, .int .i64 0, .int .i64 0, .int .u64 0, .int .i64 0, .int .i64 0], .int .i64 0, .int .i64 5]) (by simp [results, Tryd.results26, R0.out, R1.out, R2.out, R3.out, R4.out, R5.out, R6.out, go_sem]) rfl ⟨mt0, 0, 5, rfl, .state HN.out, HBF.out⟩
    | true =>
      have HYL : Hid (May l) := hr2.1 rfl
      clear hr2
      have HM3 : Hid (Blk (w2.alloc (.cells #[.int .i64 0, .int .i64 0, .int .i64 0, .int .i64 0, .int .u64 0, .int .i64 0, .int .i64 0] 100)) (w.heap.size) #[.int .i64 me, .int .i64 rev, .int .i64 cr, .int .i64 h, .int .u64 (b : Int), .int .i64 bad, .int .i64 lock] 36) := HM2.out.alloc _
      have HO3 : Hid (Blk (w2.alloc (.cells #[.int .i64 0, .int .i64 0, .int .i64 0, .int .i64 0, .int .u64 0, .int .i64 0, .int .i64 0] 100)) (w.heap.size + 1) #[.slice a n cap] 25) := HO2.out.alloc _
      have HK3 : Hid (Blk (w2.alloc (.cells #[.int .i64 0, .int .i64 0, .int .i64 0, .int .i64 0, .int .u64 0, .int .i64 0, .int .i64 0] 100)) (w.heap.size + 1 + 1) #[.int .i64 c, .int .i64 i, .int .i64 am, .int .i64 t] 50) := HK2.out.alloc _
      have HR3 : Hid (Blk (w2.alloc (.cells #[.int .i64 0, .int .i64 0, .int .i64 0, .int .i64 0, .int .u64 0, .int .i64 0, .int .i64 0] 100)) (w.heap.size + 1 + 1 + 1) #[.int .i64 0, .int .i64 0, .int .i64 0, .int .i64 0, .int .u64 0, .int .i64 0, .int .i64 0] 36) := HR2.out.alloc _
      have HB3 : Hid (Below w.heap.size w (w2.alloc (.cells #[.int .i64 0, .int .i64 0, .int .i64 0, .int .i64 0, .int .u64 0, .int .i64 0, .int .i64 0] 100))) := HB2.out.alloc HB2.out.size _
      have HG3 : Hid (Blk (w2.alloc (.cells #[.int .i64 0, .int .i64 0, .int .i64 0, .int .i64 0, .int .u64 0, .int .i64 0, .int .i64 0] 100)) w2.heap.size #[.int .i64 0, .int .i64 0, .int .i64 0, .int .i64 0, .int .u64 0, .int .i64 0, .int .i64 0] 100) := Blk.new _ _ _
      have HL : Hid (w.heap.size ≤ w2.heap.size ∧ w.heap.size + 1 + 1 + 1 < w2.heap.size) := ⟨HB2.out.size, HR2.out.lt⟩
      go_wp2_with (first | (refine wp_whole rfl 36 _ rfl (w.heap.size) rfl 36 #[.int .i64 me, .int .i64 rev, .int .i64 cr, .int .i64 h, .int .u64 (b : Int), .int .i64 bad, .int .i64 lock] _ HM2.out Tryd.underlying36 rfl (by kernel_rfl) ?_) | (refine wp_letAll rfl 100 _ _ rfl (w2.heap.size) rfl #[.int .i64 me, .int .i64 rev, .int .i64 cr, .int .i64 h, .int .u64 (b : Int), .int .i64 bad, .int .i64 lock] rfl (by kernel_rfl) (by simp [Value.oneCell']) #[.int .i64 0, .int .i64 0, .int .i64 0, .int .i64 0, .int .u64 0, .int .i64 0, .int .i64 0] 100 HG3.out rfl ?_) | fail)
      intro W4 hU4
      have hl := HL.out
      have HM4 : Hid (Blk W4 (w.heap.size) #[.int .i64 me, .int .i64 rev, .int .i64 cr, .int .i64 h, .int .u64 (b : Int), .int .i64 bad, .int .i64 lock] 36) := hU4.keep HM3.out (by omega)
      have HO4 : Hid (Blk W4 (w.heap.size + 1) #[.slice a n cap] 25) := hU4.keep HO3.out (by omega)
      have HK4 : Hid (Blk W4 (w.heap.size + 1 + 1) #[.int .i64 c, .int .i64 i, .int .i64 am, .int .i64 t] 50) := hU4.keep HK3.out (by omega)
      have HR4 : Hid (Blk W4 (w.heap.size + 1 + 1 + 1) #[.int .i64 0, .int .i64 0, .int .i64 0, .int .i64 0, .int .u64 0, .int .i64 0, .int .i64 0] 36) := hU4.keep HR3.out (by omega)
      have HB4 : Hid (Below w.heap.size w W4) := hU4.bel _ _ (by omega) HB3.out
      have HG4 : Hid (Wk W4 w2.heap.size ⟨me, rev, cr, h, b, bad, lock⟩) := hU4.blk
      clear hU4 hl HM2 HO2 HK2 HR2 HB2 HM3 HO3 HK3 HR3 HB3 HG3
      generalize w2.heap.size = g at *
      have o4 : W4.cell? ⟨w.heap.size + 1, 0, none⟩ = some (.slice a n cap) := HO4.out.cell 0
      go_wp2_with (first | (refine wp_whole rfl 50 _ rfl (w.heap.size + 1 + 1) rfl 50 #[.int .i64 c, .int .i64 i, .int .i64 am, .int .i64 t] _ HK4.out Tryd.underlying50 rfl (by kernel_rfl) ?_) | fail)
      refine (HKW.out _ _ (HT.out _ HB4.out) HG4.out (HRW.out _ HB4.out) HY.out HYL.out).mono ?_
      rintro e w5 ⟨hc5, m5, x5, f5, rfl, hw5, hk5⟩
      have hl := HL.out
      have HR5 : Hid (Blk w5 (w.heap.size + 1 + 1 + 1) #[.int .i64 0, .int .i64 0, .int .i64 0, .int .i64 0, .int .u64 0, .int .i64 0, .int .i64 0] 36) := hc5.keep HR4.out (by omega)
      have HB5 : Hid (Below w.heap.size w w5) := hc5.bel HB4.out (by omega) HB4.out.size
      have HI5 : Hid (KeyIs ⟨me, rev, cr, h, b, bad, lock⟩ l c i am t (bodyI c i am) m5 x5 f5) := hk5
      obtain ⟨me5, rev5, cr5, h5, b5, bad5, lock5⟩ := m5
      have HG5 : Hid (Blk w5 g #[.int .i64 me5, .int .i64 rev5, .int .i64 cr5, .int .i64 h5, .int .u64 (b5 : Int), .int .i64 bad5, .int .i64 lock5] 100) := hw5
      clear hc5 hw5 hk5 hl o4 HM4 HO4 HK4 HR4 HB4 HG4 HKW HT HRW
      go_wp2_with (first | (refine wp_whole rfl 36 _ rfl (g) rfl 100 #[.int .i64 me5, .int .i64 rev5, .int .i64 cr5, .int .i64 h5, .int .u64 (b5 : Int), .int .i64 bad5, .int .i64 lock5] _ HG5.out Tryd.underlying36 rfl (by kernel_rfl) ?_) | (refine wp_letAll rfl 36 _ _ rfl (w.heap.size + 1 + 1 + 1) rfl #[.int .i64 me5, .int .i64 rev5, .int .i64 cr5, .int .i64 h5, .int .u64 (b5 : Int), .int .i64 bad5, .int .i64 lock5] rfl (by kernel_rfl) (by simp [Value.oneCell']) #[.int .i64 0, .int .i64 0, .int .i64 0, .int .i64 0, .int .u64 0, .int .i64 0, .int .i64 0] 36 HR5.out rfl ?_) | fail)
      intro WF hUF
      have HBF : Hid (Below w.heap.size w WF) := hUF.bel _ _ (by omega) HB5.out
      have R0 : Hid (WF.cell? ⟨w.heap.size + 1 + 1 + 1, 0, none⟩ = some (.int .i64 me5)) := hUF.blk.cell 0
      have R1 : Hid (WF.cell? ⟨w.heap.size + 1 + 1 + 1, 1, none⟩ = some (.int .i64 rev5)) := hUF.blk.cell 1
      have R2 : Hid (WF.cell? ⟨w.heap.size + 1 + 1 + 1, 2, none⟩ = some (.int .i64 cr5)) := hUF.blk.cell 2
      have R3 : Hid (WF.cell? ⟨w.heap.size + 1 + 1 + 1, 3, none⟩ = some (.int .i64 h5)) := hUF.blk.cell 3
      have R4 : Hid (WF.cell? ⟨w.heap.size + 1 + 1 + 1, 4, none⟩ = some (.int .u64 (b5 : Int))) := hUF.blk.cell 4
      have R5 : Hid (WF.cell? ⟨w.heap.size + 1 + 1 + 1, 5, none⟩ = some (.int .i64 bad5)) := hUF.blk.cell 5
      have R6 : Hid (WF.cell? ⟨w.heap.size + 1 + 1 + 1, 6, none⟩ = some (.int .i64 lock5)) := hUF.blk.cell 6
      clear hUF
      go_wp2_with fail
      exact bodyPost_ret (v := .tuple #[.agg #[.int .i64 me5, .int .i64 rev5, .int .i64 cr5, .int .i64 h5, .int .u64 (b5 : Int), .int .i64 bad5, .int .i64 lock5], .int .i64 x5, .int .i64 f5]) (by simp [results, Tryd.results26, R0.out, R1.out, R2.out, R3.out, R4.out, R5.out, R6.out, go_sem]) rfl ⟨⟨me5, rev5, cr5, h5, b5, bad5, lock5⟩, x5, f5, rfl, HI5.out, HBF.out⟩
theorem kkey : KKey TTab := fun W m a n cap l c i am t ht hb hr _ _ => pkey m a n cap l c i am t W ht hb hr

end Go.Proofs.YtgipkpkjoicehabDoor.met

/- Words and writes: plain facts. -/
namespace Go.Proofs.YtgipkpkjoicehabDoor.cell

/-- A write: its place, and its word. -/
structure Wr where
  p : Int
  d : Int
def wr0 : Wr := ⟨0, 0⟩

/-- The words behind these writes. -/
def wrt : List Int → List Wr → List Int
  | c, [] => c
  | c, e :: l => wrt (c.set e.p.toNat e.d) l
theorem wrt_app (c : List Int) (l m : List Wr) : wrt c (l ++ m) = wrt (wrt c l) m := by
  induction l generalizing c with
  | nil => rfl
  | cons e l ih => exact ih _
theorem wrt_one (c : List Int) (e : Wr) : wrt c [e] = c.set e.p.toNat e.d := rfl
theorem wrt_len (c : List Int) (l : List Wr) : (wrt c l).length = c.length := by
  induction l generalizing c with
  | nil => rfl
  | cons e l ih => rw [wrt, ih, List.length_set]
theorem take_one (l : List Wr) (k : Nat) (h : k < l.length) : l.take (k + 1) = l.take k ++ [l.getD k wr0] := by
  rw [List.take_succ_eq_append_getElem h]
  simp [List.getD, List.getElem?_eq_getElem h]
theorem wrt_step (c : List Int) (l : List Wr) (k : Nat) (h : k < l.length) : wrt c (l.take (k + 1)) = (wrt c (l.take k)).set (l.getD k wr0).p.toNat (l.getD k wr0).d := by
  rw [take_one l k h, wrt_app, wrt_one]
theorem set_at (c : List Int) (i j : Nat) (v : Int) : (c.set i v).getD j 0 = if j = i ∧ i < c.length then v else c.getD j 0 := by
  simp only [List.getD, List.getElem?_set]
  by_cases h : i = j
  · subst h
    by_cases h2 : i < c.length
    · simp [h2]
    · simp [h2]
  · rw [if_neg h, if_neg (by omega)]

/-- Every write goes to one of n places. -/
def inN (n : Nat) (e : Wr) : Bool := decide (0 ≤ e.p) && decide (e.p < n)
theorem inN_iff {n : Nat} {e : Wr} : inN n e = true ↔ 0 ≤ e.p ∧ e.p < n := by simp [inN]
def allN (n : Nat) (l : List Wr) : Bool := l.all (inN n)
theorem allN_at {n : Nat} {l : List Wr} (h : allN n l = true) (k : Nat) (hk : k < l.length) : 0 ≤ (l.getD k wr0).p ∧ (l.getD k wr0).p < n := by
  have := List.all_eq_true.1 h l[k] (List.getElem_mem hk)
  rw [inN_iff] at this
  simpa [List.getD, List.getElem?_eq_getElem hk] using this
theorem allN_take {n : Nat} {l : List Wr} (h : allN n l = true) (k : Nat) : allN n (l.take k) = true := by
  refine List.all_eq_true.2 fun e he => ?_
  exact List.all_eq_true.1 h e (List.mem_of_mem_take he)
theorem allN_step (n : Nat) (l : List Wr) (k : Nat) (hk : k < l.length) : allN n (l.take (k + 1)) = (allN n (l.take k) && inN n (l.getD k wr0)) := by
  rw [take_one l k hk]; simp [allN]
theorem allN_of_false {n : Nat} {l : List Wr} {k : Nat} (hk : k < l.length) (h : inN n (l.getD k wr0) = false) : allN n l = false := by
  refine Bool.eq_false_iff.2 fun ha => ?_
  have := allN_at ha k hk
  rw [← inN_iff] at this
  rw [h] at this; cases this
theorem allN_snoc {n : Nat} {l : List Wr} {e : Wr} (h : allN n l = true) (he : 0 ≤ e.p ∧ e.p < n) : allN n (l ++ [e]) = true := by
  unfold allN at *
  rw [List.all_append, h]
  simp [inN, he]

/-- The writes that make b of a, as far as the place k. -/
def dif (a b : List Int) : Nat → List Wr
  | 0 => []
  | k + 1 => if a.getD k 0 = b.getD k 0 then dif a b k else dif a b k ++ [⟨(k : Int), b.getD k 0⟩]
theorem dif_same {a b : List Int} {k : Nat} (h : a.getD k 0 = b.getD k 0) : dif a b (k + 1) = dif a b k := by rw [dif, if_pos h]
theorem dif_other {a b : List Int} {k : Nat} (h : ¬ a.getD k 0 = b.getD k 0) : dif a b (k + 1) = dif a b k ++ [⟨(k : Int), b.getD k 0⟩] := by rw [dif, if_neg h]
theorem dif_len (a b : List Int) (k : Nat) : (dif a b k).length ≤ k := by
  induction k with
  | zero => exact Nat.le_refl _
  | succ k ih =>
    rw [dif]; split
    · omega
    · rw [List.length_append]; simp; omega
theorem dif_mem {a b : List Int} {k : Nat} {e : Wr} (h : e ∈ dif a b k) : ∃ j : Nat, j < k ∧ e = ⟨(j : Int), b.getD j 0⟩ ∧ a.getD j 0 ≠ b.getD j 0 := by
  induction k with
  | zero => simp [dif] at h
  | succ k ih =>
    rw [dif] at h
    split at h
    · obtain ⟨j, hj, he⟩ := ih h; exact ⟨j, by omega, he⟩
    · rename_i hne
      rcases List.mem_append.1 h with h | h
      · obtain ⟨j, hj, he⟩ := ih h; exact ⟨j, by omega, he⟩
      · simp at h; exact ⟨k, by omega, h, hne⟩
theorem dif_all (a b : List Int) (k n : Nat) (h : k ≤ n) : allN n (dif a b k) = true := by
  refine List.all_eq_true.2 fun e he => ?_
  obtain ⟨j, hj, rfl, _⟩ := dif_mem he
  rw [inN_iff]
  exact ⟨by show (0 : Int) ≤ j; omega, by show (j : Int) < n; omega⟩
theorem dif_rises (a b : List Int) (k : Nat) : (dif a b k).Pairwise (fun x y => x.p < y.p) := by
  induction k with
  | zero => exact List.Pairwise.nil
  | succ k ih =>
    rw [dif]; split
    · exact ih
    · refine List.pairwise_append.2 ⟨ih, List.pairwise_singleton _ _, fun x hx y hy => ?_⟩
      obtain ⟨j, hj, rfl, _⟩ := dif_mem hx
      simp at hy; subst hy
      show (j : Int) < k; omega
theorem dif_wrt (a b : List Int) (k j : Nat) (hk : k ≤ a.length) : (wrt a (dif a b k)).getD j 0 = if j < k then b.getD j 0 else a.getD j 0 := by
  induction k with
  | zero => rfl
  | succ k ih =>
    have ih := ih (by omega)
    rw [dif]; split
    · rename_i he
      rw [ih]
      by_cases h1 : j < k
      · rw [if_pos h1, if_pos (by omega)]
      · by_cases h2 : j = k
        · subst h2; rw [if_neg h1, if_pos (by omega)]; exact he
        · rw [if_neg h1, if_neg (by omega)]
    · rw [wrt_app, wrt_one, set_at, ih, wrt_len]
      simp only [Int.toNat_natCast]
      by_cases h2 : j = k
      · subst h2; rw [if_pos ⟨rfl, by omega⟩, if_pos (by omega)]
      · rw [if_neg (by omega)]
        by_cases h1 : j < k
        · rw [if_pos h1, if_pos (by omega)]
        · rw [if_neg h1, if_neg (by omega)]
theorem list_ext {a b : List Int} (hl : a.length = b.length) (h : ∀ j, j < a.length → a.getD j 0 = b.getD j 0) : a = b := by
  apply List.ext_getElem hl
  intro j h1 h2
  have := h j h1
  simpa [List.getD, List.getElem?_eq_getElem h1, List.getElem?_eq_getElem h2] using this
/-- What differs makes the one of the other. -/
theorem dif_back (a b : List Int) (h : a.length = b.length) : wrt a (dif a b a.length) = b := by
  refine list_ext (by rw [wrt_len, h]) fun j hj => ?_
  rw [wrt_len] at hj
  rw [dif_wrt a b _ j (Nat.le_refl _), if_pos hj]

end Go.Proofs.YtgipkpkjoicehabDoor.cell

/- Rows of writes: that came in, and that a call owns. -/
namespace Go.Proofs.YtgipkpkjoicehabDoor.cell
open Go.RowKit
set_option maxRecDepth 100000

/-- The slice a, len reads as the writes ls. -/
def RowW (w : World) (a : Option Addr) (len : Nat) (ls : List Wr) : Prop :=
  ls.length = len ∧ (len = 0 ∨ ∃ b off, a = some ⟨b, off, none⟩ ∧ ∀ i, i < len → w.cell? ⟨b, off + i * 2, none⟩ = some (.int .i64 (ls.getD i wr0).p) ∧ w.cell? ⟨b, off + i * 2 + 1, none⟩ = some (.int .u32 (ls.getD i wr0).d))
theorem RowW.below {w w' : World} {a : Option Addr} {n : Nat} {zs : List Wr} (h : RowW w a n zs) (hb : Below w.heap.size w w') : RowW w' a n zs := by
  refine ⟨h.1, ?_⟩
  rcases h.2 with h0 | ⟨b, off, rfl, hc⟩
  · exact .inl h0
  · refine .inr ⟨b, off, rfl, fun i hi => ?_⟩
    have h1 := hc i hi
    rw [hb.cell (p := ⟨b, off + i * 2, none⟩) (World.block_lt_of_cell? w _ h1.1), hb.cell (p := ⟨b, off + i * 2 + 1, none⟩) (World.block_lt_of_cell? w _ h1.2)]
    exact h1
theorem RowW.nil (w : World) (a : Option Addr) : RowW w a 0 [] := ⟨rfl, .inl rfl⟩
/-- The first k of the writes; those from n on. -/
theorem RowW.cut {w : World} {a : Option Addr} {n k : Nat} {zs : List Wr} (h : RowW w a n zs) (hk : k ≤ n) : RowW w a k (zs.take k) := by
  refine ⟨by rw [List.length_take, h.1]; omega, ?_⟩
  rcases h.2 with h0 | ⟨b, off, rfl, hc⟩
  · exact .inl (by omega)
  · refine .inr ⟨b, off, rfl, fun i hi => ?_⟩
    have e : (zs.take k).getD i wr0 = zs.getD i wr0 := by simp [List.getD, hi]
    rw [e]; exact hc i (by omega)
theorem RowW.at {w : World} {a : Option Addr} {n : Nat} {zs : List Wr} (h : RowW w a n zs) (h0 : 0 < n) : ∃ b off, a = some ⟨b, off, none⟩ ∧ b < w.heap.size ∧ ∀ i, i < n → w.cell? ⟨b, off + i * 2, none⟩ = some (.int .i64 (zs.getD i wr0).p) ∧ w.cell? ⟨b, off + i * 2 + 1, none⟩ = some (.int .u32 (zs.getD i wr0).d) := by
  rcases h.2 with h1 | ⟨b, off, rfl, hc⟩
  · omega
  · exact ⟨b, off, rfl, World.block_lt_of_cell? w _ (hc 0 h0).1, hc⟩
/-- What the frame hands to the walk of writes that came in. -/
theorem rowW_of {w : World} {a : Addr} {m len : Nat} (hl : len ≤ m)
    (h : ∀ j, j < m → ∃ z0 z1, w.cell? (a.add (j * 2)) = some (.int .i64 z0) ∧ w.cell? (a.add (j * 2 + 1)) = some (.int .u32 z1) ∧ (Lit.int .i64 z0).wf = true) :
    ∃ zs : List Wr, RowW w (some a) len zs ∧ ∀ x ∈ zs, (Lit.int .i64 x.p).wf = true := by
  have h' : ∀ j, ∃ e : Wr, j < m → w.cell? (a.add (j * 2)) = some (.int .i64 e.p) ∧ w.cell? (a.add (j * 2 + 1)) = some (.int .u32 e.d) ∧ (Lit.int .i64 e.p).wf = true := fun j => by
    by_cases hj : j < m
    · obtain ⟨z0, z1, hz⟩ := h j hj
      exact ⟨⟨z0, z1⟩, fun _ => hz⟩
    · exact ⟨wr0, fun hh => absurd hh hj⟩
  obtain ⟨f, hf⟩ : ∃ f : Nat → Wr, ∀ j, j < m → w.cell? (a.add (j * 2)) = some (.int .i64 (f j).p) ∧ w.cell? (a.add (j * 2 + 1)) = some (.int .u32 (f j).d) ∧ (Lit.int .i64 (f j).p).wf = true := ⟨fun j => Classical.choose (h' j), fun j hj => Classical.choose_spec (h' j) hj⟩
  clear h' h
  refine ⟨(List.range len).map f, ⟨by simp, ?_⟩, fun x hx => ?_⟩
  · by_cases h0 : len = 0
    · exact .inl h0
    · obtain ⟨b, off, spot⟩ := a
      have hs : spot = none := by simpa [Addr.add] using World.cell?_spot (hf 0 (by omega)).1
      subst hs
      refine .inr ⟨b, off, rfl, fun i hi => ?_⟩
      have h1 := hf i (by omega)
      rw [Addr.add_lit, Addr.add_lit, ← Nat.add_assoc] at h1
      have e : ((List.range len).map f).getD i wr0 = f i := by simp [List.getD, hi]
      rw [e]
      exact ⟨h1.1, h1.2.1⟩
  · obtain ⟨j, hj, rfl⟩ := List.mem_map.1 hx
    exact (hf j (by have := List.mem_range.1 hj; omega)).2.2
def cellsW : List Wr → List Value
  | [] => []
  | e :: l => .int .i64 e.p :: .int .u32 e.d :: cellsW l
theorem cellsW_len (l : List Wr) : (cellsW l).length = l.length * 2 := by
  induction l with
  | nil => rfl
  | cons e l ih => simp [cellsW, ih]; omega
theorem cellsW_app (l m : List Wr) : cellsW (l ++ m) = cellsW l ++ cellsW m := by
  induction l with
  | nil => rfl
  | cons e l ih => simp [cellsW, ih]
theorem oneW (l : List Wr) : ∀ u ∈ cellsW l, u.oneCell' = true := by
  induction l with
  | nil => intro u hu; cases hu
  | cons e l ih =>
    intro u hu
    simp only [cellsW, List.mem_cons] at hu
    rcases hu with rfl | rfl | hu
    · rfl
    · rfl
    · exact ih u hu
theorem cellsW_at (l : List Wr) (k : Nat) (hk : k < l.length) : (cellsW l)[k * 2]? = some (.int .i64 (l.getD k wr0).p) ∧ (cellsW l)[k * 2 + 1]? = some (.int .u32 (l.getD k wr0).d) := by
  induction l generalizing k with
  | nil => simp at hk
  | cons x l ih =>
    cases k with
    | zero => exact ⟨rfl, rfl⟩
    | succ k =>
      rw [show (k + 1) * 2 = k * 2 + 1 + 1 by omega]
      have := ih k (by simpa using hk)
      simpa [cellsW] using this
/-- Writes that nobody else holds. -/
def Lw (w : World) (base : Nat) (v : Value) (l : List Wr) : Prop := w.ownsRow base 62 2 v l.length (cellsW l)
theorem Lw.zero (w : World) (base : Nat) : Lw w base (.slice none 0 0) [] := World.ownsRow_nil _ _ _ _
theorem Lw.alloc {w : World} {base : Nat} {v : Value} {l : List Wr} (h : Lw w base v l) (o : Obj) : Lw (w.alloc o) base v l := World.ownsRow.alloc h o
theorem Lw.next {w w' : World} {base : Nat} {v : Value} {l : List Wr} (h : Lw w base v l) (hb : Below w.heap.size w w') : Lw w' base v l := by
  refine ⟨h.1, ?_⟩
  rcases h.2 with hn | ⟨g, cap, cur, hv, hg, hc, rest⟩
  · exact .inl hn
  · exact .inr ⟨g, cap, cur, hv, hg, Blk.next hc hb, rest⟩
theorem Lw.row {w : World} {base : Nat} {v : Value} {l : List Wr} (h : Lw w base v l) : ∃ a cap, v = .slice a l.length cap ∧ RowW w a l.length l ∧ (a = none → cap = 0) ∧ l.length ≤ cap ∧ (∀ x, a = some x → x.off = 0 ∧ x.spot = none) := by
  rcases h.2 with ⟨hv, hn⟩ | ⟨g, cap, cur, hv, _, _, h1, _⟩
  · exact ⟨none, 0, by rw [hn]; exact hv, ⟨rfl, .inl hn⟩, fun _ => rfl, by omega, fun x h => by cases h⟩
  · subst hv
    refine ⟨_, cap, rfl, ⟨rfl, .inr ⟨g, 0, rfl, fun i hi => ?_⟩⟩, (fun h => by cases h), h1, fun x h => by cases h; exact ⟨rfl, rfl⟩⟩
    have e1 := World.ownsRow.cellAt h (i * 2) (by omega)
    have e2 := World.ownsRow.cellAt h (i * 2 + 1) (by omega)
    rw [Nat.zero_add, e1, e2]
    exact cellsW_at l i hi
theorem info_wr : (Tryd.prog.info? 62).map (fun i => (i.zero, i.size, i.bytes)) = some (some (.agg #[.int .i64 0, .int .u32 0]), 2, 16) := by kernel_rfl
/-- One write is put behind the others. -/
theorem wp_write {w : World} {ops : Array Oper} {rest : List Oper} {o : Oper} {a : Act} {Q : Exit → Act → World → Prop} (hgd : o.guard = none) (s x : Operand)
    (ho : o.op = .call { callee := .builtin .append, args := #[s, x], argTypes := #[40, 40] })
    (base G : Nat) (v : Value) (l : List Wr) (r : Wr) (hs : a.eval s = v) (hx : a.eval x = .slice (some ⟨G, 0, none⟩) 1 1) (hv : Lw w base v l) (hu : w.cell? ⟨G, 0, none⟩ = some (.int .i64 r.p) ∧ w.cell? ⟨G, 1, none⟩ = some (.int .u32 r.d)) (hn : l.length ≤ 1000000) (hbase : base ≤ w.heap.size)
    (h : ∀ v' w', Lw w' base v' (l ++ [r]) → w.grownBy w' v.ownBlock → wpList Tryd.prog ops Q rest (a.put o.dst v') w') : wpList Tryd.prog ops Q (o :: rest) a w := by
  obtain ⟨i0, hi, hz0, hz1, hz2⟩ := info_parts info_wr
  refine wpList_append_own w hgd s x 40 ho base 62 i0 (.agg #[.int .i64 0, .int .u32 0]) 2 16 Tryd.underlying40 hi hz0 hz1 hz2 rfl (by decide) v l.length (cellsW l) hs hv ⟨G, 0, none⟩ 1 1 (cellsW [r]) hx rfl ?_ (oneW [r]) (by unfold maxLen; omega) (by omega) hbase ?_
  · intro j u hj
    match j, hj with
    | 0, hj => simp [cellsW] at hj; subst hj; simpa [Addr.add] using hu.1
    | 1, hj => simp [cellsW] at hj; subst hj; simpa [Addr.add] using hu.2
    | j + 2, hj => simp [cellsW] at hj
  intro v' w' h1 h2 _
  refine h v' w' ?_ h2
  unfold Lw
  rw [List.length_append, cellsW_app]
  exact h1

end Go.Proofs.YtgipkpkjoicehabDoor.cell

/- Slots: plain facts. -/
namespace Go.Proofs.YtgipkpkjoicehabDoor.slot
open Go.Proofs.YtgipkpkjoicehabDoor.cell

/-- Is this the mark of a good slot? -/
def good (m : Int) : Bool := decide (1 ≤ m) && decide (m ≤ 3)
/-- The mark that comes behind. -/
def behind (m : Int) : Int := if m = 3 then 1 else m + 1
/-- Which slot counts, by the two marks; 2: neither. -/
def cnt (a b : Int) : Nat :=
  if good a then (if good b then (if behind a = b then 1 else 0) else 0) else (if good b then 1 else 2)
theorem good_iff {m : Int} : good m = true ↔ 1 ≤ m ∧ m ≤ 3 := by simp [good]
theorem good_behind {m : Int} (h : good m = true) : good (behind m) = true ∧ behind m ≠ m ∧ behind (behind m) ≠ m := by
  rw [good_iff] at h
  have h3 : m = 1 ∨ m = 2 ∨ m = 3 := by omega
  rcases h3 with rfl | rfl | rfl <;> decide
theorem cnt_first {a b : Int} (h : cnt a b = 0) : good a = true ∧ (good b = true → behind a ≠ b) := by
  unfold cnt at h
  cases ha : good a <;> cases hb : good b <;> simp [ha, hb] at h <;> simp [h]
theorem cnt_second {a b : Int} (h : cnt a b = 1) : good b = true ∧ (good a = true → behind a = b) := by
  unfold cnt at h
  cases ha : good a <;> cases hb : good b <;> simp [ha, hb] at h <;> simp [h]
theorem cnt_le (a b : Int) : cnt a b ≤ 2 := by unfold cnt; repeat' split
                                               all_goals omega
theorem good_zero : good 0 = false := by decide
theorem cnt_blank_second {a : Int} (h : good a = true) : cnt a 0 = 0 := by simp [cnt, h, good_zero]
theorem cnt_blank_first {b : Int} (h : good b = true) : cnt 0 b = 1 := by simp [cnt, h, good_zero]
theorem cnt_new_second {a : Int} (h : good a = true) : cnt a (behind a) = 1 := by simp [cnt, h, (good_behind h).1]
theorem cnt_new_first {b : Int} (h : good b = true) : cnt (behind b) b = 0 := by
  have := good_behind h
  simp [cnt, h, this.1, this.2.2]

/-- Where a slot begins: its mark's place. -/
def beg (n s : Nat) : Nat := s * (n + 1)
/-- The record of a slot. -/
def rcd (c : List Int) (n s : Nat) : List Int := (List.range n).map fun i => c.getD (beg n s + 1 + i) 0
/-- Which slot counts. -/
def which (c : List Int) (n : Nat) : Nat := cnt (c.getD 0 0) (c.getD (n + 1) 0)
/-- The first i writes of a record's words, into the slot that begins at o. -/
def body (o : Nat) (r : List Int) : Nat → List Wr
  | 0 => []
  | i + 1 => body o r i ++ [⟨((o + 1 + i : Nat) : Int), r.getD i 0⟩]
/-- The writes that lay a record into the slot that does not count. -/
def sto (c r : List Int) (n : Nat) : List Wr :=
  [⟨((beg n (1 - which c n) : Nat) : Int), 0⟩] ++ body (beg n (1 - which c n)) r n ++ [⟨((beg n (1 - which c n) : Nat) : Int), behind (c.getD (beg n (which c n)) 0)⟩]
theorem rcd_len (c : List Int) (n s : Nat) : (rcd c n s).length = n := by simp [rcd]
theorem rcd_at (c : List Int) (n s i : Nat) (h : i < n) : (rcd c n s).getD i 0 = c.getD (beg n s + 1 + i) 0 := by simp [rcd, List.getD, h]
theorem body_len (o : Nat) (r : List Int) (i : Nat) : (body o r i).length = i := by
  induction i with
  | zero => rfl
  | succ i ih => simp [body, ih]
theorem sto_len (c r : List Int) (n : Nat) : (sto c r n).length = n + 2 := by simp [sto, body_len]
theorem body_take (o : Nat) (r : List Int) (n i : Nat) (h : i ≤ n) : (body o r n).take i = body o r i := by
  induction n with
  | zero => have : i = 0 := by omega
            subst this; rfl
  | succ n ih =>
    by_cases e : i = n + 1
    · subst e; rw [List.take_of_length_le (by rw [body_len]; omega)]
    · rw [body, List.take_append_of_le_length (by rw [body_len]; omega)]
      exact ih (by omega)
theorem body_in (o : Nat) (r : List Int) (i N : Nat) (h : o + 1 + i ≤ N) : allN N (body o r i) = true := by
  induction i with
  | zero => rfl
  | succ i ih =>
    rw [body]
    exact allN_snoc (ih (by omega)) ⟨by show (0 : Int) ≤ ((o + 1 + i : Nat) : Int); omega, by show ((o + 1 + i : Nat) : Int) < (N : Int); omega⟩
theorem beg_lt {n s : Nat} (h : s ≤ 1) : beg n s + n + 1 ≤ 2 * n + 2 := by
  unfold beg
  have : s = 0 ∨ s = 1 := by omega
  rcases this with rfl | rfl <;> omega
theorem sto_in (c r : List Int) (n : Nat) : allN (2 * n + 2) (sto c r n) = true := by
  have hb := beg_lt (n := n) (s := 1 - which c n) (by omega)
  unfold sto
  generalize beg n (1 - which c n) = o at *
  refine allN_snoc ?_ ⟨by show (0 : Int) ≤ (o : Int); omega, by show (o : Int) < ((2 * n + 2 : Nat) : Int); omega⟩
  have h1 := body_in o r n (2 * n + 2) (by omega)
  unfold allN at *
  rw [List.all_append, h1]
  simp [inN]
  omega
/-- Behind the words of a record. -/
theorem body_wrt (c r : List Int) (o i j : Nat) (hl : o + i < c.length) : (wrt c (body o r i)).getD j 0 = if o + 1 ≤ j ∧ j < o + 1 + i then r.getD (j - (o + 1)) 0 else c.getD j 0 := by
  induction i with
  | zero => rw [if_neg (by omega)]; rfl
  | succ i ih =>
    rw [body, wrt_app, wrt_one, set_at, ih (by omega), wrt_len]
    simp only [Int.toNat_natCast]
    by_cases e : j = o + 1 + i
    · subst e
      rw [if_pos ⟨rfl, by omega⟩, if_pos (by omega)]
      congr 1; omega
    · rw [if_neg (by omega)]
      by_cases h : o + 1 ≤ j ∧ j < o + 1 + i
      · rw [if_pos h, if_pos (by omega)]
      · rw [if_neg h, if_neg (by omega)]
/-- Behind the first nought and i words. -/
theorem cut_wrt (c r : List Int) (o i j : Nat) (hl : o + i < c.length) : (wrt c ([⟨((o : Nat) : Int), 0⟩] ++ body o r i)).getD j 0 = if j = o then 0 else if o + 1 ≤ j ∧ j < o + 1 + i then r.getD (j - (o + 1)) 0 else c.getD j 0 := by
  rw [wrt_app, wrt_one, body_wrt _ _ _ _ _ (by rw [List.length_set]; exact hl), set_at]
  simp only [Int.toNat_natCast]
  by_cases e : j = o
  · subst e
    rw [if_neg (by omega), if_pos ⟨rfl, by omega⟩, if_pos rfl]
  · rw [if_neg (show ¬ (j = o ∧ o < c.length) by omega), if_neg e]

/-- Slots that hold the record r. -/
structure Holds (c : List Int) (n : Nat) (r : List Int) : Prop where
  len : c.length = 2 * n + 2
  one : which c n ≤ 1
  is : rcd c n (which c n) = r
theorem Holds.good {c r : List Int} {n : Nat} (h : Holds c n r) : good (c.getD (beg n (which c n)) 0) = true := by
  have h1 := h.one
  have h2 : which c n = 0 ∨ which c n = 1 := by omega
  rcases h2 with e | e
  · rw [e]; have := cnt_first e; simpa [beg] using this.1
  · rw [e]; have := cnt_second e; simpa [beg] using this.1
theorem sto_take (c r : List Int) (n k : Nat) (h : k ≤ n) : (sto c r n).take (k + 1) = [⟨((beg n (1 - which c n) : Nat) : Int), 0⟩] ++ body (beg n (1 - which c n)) r k := by
  unfold sto
  rw [List.take_append_of_le_length (by simp [body_len]; omega)]
  rw [List.take_append, List.take_of_length_le (by simp)]
  simp only [List.length_cons, List.length_nil]
  rw [show k + 1 - (0 + 1) = k by omega, body_take _ _ _ _ h]
/-- However few of the writes are done, but the last: the old record is there. -/
theorem store_cut {c r old : List Int} {n k : Nat} (h : Holds c n old) (hk : k < n + 2) : Holds (wrt c ((sto c r n).take k)) n old := by
  cases k with
  | zero => exact h
  | succ k =>
    rw [sto_take c r n k (by omega)]
    have hg := h.good
    have h2 : which c n = 0 ∨ which c n = 1 := by have := h.one; omega
    have hl := h.len
    have key : ∀ j, (wrt c ([⟨((beg n (1 - which c n) : Nat) : Int), 0⟩] ++ body (beg n (1 - which c n)) r k)).getD j 0 = if j = beg n (1 - which c n) then 0 else if beg n (1 - which c n) + 1 ≤ j ∧ j < beg n (1 - which c n) + 1 + k then r.getD (j - (beg n (1 - which c n) + 1)) 0 else c.getD j 0 := fun j => by
      have hb := beg_lt (n := n) (s := 1 - which c n) (by omega)
      exact cut_wrt c r _ k j (by omega)
    have hw : which (wrt c ([⟨((beg n (1 - which c n) : Nat) : Int), 0⟩] ++ body (beg n (1 - which c n)) r k)) n = which c n := by
      rw [which, key, key]
      rcases h2 with e | e
      · rw [e] at hg ⊢
        simp only [beg, Nat.zero_mul, Nat.sub_zero, Nat.one_mul] at hg ⊢
        rw [if_neg (by omega), if_neg (by omega), if_pos trivial]
        exact cnt_blank_second hg
      · rw [e] at hg ⊢
        simp only [beg, Nat.sub_self, Nat.zero_mul, Nat.one_mul] at hg ⊢
        rw [if_pos trivial, if_neg (by omega), if_neg (by omega)]
        exact cnt_blank_first hg
    refine ⟨by rw [wrt_len]; exact hl, by rw [hw]; exact h.one, ?_⟩
    rw [hw, ← h.is]
    refine list_ext (by rw [rcd_len, rcd_len]) fun j hj => ?_
    rw [rcd_len] at hj
    rw [rcd_at _ _ _ _ hj, rcd_at _ _ _ _ hj, key]
    rcases h2 with e | e
    · rw [e]
      simp only [beg, Nat.zero_mul, Nat.sub_zero, Nat.one_mul]
      rw [if_neg (by omega), if_neg (by omega)]
    · rw [e]
      simp only [beg, Nat.sub_self, Nat.zero_mul, Nat.one_mul]
      rw [if_neg (by omega), if_neg (by omega)]
/-- All of the writes: the new record is there. -/
theorem store_all {c r old : List Int} {n : Nat} (h : Holds c n old) (hr : r.length = n) : Holds (wrt c (sto c r n)) n r := by
  have hg := h.good
  have h2 : which c n = 0 ∨ which c n = 1 := by have := h.one; omega
  have hl := h.len
  have hb := beg_lt (n := n) (s := 1 - which c n) (by omega)
  have key : ∀ j, (wrt c (sto c r n)).getD j 0 = if j = beg n (1 - which c n) then behind (c.getD (beg n (which c n)) 0) else if beg n (1 - which c n) + 1 ≤ j ∧ j < beg n (1 - which c n) + 1 + n then r.getD (j - (beg n (1 - which c n) + 1)) 0 else c.getD j 0 := fun j => by
    unfold sto
    rw [wrt_app, wrt_one, set_at, cut_wrt c r _ n j (by omega), wrt_len]
    simp only [Int.toNat_natCast]
    by_cases e : j = beg n (1 - which c n)
    · rw [if_pos ⟨e, by omega⟩, if_pos e]
    · rw [if_neg (by omega), if_neg e, if_neg e]
  have hw : which (wrt c (sto c r n)) n = 1 - which c n := by
    rw [which, key, key]
    rcases h2 with e | e
    · rw [e] at hg ⊢
      simp only [beg, Nat.zero_mul, Nat.sub_zero, Nat.one_mul] at hg ⊢
      rw [if_neg (by omega), if_neg (by omega), if_pos trivial]
      exact cnt_new_second hg
    · rw [e] at hg ⊢
      simp only [beg, Nat.sub_self, Nat.zero_mul, Nat.one_mul] at hg ⊢
      rw [if_pos trivial, if_neg (by omega), if_neg (by omega)]
      exact cnt_new_first hg
  refine ⟨by rw [wrt_len]; exact hl, by rw [hw]; omega, ?_⟩
  rw [hw]
  refine list_ext (by rw [rcd_len, hr]) fun j hj => ?_
  rw [rcd_len] at hj
  rw [rcd_at _ _ _ _ hj, key, if_neg (by omega), if_pos (by omega)]
  congr 1; omega
/-- Fresh slots. -/
def fre (n : Nat) : List Int := 1 :: List.replicate (2 * n + 1) 0
theorem fre_holds (n : Nat) : Holds (fre n) n (List.replicate n 0) := by
  have hw : which (fre n) n = 0 := by
    have e : (fre n).getD (n + 1) 0 = 0 := by simp [fre, List.getD, show n < 2 * n + 1 by omega]
    rw [which, e]; rfl
  refine ⟨by simp [fre], by rw [hw]; omega, ?_⟩
  rw [hw]
  refine list_ext (by rw [rcd_len, List.length_replicate]) fun j hj => ?_
  rw [rcd_len] at hj
  rw [rcd_at _ _ _ _ hj]
  simp [fre, beg, List.getD, Nat.add_comm 1 j, hj, show j < 2 * n + 1 by omega]

end Go.Proofs.YtgipkpkjoicehabDoor.slot

/- A pocket's slots: plain facts. -/
namespace Go.Proofs.YtgipkpkjoicehabDoor.pkt
open Go.Proofs.YtgipkpkjoicehabDoor.met Go.Proofs.YtgipkpkjoicehabDoor.slot Go.Proofs.YtgipkpkjoicehabDoor.cell

/-- What booting gives. -/
def BootIs (xs : List Int) (m : Mt) (e : Int) : Prop :=
  (xs.length ≠ 12 ∧ m = mt0 ∧ e = 1) ∨ (xs.length = 12 ∧ which xs 5 = 2 ∧ m = mt0 ∧ e = 17) ∨ (xs.length = 12 ∧ which xs 5 ≤ 1 ∧ ReadIs (rcd xs 5 (which xs 5)) m e)
theorem BootIs.one {xs : List Int} {m m' : Mt} {e e' : Int} (h : BootIs xs m e) (h' : BootIs xs m' e') : m = m' ∧ e = e' := by
  rcases h with ⟨a0, rfl, rfl⟩ | ⟨a0, a1, rfl, rfl⟩ | ⟨a0, a1, a2⟩ <;> rcases h' with ⟨b0, rfl, rfl⟩ | ⟨b0, b1, rfl, rfl⟩ | ⟨b0, b1, b2⟩ <;>
    first | exact ⟨rfl, rfl⟩ | exact absurd a0 b0 | exact absurd b0 a0 | exact a2.one b2 | omega
theorem which_le (xs : List Int) (n : Nat) : which xs n ≤ 2 := cnt_le _ _
theorem rcd_word {xs : List Int} (h : ∀ x ∈ xs, 0 ≤ x ∧ x < 4294967296) (n s : Nat) : ∀ x ∈ rcd xs n s, 0 ≤ x ∧ x < 4294967296 := by
  intro x hx
  obtain ⟨i, _, rfl⟩ := List.mem_map.1 hx
  by_cases hi : beg n s + 1 + i < xs.length
  · rw [show xs.getD (beg n s + 1 + i) 0 = xs[beg n s + 1 + i] by simp [List.getD, List.getElem?_eq_getElem hi]]; exact h _ (List.getElem_mem hi)
  · rw [show xs.getD (beg n s + 1 + i) 0 = 0 by simp [List.getD, List.getElem?_eq_none (Nat.le_of_not_lt hi)]]; decide
/-- A meter that may be, and whose bits are a word of 64. -/
structure Mw (m : Mt) : Prop where
  may : m.may
  b : m.b < 18446744073709551616
theorem rdL_b {l : List Int} (h5 : l.length = 5) (h : ∀ x ∈ l, 0 ≤ x ∧ x < 4294967296) : (rdL l).b < 18446744073709551616 := by
  have e := list5 h5
  have h3 : 0 ≤ l.getD 3 0 ∧ l.getD 3 0 < 4294967296 := h _ (by rw [e]; simp)
  have h4 : 0 ≤ l.getD 4 0 ∧ l.getD 4 0 < 4294967296 := h _ (by rw [e]; simp)
  show ((l.getD 4 0) * 4294967296 + l.getD 3 0).toNat < _
  omega
theorem wds_len (m : Mt) : (wds m).length = 5 := rfl
theorem wds_words {m : Mt} (h : Mw m) : ∀ x ∈ wds m, 0 ≤ x ∧ x < 4294967296 := by
  have h1 := h.may.cr; have h2 := four_bd h.may; have h3 := may_high h.may; have h4 := h.b
  intro x hx
  simp only [wds, List.mem_cons, List.not_mem_nil, or_false] at hx
  rcases hx with rfl | rfl | rfl | rfl | rfl <;> omega
theorem wds_inj {m m' : Mt} (h : m.may) (h' : m'.may) (e : wds m = wds m') : m = m' := by rw [← rdL_wds h, ← rdL_wds h', e]
/-- Slots that boot hold the words of what they boot to. -/
theorem BootIs.sure {xs : List Int} {m : Mt} (hw : ∀ x ∈ rcd xs 5 (which xs 5), 0 ≤ x ∧ x < 4294967296) (h : BootIs xs m 0) : Holds xs 5 (wds m) ∧ Mw m := by
  rcases h with ⟨_, _, e⟩ | ⟨_, _, _, e⟩ | ⟨a0, a1, h⟩
  · exact absurd e (by decide)
  · exact absurd e (by decide)
  · rcases h with ⟨h, _⟩ | ⟨_, _, _, e⟩ | ⟨h5, hm, rfl, _⟩
    · exact absurd (rcd_len _ _ _) h
    · exact absurd e (by decide)
    · have hl := rcd_len xs 5 (which xs 5)
      exact ⟨⟨a0, a1, (wds_rdL hl hw).symm⟩, hm, rdL_b hl hw⟩
theorem boot_holds {xs : List Int} {m : Mt} (h : Holds xs 5 (wds m)) (hm : m.may) : BootIs xs m 0 := by
  refine .inr (.inr ⟨h.len, h.one, ?_⟩)
  rw [h.is]
  have := ReadIs.ok (l := wds m) (fun hx => hx rfl) (by rw [rdL_wds hm]; exact hm)
  rwa [rdL_wds hm] at this
theorem holds_word {xs : List Int} {m : Mt} (h : Holds xs 5 (wds m)) (hm : Mw m) : ∀ x ∈ rcd xs 5 (which xs 5), 0 ≤ x ∧ x < 4294967296 := by rw [h.is]; exact wds_words hm
/-- The writes of a step. -/
def WrIs (xs : List Int) (m m' : Mt) (ls : List Wr) : Prop := (m' = m ∧ ls = []) ∨ (m' ≠ m ∧ ls = sto xs (wds m') 5)
theorem WrIs.one {xs : List Int} {m m' : Mt} {ls ls' : List Wr} (h : WrIs xs m m' ls) (h' : WrIs xs m m' ls') : ls = ls' := by
  rcases h with ⟨a, rfl⟩ | ⟨a, rfl⟩ <;> rcases h' with ⟨b, rfl⟩ | ⟨b, rfl⟩ <;> first | rfl | exact absurd a b | exact absurd b a
theorem WrIs.len {xs : List Int} {m m' : Mt} {ls : List Wr} (h : WrIs xs m m' ls) : (m' = m ∧ ls.length = 0) ∨ (m' ≠ m ∧ ls.length = 7) := by
  rcases h with ⟨a, rfl⟩ | ⟨a, rfl⟩
  · exact .inl ⟨a, rfl⟩
  · exact .inr ⟨a, sto_len _ _ _⟩
/-- What a new pocket is. -/
def mk (me : Int) : List Int := [1, 0, me, 0, 0, 0, 0, 0, 0, 0, 0, 0]
def MakeIs (me : Int) (xs : List Int) (e : Int) : Prop := ((0 ≤ me ∧ me ≤ 49) ∧ xs = mk me ∧ e = 0) ∨ (¬ (0 ≤ me ∧ me ≤ 49) ∧ xs = [] ∧ e = 2)
theorem MakeIs.one {me : Int} {xs xs' : List Int} {e e' : Int} (h : MakeIs me xs e) (h' : MakeIs me xs' e') : xs = xs' ∧ e = e' := by
  rcases h with ⟨a0, rfl, rfl⟩ | ⟨a0, rfl, rfl⟩ <;> rcases h' with ⟨b0, rfl, rfl⟩ | ⟨b0, rfl, rfl⟩ <;> first | exact ⟨rfl, rfl⟩ | contradiction
theorem new_mw {me : Int} (h : 0 ≤ me ∧ me ≤ 49) : Mw (mtNew me) := ⟨⟨h, ⟨by show (0 : Int) ≤ 0; decide, by show (0 : Int) ≤ 15; decide⟩, ⟨by show (0 : Int) ≤ 0; decide, by show (0 : Int) ≤ 99999999; decide⟩, ⟨by show (0 : Int) ≤ 0; decide, by show (0 : Int) ≤ 4; decide⟩, ⟨by show (0 : Int) ≤ 0; decide, by show (0 : Int) ≤ 30; decide⟩, fun hx => hx.1 rfl, .inl ⟨rfl, rfl⟩⟩, by show (0 : Nat) < _; decide⟩
theorem wds_new (me : Int) : wds (mtNew me) = [0, me, 0, 0, 0] := by
  show [0, me + 256 * (0 + 256 * (0 + 256 * 0)), 0, ((0 % 4294967296 : Nat) : Int), ((0 / 4294967296 : Nat) : Int)] = _
  simp
theorem mk_holds (me : Int) : Holds (mk me) 5 (wds (mtNew me)) := by
  rw [wds_new]
  exact ⟨rfl, by show cnt 1 0 ≤ 1; decide, rfl⟩
theorem tick_mw {m m' : Mt} {ld x : Int} (h : Mw m) (ht : TickIs m ld m' x 0) : Mw m' := by
  rcases ht with ⟨_, _, _, e⟩ | ⟨_, _, _, _, e⟩ | ⟨h1, h2, rfl, _, _⟩
  · exact absurd e (by decide)
  · exact absurd e (by decide)
  · exact ⟨ticked_may h1 h2, h.b⟩
/-- What a tick of a pocket gives. -/
def TickedIs (xs : List Int) (ld : Int) (ls : List Wr) (x e : Int) : Prop :=
  (∃ m, BootIs xs m e ∧ e ≠ 0 ∧ ls = [] ∧ x = 0) ∨ (∃ m m' y, BootIs xs m 0 ∧ TickIs m ld m' y e ∧ e ≠ 0 ∧ ls = [] ∧ x = 0) ∨ (∃ m m', BootIs xs m 0 ∧ TickIs m ld m' x 0 ∧ e = 0 ∧ WrIs xs m m' ls)
theorem TickedIs.one {xs : List Int} {ld : Int} {ls ls' : List Wr} {x x' e e' : Int} (h : TickedIs xs ld ls x e) (h' : TickedIs xs ld ls' x' e') : ls = ls' ∧ x = x' ∧ e = e' := by
  rcases h with ⟨m, a0, a1, rfl, rfl⟩ | ⟨m, m1, y, a0, a2, a1, rfl, rfl⟩ | ⟨m, m1, a0, a2, rfl, a3⟩ <;> rcases h' with ⟨n, b0, b1, rfl, rfl⟩ | ⟨n, n1, z, b0, b2, b1, rfl, rfl⟩ | ⟨n, n1, b0, b2, rfl, b3⟩
  · exact ⟨rfl, rfl, (a0.one b0).2⟩
  · exact absurd (a0.one b0).2 a1
  · exact absurd (a0.one b0).2 a1
  · exact absurd (b0.one a0).2 b1
  · obtain ⟨rfl, _⟩ := a0.one b0; exact ⟨rfl, rfl, (a2.one b2).2.2⟩
  · obtain ⟨rfl, _⟩ := a0.one b0; exact absurd (a2.one b2).2.2 a1
  · exact absurd (b0.one a0).2 b1
  · obtain ⟨rfl, _⟩ := a0.one b0; exact absurd (b2.one a2).2.2 b1
  · obtain ⟨rfl, _⟩ := a0.one b0
    obtain ⟨rfl, rfl, _⟩ := a2.one b2
    exact ⟨a3.one b3, rfl, rfl⟩

end Go.Proofs.YtgipkpkjoicehabDoor.pkt
