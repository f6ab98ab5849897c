import Derived.Test.YtomibnggmhjdfaaGreatVVCes5
import Derived.Test.YtomibnggmhjdfaaGreatVVCes6
set_option linter.unusedVariables false
set_option linter.unusedSimpArgs false
namespace Go.Proofs.YtomibnggmhjdfaaGreat
namespace cell
open Go.RowKit
set_option maxRecDepth 100000
theorem eqI (d : Nat) (a b : Int) (w : World) : (Op.equalIn (d + 1) 3 (.int .i64 a) (.int .i64 b)).run Tryz.prog w = .ok (a == b) w := run_equalIn_int w d _ _ _ a b Tryz.underlying3
theorem eqU (d : Nat) (a b : Int) (w : World) : (Op.equalIn (d + 1) 64 (.int .u32 a) (.int .u32 b)).run Tryz.prog w = .ok (a == b) w := run_equalIn_int w d _ _ _ a b Tryz.underlying64
theorem wt0 (s c : Int) (w : World) : (part 3 #[.int .i64 s, .int .u32 c] 0).run Tryz.prog w = .ok (.int .i64 s) w := by kernel_rfl
theorem wt1 (s c : Int) (w : World) : (part 64 #[.int .i64 s, .int .u32 c] 1).run Tryz.prog w = .ok (.int .u32 c) w := by kernel_rfl
theorem eqW (s t b c : Int) (w : World) :
  (Op.equalIn 10000 76 (.agg #[.int .i64 s, .int .u32 b]) (.agg #[.int .i64 t, .int .u32 c])).run Tryz.prog w = .ok (s == t && b == c) w := by
 rw [show (10000 : Nat) = 9999 + 1 from rfl, run_equalIn_agg w 9999 76 _ _ (by kernel_rfl) (by kernel_rfl)]
 simp only [Program.fieldsOf, Tryz.underlying76, Op.eqFields, Sem.run_bind, Sem.run_ite]
 by_cases h1 : (s == t) = true <;> by_cases h2 : (b == c) = true <;> simp [wt0, wt1, show (9999 : Nat) = 9998 + 1 from rfl, eqI, eqU, h1, h2]
set_option maxHeartbeats 1000000 in
theorem writes_law (a b : Option Addr) (n c1 c2 : Nat) (zs : List Wr) (w : World) (h1 : RowW w a n zs) (h2 : RowW w b n zs) (hn : n ≤ maxLen) :
  Calls Tryz.prog 14 #[.slice a n c1, .slice b n c2] w fun e w' => e = .returned (.bool true) ∧ Below w.heap.size w w' := by
 have hne : ((n : Int) != (n : Int)) = false := by simp
 unfold maxLen at hn
 go_enter Tryz.func14, Tryz.ntmps14
 go_wp2_with fail
 go_loopw [5] (fun i wr => ∃ k : Nat, k ≤ n ∧ i = .int .i64 k ∧ Below w.heap.size w wr) (fun i _ => n - (intOf i).toNat)
 case atStart => exact ⟨0, Nat.zero_le _, rfl, Below.refl _ _⟩
 case round =>
  obtain ⟨k, hk, rfl, hb⟩ := hrel
  by_cases hlt : k < n
  ·obtain ⟨b1, o1, rfl, l1, hc1⟩ := h1.at (by omega)
   obtain ⟨b2, o2, rfl, l2, hc2⟩ := h2.at (by omega)
   have f1 : wr.cell? ⟨b1, o1 + k * 2, none⟩ = some (.int .i64 (zs.getD k wr0).p) := (hb.cell (p := ⟨b1, o1 + k * 2, none⟩) l1).trans (hc1 k hlt).1
   have f2 : wr.cell? ⟨b1, o1 + k * 2 + 1, none⟩ = some (.int .u32 (zs.getD k wr0).d) := (hb.cell (p := ⟨b1, o1 + k * 2 + 1, none⟩) l1).trans (hc1 k hlt).2
   have f3 : wr.cell? ⟨b2, o2 + k * 2, none⟩ = some (.int .i64 (zs.getD k wr0).p) := (hb.cell (p := ⟨b2, o2 + k * 2, none⟩) l2).trans (hc2 k hlt).1
   have f4 : wr.cell? ⟨b2, o2 + k * 2 + 1, none⟩ = some (.int .u32 (zs.getD k wr0).d) := (hb.cell (p := ⟨b2, o2 + k * 2 + 1, none⟩) l2).trans (hc2 k hlt).2
   have hq : ∀ wz : World, (Op.equalIn 10000 76 (.agg #[.int .i64 (zs.getD k wr0).p, .int .u32 (zs.getD k wr0).d]) (.agg #[.int .i64 (zs.getD k wr0).p, .int .u32 (zs.getD k wr0).d])).run Tryz.prog wz = .ok true wz := fun wz => by rw [eqW]; simp
   have HB : Hid (Below w.heap.size w wr) := hb
   clear hc1 hc2 h1 h2 l1 l2 hb
   generalize (zs.getD k wr0).p = p at *
   generalize (zs.getD k wr0).d = d at *
   go_wp2_with fail
   go_region
   all_goals go_wp2_with fail
   go_roundw
   case rel => exact ⟨k + 1, by omega, by go_num, HB.out.drew⟩
   case measure => simp [intOf]; omega
  ·go_wp2_with fail
   go_ret
   exact ⟨rfl, hb⟩
end cell
namespace deb
open tar (Du du0 Came RowD Ld ErrPost TwoPost PairT GaveD)
open Go.RowKit
set_option maxRecDepth 100000
set_option maxHeartbeats 4000000 in
theorem kage : KdAge := by
 intro w a len cap ls mo hcame hmw
 have hr := hcame.row
 have HBY : Hid (len * 16 ≤ 140737488351232) := hcame.bytes
 have HNIL : Hid (a = none → cap = 0) := hcame.nil
 have HFA : Hid (Calls Tryz.prog 100 #[.slice a len cap] w fun e w' => ∃ f, e = .returned (.int .i64 f) ∧ FaultIs ls f ∧ Below w.heap.size w w') := pcheck a len cap ls w hr hcame.most
 have HIM : Hid (∀ W, Calls Tryz.prog 107 #[.int .i64 0, .int .i64 2400, .int .i64 mo] W fun e w' => e = .returned (.bool (decide (0 ≤ mo ∧ mo ≤ 2400))) ∧ w' = W) := fun W => dwithin 0 2400 mo W
 have HROW0 : Hid (RowD w a len ls) := hr
 clear hcame hr hmw
 go_enter Tryz.func122, Tryz.ntmps122
 go_wp2_with fail
 go_step3
 go_wp2_with fail
 refine HFA.out.mono ?_
 rintro e w1 ⟨f, rfl, hf, hb1⟩
 have HB1 : Hid (Below w.heap.size w w1) := hb1
 have HF : Hid (FaultIs ls f) := hf
 clear hb1 HFA
 by_cases h0 : f = 0
 ·subst h0
  have hm := hf.ok.1 rfl
  have HM : Hid (Mays ls) := hm
  have HROW : Hid (RowD w1 a len ls) := HROW0.out.below HB1.out
  have HLEN : Hid (ls.length = len) := HROW.out.1
  have hl8 : len ≤ 8 := by have := hm.1; have := HLEN.out; omega
  clear hf hm HROW0 HF
  by_cases hmm : 0 ≤ mo ∧ mo ≤ 2400
  ·rw [decide_eq_true hmm] at HIM
   have HMO : Hid (0 ≤ mo ∧ mo ≤ 2400) := hmm
   obtain ⟨m, rfl⟩ := Int.eq_ofNat_of_zero_le hmm.1
   have hm2 : m ≤ 2400 := by omega
   have HMT : Hid ((m : Int).toNat = m) := by show _ = _; omega
   clear hmm
   go_wp2_with fail
   refine (HIM.out _).mono ?_
   rintro e w2 ⟨rfl, hw2⟩
   subst hw2
   clear HIM
   cases a with
   | none =>
    have hc0 := HNIL.out rfl
    have hl0 : len = 0 := by rcases HROW.out.2 with h | ⟨b, off, h, _⟩; exact h; cases h
    subst hc0 hl0
    have happ : ∀ w : World, (Builtin.append_ #[57, 57] 57 #[.slice none 0 0, .slice none 0 0]).run Tryz.prog w = .ok (.slice none 0 0) w := fun w => by kernel_rfl
    have HAI : Hid (AgeIs ls (m : Int) (ageAll ls m) 0) := .inr (.inr ⟨HM.out, HMO.out, rfl, by rw [HMT.out]⟩)
    have HZ : Hid (ageAll ls m = []) := by
     obtain rfl : ls = [] := List.eq_nil_of_length_eq_zero HLEN.out
     rfl
    go_wp2_with fail
    go_step3
    go_wp2_with fail
    go_loopg [22] 0 (fun g z wr => z = .int .i64 0 ∧ wr = w2)
    case atStart => exact ⟨rfl, rfl⟩
    case round =>
     obtain ⟨rfl, rfl⟩ := hrel
     go_wp2_with fail
     try rw [Exit.noGoto_ret]
     go_ret2
     exact ⟨none, 0, 0, _, 0, rfl, HAI.out, by rw [HZ.out]; exact fresh_nil _ _, HB1.out⟩
   | some A =>
    go_wp2_with (first
     | (at_builtin; refine tar.wp_pairs debtT rfl _ _ rfl w2.heap.size A len cap ls rfl rfl HROW.out HBY.out (Nat.le_refl _) ?_)
     | fail)
    intro v3 w3 hown hg
    obtain ⟨a3, cap3, hv3, hcm⟩ := ld_mays hown HM.out
    rw [HLEN.out] at hv3
    subst hv3
    have HL3 : Hid (Ld 43 w3 w2.heap.size (.slice a3 len cap3) ls) := hown
    have HB3 : Hid (Below w2.heap.size w2 w3) := (Below.refl _ _).grown hg (Nat.le_refl _) (fun k hk => by cases hk)
    clear hown hg hcm
    go_wp2_with fail
    go_step3
    go_wp2_with fail
    have HMIX : Hid (Ld 43 w3 w2.heap.size (.slice a3 len cap3) (mixK ls m 0)) := HL3.out
    go_loopg [22] len (fun g z wr => ∃ k : Nat, k + g = len ∧ z = .int .i64 (k : Int) ∧ Ld 43 wr w2.heap.size (.slice a3 len cap3) (mixK ls m k) ∧ Below w2.heap.size w2 wr)
    case atStart => exact ⟨0, by omega, rfl, HMIX.out, HB3.out⟩
    case round =>
     obtain ⟨k, hkg, rfl, hl, hb⟩ := hrel
     have HLK : Hid (Ld 43 wr w2.heap.size (.slice a3 len cap3) (mixK ls m k)) := hl
     have HBK : Hid (Below w2.heap.size w2 wr) := hb
     clear hl hb HMIX HL3 HB3
     cases gk with
     | zero =>
      obtain rfl : k = len := by omega
      have hdl : decide ((k : Int) < (k : Int)) = false := by simp
      have HAI : Hid (AgeIs ls (m : Int) (ageAll ls m) 0) := .inr (.inr ⟨HM.out, HMO.out, rfl, by rw [HMT.out]⟩)
      have HLE : Hid (Ld 43 wr w2.heap.size (.slice a3 k cap3) (ageAll ls m)) := by have := HLK.out; rw [mix_all ls m k HLEN.out] at this; exact this
      have HCM : Hid (Fresh wr w.heap.size a3 k cap3 (ageAll ls m)) := by
       obtain ⟨a4, cap4, hv4, hcm⟩ := ld_fresh HLE.out (ageAll_mays HM.out m)
       have e : (ageAll ls m).length = k := by rw [ageAll_len]; exact HLEN.out
       rw [e] at hv4 hcm
       simp only [Value.slice.injEq, true_and] at hv4
       obtain ⟨rfl, rfl⟩ := hv4
       exact hcm.low HB1.out.size
      have HB9 : Hid (Below w.heap.size w wr) := HB1.out.trans (HBK.out.mono HB1.out.size)
      clear HLK HLE
      generalize ageAll ls m = Z at *
      go_wp2_with fail
      try rw [Exit.noGoto_ret]
      go_ret2
      exact ⟨a3, k, cap3, Z, 0, rfl, HAI.out, HCM.out, HB9.out⟩
     | succ g =>
      have hlt : k < len := by omega
      have hdl : decide ((k : Int) < (len : Int)) = true := by simp; omega
      have hkl : k < ls.length := by rw [HLEN.out]; exact hlt
      have ho := HM.out.2 k hkl
      have HML : Hid ((mixK ls m k).length = len) := by show _ = _; rw [mix_len ls m k (by omega)]; exact HLEN.out
      have HSM : Hid ((mixK ls m k).set k ⟨growN (ls.getD k du0).b 0 (ls.getD k du0).a, (ls.getD k du0).b⟩ = mixK ls m k) := mix_same ls m k hkl
      have HNX : Hid ((mixK ls m k).set k ⟨growN (ls.getD k du0).b m (ls.getD k du0).a, (ls.getD k du0).b⟩ = mixK ls m (k + 1)) := mix_next ls m k hkl
      have hx0 := ho.1.1
      have hx1 := ho.1.2
      have hy0 := ho.2.1
      have hy1 := ho.2.2
      clear ho hkl
      generalize (ls.getD k du0).a = x at *
      generalize (ls.getD k du0).b = y at *
      go_wp2_with fail
      go_loopg [26] m (fun g2 z wy => ∃ j : Nat, j + g2 = m ∧ z = .int .i64 (j : Int) ∧ Ld 43 wy w2.heap.size (.slice a3 len cap3) ((mixK ls m k).set k ⟨growN y j x, y⟩) ∧ Below w2.heap.size w2 wy)
      case atStart => exact ⟨0, by omega, rfl, by rw [HSM.out]; exact HLK.out, HBK.out⟩
      case round =>
       rename_i wo
       obtain ⟨j, hjg, rfl, hl, hb⟩ := hrel
       have HLJ : Hid (Ld 43 wr w2.heap.size (.slice a3 len cap3) ((mixK ls m k).set k ⟨growN y j x, y⟩)) := hl
       have HBJ : Hid (Below w2.heap.size w2 wr) := hb
       clear hl hb HLK HBK HSM
       cases gk with
       | zero =>
        obtain rfl : j = m := by omega
        have hdj : decide ((j : Int) < (j : Int)) = false := by simp
        have HLN : Hid (Ld 43 wr w2.heap.size (.slice a3 len cap3) (mixK ls j (k + 1))) := by have := HLJ.out; rw [HNX.out] at this; exact this
        clear HLJ HNX
        go_wp2_with fail
        go_roundg g
        case measure => omega
        case rel => exact ⟨k + 1, by omega, by first | rfl | go_num, HLN.out, HBJ.out⟩
       | succ g2 =>
        have hdj : decide ((j : Int) < (m : Int)) = true := by simp; omega
        have hjm : j < m := by omega
        obtain ⟨gg, cur, hga, hgb, hblk, hcs, hcc⟩ := ld_lies HLJ.out (by omega)
        have hcell := hcc k (by rw [List.length_set, HML.out]; exact hlt)
        have hat : ((mixK ls m k).set k ⟨growN y j x, y⟩).getD k du0 = ⟨growN y j x, y⟩ := by
         have : k < (mixK ls m k).length := by rw [HML.out]; exact hlt
         simp [List.getD, this]
        rw [hat] at hcell
        obtain ⟨off, hoff⟩ : ∃ off : Nat, off = 0 := ⟨0, rfl⟩
        have HOFF : Hid (off = 0) := hoff
        have hga2 : a3 = some ⟨gg, off, none⟩ := by rw [hga, hoff]
        have c0 : wr.cell? ⟨gg, off + k * 2, none⟩ = some (.int .i64 (growN y j x)) := by rw [hoff, Nat.zero_add]; exact hcell.1
        have c1 : wr.cell? ⟨gg, off + k * 2 + 1, none⟩ = some (.int .i64 y) := by rw [hoff, Nat.zero_add]; exact hcell.2
        have HBL : Hid (Blk wr gg cur 43) := hblk
        have hin : off + k * 2 < cur.size := by omega
        have HGB : Hid (w2.heap.size ≤ gg) := hgb
        clear hcell hat hcc hblk hgb hga hcs hoff
        subst hga2
        have hgn := growN_bd hy0 hy1 hx0 hx1 j
        have hu0 : 0 ≤ growN y j x := by omega
        have hu1 := hgn.2
        have HGS : Hid (growN y (j + 1) x = grow y (growN y j x)) := rfl
        have HGR : Hid (∀ W, Calls Tryz.prog 124 #[.agg #[.int .i64 (growN y j x), .int .i64 y]] W fun e w' => e = .returned (.int .i64 (min (growN y j x * y / 10000) (1000000000 - growN y j x))) ∧ Below W.heap.size W w') := fun W => pgrowth _ _ W ⟨hu0, hu1⟩ ⟨hy0, hy1⟩
        have HMO2 : Hid (grow y (growN y j x) = growN y j x + min (growN y j x * y / 10000) (1000000000 - growN y j x)) := grow_more hu0 hu1 hy0
        have hv0 : 0 ≤ min (growN y j x * y / 10000) (1000000000 - growN y j x) := by
         have := Int.mul_nonneg hu0 hy0
         generalize growN y j x * y = pp at *
         omega
        have hv1 : min (growN y j x * y / 10000) (1000000000 - growN y j x) ≤ 1000000000 - growN y j x := Int.min_le_right _ _
        generalize min (growN y j x * y / 10000) (1000000000 - growN y j x) = v at *
        clear hgn
        by_cases hz : v = 0
        ·have hvz : (v == 0) = true := by simpa using hz
         have HST : Hid (growN y m x = growN y j x) := by
          have h1 : grow y (growN y j x) = growN y j x := by rw [HMO2.out, hz]; omega
          have h2 := growN_still h1 (m - j)
          rw [growN_add, show j + (m - j) = m by omega] at h2
          exact h2
         have HLN : Hid (Ld 43 wr w2.heap.size (.slice (some ⟨gg, off, none⟩) len cap3) (mixK ls m (k + 1))) := by have := HLJ.out; rw [← HST.out, HNX.out] at this; exact this
         clear hz HST HNX HLJ
         generalize growN y j x = u at *
         go_wp2_with fail
         refine (HGR.out _).mono ?_
         rintro e w5 ⟨rfl, hb5⟩
         have HL5 : Hid (Ld 43 w5 w2.heap.size (.slice (some ⟨gg, off, none⟩) len cap3) (mixK ls m (k + 1))) := HLN.out.next hb5
         have HB5 := shB HBJ hb5
         clear hb5 HGR HLN c0 c1
         go_wp2_with fail
         go_roundg g
         case measure => omega
         case rel => exact ⟨k + 1, by omega, by first | rfl | go_num, HL5.out, HB5.out⟩
        ·have hvz : (v == 0) = false := by simpa using hz
         have HSS : Hid (((mixK ls m k).set k ⟨growN y j x, y⟩).set k ⟨growN y j x + v, y⟩ = (mixK ls m k).set k ⟨growN y (j + 1) x, y⟩) := by show _ = _; rw [List.set_set, HGS.out, HMO2.out]
         have HAT : Hid ((((mixK ls m k).set k ⟨growN y j x, y⟩).getD k du0).b = y) := by
          have : k < (mixK ls m k).length := by rw [HML.out]; exact hlt
          show _ = _
          simp [List.getD, this]
         have HKL : Hid (k < ((mixK ls m k).set k ⟨growN y j x, y⟩).length) := by show _ < _; rw [List.length_set, HML.out]; exact hlt
         clear hz HGS HMO2
         generalize (mixK ls m k).set k ⟨growN y j x, y⟩ = Z at *
         generalize growN y j x = u at *
         go_wp2_with fail
         refine (HGR.out _).mono ?_
         rintro e w5 ⟨rfl, hb5⟩
         have HL5 : Hid (Ld 43 w5 w2.heap.size (.slice (some ⟨gg, off, none⟩) len cap3) Z) := HLJ.out.next hb5
         have HB5 := shB HBJ hb5
         have HK5 := shN HBL hb5
         have e0 : w5.cell? ⟨gg, off + k * 2, none⟩ = some (.int .i64 u) := (hb5.cell (p := ⟨gg, off + k * 2, none⟩) HBL.out.lt).trans c0
         clear hb5 HGR HLJ c0 c1 HBL HBJ
         go_wp2_with (first
          | (refine wp_let1 rfl 3 _ _ rfl gg (off + k * 2) rfl .i64 (u + v) rfl (by kernel_rfl) cur 43 HK5.out hin ?_)
          | fail)
         intro W6 hU
         have HL6 : Hid (Ld 43 W6 w2.heap.size (.slice (some ⟨gg, off, none⟩) len cap3) ((mixK ls m k).set k ⟨growN y (j + 1) x, y⟩)) := by
          obtain rfl := HOFF.out
          rw [Nat.zero_add] at hU
          show Ld _ _ _ _ _
          rw [← HSS.out]
          exact ld_put HL5.out HK5.out k HKL.out _ _ HAT.out hU
         have HB6 : Hid (Below w2.heap.size w2 W6) := hU.bel _ _ HGB.out HB5.out
         clear hU HL5 HK5 HB5 e0
         go_wp2_with fail
         go_roundg g2
         case measure => omega
         case rel => exact ⟨j + 1, by omega, by first | rfl | go_num, HL6.out, HB6.out⟩
  ·rw [decide_eq_false hmm] at HIM
   have HMO : Hid (¬ (0 ≤ mo ∧ mo ≤ 2400)) := hmm
   clear hmm
   go_wp2_with fail
   refine (HIM.out _).mono ?_
   rintro e w2 ⟨rfl, hw2⟩
   subst hw2
   go_wp2_with fail
   try rw [Exit.noGoto_ret]
   go_ret2
   exact ⟨none, 0, 0, [], 2, rfl, .inr (.inl ⟨HM.out, HMO.out, rfl, rfl⟩), fresh_nil _ _, HB1.out⟩
 ·have hne : (f != 0) = true := by simpa using h0
  have HN : Hid (¬ Mays ls) := fun h => h0 (hf.ok.2 h)
  clear hf h0 HIM
  go_wp2_with fail
  try rw [Exit.noGoto_ret]
  go_ret2
  exact ⟨none, 0, 0, [], f, rfl, .inl ⟨HN.out, HF.out, rfl⟩, fresh_nil _ _, HB1.out⟩
def SharePost (ls : List Du) (t bp : Int) (w : World) (e : Ending) (w' : World) : Prop := ∃ s f, e = .returned (.tuple #[.int .i64 s, .int .i64 f]) ∧ ((¬ Mays ls ∧ FaultIs ls f ∧ s = 0) ∨ (Mays ls ∧ ShareIs t bp s f)) ∧ Below w.heap.size w w'
set_option maxHeartbeats 2000000 in
theorem pshare (a : Option Addr) (len cap : Nat) (ls : List Du) (t bp : Int) (w : World) (hr : RowD w a len ls) (hl : len ≤ maxLen) : Calls Tryz.prog 119 #[.slice a len cap, .int .i64 t, .int .i64 bp] w fun e w' => SharePost ls t bp w e w' := by
 have HFA : Hid (Calls Tryz.prog 100 #[.slice a len cap] w fun e w' => ∃ f, e = .returned (.int .i64 f) ∧ FaultIs ls f ∧ Below w.heap.size w w') := pcheck a len cap ls w hr hl
 have HIT : Hid (∀ W, Calls Tryz.prog 107 #[.int .i64 0, .int .i64 100000000, .int .i64 t] W fun e w' => e = .returned (.bool (decide (0 ≤ t ∧ t ≤ 100000000))) ∧ w' = W) := fun W => dwithin 0 100000000 t W
 clear hr hl
 go_enter Tryz.func119, Tryz.ntmps119
 go_wp2_with fail
 refine HFA.out.mono ?_
 rintro e w1 ⟨f, rfl, hf, hb1⟩
 have HB1 : Hid (Below w.heap.size w w1) := hb1
 have HF : Hid (FaultIs ls f) := hf
 clear hb1 HFA
 by_cases h0 : f = 0
 ·subst h0
  have HM : Hid (Mays ls) := hf.ok.1 rfl
  clear hf HF
  by_cases ht : 0 ≤ t ∧ t ≤ 100000000
  ·rw [decide_eq_true ht] at HIT
   by_cases hb : 0 ≤ bp ∧ bp ≤ 10000
   ·have HPA : Hid (∀ W, Calls Tryz.prog 115 #[.int .i64 t, .int .i64 bp] W fun e w' => e = .returned (.tuple #[.int .i64 (t * bp / 10000), .int .i64 0]) ∧ Below W.heap.size W w') := fun W => cents.part_yes t bp W ht.1 (by omega) hb.1 hb.2
    have HT : Hid (TMay t bp) := ⟨ht, hb⟩
    clear ht hb
    go_wp2_with fail
    refine (HIT.out _).mono ?_
    rintro e w2 ⟨rfl, hw2⟩
    subst hw2
    go_wp2_with fail
    refine (HPA.out _).mono ?_
    rintro e w3 ⟨rfl, hb3⟩
    have HB3 := shB HB1 hb3
    clear hb3
    go_wp2_with fail
    go_ret2
    exact ⟨_, _, rfl, .inr ⟨HM.out, .inl ⟨HT.out, rfl, rfl⟩⟩, HB3.out⟩
   ·have HPA : Hid (∀ W, Calls Tryz.prog 115 #[.int .i64 t, .int .i64 bp] W fun e w' => e = .returned (.tuple #[.int .i64 0, .int .i64 2]) ∧ Below W.heap.size W w') := fun W => cents.part_no t bp W (.inr (by omega))
    have HT : Hid (¬ TMay t bp) := fun h => hb h.2
    clear ht hb
    go_wp2_with fail
    refine (HIT.out _).mono ?_
    rintro e w2 ⟨rfl, hw2⟩
    subst hw2
    go_wp2_with fail
    refine (HPA.out _).mono ?_
    rintro e w3 ⟨rfl, hb3⟩
    have HB3 := shB HB1 hb3
    clear hb3
    go_wp2_with fail
    go_ret2
    exact ⟨_, _, rfl, .inr ⟨HM.out, .inr ⟨HT.out, rfl, rfl⟩⟩, HB3.out⟩
  ·rw [decide_eq_false ht] at HIT
   have HT : Hid (¬ TMay t bp) := fun h => ht h.1
   clear ht
   go_wp2_with fail
   refine (HIT.out _).mono ?_
   rintro e w2 ⟨rfl, hw2⟩
   subst hw2
   go_wp2_with fail
   go_ret2
   exact ⟨_, _, rfl, .inr ⟨HM.out, .inr ⟨HT.out, rfl, rfl⟩⟩, HB1.out⟩
 ·have hne : (f != 0) = true := by simpa using h0
  have HN : Hid (¬ Mays ls) := fun h => h0 (hf.ok.2 h)
  clear hf h0 HIT
  go_wp2_with fail
  go_ret2
  exact ⟨_, _, rfl, .inl ⟨HN.out, HF.out, rfl⟩, HB1.out⟩
end deb
namespace tar
open Go.RowKit Go.Shelf
set_option maxRecDepth 100000
attribute [local go_sem] Oper.semAt_some
theorem blk_own {β : Type} (B : Nat) (t : TypeId) (f : β → Array Value) : Own (fun s W => Blk W B (f s) t) := fun s X Y row hs hg hrow => by
 have hl := hs.lt
 refine (hg.block B hl fun e' => ?_).trans hs
 obtain ⟨o, ho, hc⟩ := hrow B e'.symm
 rw [show X.heap[B]? = _ from hs] at ho; cases ho; cases hc
def boxes (w : World) (v : Value) (x u : Int) : World := ((w.alloc (.cells #[v] 22)).alloc (.cells #[.int .i64 x] 3)).alloc (.cells #[.int .i64 u] 3)
theorem boxes_size (w : World) (v : Value) (x u : Int) : (boxes w v x u).heap.size = w.heap.size + 3 := by unfold boxes; simp
theorem boxes_t (w : World) (v : Value) (x u : Int) : Boxed (boxes w v x u) w.heap.size 22 v := ((Boxed.new w _ v).alloc _).alloc _
theorem boxes_x (w : World) (v : Value) (x u : Int) : Boxed (boxes w v x u) (w.heap.size + 1) 3 (.int .i64 x) := by
 have h := (Boxed.new (w.alloc (.cells #[v] 22)) 3 (.int .i64 x)).alloc (.cells #[.int .i64 u] 3)
 rw [World.size_alloc] at h
 exact h
theorem boxes_u (w : World) (v : Value) (x u : Int) : Boxed (boxes w v x u) (w.heap.size + 1 + 1) 3 (.int .i64 u) := by
 have h := Boxed.new ((w.alloc (.cells #[v] 22)).alloc (.cells #[.int .i64 x] 3)) 3 (.int .i64 u)
 rw [World.size_alloc, World.size_alloc] at h
 exact h
theorem boxes_bel {n : Nat} {w0 w : World} (h : Below n w0 w) (hn : n ≤ w.heap.size) (v : Value) (x u : Int) : Below n w0 (boxes w v x u) := ((h.alloc hn _).alloc (by simp; omega) _).alloc (by simp; omega) _
theorem boxes_boxed {w : World} {B : Nat} {t : TypeId} {o : Value} (h : Boxed w B t o) (v : Value) (x u : Int) : Boxed (boxes w v x u) B t o := ((h.alloc _).alloc _).alloc _
set_option maxHeartbeats 1000000 in
theorem lines_in (F : Fence) (n : Nat) (hF : F.fn 121) (hro : F.round = none) (a : Option Addr) (len cap : Nat) (x u : Int) (w : World) :
  CallsIn F n Tryz.prog 121 #[.slice a len cap, .int .i64 x, .int .i64 u] w fun e w' => e = .returned (.func (.func 123) #[] #[.pointer (some ⟨w.heap.size + 1, 0, none⟩), .pointer (some ⟨w.heap.size, 0, none⟩), .pointer (some ⟨w.heap.size + 1 + 1, 0, none⟩)]) ∧ w' = boxes w (.slice a len cap) x u := by
 refine callsIn_of_wp Tryz.func121 rfl hF ?_ hro
 simp only [Tryz.ntmps121, List.size_toArray, List.length_cons, List.length_nil, Nat.reduceAdd, Nat.reduceSub, Array.replicate_succ, Array.replicate_zero, List.push_toArray, List.append_toArray, List.nil_append, List.cons_append]
 gi_wp2
 go_ret
 exact ⟨rfl, rfl⟩
structure Lnd (w : World) (n₀ B b off len cap : Nat) (ls : List Du) (x u : Int) : Prop where
 right : Right ls
 many : ls.length = len
 x0 : 0 ≤ x
 x1 : x ≤ 10000000
 u0 : 0 ≤ u
 u1 : x + u ≤ 10000000
 bt : Boxed w B 22 (.slice (some ⟨b, off, none⟩) len cap)
 bx : Boxed w (B + 1) 3 (.int .i64 x)
 bu : Boxed w (B + 1 + 1) 3 (.int .i64 u)
 hb : b < n₀
 hn : n₀ ≤ w.heap.size
 row : ∀ i, i < len → w.cell? ⟨b, off + i * 2, none⟩ = some (.int .i64 (ls.getD i du0).a) ∧ w.cell? ⟨b, off + i * 2 + 1, none⟩ = some (.int .i64 (ls.getD i du0).b)
theorem lines_stops (F : Fence) (n : Nat) (hF : F.fn 123) (hro : F.round = none) (hn : 1 ≤ n) (n₀ B b off len cap : Nat) (ls : List Du) (x u : Int) (w : World) (h : Lnd w n₀ B b off len cap ls x u) :
  SeqStopsK F n Tryz.prog 123 #[.pointer (some ⟨B + 1, 0, none⟩), .pointer (some ⟨B, 0, none⟩), .pointer (some ⟨B + 1 + 1, 0, none⟩)] encL (Kq n₀ B (B + 3)) (fun ys => lns ys = billK ls x (x + u) len) (fun pre => lns pre <+: billK ls x (x + u) len) len w := fun l J Jx W hW hJ _ hY h0 =>
 lines1_in F n hF hro hn l (B + 1) B (B + 1 + 1) n₀ B (B + 3) b off len cap W.heap.size ls x u J Jx h.right h.many ⟨h.x0, h.x1⟩ ⟨h.u0, h.u1⟩ hJ hY W
  (boxed_same h.bx (hW.block _ h.bx.lt)) (boxed_same h.bt (hW.block _ h.bt.lt)) (boxed_same h.bu (hW.block _ h.bu.lt)) ⟨by omega, by omega⟩ ⟨by omega, by omega⟩ h.hb (Nat.le_trans h.hn hW.size)
  (fun i hi => ⟨(hW.cell (p := ⟨b, off + i * 2, none⟩) (Nat.lt_of_lt_of_le h.hb h.hn)).trans (h.row i hi).1, (hW.cell (p := ⟨b, off + i * 2 + 1, none⟩) (Nat.lt_of_lt_of_le h.hb h.hn)).trans (h.row i hi).2⟩) h0
theorem Kq.refl (n lo hi : Nat) (W : World) : Kq n lo hi W W := ⟨Below.refl _ _, fun _ _ _ => rfl⟩
theorem Kq.alloc {n lo hi : Nat} {W W' : World} (h : Kq n lo hi W W') (o : Obj) (hn : n ≤ W'.heap.size) (hs : hi ≤ W'.heap.size) : Kq n lo hi W (W'.alloc o) := ⟨h.1.alloc hn o, fun j a b => (Below.heap_alloc W' o j (by omega)).trans (h.2 j a b)⟩
theorem Kq.set {n lo hi : Nat} {W W' : World} (h : Kq n lo hi W W') (B i : Nat) (v : Value) (hB : n ≤ B) (hl : B < lo ∨ hi ≤ B) : Kq n lo hi W (W'.setCell ⟨B, i, none⟩ v) := ⟨h.1.setCell (p := ⟨B, i, none⟩) hB v, fun j a b => (Below.heap_setCell W' ⟨B, i, none⟩ v j (by show j ≠ B; omega)).trans (h.2 j a b)⟩
theorem kq_b {n lo hi : Nat} {w : World} (hn : n ≤ w.heap.size) (hh : hi ≤ w.heap.size) (W : World) (l : Nat) (o o' : Obj) (hl : w.heap.size ≤ l) (h : W.heap[l]? = some o) (hc : o.isCells = false) (hw : o.isWalk = false) : Kq n lo hi W (W.putObj l o') := ⟨belowK_b hn W l o o' hl h hc hw, fun j a b => (grownBy_putObj' W l o').block j (by have := (Array.getElem?_eq_some_iff.1 h).1; omega) (fun e => by cases e; omega)⟩
theorem lnd_of {w w1 : World} (n₀ B b off len cap : Nat) {ls : List Du} {x u : Int} (hr : Right ls) (hl : ls.length = len) (hx : 0 ≤ x ∧ x ≤ 10000000) (hu : 0 ≤ u ∧ x + u ≤ 10000000) (hB : w1.heap.size = B) (hb : b < n₀) (hn : n₀ ≤ w1.heap.size)
  (hbel : Below n₀ w w1) (hc : ∀ i, i < len → w.cell? ⟨b, off + i * 2, none⟩ = some (.int .i64 (ls.getD i du0).a) ∧ w.cell? ⟨b, off + i * 2 + 1, none⟩ = some (.int .i64 (ls.getD i du0).b)) : Lnd (boxes w1 (.slice (some ⟨b, off, none⟩) len cap) x u) n₀ B b off len cap ls x u := by
 subst hB
 have h2 := boxes_bel hbel hn (.slice (some ⟨b, off, none⟩) len cap) x u
 exact ⟨hr, hl, hx.1, hx.2, hu.1, hu.2, boxes_t _ _ _ _, boxes_x _ _ _ _, boxes_u _ _ _ _, hb, by rw [boxes_size]; omega, fun i hi => ⟨(h2.cell (p := ⟨b, off + i * 2, none⟩) hb).trans (hc i hi).1, (h2.cell (p := ⟨b, off + i * 2 + 1, none⟩) hb).trans (hc i hi).2⟩⟩
end tar
end Go.Proofs.YtomibnggmhjdfaaGreat
