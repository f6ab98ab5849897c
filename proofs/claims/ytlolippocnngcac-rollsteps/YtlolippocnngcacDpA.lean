/- debt.Age. -/
import Derived.Test.YtlolippocnngcacKdA
import Derived.Test.YtlolippocnngcacDpC
import Derived.Test.YtlolippocnngcacDpG
import Derived.Test.YtlolippocnngcacDpL
import Derived.Test.YtlolippocnngcacDbK
import Derived.Test.YtlolippocnngcacLet
import Derived.OwnWalk
import Derived.Deep.LoopGhost
import Derived.WalkMore
namespace Go.Proofs.Ytlolippocnngcac.deb
open Go.Proofs.Ytlolippocnngcac.tar (Du du0 Came RowD Ld ErrPost TwoPost PairT GaveD)
open Go.RowKit
set_option maxRecDepth 100000
set_option linter.unusedVariables false
set_option linter.unusedSimpArgs false

set_option maxHeartbeats 4000000 in
theorem kage : KdAge := by
  intro w a len cap ls mo hcame hmw
  have hr := hcame.row
  have HBY : Hid (len * 16 ≤ 140737488351232) := hcame.bytes
  have HNIL : Hid (a = none → cap = 0) := hcame.nil
  have HFA : Hid (Calls Try.prog 17 #[.slice a len cap] w fun e w' => ∃ f, e = .returned (.int .i64 f) ∧ FaultIs ls f ∧ Below w.heap.size w w') := pcheck a len cap ls w hr hcame.most
  have HIM : Hid (∀ W, Calls Try.prog 18 #[.int .i64 0, .int .i64 2400, .int .i64 mo] W fun e w' => e = .returned (.bool (decide (0 ≤ mo ∧ mo ≤ 2400))) ∧ w' = W) := fun W => dwithin 0 2400 mo W
  have HROW0 : Hid (RowD w a len ls) := hr
  clear hcame hr hmw
  go_enter Try.func15, Try.ntmps15
  go_wp2_with fail
  go_step3
  go_wp2_with fail
  refine HFA.out.mono ?_
  rintro e w1 ⟨f, rfl, hf, hb1⟩
  have HB1 : Hid (Below w.heap.size w w1) := hb1
  have HF : Hid (FaultIs ls f) := hf
  clear hb1 HFA
  by_cases h0 : f = 0
  · subst h0
    have hm := hf.ok.1 rfl
    have HM : Hid (Mays ls) := hm
    have HROW : Hid (RowD w1 a len ls) := HROW0.out.below HB1.out
    have HLEN : Hid (ls.length = len) := HROW.out.1
    have hl8 : len ≤ 8 := by have := hm.1; have := HLEN.out; omega
    clear hf hm HROW0 HF
    by_cases hmm : 0 ≤ mo ∧ mo ≤ 2400
    · rw [decide_eq_true hmm] at HIM
      have HMO : Hid (0 ≤ mo ∧ mo ≤ 2400) := hmm
      obtain ⟨m, rfl⟩ := Int.eq_ofNat_of_zero_le hmm.1
      have hm2 : m ≤ 2400 := by omega
      have HMT : Hid ((m : Int).toNat = m) := by show _ = _; omega
      clear hmm
      go_wp2_with fail
      refine (HIM.out _).mono ?_
      rintro e w2 ⟨rfl, hw2⟩
      subst hw2
      clear HIM
      cases a with
      | none =>
        have hc0 := HNIL.out rfl
        have hl0 : len = 0 := by rcases HROW.out.2 with h | ⟨b, off, h, _⟩; exact h; cases h
        subst hc0 hl0
        have happ : ∀ w : World, (Builtin.append_ #[25, 25] 25 #[.slice none 0 0, .slice none 0 0]).run Try.prog w = .ok (.slice none 0 0) w := fun w => by kernel_rfl
        have HAI : Hid (AgeIs ls (m : Int) (ageAll ls m) 0) := .inr (.inr ⟨HM.out, HMO.out, rfl, by rw [HMT.out]⟩)
        have HZ : Hid (ageAll ls m = []) := by
          obtain rfl : ls = [] := List.eq_nil_of_length_eq_zero HLEN.out
          rfl
        go_wp2_with fail
        go_step3
        go_wp2_with fail
        go_loopg [22] 0 (fun g z wr => z = .int .i64 0 ∧ wr = w2)
        case atStart => exact ⟨rfl, rfl⟩
        case round =>
          obtain ⟨rfl, rfl⟩ := hrel
          go_wp2_with fail
          try rw [Exit.noGoto_ret]
          go_ret2
          exact ⟨none, 0, 0, _, 0, rfl, HAI.out, by rw [HZ.out]; exact fresh_nil _ _, HB1.out⟩
      | some A =>
        go_wp2_with (first
          | (at_builtin; refine tar.wp_pairs debtT rfl _ _ rfl w2.heap.size A len cap ls rfl rfl HROW.out HBY.out (Nat.le_refl _) ?_)
          | fail)
        intro v3 w3 hown hg
        obtain ⟨a3, cap3, hv3, hcm⟩ := ld_mays hown HM.out
        rw [HLEN.out] at hv3
        subst hv3
        have HL3 : Hid (Ld 46 w3 w2.heap.size (.slice a3 len cap3) ls) := hown
        have HB3 : Hid (Below w2.heap.size w2 w3) := (Below.refl _ _).grown hg (Nat.le_refl _) (fun k hk => by cases hk)
        clear hown hg hcm
        go_wp2_with fail
        go_step3
        go_wp2_with fail
        have HMIX : Hid (Ld 46 w3 w2.heap.size (.slice a3 len cap3) (mixK ls m 0)) := HL3.out
        go_loopg [22] len (fun g z wr => ∃ k : Nat, k + g = len ∧ z = .int .i64 (k : Int) ∧ Ld 46 wr w2.heap.size (.slice a3 len cap3) (mixK ls m k) ∧ Below w2.heap.size w2 wr)
        case atStart => exact ⟨0, by omega, rfl, HMIX.out, HB3.out⟩
        case round =>
          obtain ⟨k, hkg, rfl, hl, hb⟩ := hrel
          have HLK : Hid (Ld 46 wr w2.heap.size (.slice a3 len cap3) (mixK ls m k)) := hl
          have HBK : Hid (Below w2.heap.size w2 wr) := hb
          clear hl hb HMIX HL3 HB3
          cases gk with
          | zero =>
            obtain rfl : k = len := by omega
            have hdl : decide ((k : Int) < (k : Int)) = false := by simp
            have HAI : Hid (AgeIs ls (m : Int) (ageAll ls m) 0) := .inr (.inr ⟨HM.out, HMO.out, rfl, by rw [HMT.out]⟩)
            have HLE : Hid (Ld 46 wr w2.heap.size (.slice a3 k cap3) (ageAll ls m)) := by have := HLK.out; rw [mix_all ls m k HLEN.out] at this; exact this
            have HCM : Hid (Fresh wr w.heap.size a3 k cap3 (ageAll ls m)) := by
              obtain ⟨a4, cap4, hv4, hcm⟩ := ld_fresh HLE.out (ageAll_mays HM.out m)
              have e : (ageAll ls m).length = k := by rw [ageAll_len]; exact HLEN.out
              rw [e] at hv4 hcm
              simp only [Value.slice.injEq, true_and] at hv4
              obtain ⟨rfl, rfl⟩ := hv4
              exact hcm.low HB1.out.size
            have HB9 : Hid (Below w.heap.size w wr) := HB1.out.trans (HBK.out.mono HB1.out.size)
            clear HLK HLE
            generalize ageAll ls m = Z at *
            go_wp2_with fail
            try rw [Exit.noGoto_ret]
            go_ret2
            exact ⟨a3, k, cap3, Z, 0, rfl, HAI.out, HCM.out, HB9.out⟩
          | succ g =>
            have hlt : k < len := by omega
            have hdl : decide ((k : Int) < (len : Int)) = true := by simp; omega
            have hkl : k < ls.length := by rw [HLEN.out]; exact hlt
            have ho := HM.out.2 k hkl
            have HML : Hid ((mixK ls m k).length = len) := by show _ = _; rw [mix_len ls m k (by omega)]; exact HLEN.out
            have HSM : Hid ((mixK ls m k).set k ⟨growN (ls.getD k du0).b 0 (ls.getD k du0).a, (ls.getD k du0).b⟩ = mixK ls m k) := mix_same ls m k hkl
            have HNX : Hid ((mixK ls m k).set k ⟨growN (ls.getD k du0).b m (ls.getD k du0).a, (ls.getD k du0).b⟩ = mixK ls m (k + 1)) := mix_next ls m k hkl
            have hx0 := ho.1.1
            have hx1 := ho.1.2
            have hy0 := ho.2.1
            have hy1 := ho.2.2
            clear ho hkl
            generalize (ls.getD k du0).a = x at *
            generalize (ls.getD k du0).b = y at *
            go_wp2_with fail
            go_loopg [26] m (fun g2 z wy => ∃ j : Nat, j + g2 = m ∧ z = .int .i64 (j : Int) ∧ Ld 46 wy w2.heap.size (.slice a3 len cap3) ((mixK ls m k).set k ⟨growN y j x, y⟩) ∧ Below w2.heap.size w2 wy)
            case atStart => exact ⟨0, by omega, rfl, by rw [HSM.out]; exact HLK.out, HBK.out⟩
            case round =>
              rename_i wo
              obtain ⟨j, hjg, rfl, hl, hb⟩ := hrel
              have HLJ : Hid (Ld 46 wr w2.heap.size (.slice a3 len cap3) ((mixK ls m k).set k ⟨growN y j x, y⟩)) := hl
              have HBJ : Hid (Below w2.heap.size w2 wr) := hb
              clear hl hb HLK HBK HSM
              cases gk with
              | zero =>
                obtain rfl : j = m := by omega
                have hdj : decide ((j : Int) < (j : Int)) = false := by simp
                have HLN : Hid (Ld 46 wr w2.heap.size (.slice a3 len cap3) (mixK ls j (k + 1))) := by have := HLJ.out; rw [HNX.out] at this; exact this
                clear HLJ HNX
                go_wp2_with fail
                go_roundg g
                case measure => omega
                case rel => exact ⟨k + 1, by omega, by first | rfl | go_num, HLN.out, HBJ.out⟩
              | succ g2 =>
                have hdj : decide ((j : Int) < (m : Int)) = true := by simp; omega
                have hjm : j < m := by omega
                obtain ⟨gg, cur, hga, hgb, hblk, hcs, hcc⟩ := ld_lies HLJ.out (by omega)
                have hcell := hcc k (by rw [List.length_set, HML.out]; exact hlt)
                have hat : ((mixK ls m k).set k ⟨growN y j x, y⟩).getD k du0 = ⟨growN y j x, y⟩ := by
                  have : k < (mixK ls m k).length := by rw [HML.out]; exact hlt
                  simp [List.getD, this]
                rw [hat] at hcell
                obtain ⟨off, hoff⟩ : ∃ off : Nat, off = 0 := ⟨0, rfl⟩
                have HOFF : Hid (off = 0) := hoff
                have hga2 : a3 = some ⟨gg, off, none⟩ := by rw [hga, hoff]
                have c0 : wr.cell? ⟨gg, off + k * 2, none⟩ = some (.int .i64 (growN y j x)) := by rw [hoff, Nat.zero_add]; exact hcell.1
                have c1 : wr.cell? ⟨gg, off + k * 2 + 1, none⟩ = some (.int .i64 y) := by rw [hoff, Nat.zero_add]; exact hcell.2
                have HBL : Hid (Blk wr gg cur 46) := hblk
                have hin : off + k * 2 < cur.size := by omega
                have HGB : Hid (w2.heap.size ≤ gg) := hgb
                clear hcell hat hcc hblk hgb hga hcs hoff
                subst hga2
                have hgn := growN_bd hy0 hy1 hx0 hx1 j
                have hu0 : 0 ≤ growN y j x := by omega
                have hu1 := hgn.2
                have HGS : Hid (growN y (j + 1) x = grow y (growN y j x)) := rfl
                have HGR : Hid (∀ W, Calls Try.prog 19 #[.agg #[.int .i64 (growN y j x), .int .i64 y]] W fun e w' => e = .returned (.int .i64 (min (growN y j x * y / 10000) (1000000000 - growN y j x))) ∧ Below W.heap.size W w') := fun W => pgrowth _ _ W ⟨hu0, hu1⟩ ⟨hy0, hy1⟩
                have HMO2 : Hid (grow y (growN y j x) = growN y j x + min (growN y j x * y / 10000) (1000000000 - growN y j x)) := grow_more hu0 hu1 hy0
                have hv0 : 0 ≤ min (growN y j x * y / 10000) (1000000000 - growN y j x) := by
                  have := Int.mul_nonneg hu0 hy0
                  generalize growN y j x * y = pp at *
                  omega
                have hv1 : min (growN y j x * y / 10000) (1000000000 - growN y j x) ≤ 1000000000 - growN y j x := Int.min_le_right _ _
                generalize min (growN y j x * y / 10000) (1000000000 - growN y j x) = v at *
                clear hgn
                by_cases hz : v = 0
                · have hvz : (v == 0) = true := by simpa using hz
                  have HST : Hid (growN y m x = growN y j x) := by
                    have h1 : grow y (growN y j x) = growN y j x := by rw [HMO2.out, hz]; omega
                    have h2 := growN_still h1 (m - j)
                    rw [growN_add, show j + (m - j) = m by omega] at h2
                    exact h2
                  have HLN : Hid (Ld 46 wr w2.heap.size (.slice (some ⟨gg, off, none⟩) len cap3) (mixK ls m (k + 1))) := by have := HLJ.out; rw [← HST.out, HNX.out] at this; exact this
                  clear hz HST HNX HLJ
                  generalize growN y j x = u at *
                  go_wp2_with fail
                  refine (HGR.out _).mono ?_
                  rintro e w5 ⟨rfl, hb5⟩
                  have HL5 : Hid (Ld 46 w5 w2.heap.size (.slice (some ⟨gg, off, none⟩) len cap3) (mixK ls m (k + 1))) := HLN.out.next hb5
                  have HB5 : Hid (Below w2.heap.size w2 w5) := HBJ.out.trans (hb5.mono HBJ.out.size)
                  clear hb5 HGR HLN c0 c1
                  go_wp2_with fail
                  go_roundg g
                  case measure => omega
                  case rel => exact ⟨k + 1, by omega, by first | rfl | go_num, HL5.out, HB5.out⟩
                · have hvz : (v == 0) = false := by simpa using hz
                  have HSS : Hid (((mixK ls m k).set k ⟨growN y j x, y⟩).set k ⟨growN y j x + v, y⟩ = (mixK ls m k).set k ⟨growN y (j + 1) x, y⟩) := by show _ = _; rw [List.set_set, HGS.out, HMO2.out]
                  have HAT : Hid ((((mixK ls m k).set k ⟨growN y j x, y⟩).getD k du0).b = y) := by
                    have : k < (mixK ls m k).length := by rw [HML.out]; exact hlt
                    show _ = _
                    simp [List.getD, this]
                  have HKL : Hid (k < ((mixK ls m k).set k ⟨growN y j x, y⟩).length) := by show _ < _; rw [List.length_set, HML.out]; exact hlt
                  clear hz HGS HMO2
                  generalize (mixK ls m k).set k ⟨growN y j x, y⟩ = Z at *
                  generalize growN y j x = u at *
                  go_wp2_with fail
                  refine (HGR.out _).mono ?_
                  rintro e w5 ⟨rfl, hb5⟩
                  have HL5 : Hid (Ld 46 w5 w2.heap.size (.slice (some ⟨gg, off, none⟩) len cap3) Z) := HLJ.out.next hb5
                  have HB5 : Hid (Below w2.heap.size w2 w5) := HBJ.out.trans (hb5.mono HBJ.out.size)
                  have HK5 : Hid (Blk w5 gg cur 46) := HBL.out.next hb5
                  have e0 : w5.cell? ⟨gg, off + k * 2, none⟩ = some (.int .i64 u) := (hb5.cell (p := ⟨gg, off + k * 2, none⟩) HBL.out.lt).trans c0
                  clear hb5 HGR HLJ c0 c1 HBL HBJ
                  go_wp2_with (first
                    | (refine wp_let1 rfl 3 _ _ rfl gg (off + k * 2) rfl .i64 (u + v) rfl (by kernel_rfl) cur 46 HK5.out hin ?_)
                    | fail)
                  intro W6 hU
                  have HL6 : Hid (Ld 46 W6 w2.heap.size (.slice (some ⟨gg, off, none⟩) len cap3) ((mixK ls m k).set k ⟨growN y (j + 1) x, y⟩)) := by
                    obtain rfl := HOFF.out
                    rw [Nat.zero_add] at hU
                    show Ld _ _ _ _ _
                    rw [← HSS.out]
                    exact ld_put HL5.out HK5.out k HKL.out _ _ HAT.out hU
                  have HB6 : Hid (Below w2.heap.size w2 W6) := hU.bel _ _ HGB.out HB5.out
                  clear hU HL5 HK5 HB5 e0
                  go_wp2_with fail
                  go_roundg g2
                  case measure => omega
                  case rel => exact ⟨j + 1, by omega, by first | rfl | go_num, HL6.out, HB6.out⟩
    · rw [decide_eq_false hmm] at HIM
      have HMO : Hid (¬ (0 ≤ mo ∧ mo ≤ 2400)) := hmm
      clear hmm
      go_wp2_with fail
      refine (HIM.out _).mono ?_
      rintro e w2 ⟨rfl, hw2⟩
      subst hw2
      go_wp2_with fail
      try rw [Exit.noGoto_ret]
      go_ret2
      exact ⟨none, 0, 0, [], 2, rfl, .inr (.inl ⟨HM.out, HMO.out, rfl, rfl⟩), fresh_nil _ _, HB1.out⟩
  · have hne : (f != 0) = true := by simpa using h0
    have HN : Hid (¬ Mays ls) := fun h => h0 (hf.ok.2 h)
    clear hf h0 HIM
    go_wp2_with fail
    try rw [Exit.noGoto_ret]
    go_ret2
    exact ⟨none, 0, 0, [], f, rfl, .inl ⟨HN.out, HF.out, rfl⟩, fresh_nil _ _, HB1.out⟩

end Go.Proofs.Ytlolippocnngcac.deb
