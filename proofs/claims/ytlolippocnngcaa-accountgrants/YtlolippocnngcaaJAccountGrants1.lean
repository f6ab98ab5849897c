import Derived.Test.YtlolippocnngcaaKdA
import Derived.Test.YtlolippocnngcaaDpC
import Derived.Test.YtlolippocnngcaaDpG
import Derived.Test.YtlolippocnngcaaDpL
import Derived.Test.YtlolippocnngcaaDbK
import Derived.Test.YtlolippocnngcaaLet
import Derived.OwnWalk
import Derived.Deep.LoopGhost
import Derived.WalkMore
import Derived.Test.YtlolippocnngcaaApN
import Derived.Test.YtlolippocnngcaaApI
import Derived.Test.YtlolippocnngcaaOpAt
import Derived.WalkKit
import Derived.Deep.DeepCutAuto
import Derived.Test.YtlolippocnngcaaProg
import Derived.Test.YtlolippocnngcaaApC
import Derived.Test.YtlolippocnngcaaDbD
import Derived.Below
import Derived.Test.YtlolippocnngcaaBlk
import Derived.Laws.AppendOwnNone
import Derived.Test.YtlolippocnngcaaKcG
import Derived.Test.YtlolippocnngcaaRows
import Derived.Test.YtlolippocnngcaaAcD
import Derived.ProofKit
import Derived.OpenShut
import Derived.SizedLaws
import Derived.ChangeSame
import Derived.Lib.SmallJoins
import Derived.Deep.SlicePairs

/- debt.Age. -/
namespace Go.Proofs.Ytlolippocnngcaa.deb
open Go.Proofs.Ytlolippocnngcaa.tar (Du du0 Came RowD Ld ErrPost TwoPost PairT GaveD)
open Go.RowKit
set_option maxRecDepth 100000
set_option linter.unusedVariables false
set_option linter.unusedSimpArgs false

set_option maxHeartbeats 4000000 in
theorem kage : KdAge := by
  intro w a len cap ls mo hcame hmw
  have hr := hcame.row
  have HBY : Hid (len * 16 ≤ 140737488351232) := hcame.bytes
  have HNIL : Hid (a = none → cap = 0) := hcame.nil
  have HFA : Hid (Calls Try.prog 63 #[.slice a len cap] w fun e w' => ∃ f, e = .returned (.int .i64 f) ∧ FaultIs ls f ∧ Below w.heap.size w w') := pcheck a len cap ls w hr hcame.most
  have HIM : Hid (∀ W, Calls Try.prog 65 #[.int .i64 0, .int .i64 2400, .int .i64 mo] W fun e w' => e = .returned (.bool (decide (0 ≤ mo ∧ mo ≤ 2400))) ∧ w' = W) := fun W => dwithin 0 2400 mo W
  have HROW0 : Hid (RowD w a len ls) := hr
  clear hcame hr hmw
  go_enter Try.func52, Try.ntmps52
  go_wp2_with fail
  go_step3
  go_wp2_with fail
  refine HFA.out.mono ?_
  rintro e w1 ⟨f, rfl, hf, hb1⟩
  have HB1 : Hid (Below w.heap.size w w1) := hb1
  have HF : Hid (FaultIs ls f) := hf
  clear hb1 HFA
  by_cases h0 : f = 0
  · subst h0
    have hm := hf.ok.1 rfl
    have HM : Hid (Mays ls) := hm
    have HROW : Hid (RowD w1 a len ls) := HROW0.out.below HB1.out
    have HLEN : Hid (ls.length = len) := HROW.out.1
    have hl8 : len ≤ 8 := by have := hm.1; have := HLEN.out; omega
    clear hf hm HROW0 HF
    by_cases hmm : 0 ≤ mo ∧ mo ≤ 2400
    · rw [decide_eq_true hmm] at HIM
      have HMO : Hid (0 ≤ mo ∧ mo ≤ 2400) := hmm
      obtain ⟨m, rfl⟩ := Int.eq_ofNat_of_zero_le hmm.1
      have hm2 : m ≤ 2400 := by omega
      have HMT : Hid ((m : Int).toNat = m) := by show _ = _; omega
      clear hmm
      go_wp2_with fail
      refine (HIM.out _).mono ?_
      rintro e w2 ⟨rfl, hw2⟩
      subst hw2
      clear HIM
      cases a with
      | none =>
        have hc0 := HNIL.out rfl
        have hl0 : len = 0 := by rcases HROW.out.2 with h | ⟨b, off, h, _⟩; exact h; cases h
        subst hc0 hl0
        have happ : ∀ w : World, (Builtin.append_ #[30, 30] 30 #[.slice none 0 0, .slice none 0 0]).run Try.prog w = .ok (.slice none 0 0) w := fun w => by kernel_rfl
        have HAI : Hid (AgeIs ls (m : Int) (ageAll ls m) 0) := .inr (.inr ⟨HM.out, HMO.out, rfl, by rw [HMT.out]⟩)
        have HZ : Hid (ageAll ls m = []) := by
          obtain rfl : ls = [] := List.eq_nil_of_length_eq_zero HLEN.out
          rfl
        go_wp2_with fail
        go_step3
        go_wp2_with fail
        go_loopg [22] 0 (fun g z wr => z = .int .i64 0 ∧ wr = w2)
        case atStart => exact ⟨rfl, rfl⟩
        case round =>
          obtain ⟨rfl, rfl⟩ := hrel
          go_wp2_with fail
          try rw [Exit.noGoto_ret]
          go_ret2
          exact ⟨none, 0, 0, _, 0, rfl, HAI.out, by rw [HZ.out]; exact fresh_nil _ _, HB1.out⟩
      | some A =>
        go_wp2_with (first
          | (at_builtin; refine tar.wp_pairs debtT rfl _ _ rfl w2.heap.size A len cap ls rfl rfl HROW.out HBY.out (Nat.le_refl _) ?_)
          | fail)
        intro v3 w3 hown hg
        obtain ⟨a3, cap3, hv3, hcm⟩ := ld_mays hown HM.out
        rw [HLEN.out] at hv3
        subst hv3
        have HL3 : Hid (Ld 48 w3 w2.heap.size (.slice a3 len cap3) ls) := hown
        have HB3 : Hid (Below w2.heap.size w2 w3) := (Below.refl _ _).grown hg (Nat.le_refl _) (fun k hk => by cases hk)
        clear hown hg hcm
        go_wp2_with fail
        go_step3
        go_wp2_with fail
        have HMIX : Hid (Ld 48 w3 w2.heap.size (.slice a3 len cap3) (mixK ls m 0)) := HL3.out
        go_loopg [22] len (fun g z wr => ∃ k : Nat, k + g = len ∧ z = .int .i64 (k : Int) ∧ Ld 48 wr w2.heap.size (.slice a3 len cap3) (mixK ls m k) ∧ Below w2.heap.size w2 wr)
        case atStart => exact ⟨0, by omega, rfl, HMIX.out, HB3.out⟩
        case round =>
          obtain ⟨k, hkg, rfl, hl, hb⟩ := hrel
          have HLK : Hid (Ld 48 wr w2.heap.size (.slice a3 len cap3) (mixK ls m k)) := hl
          have HBK : Hid (Below w2.heap.size w2 wr) := hb
          clear hl hb HMIX HL3 HB3
          cases gk with
          | zero =>
            obtain rfl : k = len := by omega
            have hdl : decide ((k : Int) < (k : Int)) = false := by simp
            have HAI : Hid (AgeIs ls (m : Int) (ageAll ls m) 0) := .inr (.inr ⟨HM.out, HMO.out, rfl, by rw [HMT.out]⟩)
            have HLE : Hid (Ld 48 wr w2.heap.size (.slice a3 k cap3) (ageAll ls m)) := by have := HLK.out; rw [mix_all ls m k HLEN.out] at this; exact this
            have HCM : Hid (Fresh wr w.heap.size a3 k cap3 (ageAll ls m)) := by
              obtain ⟨a4, cap4, hv4, hcm⟩ := ld_fresh HLE.out (ageAll_mays HM.out m)
              have e : (ageAll ls m).length = k := by rw [ageAll_len]; exact HLEN.out
              rw [e] at hv4 hcm
              simp only [Value.slice.injEq, true_and] at hv4
              obtain ⟨rfl, rfl⟩ := hv4
              exact hcm.low HB1.out.size
            have HB9 : Hid (Below w.heap.size w wr) := HB1.out.trans (HBK.out.mono HB1.out.size)
            clear HLK HLE
            generalize ageAll ls m = Z at *
            go_wp2_with fail
            try rw [Exit.noGoto_ret]
            go_ret2
            exact ⟨a3, k, cap3, Z, 0, rfl, HAI.out, HCM.out, HB9.out⟩
          | succ g =>
            have hlt : k < len := by omega
            have hdl : decide ((k : Int) < (len : Int)) = true := by simp; omega
            have hkl : k < ls.length := by rw [HLEN.out]; exact hlt
            have ho := HM.out.2 k hkl
            have HML : Hid ((mixK ls m k).length = len) := by show _ = _; rw [mix_len ls m k (by omega)]; exact HLEN.out
            have HSM : Hid ((mixK ls m k).set k ⟨growN (ls.getD k du0).b 0 (ls.getD k du0).a, (ls.getD k du0).b⟩ = mixK ls m k) := mix_same ls m k hkl
            have HNX : Hid ((mixK ls m k).set k ⟨growN (ls.getD k du0).b m (ls.getD k du0).a, (ls.getD k du0).b⟩ = mixK ls m (k + 1)) := mix_next ls m k hkl
            have hx0 := ho.1.1
            have hx1 := ho.1.2
            have hy0 := ho.2.1
            have hy1 := ho.2.2
            clear ho hkl
            generalize (ls.getD k du0).a = x at *
            generalize (ls.getD k du0).b = y at *
            go_wp2_with fail
            go_loopg [26] m (fun g2 z wy => ∃ j : Nat, j + g2 = m ∧ z = .int .i64 (j : Int) ∧ Ld 48 wy w2.heap.size (.slice a3 len cap3) ((mixK ls m k).set k ⟨growN y j x, y⟩) ∧ Below w2.heap.size w2 wy)
            case atStart => exact ⟨0, by omega, rfl, by rw [HSM.out]; exact HLK.out, HBK.out⟩
            case round =>
              rename_i wo
              obtain ⟨j, hjg, rfl, hl, hb⟩ := hrel
              have HLJ : Hid (Ld 48 wr w2.heap.size (.slice a3 len cap3) ((mixK ls m k).set k ⟨growN y j x, y⟩)) := hl
              have HBJ : Hid (Below w2.heap.size w2 wr) := hb
              clear hl hb HLK HBK HSM
              cases gk with
              | zero =>
                obtain rfl : j = m := by omega
                have hdj : decide ((j : Int) < (j : Int)) = false := by simp
                have HLN : Hid (Ld 48 wr w2.heap.size (.slice a3 len cap3) (mixK ls j (k + 1))) := by have := HLJ.out; rw [HNX.out] at this; exact this
                clear HLJ HNX
                go_wp2_with fail
                go_roundg g
                case measure => omega
                case rel => exact ⟨k + 1, by omega, by first | rfl | go_num, HLN.out, HBJ.out⟩
              | succ g2 =>
                have hdj : decide ((j : Int) < (m : Int)) = true := by simp; omega
                have hjm : j < m := by omega
                obtain ⟨gg, cur, hga, hgb, hblk, hcs, hcc⟩ := ld_lies HLJ.out (by omega)
                have hcell := hcc k (by rw [List.length_set, HML.out]; exact hlt)
                have hat : ((mixK ls m k).set k ⟨growN y j x, y⟩).getD k du0 = ⟨growN y j x, y⟩ := by
                  have : k < (mixK ls m k).length := by rw [HML.out]; exact hlt
                  simp [List.getD, this]
                rw [hat] at hcell
                obtain ⟨off, hoff⟩ : ∃ off : Nat, off = 0 := ⟨0, rfl⟩
                have HOFF : Hid (off = 0) := hoff
                have hga2 : a3 = some ⟨gg, off, none⟩ := by rw [hga, hoff]
                have c0 : wr.cell? ⟨gg, off + k * 2, none⟩ = some (.int .i64 (growN y j x)) := by rw [hoff, Nat.zero_add]; exact hcell.1
                have c1 : wr.cell? ⟨gg, off + k * 2 + 1, none⟩ = some (.int .i64 y) := by rw [hoff, Nat.zero_add]; exact hcell.2
                have HBL : Hid (Blk wr gg cur 48) := hblk
                have hin : off + k * 2 < cur.size := by omega
                have HGB : Hid (w2.heap.size ≤ gg) := hgb
                clear hcell hat hcc hblk hgb hga hcs hoff
                subst hga2
                have hgn := growN_bd hy0 hy1 hx0 hx1 j
                have hu0 : 0 ≤ growN y j x := by omega
                have hu1 := hgn.2
                have HGS : Hid (growN y (j + 1) x = grow y (growN y j x)) := rfl
                have HGR : Hid (∀ W, Calls Try.prog 66 #[.agg #[.int .i64 (growN y j x), .int .i64 y]] W fun e w' => e = .returned (.int .i64 (min (growN y j x * y / 10000) (1000000000 - growN y j x))) ∧ Below W.heap.size W w') := fun W => pgrowth _ _ W ⟨hu0, hu1⟩ ⟨hy0, hy1⟩
                have HMO2 : Hid (grow y (growN y j x) = growN y j x + min (growN y j x * y / 10000) (1000000000 - growN y j x)) := grow_more hu0 hu1 hy0
                have hv0 : 0 ≤ min (growN y j x * y / 10000) (1000000000 - growN y j x) := by
                  have := Int.mul_nonneg hu0 hy0
                  generalize growN y j x * y = pp at *
                  omega
                have hv1 : min (growN y j x * y / 10000) (1000000000 - growN y j x) ≤ 1000000000 - growN y j x := Int.min_le_right _ _
                generalize min (growN y j x * y / 10000) (1000000000 - growN y j x) = v at *
                clear hgn
                by_cases hz : v = 0
                · have hvz : (v == 0) = true := by simpa using hz
                  have HST : Hid (growN y m x = growN y j x) := by
                    have h1 : grow y (growN y j x) = growN y j x := by rw [HMO2.out, hz]; omega
                    have h2 := growN_still h1 (m - j)
                    rw [growN_add, show j + (m - j) = m by omega] at h2
                    exact h2
                  have HLN : Hid (Ld 48 wr w2.heap.size (.slice (some ⟨gg, off, none⟩) len cap3) (mixK ls m (k + 1))) := by have := HLJ.out; rw [← HST.out, HNX.out] at this; exact this
                  clear hz HST HNX HLJ
                  generalize growN y j x = u at *
                  go_wp2_with fail
                  refine (HGR.out _).mono ?_
                  rintro e w5 ⟨rfl, hb5⟩
                  have HL5 : Hid (Ld 48 w5 w2.heap.size (.slice (some ⟨gg, off, none⟩) len cap3) (mixK ls m (k + 1))) := HLN.out.next hb5
                  have HB5 : Hid (Below w2.heap.size w2 w5) := HBJ.out.trans (hb5.mono HBJ.out.size)
                  clear hb5 HGR HLN c0 c1
                  go_wp2_with fail
                  go_roundg g
                  case measure => omega
                  case rel => exact ⟨k + 1, by omega, by first | rfl | go_num, HL5.out, HB5.out⟩
                · have hvz : (v == 0) = false := by simpa using hz
                  have HSS : Hid (((mixK ls m k).set k ⟨growN y j x, y⟩).set k ⟨growN y j x + v, y⟩ = (mixK ls m k).set k ⟨growN y (j + 1) x, y⟩) := by show _ = _; rw [List.set_set, HGS.out, HMO2.out]
                  have HAT : Hid ((((mixK ls m k).set k ⟨growN y j x, y⟩).getD k du0).b = y) := by
                    have : k < (mixK ls m k).length := by rw [HML.out]; exact hlt
                    show _ = _
                    simp [List.getD, this]
                  have HKL : Hid (k < ((mixK ls m k).set k ⟨growN y j x, y⟩).length) := by show _ < _; rw [List.length_set, HML.out]; exact hlt
                  clear hz HGS HMO2
                  generalize (mixK ls m k).set k ⟨growN y j x, y⟩ = Z at *
                  generalize growN y j x = u at *
                  go_wp2_with fail
                  refine (HGR.out _).mono ?_
                  rintro e w5 ⟨rfl, hb5⟩
                  have HL5 : Hid (Ld 48 w5 w2.heap.size (.slice (some ⟨gg, off, none⟩) len cap3) Z) := HLJ.out.next hb5
                  have HB5 : Hid (Below w2.heap.size w2 w5) := HBJ.out.trans (hb5.mono HBJ.out.size)
                  have HK5 : Hid (Blk w5 gg cur 48) := HBL.out.next hb5
                  have e0 : w5.cell? ⟨gg, off + k * 2, none⟩ = some (.int .i64 u) := (hb5.cell (p := ⟨gg, off + k * 2, none⟩) HBL.out.lt).trans c0
                  clear hb5 HGR HLJ c0 c1 HBL HBJ
                  go_wp2_with (first
                    | (refine wp_let1 rfl 3 _ _ rfl gg (off + k * 2) rfl .i64 (u + v) rfl (by kernel_rfl) cur 48 HK5.out hin ?_)
                    | fail)
                  intro W6 hU
                  have HL6 : Hid (Ld 48 W6 w2.heap.size (.slice (some ⟨gg, off, none⟩) len cap3) ((mixK ls m k).set k ⟨growN y (j + 1) x, y⟩)) := by
                    obtain rfl := HOFF.out
                    rw [Nat.zero_add] at hU
                    show Ld _ _ _ _ _
                    rw [← HSS.out]
                    exact ld_put HL5.out HK5.out k HKL.out _ _ HAT.out hU
                  have HB6 : Hid (Below w2.heap.size w2 W6) := hU.bel _ _ HGB.out HB5.out
                  clear hU HL5 HK5 HB5 e0
                  go_wp2_with fail
                  go_roundg g2
                  case measure => omega
                  case rel => exact ⟨j + 1, by omega, by first | rfl | go_num, HL6.out, HB6.out⟩
    · rw [decide_eq_false hmm] at HIM
      have HMO : Hid (¬ (0 ≤ mo ∧ mo ≤ 2400)) := hmm
      clear hmm
      go_wp2_with fail
      refine (HIM.out _).mono ?_
      rintro e w2 ⟨rfl, hw2⟩
      subst hw2
      go_wp2_with fail
      try rw [Exit.noGoto_ret]
      go_ret2
      exact ⟨none, 0, 0, [], 2, rfl, .inr (.inl ⟨HM.out, HMO.out, rfl, rfl⟩), fresh_nil _ _, HB1.out⟩
  · have hne : (f != 0) = true := by simpa using h0
    have HN : Hid (¬ Mays ls) := fun h => h0 (hf.ok.2 h)
    clear hf h0 HIM
    go_wp2_with fail
    try rw [Exit.noGoto_ret]
    go_ret2
    exact ⟨none, 0, 0, [], f, rfl, .inl ⟨HN.out, HF.out, rfl⟩, fresh_nil _ _, HB1.out⟩

end Go.Proofs.Ytlolippocnngcaa.deb

/- An account at work is rolled on. -/
namespace Go.Proofs.Ytlolippocnngcaa.acc
open Go.Proofs.Ytlolippocnngcaa.tar (Du du0 Came RowD Ld PairT)
open Go.RowKit
set_option maxRecDepth 100000
set_option linter.unusedVariables false
set_option linter.unusedSimpArgs false

def RollR (x : Ac) (m : Int) (b0 : Bi) (y : Ac) (b : Bi) (f : Int) : Prop := ((¬ RMay x m ∧ RErr x m f ∧ y = x) ∨ (RMay x m ∧ y = rolled x m ∧ f = 0)) ∧ b = b0
set_option maxHeartbeats 4000000 in
theorem proll (g : Nat) (x : Ac) (b : Bi) (p : Option Addr) (len cap : Nat) (m : Int) (w : World) (hw : Blk w g (wcs x b p len cap) 78) (hd : deb.Fresh w (g + 1) p len cap x.ds) (ha : AMay x) : Calls Try.prog 36 #[.pointer (some ⟨g, 0, none⟩), .int .i64 m] w fun e w' => DPost w g (RollR x m b) e w' := by
  have hgl := hw.lt
  have hmo := ha.2.2.2.2.1
  have HMA : Hid (deb.Mays x.ds) := ha.1
  obtain ⟨me, rv, nx, mo, bo, fr, ds⟩ := x
  obtain ⟨id, te, de, fe, pr, ch, un⟩ := b
  simp only [] at hmo
  have HI : Hid (Blk w g #[.int .i64 me, .int .i64 rv, .int .i64 nx, .int .i64 mo, .int .i64 bo, .int .i64 fr, .slice p len cap, .int .i64 id, .int .i64 te, .int .i64 de, .int .i64 fe, .int .i64 pr, .int .i64 ch, .int .i64 un] 78) := hw
  have HD : Hid (deb.Fresh w (g + 1) p len cap ds) := hd
  have HIM : Hid (∀ W, Calls Try.prog 27 #[.int .i64 0, .int .i64 2399, .int .i64 m] W fun e w' => e = .returned (.bool (decide (0 ≤ m ∧ m ≤ 2399))) ∧ w' = W) := fun W => awithin 0 2399 m W
  have q3 : w.cell? ⟨g, 3, none⟩ = some (.int .i64 mo) := HI.out.cell 3
  clear hw hd ha
  by_cases h1 : 0 ≤ m ∧ m ≤ 2399
  · rw [decide_eq_true h1] at HIM
    by_cases h2 : m < mo
    · have d2 : decide (m < mo) = true := decide_eq_true h2
      have HV : Hid (RollR ⟨me, rv, nx, mo, bo, fr, ds⟩ m ⟨id, te, de, fe, pr, ch, un⟩ ⟨me, rv, nx, mo, bo, fr, ds⟩ ⟨id, te, de, fe, pr, ch, un⟩ 23) := ⟨.inl ⟨fun hh => by have : mo ≤ m := hh.2; omega, .inr ⟨h1, h2, rfl⟩, rfl⟩, rfl⟩
      clear h1 h2 hmo
      go_enter Try.func36, Try.ntmps36
      go_wp2_with fail
      refine (HIM.out _).mono ?_
      rintro e w2 ⟨rfl, hw2⟩
      subst w2
      go_wp2_with fail
      go_ret
      exact ⟨_, _, p, len, cap, 23, rfl, HV.out, HI.out, HD.out, Chg.refl _ _⟩
    · have d2 : decide (m < mo) = false := decide_eq_false h2
      have HRM : Hid (RMay ⟨me, rv, nx, mo, bo, fr, ds⟩ m) := ⟨h1, by show mo ≤ m; omega⟩
      by_cases h3 : mo < m
      · have d3 : decide (mo < m) = true := decide_eq_true h3
        have hwr : IntKind.i64.wrap (m - mo) = m - mo := by rw [IntKind.wrap_i64]; omega
        have HAG : Hid (Calls Try.prog 52 #[.slice p len cap, .int .i64 (m - mo)] w.drew fun e w' => deb.AgePost w.drew ds (m - mo) e w') := deb.kage _ p len cap ds (m - mo) (fresh_drew HD.out).came (tar.wf_mid (by omega) (by omega))
        have HMR : Hid (0 ≤ m - mo ∧ m - mo ≤ 2400) := ⟨by omega, by omega⟩
        have HNE : Hid (¬ m = mo) := by show ¬ _ = _; omega
        clear h1 h2 h3
        go_enter Try.func36, Try.ntmps36
        go_wp2_with fail
        refine (HIM.out _).mono ?_
        rintro e w2 ⟨rfl, hw2⟩
        subst w2
        go_wp2_with fail
        clear HIM d2 d3 q3
        have q6 : w.drew.cell? ⟨g, 6, none⟩ = some (.slice p len cap) := HI.out.cell 6
        refine wp_region_held_drew (S := fun v => v.cell? ⟨g, 3, none⟩ = some (.int .i64 mo)) (by kernel_rfl) (show w.drew.cell? _ = _ from HI.out.cell 3) (fun hHeld => ?_)
        refine take_at 0 26 (.pointer (some ⟨g, 0, none⟩)) _ rfl rfl (by kernel_rfl) (by kernel_rfl) (by kernel_rfl) (fun _ _ _ h => h) (Or.inl ⟨by rfl, fun v hv => by skip; clear hv; go_simp⟩) hHeld ?_
        simp only [Act.put, List.setIfInBounds_toArray, List.set_cons_zero, List.set_cons_succ]
        refine take_at 1 27 (.pointer (some ⟨g, 0, none⟩)) _ rfl rfl (by kernel_rfl) (by kernel_rfl) (by kernel_rfl) (fun _ _ _ h => h) (Or.inl ⟨by rfl, fun v hv => by skip; clear hv; go_simp⟩) hHeld ?_
        simp only [Act.put, List.setIfInBounds_toArray, List.set_cons_zero, List.set_cons_succ]
        refine take_at 2 28 (.pointer (some ⟨g, 0, none⟩)) _ rfl rfl (by kernel_rfl) (by kernel_rfl) (by kernel_rfl) (fun _ _ _ h => h) (Or.inl ⟨by rfl, fun v hv => by skip; clear hv; go_simp⟩) hHeld ?_
        simp only [Act.put, List.setIfInBounds_toArray, List.set_cons_zero, List.set_cons_succ]
        refine take_at 3 29 (.pointer (some ⟨g, 0, none⟩)) _ rfl rfl (by kernel_rfl) (by kernel_rfl) (by kernel_rfl) (fun _ _ _ h => h) (Or.inl ⟨by rfl, fun v hv => by skip; clear hv; go_simp⟩) hHeld ?_
        simp only [Act.put, List.setIfInBounds_toArray, List.set_cons_zero, List.set_cons_succ]
        refine take_at 4 30 (.pointer (some ⟨g, 6, none⟩)) _ rfl rfl (by kernel_rfl) (by kernel_rfl) (by kernel_rfl) (fun _ _ _ h => h) (Or.inl ⟨by rfl, fun v hv => by skip; clear hv; go_simp⟩) hHeld ?_
        simp only [Act.put, List.setIfInBounds_toArray, List.set_cons_zero, List.set_cons_succ]
        refine take_at 6 32 (.int .i64 m) _ rfl rfl (by kernel_rfl) (by kernel_rfl) (by kernel_rfl) (fun _ _ _ h => h) (Or.inl ⟨by rfl, fun v hv => by skip; clear hv; go_simp⟩) hHeld ?_
        simp only [Act.put, List.setIfInBounds_toArray, List.set_cons_zero, List.set_cons_succ]
        refine take_at 7 33 (.pointer (some ⟨g, 0, none⟩)) _ rfl rfl (by kernel_rfl) (by kernel_rfl) (by kernel_rfl) (fun _ _ _ h => h) (Or.inl ⟨by rfl, fun v hv => by skip; clear hv; go_simp⟩) hHeld ?_
        simp only [Act.put, List.setIfInBounds_toArray, List.set_cons_zero, List.set_cons_succ]
        refine take_at 8 34 (.pointer (some ⟨g, 0, none⟩)) _ rfl rfl (by kernel_rfl) (by kernel_rfl) (by kernel_rfl) (fun _ _ _ h => h) (Or.inl ⟨by rfl, fun v hv => by skip; clear hv; go_simp⟩) hHeld ?_
        simp only [Act.put, List.setIfInBounds_toArray, List.set_cons_zero, List.set_cons_succ]
        refine take_at 9 35 (.pointer (some ⟨g, 0, none⟩)) _ rfl rfl (by kernel_rfl) (by kernel_rfl) (by kernel_rfl) (fun _ _ _ h => h) (Or.inl ⟨by rfl, fun v hv => by skip; clear hv; go_simp⟩) hHeld ?_
        simp only [Act.put, List.setIfInBounds_toArray, List.set_cons_zero, List.set_cons_succ]
        refine take_at 10 36 (.pointer (some ⟨g, 3, none⟩)) _ rfl rfl (by kernel_rfl) (by kernel_rfl) (by kernel_rfl) (fun _ _ _ h => h) (Or.inl ⟨by rfl, fun v hv => by skip; clear hv; go_simp⟩) hHeld ?_
        simp only [Act.put, List.setIfInBounds_toArray, List.set_cons_zero, List.set_cons_succ]
        refine take_at 11 37 (.int .i64 mo) _ rfl rfl (by kernel_rfl) (by kernel_rfl) (by kernel_rfl) (fun _ _ _ h => h) (Or.inl ⟨by rfl, fun v hv => by have g0 := hv; clear hv; go_simp⟩) hHeld ?_
        simp only [Act.put, List.setIfInBounds_toArray, List.set_cons_zero, List.set_cons_succ]
        refine take_at 12 38 (.int .i64 (m - mo)) _ rfl rfl (by kernel_rfl) (by kernel_rfl) (by kernel_rfl) (fun _ _ _ h => h) (Or.inl ⟨by rfl, fun v hv => by skip; clear hv; go_simp⟩) hHeld ?_
        simp only [Act.put, List.setIfInBounds_toArray, List.set_cons_zero, List.set_cons_succ]
        refine wpAnyH_ready (rs := [5]) (by kernel_rfl) (by simp) (AllReadyH.cons rfl (fun K hK => ?_) AllReadyH.nil)
        rw [if_pos (by rfl)]
        refine wp_runOp (v := .slice p len cap) (w' := w.drew) 31 rfl (by clear hK; go_simp) ?_
        refine hK.out _ _ (show w.drew.cell? _ = _ from HI.out.cell 3) (fun hHeld => ?_)
        clear hK K q6
        simp only [Act.put, List.setIfInBounds_toArray, List.set_cons_zero, List.set_cons_succ]
        refine wpAnyH_ready (rs := [13]) (by kernel_rfl) (by simp) (AllReadyH.cons rfl (fun K hK => ?_) AllReadyH.nil)
        rw [if_pos (by rfl)]
        refine wp_callOp 39 rfl (by clear hK; go_simp) HAG.out ?_
        rintro e w1 ⟨q, n, c, z, f, rfl, hz, hf, hb1⟩
        obtain ⟨rfl, hz2⟩ := hz.got HMA.out HMR.out
        have HI1 : Hid (Blk w1 g #[.int .i64 me, .int .i64 rv, .int .i64 nx, .int .i64 mo, .int .i64 bo, .int .i64 fr, .slice p len cap, .int .i64 id, .int .i64 te, .int .i64 de, .int .i64 fe, .int .i64 pr, .int .i64 ch, .int .i64 un] 78) := (Blk.drew HI.out 1).next hb1
        have HC1 : Hid (Chg w w1 g) := (Chg.of (bel_drew (Below.refl _ _) 1)).trans (.of hb1)
        have HF1 : Hid (deb.Fresh w1 (g + 1) q n c z) := hf.low (by show g + 1 ≤ w.heap.size; omega)
        have HZ : Hid (z = deb.ageAll ds (m - mo).toNat) := hz2
        refine ⟨_, rfl, hK.out _ _ (HI1.out.cell 3) (fun hHeld => ?_)⟩
        clear hK K hz hf hb1 hz2 HAG HI HD
        simp only [Act.put, List.setIfInBounds_toArray, List.set_cons_zero, List.set_cons_succ]
        refine take_at 14 25 (.tuple #[.slice q n c, .int .i64 0]) _ rfl rfl (by kernel_rfl) (by kernel_rfl) (by kernel_rfl) (fun _ _ _ h => h) (Or.inl ⟨by rfl, fun v hv => by skip; clear hv; go_simp⟩) hHeld ?_
        simp only [Act.put, List.setIfInBounds_toArray, List.set_cons_zero, List.set_cons_succ]
        refine take_at 15 40 (.slice q n c) _ rfl rfl (by kernel_rfl) (by kernel_rfl) (by kernel_rfl) (fun _ _ _ h => h) (Or.inl ⟨by rfl, fun v hv => by skip; clear hv; go_simp⟩) hHeld ?_
        simp only [Act.put, List.setIfInBounds_toArray, List.set_cons_zero, List.set_cons_succ]
        refine take_at 16 41 (.int .i64 0) _ rfl rfl (by kernel_rfl) (by kernel_rfl) (by kernel_rfl) (fun _ _ _ h => h) (Or.inl ⟨by rfl, fun v hv => by skip; clear hv; go_simp⟩) hHeld ?_
        simp only [Act.put, List.setIfInBounds_toArray, List.set_cons_zero, List.set_cons_succ]
        refine take_at 17 42 (.pointer (some ⟨g, 0, none⟩)) _ rfl rfl (by kernel_rfl) (by kernel_rfl) (by kernel_rfl) (fun _ _ _ h => h) (Or.inl ⟨by rfl, fun v hv => by skip; clear hv; go_simp⟩) hHeld ?_
        simp only [Act.put, List.setIfInBounds_toArray, List.set_cons_zero, List.set_cons_succ]
        refine take_at 18 43 (.pointer (some ⟨g, 0, none⟩)) _ rfl rfl (by kernel_rfl) (by kernel_rfl) (by kernel_rfl) (fun _ _ _ h => h) (Or.inl ⟨by rfl, fun v hv => by skip; clear hv; go_simp⟩) hHeld ?_
        simp only [Act.put, List.setIfInBounds_toArray, List.set_cons_zero, List.set_cons_succ]
        refine take_at 19 44 (.pointer (some ⟨g, 6, none⟩)) _ rfl rfl (by kernel_rfl) (by kernel_rfl) (by kernel_rfl) (fun _ _ _ h => h) (Or.inl ⟨by rfl, fun v hv => by skip; clear hv; go_simp⟩) hHeld ?_
        simp only [Act.put, List.setIfInBounds_toArray, List.set_cons_zero, List.set_cons_succ]
        refine wpAnyH_ready (rs := [20]) (by kernel_rfl) (by simp) (AllReadyH.cons rfl (fun K hK => ?_) AllReadyH.nil)
        rw [if_pos (by rfl)]
        refine wp_letOp1 30 _ _ rfl g 6 rfl (.slice q n c) rfl rfl (by kernel_rfl) rfl #[.int .i64 me, .int .i64 rv, .int .i64 nx, .int .i64 mo, .int .i64 bo, .int .i64 fr, .slice p len cap, .int .i64 id, .int .i64 te, .int .i64 de, .int .i64 fe, .int .i64 pr, .int .i64 ch, .int .i64 un] 78 HI1.out (by simp) rfl ?_
        intro W2 hU
        have HI2 : Hid (Blk W2 g #[.int .i64 me, .int .i64 rv, .int .i64 nx, .int .i64 mo, .int .i64 bo, .int .i64 fr, .slice q n c, .int .i64 id, .int .i64 te, .int .i64 de, .int .i64 fe, .int .i64 pr, .int .i64 ch, .int .i64 un] 78) := hU.blk
        have HC2 : Hid (Chg w W2 g) := HC1.out.trans (.upd hU)
        have HF2 : Hid (deb.Fresh W2 (g + 1) q n c z) := fresh_chg HF1.out (.upd hU)
        clear hU HF1 HC1
        refine hK.out _ _ (HI2.out.cell 3) (fun hHeld => ?_)
        clear hK K HI1
        refine wpAnyH_done (by kernel_rfl) ?_ _
        clear hHeld
        go_wp2_with (first | (refine wp_let1 rfl 3 _ _ rfl g 3 rfl .i64 m rfl (by kernel_rfl) #[.int .i64 me, .int .i64 rv, .int .i64 nx, .int .i64 mo, .int .i64 bo, .int .i64 fr, .slice q n c, .int .i64 id, .int .i64 te, .int .i64 de, .int .i64 fe, .int .i64 pr, .int .i64 ch, .int .i64 un] 78 HI2.out (by simp) ?_) | fail)
        intro W3 hU
        have HI3 : Hid (Blk W3 g #[.int .i64 me, .int .i64 rv, .int .i64 nx, .int .i64 m, .int .i64 bo, .int .i64 fr, .slice q n c, .int .i64 id, .int .i64 te, .int .i64 de, .int .i64 fe, .int .i64 pr, .int .i64 ch, .int .i64 un] 78) := hU.blk
        have HC3 : Hid (Chg w W3 g) := HC2.out.trans (.upd hU)
        have HF3 : Hid (deb.Fresh W3 (g + 1) q n c z) := fresh_chg HF2.out (.upd hU)
        clear hU HF2 HC2 HI2
        go_wp2_with (first | (refine wp_let1 rfl 3 _ _ rfl g 4 rfl .i64 0 rfl (by kernel_rfl) #[.int .i64 me, .int .i64 rv, .int .i64 nx, .int .i64 m, .int .i64 bo, .int .i64 fr, .slice q n c, .int .i64 id, .int .i64 te, .int .i64 de, .int .i64 fe, .int .i64 pr, .int .i64 ch, .int .i64 un] 78 HI3.out (by simp) ?_) | fail)
        intro W4 hU
        have HI4 : Hid (Blk W4 g #[.int .i64 me, .int .i64 rv, .int .i64 nx, .int .i64 m, .int .i64 0, .int .i64 fr, .slice q n c, .int .i64 id, .int .i64 te, .int .i64 de, .int .i64 fe, .int .i64 pr, .int .i64 ch, .int .i64 un] 78) := hU.blk
        have HC4 : Hid (Chg w W4 g) := HC3.out.trans (.upd hU)
        have HF4 : Hid (deb.Fresh W4 (g + 1) q n c z) := fresh_chg HF3.out (.upd hU)
        have HV : Hid (RollR ⟨me, rv, nx, mo, bo, fr, ds⟩ m ⟨id, te, de, fe, pr, ch, un⟩ ⟨me, rv, nx, m, 0, fr, z⟩ ⟨id, te, de, fe, pr, ch, un⟩ 0) := ⟨.inr ⟨HRM.out, by unfold rolled; rw [if_neg HNE.out, HZ.out], rfl⟩, rfl⟩
        clear hU HF3 HC3 HI3
        go_wp2_with fail
        go_ret
        exact ⟨⟨me, rv, nx, m, 0, fr, z⟩, _, q, n, c, 0, rfl, HV.out, HI4.out, HF4.out, HC4.out⟩
      · have d3 : decide (mo < m) = false := decide_eq_false h3
        have HV : Hid (RollR ⟨me, rv, nx, mo, bo, fr, ds⟩ m ⟨id, te, de, fe, pr, ch, un⟩ ⟨me, rv, nx, mo, bo, fr, ds⟩ ⟨id, te, de, fe, pr, ch, un⟩ 0) := ⟨.inr ⟨HRM.out, by unfold rolled; rw [if_pos (by show m = mo; omega)], rfl⟩, rfl⟩
        clear h1 h2 h3 hmo
        go_enter Try.func36, Try.ntmps36
        go_wp2_with fail
        refine (HIM.out _).mono ?_
        rintro e w2 ⟨rfl, hw2⟩
        subst w2
        go_wp2_with fail
        go_ret
        exact ⟨_, _, p, len, cap, 0, rfl, HV.out, HI.out, HD.out, Chg.refl _ _⟩
  · rw [decide_eq_false h1] at HIM
    have HV : Hid (RollR ⟨me, rv, nx, mo, bo, fr, ds⟩ m ⟨id, te, de, fe, pr, ch, un⟩ ⟨me, rv, nx, mo, bo, fr, ds⟩ ⟨id, te, de, fe, pr, ch, un⟩ 2) := ⟨.inl ⟨fun hh => h1 hh.1, .inl ⟨h1, rfl⟩, rfl⟩, rfl⟩
    clear h1 hmo q3
    go_enter Try.func36, Try.ntmps36
    go_wp2_with fail
    refine (HIM.out _).mono ?_
    rintro e w2 ⟨rfl, hw2⟩
    subst w2
    go_wp2_with fail
    go_ret
    exact ⟨_, _, p, len, cap, 2, rfl, HV.out, HI.out, HD.out, Chg.refl _ _⟩

end Go.Proofs.Ytlolippocnngcaa.acc

/- An account at work begins, by terms. -/
namespace Go.Proofs.Ytlolippocnngcaa.acc
open Go.Proofs.Ytlolippocnngcaa.tar (Du du0 Came RowD Ld PairT)
open Go.RowKit
set_option maxRecDepth 100000
set_option linter.unusedVariables false
set_option linter.unusedSimpArgs false

def BeginR (x : Ac) (t : Tm) (m : Int) (b0 : Bi) (y : Ac) (b : Bi) (f : Int) : Prop := ((¬ TRight t ∧ TFault t f ∧ y = x) ∨ (TRight t ∧ ¬ RMay x m ∧ RErr x m f ∧ y = x) ∨ (TRight t ∧ RMay x m ∧ y = rolled x m ∧ f = 0)) ∧ b = b0
set_option maxHeartbeats 2000000 in
theorem pbegin (g : Nat) (x : Ac) (p : Option Addr) (len cap : Nat) (t : Tm) (pt : Option Addr) (lt ct : Nat) (b : Bi) (m : Int) (w : World) (hw : Blk w g (wcs x b p len cap) 78) (hd : deb.Fresh w (g + 1) p len cap x.ds) (ha : AMay x) (ht : Came w pt lt ct t.ts) (hwf : wf4 t) (hfar : Far pt lt g) : Calls Try.prog 55 #[.pointer (some ⟨g, 0, none⟩), .agg #[.slice pt lt ct, .int .i64 t.ff, .int .i64 t.fb, .int .i64 t.db, .int .i64 t.al], .int .i64 m] w fun e w' => DPost w g (BeginR x t m b) e w' := by
  have hgl := hw.lt
  have HCK : Hid (∀ W, Below w.heap.size w W → Calls Try.prog 10 #[.agg #[.slice pt lt ct, .int .i64 t.ff, .int .i64 t.fb, .int .i64 t.db, .int .i64 t.al]] W fun e w' => tar.ErrPost W (TFault t) e w') := fun W hW => kcheck W t pt lt ct ⟨ht.below hW, hwf⟩
  have HRL : Hid (∀ W, Blk W g (wcs x b p len cap) 78 → deb.Fresh W (g + 1) p len cap x.ds → Calls Try.prog 36 #[.pointer (some ⟨g, 0, none⟩), .int .i64 m] W fun e w' => DPost W g (RollR x m b) e w') := fun W h1 h2 => proll g x b p len cap m W h1 h2 ha
  have H0B : Hid (Below w.heap.size w (w.alloc (.cells #[.slice pt lt ct, .int .i64 t.ff, .int .i64 t.fb, .int .i64 t.db, .int .i64 t.al] 24))) := (Below.refl w.heap.size w).alloc (by simp) _
  have H0t : Hid (Blk (w.alloc (.cells #[.slice pt lt ct, .int .i64 t.ff, .int .i64 t.fb, .int .i64 t.db, .int .i64 t.al] 24)) w.heap.size #[.slice pt lt ct, .int .i64 t.ff, .int .i64 t.fb, .int .i64 t.db, .int .i64 t.al] 24) := Blk.new w _ _
  have H0g : Hid (Blk (w.alloc (.cells #[.slice pt lt ct, .int .i64 t.ff, .int .i64 t.fb, .int .i64 t.db, .int .i64 t.al] 24)) g (wcs x b p len cap) 78) := hw.alloc _
  have H0D : Hid (deb.Fresh (w.alloc (.cells #[.slice pt lt ct, .int .i64 t.ff, .int .i64 t.fb, .int .i64 t.db, .int .i64 t.al] 24)) (g + 1) p len cap x.ds) := hd.below H0B.out
  clear hw hd ha ht hwf hfar
  generalize hWW : (w.alloc (.cells #[.slice pt lt ct, .int .i64 t.ff, .int .i64 t.fb, .int .i64 t.db, .int .i64 t.al] 24)) = W0 at *
  have HWW : Hid ((w.alloc (.cells #[.slice pt lt ct, .int .i64 t.ff, .int .i64 t.fb, .int .i64 t.db, .int .i64 t.al] 24)) = W0) := hWW
  clear hWW
  go_enter Try.func55, Try.ntmps55
  go_upto_region 1 with fail
  rw [HWW.out]
  clear HWW
  go_wp2_with (first
    | (refine wp_whole rfl 24 _ rfl (w.heap.size) rfl 24 #[.slice pt lt ct, .int .i64 t.ff, .int .i64 t.fb, .int .i64 t.db, .int .i64 t.al] _ H0t.out Try.underlying24 rfl (by kernel_rfl) ?_)
    | fail)
  refine (HCK.out _ H0B.out).mono ?_
  rintro e w1 ⟨f, rfl, hf, hb1⟩
  have H1g : Hid (Blk w1 g (wcs x b p len cap) 78) := H0g.out.next hb1
  have H1D : Hid (deb.Fresh w1 (g + 1) p len cap x.ds) := H0D.out.below hb1
  have H1C : Hid (Chg w w1 g) := .of (bel_step H0B.out hb1)
  have HF : Hid (TFault t f) := hf
  clear hf hb1 H0B H0t H0g H0D HCK
  by_cases h0 : f = 0
  · subst h0
    have HT : Hid (TRight t) := HF.out.ok.1 rfl
    go_wp2_with fail
    refine (HRL.out _ H1g.out H1D.out).mono ?_
    rintro e w2 ⟨y, b2, q, n, c, f, rfl, ⟨hr, hb⟩, hi, hfr, hc⟩
    have HX : Hid (DPost w g (BeginR x t m b) (.returned (.int .i64 f)) w2) := by
      refine ⟨y, b2, q, n, c, f, rfl, ⟨?_, hb⟩, hi, hfr, H1C.out.trans hc⟩
      rcases hr with ⟨h1, h2, h3⟩ | ⟨h1, h2, h3⟩
      · exact .inr (.inl ⟨HT.out, h1, h2, h3⟩)
      · exact .inr (.inr ⟨HT.out, h1, h2, h3⟩)
    clear hr hb hi hfr hc HRL
    go_wp2_with fail
    go_ret
    exact HX.out
  · have d0 : (f != 0) = true := by simpa using h0
    have HX : Hid (DPost w g (BeginR x t m b) (.returned (.int .i64 f)) w1) := ⟨x, b, p, len, cap, f, rfl, ⟨.inl ⟨fun h => h0 (HF.out.ok.2 h), HF.out, rfl⟩, rfl⟩, H1g.out, H1D.out, H1C.out⟩
    clear h0 HRL HF
    go_wp2_with fail
    go_ret
    exact HX.out

end Go.Proofs.Ytlolippocnngcaa.acc

/- The next number, for an account at work. -/
namespace Go.Proofs.Ytlolippocnngcaa.acc
open Go.Proofs.Ytlolippocnngcaa.tar (Du du0 Came RowD Ld PairT)
open Go.RowKit
set_option maxRecDepth 100000
set_option linter.unusedVariables false
set_option linter.unusedSimpArgs false

def NumPost (w : World) (g : Nat) (x : Ac) (b : Bi) (p : Option Addr) (len cap : Nat) (e : Ending) (w' : World) : Prop :=
  Chg w w' g ∧ ((¬ x.nx ≤ 1048575 ∧ e = .returned (.int .i64 20) ∧ Blk w' g (wcs x b p len cap) 78) ∨ (x.nx ≤ 1048575 ∧ e = .returned (.int .i64 0) ∧ Blk w' g (wcs { x with nx := x.nx + 1 } { b with id := x.nx } p len cap) 78))
set_option maxHeartbeats 2000000 in
theorem pnum (g : Nat) (x : Ac) (b : Bi) (p : Option Addr) (len cap : Nat) (w : World) (hw : Blk w g (wcs x b p len cap) 78) (hn : 1 ≤ x.nx ∧ x.nx ≤ 1048576) : Calls Try.prog 59 #[.pointer (some ⟨g, 0, none⟩)] w fun e w' => NumPost w g x b p len cap e w' := by
  obtain ⟨me, rv, nx, mo, bo, fr, ds⟩ := x
  obtain ⟨id, te, de, fe, pr, ch, un⟩ := b
  simp only [] at hn
  have HI : Hid (Blk w g #[.int .i64 me, .int .i64 rv, .int .i64 nx, .int .i64 mo, .int .i64 bo, .int .i64 fr, .slice p len cap, .int .i64 id, .int .i64 te, .int .i64 de, .int .i64 fe, .int .i64 pr, .int .i64 ch, .int .i64 un] 78) := hw
  have q2 : w.cell? ⟨g, 2, none⟩ = some (.int .i64 nx) := HI.out.cell 2
  clear hw
  by_cases h1 : nx ≤ 1048575
  · have d1 : decide (1048575 < nx) = false := decide_eq_false (by omega)
    have hwr : IntKind.i64.wrap (nx + 1) = nx + 1 := by rw [IntKind.wrap_i64]; omega
    have H1 : Hid (nx ≤ 1048575) := h1
    go_enter Try.func59, Try.ntmps59
    go_wp2_with (first | (refine wp_let1 rfl 3 _ _ rfl g 7 rfl .i64 nx rfl (by kernel_rfl) #[.int .i64 me, .int .i64 rv, .int .i64 nx, .int .i64 mo, .int .i64 bo, .int .i64 fr, .slice p len cap, .int .i64 id, .int .i64 te, .int .i64 de, .int .i64 fe, .int .i64 pr, .int .i64 ch, .int .i64 un] 78 HI.out (by simp) ?_) | fail)
    intro W1 hU1
    have HI1 : Hid (Blk W1 g #[.int .i64 me, .int .i64 rv, .int .i64 nx, .int .i64 mo, .int .i64 bo, .int .i64 fr, .slice p len cap, .int .i64 nx, .int .i64 te, .int .i64 de, .int .i64 fe, .int .i64 pr, .int .i64 ch, .int .i64 un] 78) := hU1.blk
    have HC1 : Hid (Chg w W1 g) := .upd hU1
    have q2' : W1.cell? ⟨g, 2, none⟩ = some (.int .i64 nx) := HI1.out.cell 2
    clear hU1 q2 HI d1
    go_wp2_with (first | (refine wp_let1 rfl 3 _ _ rfl g 2 rfl .i64 (nx + 1) rfl (by kernel_rfl) #[.int .i64 me, .int .i64 rv, .int .i64 nx, .int .i64 mo, .int .i64 bo, .int .i64 fr, .slice p len cap, .int .i64 nx, .int .i64 te, .int .i64 de, .int .i64 fe, .int .i64 pr, .int .i64 ch, .int .i64 un] 78 HI1.out (by simp) ?_) | fail)
    intro W2 hU2
    have HI2 : Hid (Blk W2 g #[.int .i64 me, .int .i64 rv, .int .i64 (nx + 1), .int .i64 mo, .int .i64 bo, .int .i64 fr, .slice p len cap, .int .i64 nx, .int .i64 te, .int .i64 de, .int .i64 fe, .int .i64 pr, .int .i64 ch, .int .i64 un] 78) := hU2.blk
    have HC2 : Hid (Chg w W2 g) := HC1.out.trans (.upd hU2)
    clear hU2 q2' HI1 HC1
    go_wp2_with fail
    go_ret
    exact ⟨HC2.out, .inr ⟨H1.out, rfl, HI2.out⟩⟩
  · have d1 : decide (1048575 < nx) = true := decide_eq_true (by omega)
    have H1 : Hid (¬ nx ≤ 1048575) := h1
    clear h1 hn
    go_enter Try.func59, Try.ntmps59
    go_wp2_with fail
    go_ret
    exact ⟨Chg.refl _ _, .inl ⟨Int.not_le.2 H1.out, rfl, HI.out⟩⟩

end Go.Proofs.Ytlolippocnngcaa.acc

/- An allowance is granted to an account at work. -/
namespace Go.Proofs.Ytlolippocnngcaa.acc
open Go.Proofs.Ytlolippocnngcaa.tar (Du du0 Came RowD Ld PairT)
open Go.RowKit
set_option maxRecDepth 100000
set_option linter.unusedVariables false
set_option linter.unusedSimpArgs false

set_option maxHeartbeats 4000000 in
theorem pgrant (g : Nat) (x : Ac) (p : Option Addr) (len cap : Nat) (t : Tm) (pt : Option Addr) (lt ct : Nat) (m : Int) (w : World) (hw : Blk w g (wcs x bi0 p len cap) 78) (hd : deb.Fresh w (g + 1) p len cap x.ds) (ha : AMay x) (ht : Came w pt lt ct t.ts) (hwf : wf4 t) (hfar : Far pt lt g) : Calls Try.prog 46 #[.pointer (some ⟨g, 0, none⟩), .agg #[.slice pt lt ct, .int .i64 t.ff, .int .i64 t.fb, .int .i64 t.db, .int .i64 t.al], .int .i64 m] w fun e w' => DPost w g (Or0 (GrantIs x t m)) e w' := by
  have hgl := hw.lt
  have H0B : Hid (Below w.heap.size w (w.alloc (.cells #[.slice pt lt ct, .int .i64 t.ff, .int .i64 t.fb, .int .i64 t.db, .int .i64 t.al] 24))) := (Below.refl w.heap.size w).alloc (by simp) _
  have H0C : Hid (Chg w (w.alloc (.cells #[.slice pt lt ct, .int .i64 t.ff, .int .i64 t.fb, .int .i64 t.db, .int .i64 t.al] 24)) g) := .of H0B.out
  have H0t : Hid (Blk (w.alloc (.cells #[.slice pt lt ct, .int .i64 t.ff, .int .i64 t.fb, .int .i64 t.db, .int .i64 t.al] 24)) (w.heap.size) #[.slice pt lt ct, .int .i64 t.ff, .int .i64 t.fb, .int .i64 t.db, .int .i64 t.al] 24) := Blk.new w _ _
  have H0g : Hid (Blk (w.alloc (.cells #[.slice pt lt ct, .int .i64 t.ff, .int .i64 t.fb, .int .i64 t.db, .int .i64 t.al] 24)) g (wcs x bi0 p len cap) 78) := hw.alloc _
  have H0D : Hid (deb.Fresh (w.alloc (.cells #[.slice pt lt ct, .int .i64 t.ff, .int .i64 t.fb, .int .i64 t.db, .int .i64 t.al] 24)) (g + 1) p len cap x.ds) := hd.below H0B.out
  have H0T : Hid (Came (w.alloc (.cells #[.slice pt lt ct, .int .i64 t.ff, .int .i64 t.fb, .int .i64 t.db, .int .i64 t.al] 24)) pt lt ct t.ts) := ht.below H0B.out
  have HFAR : Hid (Far pt lt g) := hfar
  have HBG : Hid (∀ W, Blk W g (wcs x bi0 p len cap) 78 → deb.Fresh W (g + 1) p len cap x.ds → Came W pt lt ct t.ts → Calls Try.prog 55 #[.pointer (some ⟨g, 0, none⟩), .agg #[.slice pt lt ct, .int .i64 t.ff, .int .i64 t.fb, .int .i64 t.db, .int .i64 t.al], .int .i64 m] W fun e w' => DPost W g (BeginR x t m bi0) e w') := fun W h1 h2 h3 => pbegin g x p len cap t pt lt ct bi0 m W h1 h2 ha h3 hwf hfar
  have HM : Hid (AMay x) := ha
  have hnx := ha.2.2.2.1
  clear hw hd ht hwf hfar ha H0B
  generalize hWW : (w.alloc (.cells #[.slice pt lt ct, .int .i64 t.ff, .int .i64 t.fb, .int .i64 t.db, .int .i64 t.al] 24)) = W0 at *
  have HWW : Hid ((w.alloc (.cells #[.slice pt lt ct, .int .i64 t.ff, .int .i64 t.fb, .int .i64 t.db, .int .i64 t.al] 24)) = W0) := hWW
  clear hWW
  go_enter Try.func46, Try.ntmps46
  go_upto_region 1 with fail
  rw [HWW.out]
  clear HWW
  go_wp2_with (first | (refine wp_whole rfl 24 _ rfl (w.heap.size) rfl 24 #[.slice pt lt ct, .int .i64 t.ff, .int .i64 t.fb, .int .i64 t.db, .int .i64 t.al] _ H0t.out Try.underlying24 rfl (by kernel_rfl) ?_) | fail)
  refine (HBG.out _ H0g.out H0D.out H0T.out).mono ?_
  rintro e w1 ⟨y, b2, q, n, c, f, rfl, ⟨hr, hb2⟩, hi1, hf1, hc1⟩
  subst hb2
  have H1D : Hid (deb.Fresh w1 (g + 1) q n c y.ds) := hf1
  have H1g : Hid (Blk w1 g #[.int .i64 y.me, .int .i64 y.rv, .int .i64 y.nx, .int .i64 y.mo, .int .i64 y.bo, .int .i64 y.fr, .slice q n c, .int .i64 0, .int .i64 0, .int .i64 0, .int .i64 0, .int .i64 0, .int .i64 0, .int .i64 0] 78) := hi1
  have H1t : Hid (Blk w1 (w.heap.size) #[.slice pt lt ct, .int .i64 t.ff, .int .i64 t.fb, .int .i64 t.db, .int .i64 t.al] 24) := Chg.keep (g := g) (hc1) H0t.out (by omega)
  have H1T : Hid (Came w1 pt lt ct t.ts) := came_chg H0T.out (hc1) HFAR.out
  have H1C : Hid (Chg w w1 g) := H0C.out.trans (hc1)
  clear H0C H0g H0t H0T hf1 hc1 hi1 H0D HBG
  by_cases h0 : f = 0
  · skip
    subst h0
    have hrr : TRight t ∧ RMay x m ∧ y = rolled x m := by
      rcases hr with ⟨h1, h2, _⟩ | ⟨_, _, h3, _⟩ | ⟨h1, h2, h3, _⟩
      · exact absurd (h2.ok.1 rfl) h1
      · exact absurd rfl h3.ne
      · exact ⟨h1, h2, h3⟩
    have HRY : Hid (Ready x t m) := ⟨HM.out, hrr.1, hrr.2.1⟩
    have HT : Hid (TRight t) := hrr.1
    have HBR : Hid (y = rolled x m) := hrr.2.2
    have hbs := rolled_same x m
    rw [← hrr.2.2] at hbs
    have hbo := (rolled_may HM.out hrr.2.1).2.2.2.2.2.1
    rw [← hrr.2.2] at hbo
    have hdm : deb.Mays y.ds := by rw [hrr.2.2]; exact (rolled_may HM.out hrr.2.1).1
    have HYN : Hid (y.nx = x.nx) := hbs.2.2.1
    have hyx : 1 ≤ y.nx ∧ y.nx ≤ 1048576 := by rw [hbs.2.2.1]; exact hnx
    have HBS : Hid (y.me = x.me ∧ y.rv = x.rv ∧ y.nx = x.nx ∧ y.mo = m ∧ y.fr = x.fr) := hbs
    clear hrr hr hbs
    by_cases h5 : t.al = 0
    · have d5 : (t.al == 0) = true := by simpa using h5
      have HV : Hid (Or0 (GrantIs x t m) y bi0 22) := .inl ⟨by decide, .inr (.inl ⟨HRY.out, h5, rfl, rfl, rfl⟩)⟩
      clear h5
      have qt4 : w1.cell? ⟨w.heap.size, 4, none⟩ = some (.int .i64 t.al) := H1t.out.cell 4
      go_wp2_with fail
      go_ret
      exact ⟨y, bi0, q, n, c, 22, rfl, HV.out, H1g.out, H1D.out, H1C.out⟩
    · have d5 : (t.al == 0) = false := by simpa using h5
      by_cases h6 : x.fr = m
      · have d6 : (y.fr == m) = true := by simp; rw [HBS.out.2.2.2.2]; exact h6
        have HV : Hid (Or0 (GrantIs x t m) y bi0 21) := .inl ⟨by decide, .inr (.inr (.inl ⟨HRY.out, h5, h6, rfl, rfl, rfl⟩))⟩
        clear h5 h6
        have qt4 : w1.cell? ⟨w.heap.size, 4, none⟩ = some (.int .i64 t.al) := H1t.out.cell 4
        have qg5 : w1.cell? ⟨g, 5, none⟩ = some (.int .i64 y.fr) := H1g.out.cell 5
        go_wp2_with fail
        go_ret
        exact ⟨y, bi0, q, n, c, 21, rfl, HV.out, H1g.out, H1D.out, H1C.out⟩
      · have d6 : (y.fr == m) = false := by simp; rw [HBS.out.2.2.2.2]; exact h6
        have qt4 : w1.cell? ⟨w.heap.size, 4, none⟩ = some (.int .i64 t.al) := H1t.out.cell 4
        have qg5 : w1.cell? ⟨g, 5, none⟩ = some (.int .i64 y.fr) := H1g.out.cell 5
        go_wp2_with (first | (refine wp_let1 rfl 3 _ _ rfl g 5 rfl .i64 m rfl (by kernel_rfl) #[.int .i64 y.me, .int .i64 y.rv, .int .i64 y.nx, .int .i64 y.mo, .int .i64 y.bo, .int .i64 y.fr, .slice q n c, .int .i64 0, .int .i64 0, .int .i64 0, .int .i64 0, .int .i64 0, .int .i64 0, .int .i64 0] 78 H1g.out (by simp) ?_) | fail)
        intro W2 hU
        have H2g : Hid (Blk W2 g #[.int .i64 y.me, .int .i64 y.rv, .int .i64 y.nx, .int .i64 y.mo, .int .i64 y.bo, .int .i64 m, .slice q n c, .int .i64 0, .int .i64 0, .int .i64 0, .int .i64 0, .int .i64 0, .int .i64 0, .int .i64 0] 78) := hU.blk
        have H2t : Hid (Blk W2 (w.heap.size) #[.slice pt lt ct, .int .i64 t.ff, .int .i64 t.fb, .int .i64 t.db, .int .i64 t.al] 24) := Chg.keep (g := g) (.upd hU) H1t.out (by omega)
        have H2T : Hid (Came W2 pt lt ct t.ts) := came_chg H1T.out (.upd hU) HFAR.out
        have H2D : Hid (deb.Fresh W2 (g + 1) q n c y.ds) := fresh_chg H1D.out (.upd hU)
        have H2C : Hid (Chg w W2 g) := H1C.out.trans (.upd hU)
        clear H1C H1g H1t H1T H1D hU qt4 qg5 d5 d6
        have qt4 : W2.cell? ⟨w.heap.size, 4, none⟩ = some (.int .i64 t.al) := H2t.out.cell 4
        go_wp2_with (first | (refine wp_let1 rfl 3 _ _ rfl g 13 rfl .i64 t.al rfl (by kernel_rfl) #[.int .i64 y.me, .int .i64 y.rv, .int .i64 y.nx, .int .i64 y.mo, .int .i64 y.bo, .int .i64 m, .slice q n c, .int .i64 0, .int .i64 0, .int .i64 0, .int .i64 0, .int .i64 0, .int .i64 0, .int .i64 0] 78 H2g.out (by simp) ?_) | fail)
        intro W3 hU
        have H3g : Hid (Blk W3 g #[.int .i64 y.me, .int .i64 y.rv, .int .i64 y.nx, .int .i64 y.mo, .int .i64 y.bo, .int .i64 m, .slice q n c, .int .i64 0, .int .i64 0, .int .i64 0, .int .i64 0, .int .i64 0, .int .i64 0, .int .i64 t.al] 78) := hU.blk
        have H3t : Hid (Blk W3 (w.heap.size) #[.slice pt lt ct, .int .i64 t.ff, .int .i64 t.fb, .int .i64 t.db, .int .i64 t.al] 24) := Chg.keep (g := g) (.upd hU) H2t.out (by omega)
        have H3T : Hid (Came W3 pt lt ct t.ts) := came_chg H2T.out (.upd hU) HFAR.out
        have H3D : Hid (deb.Fresh W3 (g + 1) q n c y.ds) := fresh_chg H2D.out (.upd hU)
        have H3C : Hid (Chg w W3 g) := H2C.out.trans (.upd hU)
        clear H2C H2g H2t H2T H2D hU qt4
        have HGV : Hid (⟨y.me, y.rv, y.nx + 1, y.mo, y.bo, m, y.ds⟩ = granted x m) := by
          show _ = _
          unfold granted
          rw [← HBR.out, HBS.out.1, HBS.out.2.1, HBS.out.2.2.1, HBS.out.2.2.2.1]
        have HNU : Hid (Calls Try.prog 59 #[.pointer (some ⟨g, 0, none⟩)] W3 fun e w' => NumPost W3 g ⟨y.me, y.rv, y.nx, y.mo, y.bo, m, y.ds⟩ ⟨0, 0, 0, 0, 0, 0, t.al⟩ q n c e w') := pnum g ⟨y.me, y.rv, y.nx, y.mo, y.bo, m, y.ds⟩ ⟨0, 0, 0, 0, 0, 0, t.al⟩ q n c W3 H3g.out hyx
        go_wp2_with fail
        refine HNU.out.mono ?_
        rintro e wN ⟨hcN, ⟨hx, rfl, hiN⟩ | ⟨hx, rfl, hiN⟩⟩
        · have HV : Hid (Or0 (GrantIs x t m) ⟨y.me, y.rv, y.nx, y.mo, y.bo, m, y.ds⟩ ⟨0, 0, 0, 0, 0, 0, t.al⟩ 20) := .inl ⟨by decide, .inr (.inr (.inr (.inl ⟨HRY.out, h5, h6, by rw [← HYN.out]; exact hx, rfl, rfl, rfl⟩)))⟩
          have HDN := fresh_chg H3D.out hcN
          have HCN := H3C.out.trans hcN
          clear HNU hx
          go_wp2_with fail
          go_ret
          exact ⟨⟨y.me, y.rv, y.nx, y.mo, y.bo, m, y.ds⟩, ⟨0, 0, 0, 0, 0, 0, t.al⟩, q, n, c, 20, rfl, HV.out, hiN, HDN, HCN⟩
        · have HV : Hid (Or0 (GrantIs x t m) ⟨y.me, y.rv, y.nx + 1, y.mo, y.bo, m, y.ds⟩ ⟨y.nx, 0, 0, 0, 0, 0, t.al⟩ 0) := .inr ⟨rfl, .inr (.inr (.inr (.inr ⟨HRY.out, h5, h6, by rw [← HYN.out]; exact hx, rfl, HGV.out, by rw [HYN.out]⟩)))⟩
          have HDN := fresh_chg H3D.out hcN
          have HCN := H3C.out.trans hcN
          clear HNU hx
          go_wp2_with fail
          go_ret
          exact ⟨⟨y.me, y.rv, y.nx + 1, y.mo, y.bo, m, y.ds⟩, ⟨y.nx, 0, 0, 0, 0, 0, t.al⟩, q, n, c, 0, rfl, HV.out, hiN, HDN, HCN⟩
  · skip
    have d0 : (f != 0) = true := by simpa using h0
    have HV : Hid (Or0 (GrantIs x t m) y bi0 f) := by
      refine .inl ⟨h0, .inl ⟨?_, rfl, rfl⟩⟩
      rcases hr with ⟨h1, h2, _⟩ | ⟨h1, h2, h3, _⟩ | ⟨_, _, _, h1⟩
      · exact .inr (.inl ⟨HM.out, h1, h2⟩)
      · exact .inr (.inr ⟨HM.out, h1, h2, h3⟩)
      · exact absurd h1 h0
    clear hr h0
    go_wp2_with fail
    go_ret
    exact ⟨y, bi0, q, n, c, f, rfl, HV.out, H1g.out, H1D.out, H1C.out⟩

end Go.Proofs.Ytlolippocnngcaa.acc

/- What is owed in all, in the program. -/
namespace Go.Proofs.Ytlolippocnngcaa.deb
open Go.Proofs.Ytlolippocnngcaa.tar (Du du0 Came RowD Ld ErrPost TwoPost PairT GaveD)
open Go.RowKit
set_option maxRecDepth 100000
set_option linter.unusedVariables false
set_option linter.unusedSimpArgs false

set_option maxHeartbeats 2000000 in
theorem powed (a : Option Addr) (len cap : Nat) (ls : List Du) (w : World) (hr : RowD w a len ls) (hm : Mays ls) : Calls Try.prog 64 #[.slice a len cap] w fun e w' => e = .returned (.int .i64 (sumD ls)) ∧ Below w.heap.size w w' := by
  have HLEN : Hid (ls.length = len) := hr.1
  have HM : Hid (Mays ls) := hm
  have hl8 : len ≤ 8 := by have := hm.1; have := hr.1; omega
  have HROW : Hid (RowD w a len ls) := hr
  clear hm hr
  go_enter Try.func64, Try.ntmps64
  go_wp2_with fail
  go_loopw [3, 8] (fun v x wr => ∃ k : Nat, k ≤ len ∧ x = .int .i64 (k : Int) ∧ v = .int .i64 (sumK ls k) ∧ Below w.heap.size w wr) (fun _ x _ => len - (intOf x).toNat)
  case atStart => exact ⟨0, Nat.zero_le _, rfl, rfl, Below.refl _ _⟩
  case round =>
    obtain ⟨k, hk, rfl, rfl, hb⟩ := hrel
    have hsb := sumK_bd HM.out k (by rw [HLEN.out]; exact hk)
    have HB : Hid (Below w.heap.size w wr) := hb
    by_cases hlt : k < len
    · have hdl : decide ((k : Int) < (len : Int)) = true := by simp; omega
      obtain ⟨b, off, rfl, hbl, hc⟩ := HROW.out.at (by omega)
      have c0 : wr.cell? ⟨b, off + k * 2, none⟩ = some (.int .i64 (ls.getD k du0).a) := (hb.cell (p := ⟨b, off + k * 2, none⟩) hbl).trans (hc k hlt).1
      have c1 : wr.cell? ⟨b, off + k * 2 + 1, none⟩ = some (.int .i64 (ls.getD k du0).b) := (hb.cell (p := ⟨b, off + k * 2 + 1, none⟩) hbl).trans (hc k hlt).2
      have HBA : Hid (∀ o, Below w.heap.size w (wr.alloc o)) := fun o => hb.alloc hb.size o
      have ho := (HM.out.2 k (by rw [HLEN.out]; exact hlt)).1
      have HN : Hid (sumK ls k + (ls.getD k du0).a = sumK ls (k + 1)) := (sumK_next ls k).symm
      clear hc hb
      generalize sumK ls k = s at *
      generalize (ls.getD k du0).a = x at *
      generalize (ls.getD k du0).b = y at *
      go_wp2_with fail
      go_roundw
      case rel => exact ⟨k + 1, by omega, by go_num, by rw [← HN.out], HBA.out _⟩
      case measure => simp [intOf]; omega
    · obtain rfl : k = len := by omega
      have hdl : decide ((k : Int) < (k : Int)) = false := by simp
      have HV : Hid (sumK ls k = sumD ls) := by have := sumK_all ls; rw [HLEN.out] at this; exact this
      generalize sumK ls k = s at *
      clear hb
      go_wp2_with fail
      go_ret
      exact ⟨congrArg (fun z => Ending.returned (Value.int .i64 z)) HV.out, HB.out⟩

end Go.Proofs.Ytlolippocnngcaa.deb

/- debt.Total: what is asked of it. -/
namespace Go.Proofs.Ytlolippocnngcaa.deb
open Go.Proofs.Ytlolippocnngcaa.tar (Du du0 Came TwoPost)
open Go.RowKit

def KdTotal : Prop := ∀ (W : World) (a : Option Addr) (len cap : Nat) (ls : List Du), Came W a len cap ls → Calls Try.prog 51 #[.slice a len cap] W fun e w' => TwoPost W (OwedIs ls) e w'

end Go.Proofs.Ytlolippocnngcaa.deb

/- debt.Total. -/
namespace Go.Proofs.Ytlolippocnngcaa.deb
open Go.Proofs.Ytlolippocnngcaa.tar (Du du0 Came RowD Ld ErrPost TwoPost PairT GaveD)
open Go.RowKit
set_option maxRecDepth 100000
set_option linter.unusedVariables false
set_option linter.unusedSimpArgs false

set_option maxHeartbeats 2000000 in
theorem ktotal : KdTotal := by
  intro w a len cap ls hcame
  have hr := hcame.row
  have HFA : Hid (Calls Try.prog 63 #[.slice a len cap] w fun e w' => ∃ f, e = .returned (.int .i64 f) ∧ FaultIs ls f ∧ Below w.heap.size w w') := pcheck a len cap ls w hr hcame.most
  have HOW : Hid (Mays ls → ∀ W, Below w.heap.size w W → Calls Try.prog 64 #[.slice a len cap] W fun e w' => e = .returned (.int .i64 (sumD ls)) ∧ Below W.heap.size W w') := fun hm W hW => powed a len cap ls W (hr.below hW) hm
  clear hcame hr
  go_enter Try.func51, Try.ntmps51
  go_wp2_with fail
  refine HFA.out.mono ?_
  rintro e w1 ⟨f, rfl, hf, hb1⟩
  have HB1 : Hid (Below w.heap.size w w1) := hb1
  have HF : Hid (FaultIs ls f) := hf
  clear hb1 HFA
  by_cases h0 : f = 0
  · subst h0
    have hm := hf.ok.1 rfl
    have HO2 : Hid (Calls Try.prog 64 #[.slice a len cap] w1 fun e w' => e = .returned (.int .i64 (sumD ls)) ∧ Below w1.heap.size w1 w') := HOW.out hm w1 HB1.out
    clear hf hm HOW
    go_wp2_with fail
    refine HO2.out.mono ?_
    rintro e w2 ⟨rfl, hb2⟩
    have HB2 : Hid (Below w.heap.size w w2) := HB1.out.trans (hb2.mono HB1.out.size)
    clear hb2 HO2
    go_wp2_with fail
    go_ret2
    exact ⟨_, _, rfl, ⟨HF.out, .inl ⟨rfl, rfl⟩⟩, HB2.out⟩
  · have hne : (f != 0) = true := by simpa using h0
    have HN : Hid (f ≠ 0) := h0
    clear hf h0 HOW
    go_wp2_with fail
    go_ret2
    exact ⟨_, _, rfl, ⟨HF.out, .inr ⟨HN.out, rfl⟩⟩, HB1.out⟩

end Go.Proofs.Ytlolippocnngcaa.deb

/- May an account be, in the program. -/
namespace Go.Proofs.Ytlolippocnngcaa.acc
open Go.Proofs.Ytlolippocnngcaa.tar (Du du0 Came RowD Ld PairT)
open Go.RowKit
set_option maxRecDepth 100000
set_option linter.unusedVariables false
set_option linter.unusedSimpArgs false

def MayPost (w : World) (x : Ac) (e : Ending) (w' : World) : Prop := ∃ r, e = .returned (.bool r) ∧ (r = true ↔ AMay x) ∧ Below w.heap.size w w'
set_option maxHeartbeats 4000000 in
theorem pmay (x : Ac) (p : Option Addr) (len cap : Nat) (w : World) (h : Came w p len cap x.ds) : Calls Try.prog 31 #[.agg #[.int .i64 x.me, .int .i64 x.rv, .int .i64 x.nx, .int .i64 x.mo, .int .i64 x.bo, .int .i64 x.fr, .slice p len cap]] w fun e w' => MayPost w x e w' := by
  have HI0 : Hid (∀ W, Calls Try.prog 27 #[.int .i64 0, .int .i64 49, .int .i64 x.me] W fun e w' => e = .returned (.bool (decide (0 ≤ x.me ∧ x.me ≤ 49))) ∧ w' = W) := fun W => awithin 0 49 x.me W
  have HI1 : Hid (∀ W, Calls Try.prog 27 #[.int .i64 0, .int .i64 15, .int .i64 x.rv] W fun e w' => e = .returned (.bool (decide (0 ≤ x.rv ∧ x.rv ≤ 15))) ∧ w' = W) := fun W => awithin 0 15 x.rv W
  have HI2 : Hid (∀ W, Calls Try.prog 27 #[.int .i64 1, .int .i64 1048576, .int .i64 x.nx] W fun e w' => e = .returned (.bool (decide (1 ≤ x.nx ∧ x.nx ≤ 1048576))) ∧ w' = W) := fun W => awithin 1 1048576 x.nx W
  have HI3 : Hid (∀ W, Calls Try.prog 27 #[.int .i64 0, .int .i64 2399, .int .i64 x.mo] W fun e w' => e = .returned (.bool (decide (0 ≤ x.mo ∧ x.mo ≤ 2399))) ∧ w' = W) := fun W => awithin 0 2399 x.mo W
  have HI4 : Hid (∀ W, Calls Try.prog 27 #[.int .i64 0, .int .i64 10000000, .int .i64 x.bo] W fun e w' => e = .returned (.bool (decide (0 ≤ x.bo ∧ x.bo ≤ 10000000))) ∧ w' = W) := fun W => awithin 0 10000000 x.bo W
  have HI5 : Hid (∀ W, Calls Try.prog 27 #[.int .i64 (-1), .int .i64 x.mo, .int .i64 x.fr] W fun e w' => e = .returned (.bool (decide (-1 ≤ x.fr ∧ x.fr ≤ x.mo))) ∧ w' = W) := fun W => awithin (-1) x.mo x.fr W
  have HBA : Hid (Below w.heap.size w (w.alloc (.cells #[.int .i64 x.me, .int .i64 x.rv, .int .i64 x.nx, .int .i64 x.mo, .int .i64 x.bo, .int .i64 x.fr, .slice p len cap] 32))) := (Below.refl w.heap.size w).alloc (by simp) _
  have HTO : Hid (Calls Try.prog 51 #[.slice p len cap] (w.alloc (.cells #[.int .i64 x.me, .int .i64 x.rv, .int .i64 x.nx, .int .i64 x.mo, .int .i64 x.bo, .int .i64 x.fr, .slice p len cap] 32)) fun e w' => tar.TwoPost (w.alloc (.cells #[.int .i64 x.me, .int .i64 x.rv, .int .i64 x.nx, .int .i64 x.mo, .int .i64 x.bo, .int .i64 x.fr, .slice p len cap] 32)) (deb.OwedIs x.ds) e w') := deb.ktotal _ p len cap x.ds (h.below HBA.out)
  have HBK : Hid (Blk (w.alloc (.cells #[.int .i64 x.me, .int .i64 x.rv, .int .i64 x.nx, .int .i64 x.mo, .int .i64 x.bo, .int .i64 x.fr, .slice p len cap] 32)) w.heap.size #[.int .i64 x.me, .int .i64 x.rv, .int .i64 x.nx, .int .i64 x.mo, .int .i64 x.bo, .int .i64 x.fr, .slice p len cap] 32) := Blk.new w _ _
  have c6 : (w.alloc (.cells #[.int .i64 x.me, .int .i64 x.rv, .int .i64 x.nx, .int .i64 x.mo, .int .i64 x.bo, .int .i64 x.fr, .slice p len cap] 32)).cell? ⟨w.heap.size, 6, none⟩ = some (.slice p len cap) := HBK.out.cell 6
  clear h
  generalize hWW : (w.alloc (.cells #[.int .i64 x.me, .int .i64 x.rv, .int .i64 x.nx, .int .i64 x.mo, .int .i64 x.bo, .int .i64 x.fr, .slice p len cap] 32)) = WW at *
  have HWW : Hid ((w.alloc (.cells #[.int .i64 x.me, .int .i64 x.rv, .int .i64 x.nx, .int .i64 x.mo, .int .i64 x.bo, .int .i64 x.fr, .slice p len cap] 32)) = WW) := hWW
  clear hWW
  go_enter Try.func31, Try.ntmps31
  go_upto_region 1 with fail
  rw [HWW.out]
  clear HWW
  go_wp2_with fail
  refine HTO.out.mono ?_
  rintro e w1 ⟨tt, f, rfl, hf, hb1⟩
  have HB1 : Hid (Below w.heap.size w w1) := HBA.out.trans (hb1.mono HBA.out.size)
  have HK1 : Hid (Blk w1 w.heap.size #[.int .i64 x.me, .int .i64 x.rv, .int .i64 x.nx, .int .i64 x.mo, .int .i64 x.bo, .int .i64 x.fr, .slice p len cap] 32) := HBK.out.next hb1
  have HF : Hid (f = 0 ↔ deb.Mays x.ds) := hf.1.ok
  clear hf hb1 HTO HBA HBK c6
  have c0 : w1.cell? ⟨w.heap.size, 0, none⟩ = some (.int .i64 x.me) := HK1.out.cell 0
  have c1 : w1.cell? ⟨w.heap.size, 1, none⟩ = some (.int .i64 x.rv) := HK1.out.cell 1
  have c2 : w1.cell? ⟨w.heap.size, 2, none⟩ = some (.int .i64 x.nx) := HK1.out.cell 2
  have c3 : w1.cell? ⟨w.heap.size, 3, none⟩ = some (.int .i64 x.mo) := HK1.out.cell 3
  have c4 : w1.cell? ⟨w.heap.size, 4, none⟩ = some (.int .i64 x.bo) := HK1.out.cell 4
  have c5 : w1.cell? ⟨w.heap.size, 5, none⟩ = some (.int .i64 x.fr) := HK1.out.cell 5
  have c6 : w1.cell? ⟨w.heap.size, 6, none⟩ = some (.slice p len cap) := HK1.out.cell 6
  by_cases h0 : f = 0
  · have HM : Hid (deb.Mays x.ds) := HF.out.1 h0
    subst h0
    by_cases g0 : 0 ≤ x.me ∧ x.me ≤ 49
    · rw [decide_eq_true g0] at HI0
      go_wp2_with fail
      refine (HI0.out _).mono ?_
      rintro e w2 ⟨rfl, hw2⟩
      subst w2
      by_cases g1 : 0 ≤ x.rv ∧ x.rv ≤ 15
      · rw [decide_eq_true g1] at HI1
        go_wp2_with fail
        refine (HI1.out _).mono ?_
        rintro e w2 ⟨rfl, hw2⟩
        subst w2
        by_cases g2 : 1 ≤ x.nx ∧ x.nx ≤ 1048576
        · rw [decide_eq_true g2] at HI2
          go_wp2_with fail
          refine (HI2.out _).mono ?_
          rintro e w2 ⟨rfl, hw2⟩
          subst w2
          by_cases g3 : 0 ≤ x.mo ∧ x.mo ≤ 2399
          · rw [decide_eq_true g3] at HI3
            go_wp2_with fail
            refine (HI3.out _).mono ?_
            rintro e w2 ⟨rfl, hw2⟩
            subst w2
            by_cases g4 : 0 ≤ x.bo ∧ x.bo ≤ 10000000
            · rw [decide_eq_true g4] at HI4
              go_wp2_with fail
              refine (HI4.out _).mono ?_
              rintro e w2 ⟨rfl, hw2⟩
              subst w2
              by_cases g5 : -1 ≤ x.fr ∧ x.fr ≤ x.mo
              · rw [decide_eq_true g5] at HI5
                go_wp2_with fail
                refine (HI5.out _).mono ?_
                rintro e w2 ⟨rfl, hw2⟩
                subst w2
                have HY : Hid (AMay x) := ⟨HM.out, g0, g1, g2, g3, g4, g5⟩
                go_wp2_with fail
                go_ret
                exact ⟨true, rfl, ⟨fun _ => HY.out, fun _ => rfl⟩, HB1.out⟩
              · rw [decide_eq_false g5] at HI5
                have HN : Hid (¬ AMay x) := fun h => g5 h.2.2.2.2.2.2
                clear g5
                go_wp2_with fail
                refine (HI5.out _).mono ?_
                rintro e w2 ⟨rfl, hw2⟩
                subst w2
                go_wp2_with fail
                all_goals first
                  | (rename_i q1 q2; exact absurd q1 (by simp [undef]))
                  | (go_ret; exact ⟨false, rfl, ⟨fun h => absurd h (by decide), fun h => absurd h HN.out⟩, HB1.out⟩)
            · rw [decide_eq_false g4] at HI4
              have HN : Hid (¬ AMay x) := fun h => g4 h.2.2.2.2.2.1
              clear g4
              go_wp2_with fail
              refine (HI4.out _).mono ?_
              rintro e w2 ⟨rfl, hw2⟩
              subst w2
              go_wp2_with fail
              all_goals first
                | (rename_i q1 q2; exact absurd q1 (by simp [undef]))
                | (go_ret; exact ⟨false, rfl, ⟨fun h => absurd h (by decide), fun h => absurd h HN.out⟩, HB1.out⟩)
          · rw [decide_eq_false g3] at HI3
            have HN : Hid (¬ AMay x) := fun h => g3 h.2.2.2.2.1
            clear g3
            go_wp2_with fail
            refine (HI3.out _).mono ?_
            rintro e w2 ⟨rfl, hw2⟩
            subst w2
            go_wp2_with fail
            all_goals first
              | (rename_i q1 q2; exact absurd q1 (by simp [undef]))
              | (go_ret; exact ⟨false, rfl, ⟨fun h => absurd h (by decide), fun h => absurd h HN.out⟩, HB1.out⟩)
        · rw [decide_eq_false g2] at HI2
          have HN : Hid (¬ AMay x) := fun h => g2 h.2.2.2.1
          clear g2
          go_wp2_with fail
          refine (HI2.out _).mono ?_
          rintro e w2 ⟨rfl, hw2⟩
          subst w2
          go_wp2_with fail
          all_goals first
            | (rename_i q1 q2; exact absurd q1 (by simp [undef]))
            | (go_ret; exact ⟨false, rfl, ⟨fun h => absurd h (by decide), fun h => absurd h HN.out⟩, HB1.out⟩)
      · rw [decide_eq_false g1] at HI1
        have HN : Hid (¬ AMay x) := fun h => g1 h.2.2.1
        clear g1
        go_wp2_with fail
        refine (HI1.out _).mono ?_
        rintro e w2 ⟨rfl, hw2⟩
        subst w2
        go_wp2_with fail
        all_goals first
          | (rename_i q1 q2; exact absurd q1 (by simp [undef]))
          | (go_ret; exact ⟨false, rfl, ⟨fun h => absurd h (by decide), fun h => absurd h HN.out⟩, HB1.out⟩)
    · rw [decide_eq_false g0] at HI0
      have HN : Hid (¬ AMay x) := fun h => g0 h.2.1
      clear g0
      go_wp2_with fail
      refine (HI0.out _).mono ?_
      rintro e w2 ⟨rfl, hw2⟩
      subst w2
      go_wp2_with fail
      all_goals first
        | (rename_i q1 q2; exact absurd q1 (by simp [undef]))
        | (go_ret; exact ⟨false, rfl, ⟨fun h => absurd h (by decide), fun h => absurd h HN.out⟩, HB1.out⟩)
  · have d0 : (f == 0) = false := by simpa using h0
    have HN : Hid (¬ AMay x) := fun h => h0 (HF.out.2 h.1)
    clear h0
    go_wp2_with fail
    all_goals first
      | (rename_i q1 q2; exact absurd q1 (by simp [undef]))
      | (go_ret; exact ⟨false, rfl, ⟨fun h => absurd h (by decide), fun h => absurd h HN.out⟩, HB1.out⟩)

end Go.Proofs.Ytlolippocnngcaa.acc

/- An account is worked at. -/
namespace Go.Proofs.Ytlolippocnngcaa.acc
open Go.Proofs.Ytlolippocnngcaa.tar (Du du0 Came RowD Ld PairT)
open Go.RowKit
set_option maxRecDepth 100000
set_option linter.unusedVariables false
set_option linter.unusedSimpArgs false

/-- A copy of pairs: append(nil, l...), of whatever came in. -/
theorem wp_copyD {P : Program} {T S : TypeId} (hP : PairT P T S) {w : World} {ops : Array Oper} {rest : List Oper} {o : Oper} {a : Act} {Q : Exit → Act → World → Prop} (hgd : o.guard = none) (s x : Operand)
    (ho : o.op = .call { callee := .builtin .append, args := #[s, x], argTypes := #[S, S] })
    (base : Nat) (p : Option Addr) (len cap : Nat) (zs : List Du) (hs : a.eval s = .slice none 0 0) (hx : a.eval x = .slice p len cap) (hc : Came w p len cap zs) (hbase : base ≤ w.heap.size)
    (h : ∀ v' w', Ld T w' base v' zs → w.grownBy w' none → wpList P ops Q rest (a.put o.dst v') w') : wpList P ops Q (o :: rest) a w := by
  cases p with
  | some A => exact tar.wp_pairs hP hgd s x ho base A len cap zs hs hx hc.row hc.bytes hbase h
  | none =>
    have h0 := hc.nil rfl
    have h1 : len = 0 := by have := hc.room; omega
    have h2 : zs = [] := List.eq_nil_of_length_eq_zero (by have := hc.row.1; omega)
    subst h0 h1 h2
    have hu := hP.under
    have hi0 := hP.info
    cases hq : P.info? T with
    | none => rw [hq] at hi0; cases hi0
    | some i =>
      refine wpList_append_own_none hgd s x S ho base T i 2 hu hq (.slice none 0 0) 0 [] hs (World.ownsRow_nil _ _ _ _) hx ?_
      exact h _ _ (tar.Ld.zero _ _ _) ⟨rfl, rfl, rfl, Nat.le_refl _, fun _ _ _ => rfl⟩
set_option maxHeartbeats 4000000 in
theorem pwork (F : Nat) (caps : Array Value) (Is : Ac → Bi → Int → Prop) (x : Ac) (p : Option Addr) (len cap : Nat) (w : World) (hc : Came w p len cap x.ds) (h5 : ¬ AMay x → Is ac0 bi0 5) (hK : ∀ args w, (callFunc F args).run Try.prog w = .ok (.enter F args) w)
    (hf : AMay x → ∀ (W : World) (g : Nat) (p' : Option Addr) (cap' : Nat), Below w.heap.size w W → w.heap.size ≤ g → Blk W g (wcs x bi0 p' len cap') 78 → Ld 48 W (g + 1) (.slice p' len cap') x.ds → Calls Try.prog F (#[.pointer (some ⟨g, 0, none⟩)] ++ caps) W fun e w' => WPost W g (Or0 Is) e w') :
    Calls Try.prog 34 #[.agg #[.int .i64 x.me, .int .i64 x.rv, .int .i64 x.nx, .int .i64 x.mo, .int .i64 x.bo, .int .i64 x.fr, .slice p len cap], .func (.func F) #[] caps] w fun e w' => BPost w Is e w' := by
  have HFU : Hid (AMay x → ∀ (W : World) (g : Nat) (p' : Option Addr) (cap' : Nat), Below w.heap.size w W → w.heap.size ≤ g → Blk W g (wcs x bi0 p' len cap') 78 → Ld 48 W (g + 1) (.slice p' len cap') x.ds → Calls Try.prog F (#[.pointer (some ⟨g, 0, none⟩)] ++ caps) W fun e w' => WPost W g (Or0 Is) e w') := hf
  have HLEN : Hid (x.ds.length = len) := hc.row.1
  have H5 : Hid (¬ AMay x → Is ac0 bi0 5) := h5
  clear hf h5
  have H0d : Hid (Blk (((w.alloc (.cells #[.int .i64 x.me, .int .i64 x.rv, .int .i64 x.nx, .int .i64 x.mo, .int .i64 x.bo, .int .i64 x.fr, .slice p len cap] 32)).alloc (.cells #[.int .i64 0, .int .i64 0, .int .i64 0, .int .i64 0, .int .i64 0, .int .i64 0, .slice none 0 0] 32)).alloc (.cells #[.int .i64 0, .int .i64 0, .int .i64 0, .int .i64 0, .int .i64 0, .int .i64 0, .int .i64 0] 41)) (w.heap.size) #[.int .i64 x.me, .int .i64 x.rv, .int .i64 x.nx, .int .i64 x.mo, .int .i64 x.bo, .int .i64 x.fr, .slice p len cap] 32) := ((Blk.new w _ _).alloc _).alloc _
  have H0r : Hid (Blk (((w.alloc (.cells #[.int .i64 x.me, .int .i64 x.rv, .int .i64 x.nx, .int .i64 x.mo, .int .i64 x.bo, .int .i64 x.fr, .slice p len cap] 32)).alloc (.cells #[.int .i64 0, .int .i64 0, .int .i64 0, .int .i64 0, .int .i64 0, .int .i64 0, .slice none 0 0] 32)).alloc (.cells #[.int .i64 0, .int .i64 0, .int .i64 0, .int .i64 0, .int .i64 0, .int .i64 0, .int .i64 0] 41)) (w.heap.size + 1) #[.int .i64 0, .int .i64 0, .int .i64 0, .int .i64 0, .int .i64 0, .int .i64 0, .slice none 0 0] 32) := (Blk.new1 w _ _ _).alloc _
  have H0l : Hid (Blk (((w.alloc (.cells #[.int .i64 x.me, .int .i64 x.rv, .int .i64 x.nx, .int .i64 x.mo, .int .i64 x.bo, .int .i64 x.fr, .slice p len cap] 32)).alloc (.cells #[.int .i64 0, .int .i64 0, .int .i64 0, .int .i64 0, .int .i64 0, .int .i64 0, .slice none 0 0] 32)).alloc (.cells #[.int .i64 0, .int .i64 0, .int .i64 0, .int .i64 0, .int .i64 0, .int .i64 0, .int .i64 0] 41)) (w.heap.size + 1 + 1) #[.int .i64 0, .int .i64 0, .int .i64 0, .int .i64 0, .int .i64 0, .int .i64 0, .int .i64 0] 41) := Blk.new2 w _ _ _ _
  have H0B : Hid (Below w.heap.size w (((w.alloc (.cells #[.int .i64 x.me, .int .i64 x.rv, .int .i64 x.nx, .int .i64 x.mo, .int .i64 x.bo, .int .i64 x.fr, .slice p len cap] 32)).alloc (.cells #[.int .i64 0, .int .i64 0, .int .i64 0, .int .i64 0, .int .i64 0, .int .i64 0, .slice none 0 0] 32)).alloc (.cells #[.int .i64 0, .int .i64 0, .int .i64 0, .int .i64 0, .int .i64 0, .int .i64 0, .int .i64 0] 41))) := (((Below.refl w.heap.size w).alloc (by simp) _).alloc (by simp) _).alloc (by simp; omega) _
  have H0R : Hid (Came (((w.alloc (.cells #[.int .i64 x.me, .int .i64 x.rv, .int .i64 x.nx, .int .i64 x.mo, .int .i64 x.bo, .int .i64 x.fr, .slice p len cap] 32)).alloc (.cells #[.int .i64 0, .int .i64 0, .int .i64 0, .int .i64 0, .int .i64 0, .int .i64 0, .slice none 0 0] 32)).alloc (.cells #[.int .i64 0, .int .i64 0, .int .i64 0, .int .i64 0, .int .i64 0, .int .i64 0, .int .i64 0] 41)) p len cap x.ds) := hc.below H0B.out
  have hs0 : w.heap.size + 1 + 1 < (((w.alloc (.cells #[.int .i64 x.me, .int .i64 x.rv, .int .i64 x.nx, .int .i64 x.mo, .int .i64 x.bo, .int .i64 x.fr, .slice p len cap] 32)).alloc (.cells #[.int .i64 0, .int .i64 0, .int .i64 0, .int .i64 0, .int .i64 0, .int .i64 0, .slice none 0 0] 32)).alloc (.cells #[.int .i64 0, .int .i64 0, .int .i64 0, .int .i64 0, .int .i64 0, .int .i64 0, .int .i64 0] 41)).heap.size := H0l.out.lt
  generalize hWW : (((w.alloc (.cells #[.int .i64 x.me, .int .i64 x.rv, .int .i64 x.nx, .int .i64 x.mo, .int .i64 x.bo, .int .i64 x.fr, .slice p len cap] 32)).alloc (.cells #[.int .i64 0, .int .i64 0, .int .i64 0, .int .i64 0, .int .i64 0, .int .i64 0, .slice none 0 0] 32)).alloc (.cells #[.int .i64 0, .int .i64 0, .int .i64 0, .int .i64 0, .int .i64 0, .int .i64 0, .int .i64 0] 41)) = W0 at *
  have HWW : Hid ((((w.alloc (.cells #[.int .i64 x.me, .int .i64 x.rv, .int .i64 x.nx, .int .i64 x.mo, .int .i64 x.bo, .int .i64 x.fr, .slice p len cap] 32)).alloc (.cells #[.int .i64 0, .int .i64 0, .int .i64 0, .int .i64 0, .int .i64 0, .int .i64 0, .slice none 0 0] 32)).alloc (.cells #[.int .i64 0, .int .i64 0, .int .i64 0, .int .i64 0, .int .i64 0, .int .i64 0, .int .i64 0] 41)) = W0) := hWW
  clear hWW
  go_enter Try.func34, Try.ntmps34
  go_upto_region 1 with fail
  rw [HWW.out]
  clear HWW
  clear hc
  have HPM : Hid (Calls Try.prog 31 #[.agg #[.int .i64 x.me, .int .i64 x.rv, .int .i64 x.nx, .int .i64 x.mo, .int .i64 x.bo, .int .i64 x.fr, .slice p len cap]] W0 fun e w' => MayPost W0 x e w') := pmay x p len cap W0 H0R.out
  go_wp2_with (first
    | (refine wp_whole rfl 32 _ rfl (w.heap.size) rfl 32 #[.int .i64 x.me, .int .i64 x.rv, .int .i64 x.nx, .int .i64 x.mo, .int .i64 x.bo, .int .i64 x.fr, .slice p len cap] _ H0d.out Try.underlying32 rfl (by kernel_rfl) ?_)
    | (refine wp_whole rfl 32 _ rfl (w.heap.size + 1) rfl 32 #[.int .i64 0, .int .i64 0, .int .i64 0, .int .i64 0, .int .i64 0, .int .i64 0, .slice none 0 0] _ H0r.out Try.underlying32 rfl (by kernel_rfl) ?_)
    | (refine wp_whole rfl 41 _ rfl (w.heap.size + 1 + 1) rfl 41 #[.int .i64 0, .int .i64 0, .int .i64 0, .int .i64 0, .int .i64 0, .int .i64 0, .int .i64 0] _ H0l.out Try.underlying41 rfl (by kernel_rfl) ?_)
    | fail)
  refine HPM.out.mono ?_
  rintro e w1 ⟨r, rfl, hr, hb1⟩
  have H1d : Hid (Blk w1 (w.heap.size) #[.int .i64 x.me, .int .i64 x.rv, .int .i64 x.nx, .int .i64 x.mo, .int .i64 x.bo, .int .i64 x.fr, .slice p len cap] 32) := H0d.out.next hb1
  have H1r : Hid (Blk w1 (w.heap.size + 1) #[.int .i64 0, .int .i64 0, .int .i64 0, .int .i64 0, .int .i64 0, .int .i64 0, .slice none 0 0] 32) := H0r.out.next hb1
  have H1l : Hid (Blk w1 (w.heap.size + 1 + 1) #[.int .i64 0, .int .i64 0, .int .i64 0, .int .i64 0, .int .i64 0, .int .i64 0, .int .i64 0] 41) := H0l.out.next hb1
  have H1R : Hid (Came w1 p len cap x.ds) := H0R.out.below hb1
  have H1B : Hid (Below w.heap.size w w1) := H0B.out.trans (hb1.mono H0B.out.size)
  have hsw1 : W0.heap.size ≤ w1.heap.size := hb1.size
  clear hb1 H0d H0r H0l H0R H0B
  clear HPM
  cases r with
  | false =>
    have HV : Hid (Is ac0 bi0 5) := H5.out fun h => Bool.noConfusion (hr.2 h)
    clear hr H5 HFU hK
    go_wp2_with (first
      | (refine wp_letAll rfl 32 _ _ rfl (w.heap.size + 1) rfl #[.int .i64 0, .int .i64 0, .int .i64 0, .int .i64 0, .int .i64 0, .int .i64 0, .slice none 0 0] rfl (by kernel_rfl) (by simp [Value.oneCell']) #[.int .i64 0, .int .i64 0, .int .i64 0, .int .i64 0, .int .i64 0, .int .i64 0, .slice none 0 0] 32 H1r.out rfl ?_)
      | (refine wp_whole rfl 32 _ rfl (w.heap.size) rfl 32 #[.int .i64 x.me, .int .i64 x.rv, .int .i64 x.nx, .int .i64 x.mo, .int .i64 x.bo, .int .i64 x.fr, .slice p len cap] _ H1d.out Try.underlying32 rfl (by kernel_rfl) ?_)
      | (refine wp_whole rfl 32 _ rfl (w.heap.size + 1) rfl 32 #[.int .i64 0, .int .i64 0, .int .i64 0, .int .i64 0, .int .i64 0, .int .i64 0, .slice none 0 0] _ H1r.out Try.underlying32 rfl (by kernel_rfl) ?_)
      | (refine wp_whole rfl 41 _ rfl (w.heap.size + 1 + 1) rfl 41 #[.int .i64 0, .int .i64 0, .int .i64 0, .int .i64 0, .int .i64 0, .int .i64 0, .int .i64 0] _ H1l.out Try.underlying41 rfl (by kernel_rfl) ?_)
      | fail)
    intro w1a hU
    have H2d : Hid (Blk w1a (w.heap.size) #[.int .i64 x.me, .int .i64 x.rv, .int .i64 x.nx, .int .i64 x.mo, .int .i64 x.bo, .int .i64 x.fr, .slice p len cap] 32) := hU.keep H1d.out (by omega)
    have H2r : Hid (Blk w1a (w.heap.size + 1) #[.int .i64 0, .int .i64 0, .int .i64 0, .int .i64 0, .int .i64 0, .int .i64 0, .slice none 0 0] 32) := hU.blk
    have H2l : Hid (Blk w1a (w.heap.size + 1 + 1) #[.int .i64 0, .int .i64 0, .int .i64 0, .int .i64 0, .int .i64 0, .int .i64 0, .int .i64 0] 41) := hU.keep H1l.out (by omega)
    have H2B : Hid (Below w.heap.size w w1a) := hU.bel _ _ (by omega) H1B.out
    have hsw1a : w1a.heap.size = w1.heap.size := hU.size
    clear hU H1d H1r H1l H1R H1B
    go_wp2_with (first
      | (refine wp_letAll rfl 41 _ _ rfl (w.heap.size + 1 + 1) rfl #[.int .i64 0, .int .i64 0, .int .i64 0, .int .i64 0, .int .i64 0, .int .i64 0, .int .i64 0] rfl (by kernel_rfl) (by simp [Value.oneCell']) #[.int .i64 0, .int .i64 0, .int .i64 0, .int .i64 0, .int .i64 0, .int .i64 0, .int .i64 0] 41 H2l.out rfl ?_)
      | (refine wp_whole rfl 32 _ rfl (w.heap.size) rfl 32 #[.int .i64 x.me, .int .i64 x.rv, .int .i64 x.nx, .int .i64 x.mo, .int .i64 x.bo, .int .i64 x.fr, .slice p len cap] _ H2d.out Try.underlying32 rfl (by kernel_rfl) ?_)
      | (refine wp_whole rfl 32 _ rfl (w.heap.size + 1) rfl 32 #[.int .i64 0, .int .i64 0, .int .i64 0, .int .i64 0, .int .i64 0, .int .i64 0, .slice none 0 0] _ H2r.out Try.underlying32 rfl (by kernel_rfl) ?_)
      | (refine wp_whole rfl 41 _ rfl (w.heap.size + 1 + 1) rfl 41 #[.int .i64 0, .int .i64 0, .int .i64 0, .int .i64 0, .int .i64 0, .int .i64 0, .int .i64 0] _ H2l.out Try.underlying41 rfl (by kernel_rfl) ?_)
      | fail)
    intro w1ab hU
    have H3d : Hid (Blk w1ab (w.heap.size) #[.int .i64 x.me, .int .i64 x.rv, .int .i64 x.nx, .int .i64 x.mo, .int .i64 x.bo, .int .i64 x.fr, .slice p len cap] 32) := hU.keep H2d.out (by omega)
    have H3r : Hid (Blk w1ab (w.heap.size + 1) #[.int .i64 0, .int .i64 0, .int .i64 0, .int .i64 0, .int .i64 0, .int .i64 0, .slice none 0 0] 32) := hU.keep H2r.out (by omega)
    have H3l : Hid (Blk w1ab (w.heap.size + 1 + 1) #[.int .i64 0, .int .i64 0, .int .i64 0, .int .i64 0, .int .i64 0, .int .i64 0, .int .i64 0] 41) := hU.blk
    have H3B : Hid (Below w.heap.size w w1ab) := hU.bel _ _ (by omega) H2B.out
    have hsw1ab : w1ab.heap.size = w1a.heap.size := hU.size
    clear hU H2d H2r H2l H2B
    have Rr0 : Hid (w1ab.cell? ⟨w.heap.size + 1, 0, none⟩ = some (.int .i64 0)) := H3r.out.cell 0
    have Rr1 : Hid (w1ab.cell? ⟨w.heap.size + 1, 1, none⟩ = some (.int .i64 0)) := H3r.out.cell 1
    have Rr2 : Hid (w1ab.cell? ⟨w.heap.size + 1, 2, none⟩ = some (.int .i64 0)) := H3r.out.cell 2
    have Rr3 : Hid (w1ab.cell? ⟨w.heap.size + 1, 3, none⟩ = some (.int .i64 0)) := H3r.out.cell 3
    have Rr4 : Hid (w1ab.cell? ⟨w.heap.size + 1, 4, none⟩ = some (.int .i64 0)) := H3r.out.cell 4
    have Rr5 : Hid (w1ab.cell? ⟨w.heap.size + 1, 5, none⟩ = some (.int .i64 0)) := H3r.out.cell 5
    have Rr6 : Hid (w1ab.cell? ⟨w.heap.size + 1, 6, none⟩ = some (.slice none 0 0)) := H3r.out.cell 6
    have Rl0 : Hid (w1ab.cell? ⟨w.heap.size + 1 + 1, 0, none⟩ = some (.int .i64 0)) := H3l.out.cell 0
    have Rl1 : Hid (w1ab.cell? ⟨w.heap.size + 1 + 1, 1, none⟩ = some (.int .i64 0)) := H3l.out.cell 1
    have Rl2 : Hid (w1ab.cell? ⟨w.heap.size + 1 + 1, 2, none⟩ = some (.int .i64 0)) := H3l.out.cell 2
    have Rl3 : Hid (w1ab.cell? ⟨w.heap.size + 1 + 1, 3, none⟩ = some (.int .i64 0)) := H3l.out.cell 3
    have Rl4 : Hid (w1ab.cell? ⟨w.heap.size + 1 + 1, 4, none⟩ = some (.int .i64 0)) := H3l.out.cell 4
    have Rl5 : Hid (w1ab.cell? ⟨w.heap.size + 1 + 1, 5, none⟩ = some (.int .i64 0)) := H3l.out.cell 5
    have Rl6 : Hid (w1ab.cell? ⟨w.heap.size + 1 + 1, 6, none⟩ = some (.int .i64 0)) := H3l.out.cell 6
    go_wp2_with fail
    exact bodyPost_ret (v := .tuple #[.agg #[.int .i64 0, .int .i64 0, .int .i64 0, .int .i64 0, .int .i64 0, .int .i64 0, .slice none 0 0], .agg #[.int .i64 0, .int .i64 0, .int .i64 0, .int .i64 0, .int .i64 0, .int .i64 0, .int .i64 0], .int .i64 5]) (by simp [results, Try.results34, Rr0.out, Rr1.out, Rr2.out, Rr3.out, Rr4.out, Rr5.out, Rr6.out, Rl0.out, Rl1.out, Rl2.out, Rl3.out, Rl4.out, Rl5.out, Rl6.out, go_sem]) rfl ⟨ac0, bi0, none, 0, 0, _, rfl, HV.out, deb.fresh_nil _ _, H3B.out⟩
  | true =>
    have HM : Hid (AMay x) := hr.1 rfl
    clear hr H5
    have HSV : Hid (Blk w1 (w.heap.size) #[.int .i64 x.me, .int .i64 x.rv, .int .i64 x.nx, .int .i64 x.mo, .int .i64 x.bo, .int .i64 x.fr, .slice p len cap] 32) := H1d.out
    have H2d : Hid (Blk (w1.alloc (.cells #[.int .i64 x.me, .int .i64 x.rv, .int .i64 x.nx, .int .i64 x.mo, .int .i64 x.bo, .int .i64 x.fr, .slice p len cap, .int .i64 0, .int .i64 0, .int .i64 0, .int .i64 0, .int .i64 0, .int .i64 0, .int .i64 0] 78)) (w.heap.size) #[.int .i64 x.me, .int .i64 x.rv, .int .i64 x.nx, .int .i64 x.mo, .int .i64 x.bo, .int .i64 x.fr, .slice p len cap] 32) := H1d.out.alloc _
    have H2r : Hid (Blk (w1.alloc (.cells #[.int .i64 x.me, .int .i64 x.rv, .int .i64 x.nx, .int .i64 x.mo, .int .i64 x.bo, .int .i64 x.fr, .slice p len cap, .int .i64 0, .int .i64 0, .int .i64 0, .int .i64 0, .int .i64 0, .int .i64 0, .int .i64 0] 78)) (w.heap.size + 1) #[.int .i64 0, .int .i64 0, .int .i64 0, .int .i64 0, .int .i64 0, .int .i64 0, .slice none 0 0] 32) := H1r.out.alloc _
    have H2l : Hid (Blk (w1.alloc (.cells #[.int .i64 x.me, .int .i64 x.rv, .int .i64 x.nx, .int .i64 x.mo, .int .i64 x.bo, .int .i64 x.fr, .slice p len cap, .int .i64 0, .int .i64 0, .int .i64 0, .int .i64 0, .int .i64 0, .int .i64 0, .int .i64 0] 78)) (w.heap.size + 1 + 1) #[.int .i64 0, .int .i64 0, .int .i64 0, .int .i64 0, .int .i64 0, .int .i64 0, .int .i64 0] 41) := H1l.out.alloc _
    have H2R : Hid (Came (w1.alloc (.cells #[.int .i64 x.me, .int .i64 x.rv, .int .i64 x.nx, .int .i64 x.mo, .int .i64 x.bo, .int .i64 x.fr, .slice p len cap, .int .i64 0, .int .i64 0, .int .i64 0, .int .i64 0, .int .i64 0, .int .i64 0, .int .i64 0] 78)) p len cap x.ds) := H1R.out.below ((Below.refl _ _).alloc (Nat.le_refl _) _)
    have H2n : Hid (Blk (w1.alloc (.cells #[.int .i64 x.me, .int .i64 x.rv, .int .i64 x.nx, .int .i64 x.mo, .int .i64 x.bo, .int .i64 x.fr, .slice p len cap, .int .i64 0, .int .i64 0, .int .i64 0, .int .i64 0, .int .i64 0, .int .i64 0, .int .i64 0] 78)) (w1.heap.size) #[.int .i64 x.me, .int .i64 x.rv, .int .i64 x.nx, .int .i64 x.mo, .int .i64 x.bo, .int .i64 x.fr, .slice p len cap, .int .i64 0, .int .i64 0, .int .i64 0, .int .i64 0, .int .i64 0, .int .i64 0, .int .i64 0] 78) := Blk.new w1 _ _
    have H2B : Hid (Below w.heap.size w (w1.alloc (.cells #[.int .i64 x.me, .int .i64 x.rv, .int .i64 x.nx, .int .i64 x.mo, .int .i64 x.bo, .int .i64 x.fr, .slice p len cap, .int .i64 0, .int .i64 0, .int .i64 0, .int .i64 0, .int .i64 0, .int .i64 0, .int .i64 0] 78))) := H1B.out.alloc H1B.out.size _
    have hsW2 : (w1.alloc (.cells #[.int .i64 x.me, .int .i64 x.rv, .int .i64 x.nx, .int .i64 x.mo, .int .i64 x.bo, .int .i64 x.fr, .slice p len cap, .int .i64 0, .int .i64 0, .int .i64 0, .int .i64 0, .int .i64 0, .int .i64 0, .int .i64 0] 78)).heap.size = w1.heap.size + 1 := by simp
    clear H1d H1r H1l H1R H1B
    go_upto_region 4 with (first | (refine wp_whole rfl 32 _ rfl (w.heap.size) rfl 32 #[.int .i64 x.me, .int .i64 x.rv, .int .i64 x.nx, .int .i64 x.mo, .int .i64 x.bo, .int .i64 x.fr, .slice p len cap] _ HSV.out Try.underlying32 rfl (by kernel_rfl) ?_) | fail)
    generalize (w1.alloc (.cells #[.int .i64 x.me, .int .i64 x.rv, .int .i64 x.nx, .int .i64 x.mo, .int .i64 x.bo, .int .i64 x.fr, .slice p len cap, .int .i64 0, .int .i64 0, .int .i64 0, .int .i64 0, .int .i64 0, .int .i64 0, .int .i64 0] 78)) = W2 at *
    clear HSV
    have qd6 : W2.cell? ⟨w.heap.size, 6, none⟩ = some (.slice p len cap) := H2d.out.cell 6
    go_wp2_with (first
      | (at_builtin; refine wp_copyD deb.debtT rfl _ _ rfl (w1.heap.size + 1) p len cap x.ds rfl rfl H2R.out (by omega) ?_)
      | (refine wp_whole rfl 32 _ rfl (w.heap.size) rfl 32 #[.int .i64 x.me, .int .i64 x.rv, .int .i64 x.nx, .int .i64 x.mo, .int .i64 x.bo, .int .i64 x.fr, .slice p len cap] _ H2d.out Try.underlying32 rfl (by kernel_rfl) ?_)
      | (refine wp_whole rfl 32 _ rfl (w.heap.size + 1) rfl 32 #[.int .i64 0, .int .i64 0, .int .i64 0, .int .i64 0, .int .i64 0, .int .i64 0, .slice none 0 0] _ H2r.out Try.underlying32 rfl (by kernel_rfl) ?_)
      | (refine wp_whole rfl 41 _ rfl (w.heap.size + 1 + 1) rfl 41 #[.int .i64 0, .int .i64 0, .int .i64 0, .int .i64 0, .int .i64 0, .int .i64 0, .int .i64 0] _ H2l.out Try.underlying41 rfl (by kernel_rfl) ?_)
      | (refine wp_whole rfl 78 _ rfl (w1.heap.size) rfl 78 #[.int .i64 x.me, .int .i64 x.rv, .int .i64 x.nx, .int .i64 x.mo, .int .i64 x.bo, .int .i64 x.fr, .slice p len cap, .int .i64 0, .int .i64 0, .int .i64 0, .int .i64 0, .int .i64 0, .int .i64 0, .int .i64 0] _ H2n.out Try.underlying78 rfl (by kernel_rfl) ?_)
      | fail)
    intro v3 w3 hl3 hg3
    have hb3 : Below W2.heap.size W2 w3 := (Below.refl _ _).grown hg3 (Nat.le_refl _) (fun k hk => by cases hk)
    obtain ⟨p3, cap3, hv3, hf3⟩ := deb.ld_fresh hl3 HM.out.1
    rw [HLEN.out] at hv3 hf3
    subst hv3
    have H3d : Hid (Blk w3 (w.heap.size) #[.int .i64 x.me, .int .i64 x.rv, .int .i64 x.nx, .int .i64 x.mo, .int .i64 x.bo, .int .i64 x.fr, .slice p len cap] 32) := H2d.out.next hb3
    have H3r : Hid (Blk w3 (w.heap.size + 1) #[.int .i64 0, .int .i64 0, .int .i64 0, .int .i64 0, .int .i64 0, .int .i64 0, .slice none 0 0] 32) := H2r.out.next hb3
    have H3l : Hid (Blk w3 (w.heap.size + 1 + 1) #[.int .i64 0, .int .i64 0, .int .i64 0, .int .i64 0, .int .i64 0, .int .i64 0, .int .i64 0] 41) := H2l.out.next hb3
    have H3n : Hid (Blk w3 (w1.heap.size) #[.int .i64 x.me, .int .i64 x.rv, .int .i64 x.nx, .int .i64 x.mo, .int .i64 x.bo, .int .i64 x.fr, .slice p len cap, .int .i64 0, .int .i64 0, .int .i64 0, .int .i64 0, .int .i64 0, .int .i64 0, .int .i64 0] 78) := H2n.out.next hb3
    have H3B : Hid (Below w.heap.size w w3) := bel_step H2B.out hb3
    have HL3 : Hid (Ld 48 w3 (w1.heap.size + 1) (.slice p3 len cap3) x.ds) := hl3
    have hsw3 : W2.heap.size ≤ w3.heap.size := hb3.size
    clear hl3 hg3 hb3 hf3 qd6 H2d H2r H2l H2n H2B
    go_wp2_with (first
      | (refine wp_letS rfl 30 _ _ rfl (w1.heap.size) 6 rfl p3 len cap3 rfl (by kernel_rfl) #[.int .i64 x.me, .int .i64 x.rv, .int .i64 x.nx, .int .i64 x.mo, .int .i64 x.bo, .int .i64 x.fr, .slice p len cap, .int .i64 0, .int .i64 0, .int .i64 0, .int .i64 0, .int .i64 0, .int .i64 0, .int .i64 0] 78 H3n.out (by simp) ?_)
      | (refine wp_whole rfl 32 _ rfl (w.heap.size) rfl 32 #[.int .i64 x.me, .int .i64 x.rv, .int .i64 x.nx, .int .i64 x.mo, .int .i64 x.bo, .int .i64 x.fr, .slice p len cap] _ H3d.out Try.underlying32 rfl (by kernel_rfl) ?_)
      | (refine wp_whole rfl 32 _ rfl (w.heap.size + 1) rfl 32 #[.int .i64 0, .int .i64 0, .int .i64 0, .int .i64 0, .int .i64 0, .int .i64 0, .slice none 0 0] _ H3r.out Try.underlying32 rfl (by kernel_rfl) ?_)
      | (refine wp_whole rfl 41 _ rfl (w.heap.size + 1 + 1) rfl 41 #[.int .i64 0, .int .i64 0, .int .i64 0, .int .i64 0, .int .i64 0, .int .i64 0, .int .i64 0] _ H3l.out Try.underlying41 rfl (by kernel_rfl) ?_)
      | (refine wp_whole rfl 78 _ rfl (w1.heap.size) rfl 78 #[.int .i64 x.me, .int .i64 x.rv, .int .i64 x.nx, .int .i64 x.mo, .int .i64 x.bo, .int .i64 x.fr, .slice p len cap, .int .i64 0, .int .i64 0, .int .i64 0, .int .i64 0, .int .i64 0, .int .i64 0, .int .i64 0] _ H3n.out Try.underlying78 rfl (by kernel_rfl) ?_)
      | fail)
    intro W4 hU
    have H4d : Hid (Blk W4 (w.heap.size) #[.int .i64 x.me, .int .i64 x.rv, .int .i64 x.nx, .int .i64 x.mo, .int .i64 x.bo, .int .i64 x.fr, .slice p len cap] 32) := hU.keep H3d.out (by omega)
    have H4r : Hid (Blk W4 (w.heap.size + 1) #[.int .i64 0, .int .i64 0, .int .i64 0, .int .i64 0, .int .i64 0, .int .i64 0, .slice none 0 0] 32) := hU.keep H3r.out (by omega)
    have H4l : Hid (Blk W4 (w.heap.size + 1 + 1) #[.int .i64 0, .int .i64 0, .int .i64 0, .int .i64 0, .int .i64 0, .int .i64 0, .int .i64 0] 41) := hU.keep H3l.out (by omega)
    have H4n : Hid (Blk W4 (w1.heap.size) #[.int .i64 x.me, .int .i64 x.rv, .int .i64 x.nx, .int .i64 x.mo, .int .i64 x.bo, .int .i64 x.fr, .slice p3 len cap3, .int .i64 0, .int .i64 0, .int .i64 0, .int .i64 0, .int .i64 0, .int .i64 0, .int .i64 0] 78) := hU.blk
    have H4B : Hid (Below w.heap.size w W4) := hU.bel _ _ (by omega) H3B.out
    have HL4 : Hid (Ld 48 W4 (w1.heap.size + 1) (.slice p3 len cap3) x.ds) := ld_upd HL3.out hU (by omega)
    have HCA : Hid (Calls Try.prog F (#[.pointer (some ⟨w1.heap.size, 0, none⟩)] ++ caps) W4 fun e w' => WPost W4 w1.heap.size (Or0 Is) e w') := HFU.out HM.out W4 w1.heap.size p3 cap3 H4B.out (by omega) H4n.out HL4.out
    have hsW4 : W4.heap.size = w3.heap.size := hU.size
    clear hU HL3 HL4 HFU H3d H3r H3l H3n H3B
    go_wp2_with fail
    refine HCA.out.mono ?_
    rintro e w5 ⟨y, b, q, n, c, f, rfl, hor, hi5, hf5, hb5⟩
    have H5d : Hid (Blk w5 (w.heap.size) #[.int .i64 x.me, .int .i64 x.rv, .int .i64 x.nx, .int .i64 x.mo, .int .i64 x.bo, .int .i64 x.fr, .slice p len cap] 32) := H4d.out.below hb5 (by omega)
    have H5r : Hid (Blk w5 (w.heap.size + 1) #[.int .i64 0, .int .i64 0, .int .i64 0, .int .i64 0, .int .i64 0, .int .i64 0, .slice none 0 0] 32) := H4r.out.below hb5 (by omega)
    have H5l : Hid (Blk w5 (w.heap.size + 1 + 1) #[.int .i64 0, .int .i64 0, .int .i64 0, .int .i64 0, .int .i64 0, .int .i64 0, .int .i64 0] 41) := H4l.out.below hb5 (by omega)
    have H5n : Hid (Blk w5 (w1.heap.size) #[.int .i64 y.me, .int .i64 y.rv, .int .i64 y.nx, .int .i64 y.mo, .int .i64 y.bo, .int .i64 y.fr, .slice q n c, .int .i64 b.id, .int .i64 b.te, .int .i64 b.de, .int .i64 b.fe, .int .i64 b.pr, .int .i64 b.ch, .int .i64 b.un] 78) := hi5
    have H5B : Hid (Below w.heap.size w w5) := H4B.out.trans (hb5.mono (by omega))
    have hsw5 : W4.heap.size ≤ w5.heap.size := hb5.size
    have H6F : Hid (deb.Fresh w5 (w1.heap.size + 1) q n c y.ds) := hf5
    have HUPF : Hid (0 < n → ∀ y, q = some y → y.block < w5.heap.size) := came_lt H6F.out.came
    have HOR : Hid (Or0 Is y b f) := hor
    clear hor hi5 hf5 hb5 HCA hK H4d H4r H4l H4n H4B
    by_cases h0 : f = 0
    · subst h0
      have HV : Hid (Is y b 0) := by
        rcases HOR.out with ⟨h, _⟩ | ⟨_, h⟩
        · exact absurd rfl h
        · exact h
      clear HOR
      go_wp2_with fail
      refine wp_region_held_drew (S := fun v => Blk v (w1.heap.size) #[.int .i64 y.me, .int .i64 y.rv, .int .i64 y.nx, .int .i64 y.mo, .int .i64 y.bo, .int .i64 y.fr, .slice q n c, .int .i64 b.id, .int .i64 b.te, .int .i64 b.de, .int .i64 b.fe, .int .i64 b.pr, .int .i64 b.ch, .int .i64 b.un] 78) (by kernel_rfl) (Blk.drew H5n.out 1) (fun hHeld => ?_)
      refine take_at 0 28 (.pointer (some ⟨w1.heap.size, 0, none⟩)) _ rfl rfl (by kernel_rfl) (by kernel_rfl) (by kernel_rfl) (fun _ _ _ h => h) (Or.inl ⟨by rfl, fun v hv => by skip; clear hv; go_simp⟩) hHeld ?_
      simp only [Act.put, List.setIfInBounds_toArray, List.set_cons_zero, List.set_cons_succ]
      refine take_at 1 29 (.agg #[.int .i64 y.me, .int .i64 y.rv, .int .i64 y.nx, .int .i64 y.mo, .int .i64 y.bo, .int .i64 y.fr, .slice q n c]) _ rfl rfl (by kernel_rfl) (by kernel_rfl) (by kernel_rfl) (fun _ _ _ h => h) (Or.inl ⟨by rfl, fun v hv => by have g0 := hv.cell 0; have g1 := hv.cell 1; have g2 := hv.cell 2; have g3 := hv.cell 3; have g4 := hv.cell 4; have g5 := hv.cell 5; have g6 := hv.cell 6; clear hv; go_simp⟩) hHeld ?_
      simp only [Act.put, List.setIfInBounds_toArray, List.set_cons_zero, List.set_cons_succ]
      refine take_at 2 30 (.pointer (some ⟨w1.heap.size, 7, none⟩)) _ rfl rfl (by kernel_rfl) (by kernel_rfl) (by kernel_rfl) (fun _ _ _ h => h) (Or.inl ⟨by rfl, fun v hv => by skip; clear hv; go_simp⟩) hHeld ?_
      simp only [Act.put, List.setIfInBounds_toArray, List.set_cons_zero, List.set_cons_succ]
      refine take_at 3 31 (.agg #[.int .i64 b.id, .int .i64 b.te, .int .i64 b.de, .int .i64 b.fe, .int .i64 b.pr, .int .i64 b.ch, .int .i64 b.un]) _ rfl rfl (by kernel_rfl) (by kernel_rfl) (by kernel_rfl) (fun _ _ _ h => h) (Or.inl ⟨by rfl, fun v hv => by have g0 := hv.cell 7; have g1 := hv.cell 8; have g2 := hv.cell 9; have g3 := hv.cell 10; have g4 := hv.cell 11; have g5 := hv.cell 12; have g6 := hv.cell 13; clear hv; go_simp⟩) hHeld ?_
      simp only [Act.put, List.setIfInBounds_toArray, List.set_cons_zero, List.set_cons_succ]
      refine wpAnyH_ready (rs := [4]) (by kernel_rfl) (by simp) (AllReadyH.cons rfl (fun K hK => ?_) AllReadyH.nil)
      rw [if_pos (by rfl)]
      refine wp_letOp 32 _ _ rfl (w.heap.size + 1) rfl #[.int .i64 y.me, .int .i64 y.rv, .int .i64 y.nx, .int .i64 y.mo, .int .i64 y.bo, .int .i64 y.fr, .slice q n c] rfl (by kernel_rfl) (by simp [Value.oneCell']) #[.int .i64 0, .int .i64 0, .int .i64 0, .int .i64 0, .int .i64 0, .int .i64 0, .slice none 0 0] 32 (Blk.drew H5r.out 1) rfl rfl ?_
      intro V1 hU
      have H7d : Hid (Blk V1 (w.heap.size) #[.int .i64 x.me, .int .i64 x.rv, .int .i64 x.nx, .int .i64 x.mo, .int .i64 x.bo, .int .i64 x.fr, .slice p len cap] 32) := hU.keep (Blk.drew H5d.out 1) (by omega)
      have H7r : Hid (Blk V1 (w.heap.size + 1) #[.int .i64 y.me, .int .i64 y.rv, .int .i64 y.nx, .int .i64 y.mo, .int .i64 y.bo, .int .i64 y.fr, .slice q n c] 32) := hU.blk
      have H7l : Hid (Blk V1 (w.heap.size + 1 + 1) #[.int .i64 0, .int .i64 0, .int .i64 0, .int .i64 0, .int .i64 0, .int .i64 0, .int .i64 0] 41) := hU.keep (Blk.drew H5l.out 1) (by omega)
      have H7n : Hid (Blk V1 (w1.heap.size) #[.int .i64 y.me, .int .i64 y.rv, .int .i64 y.nx, .int .i64 y.mo, .int .i64 y.bo, .int .i64 y.fr, .slice q n c, .int .i64 b.id, .int .i64 b.te, .int .i64 b.de, .int .i64 b.fe, .int .i64 b.pr, .int .i64 b.ch, .int .i64 b.un] 78) := hU.keep (Blk.drew H5n.out 1) (by omega)
      have H7F : Hid (deb.Fresh V1 (w1.heap.size + 1) q n c y.ds) := fresh_updN (fresh_drew H6F.out) hU (fun hn y hy => by have f1 := H6F.out.new hn y hy; have f2 := HUPF.out hn y hy; omega)
      have H7B : Hid (Below w.heap.size w V1) := hU.bel _ _ (by omega) H5B.out.drew
      clear hU H5d H5r H5l H5n H6F H5B
      refine hK.out _ _ H7n.out (fun hHeld => ?_)
      clear hK K
      refine wpAnyH_ready (rs := [5]) (by kernel_rfl) (by simp) (AllReadyH.cons rfl (fun K hK => ?_) AllReadyH.nil)
      rw [if_pos (by rfl)]
      refine wp_letOp 41 _ _ rfl (w.heap.size + 1 + 1) rfl #[.int .i64 b.id, .int .i64 b.te, .int .i64 b.de, .int .i64 b.fe, .int .i64 b.pr, .int .i64 b.ch, .int .i64 b.un] rfl (by kernel_rfl) (by simp [Value.oneCell']) #[.int .i64 0, .int .i64 0, .int .i64 0, .int .i64 0, .int .i64 0, .int .i64 0, .int .i64 0] 41 H7l.out rfl rfl ?_
      intro V2 hU
      have H8d : Hid (Blk V2 (w.heap.size) #[.int .i64 x.me, .int .i64 x.rv, .int .i64 x.nx, .int .i64 x.mo, .int .i64 x.bo, .int .i64 x.fr, .slice p len cap] 32) := hU.keep H7d.out (by omega)
      have H8r : Hid (Blk V2 (w.heap.size + 1) #[.int .i64 y.me, .int .i64 y.rv, .int .i64 y.nx, .int .i64 y.mo, .int .i64 y.bo, .int .i64 y.fr, .slice q n c] 32) := hU.keep H7r.out (by omega)
      have H8l : Hid (Blk V2 (w.heap.size + 1 + 1) #[.int .i64 b.id, .int .i64 b.te, .int .i64 b.de, .int .i64 b.fe, .int .i64 b.pr, .int .i64 b.ch, .int .i64 b.un] 41) := hU.blk
      have H8n : Hid (Blk V2 (w1.heap.size) #[.int .i64 y.me, .int .i64 y.rv, .int .i64 y.nx, .int .i64 y.mo, .int .i64 y.bo, .int .i64 y.fr, .slice q n c, .int .i64 b.id, .int .i64 b.te, .int .i64 b.de, .int .i64 b.fe, .int .i64 b.pr, .int .i64 b.ch, .int .i64 b.un] 78) := hU.keep H7n.out (by omega)
      have H8F : Hid (deb.Fresh V2 (w1.heap.size + 1) q n c y.ds) := fresh_updN H7F.out hU (fun hn y hy => by have f1 := H7F.out.new hn y hy; have f2 := HUPF.out hn y hy; omega)
      have H8B : Hid (Below w.heap.size w V2) := hU.bel _ _ (by omega) H7B.out
      clear hU H7d H7r H7l H7n H7F H7B
      refine hK.out _ _ H8n.out (fun hHeld => ?_)
      clear hK K
      refine take_at 6 6 (.int .i64 0) _ rfl rfl (by kernel_rfl) (by kernel_rfl) (by kernel_rfl) (fun _ _ _ h => h) (Or.inl ⟨by rfl, fun v hv => by skip; clear hv; go_simp⟩) hHeld ?_
      simp only [Act.put, List.setIfInBounds_toArray, List.set_cons_zero, List.set_cons_succ]
      refine wpAnyH_done (by kernel_rfl) ?_ _
      clear hHeld
      have Rr0 : Hid (V2.cell? ⟨w.heap.size + 1, 0, none⟩ = some (.int .i64 y.me)) := H8r.out.cell 0
      have Rr1 : Hid (V2.cell? ⟨w.heap.size + 1, 1, none⟩ = some (.int .i64 y.rv)) := H8r.out.cell 1
      have Rr2 : Hid (V2.cell? ⟨w.heap.size + 1, 2, none⟩ = some (.int .i64 y.nx)) := H8r.out.cell 2
      have Rr3 : Hid (V2.cell? ⟨w.heap.size + 1, 3, none⟩ = some (.int .i64 y.mo)) := H8r.out.cell 3
      have Rr4 : Hid (V2.cell? ⟨w.heap.size + 1, 4, none⟩ = some (.int .i64 y.bo)) := H8r.out.cell 4
      have Rr5 : Hid (V2.cell? ⟨w.heap.size + 1, 5, none⟩ = some (.int .i64 y.fr)) := H8r.out.cell 5
      have Rr6 : Hid (V2.cell? ⟨w.heap.size + 1, 6, none⟩ = some (.slice q n c)) := H8r.out.cell 6
      have Rl0 : Hid (V2.cell? ⟨w.heap.size + 1 + 1, 0, none⟩ = some (.int .i64 b.id)) := H8l.out.cell 0
      have Rl1 : Hid (V2.cell? ⟨w.heap.size + 1 + 1, 1, none⟩ = some (.int .i64 b.te)) := H8l.out.cell 1
      have Rl2 : Hid (V2.cell? ⟨w.heap.size + 1 + 1, 2, none⟩ = some (.int .i64 b.de)) := H8l.out.cell 2
      have Rl3 : Hid (V2.cell? ⟨w.heap.size + 1 + 1, 3, none⟩ = some (.int .i64 b.fe)) := H8l.out.cell 3
      have Rl4 : Hid (V2.cell? ⟨w.heap.size + 1 + 1, 4, none⟩ = some (.int .i64 b.pr)) := H8l.out.cell 4
      have Rl5 : Hid (V2.cell? ⟨w.heap.size + 1 + 1, 5, none⟩ = some (.int .i64 b.ch)) := H8l.out.cell 5
      have Rl6 : Hid (V2.cell? ⟨w.heap.size + 1 + 1, 6, none⟩ = some (.int .i64 b.un)) := H8l.out.cell 6
      go_wp2_with fail
      exact bodyPost_ret (v := .tuple #[.agg #[.int .i64 y.me, .int .i64 y.rv, .int .i64 y.nx, .int .i64 y.mo, .int .i64 y.bo, .int .i64 y.fr, .slice q n c], .agg #[.int .i64 b.id, .int .i64 b.te, .int .i64 b.de, .int .i64 b.fe, .int .i64 b.pr, .int .i64 b.ch, .int .i64 b.un], .int .i64 0]) (by simp [results, Try.results34, Rr0.out, Rr1.out, Rr2.out, Rr3.out, Rr4.out, Rr5.out, Rr6.out, Rl0.out, Rl1.out, Rl2.out, Rl3.out, Rl4.out, Rl5.out, Rl6.out, go_sem]) rfl ⟨y, b, q, n, c, 0, rfl, HV.out, H8F.out.low (by omega), H8B.out⟩
    · have d0 : (f != 0) = true := by simpa using h0
      have HV : Hid (Is ac0 bi0 f) := by
        rcases HOR.out with ⟨_, h⟩ | ⟨h, _⟩
        · exact h
        · exact absurd h h0
      clear HOR h0
      go_wp2_with (first
        | (refine wp_letAll rfl 32 _ _ rfl (w.heap.size + 1) rfl #[.int .i64 0, .int .i64 0, .int .i64 0, .int .i64 0, .int .i64 0, .int .i64 0, .slice none 0 0] rfl (by kernel_rfl) (by simp [Value.oneCell']) #[.int .i64 0, .int .i64 0, .int .i64 0, .int .i64 0, .int .i64 0, .int .i64 0, .slice none 0 0] 32 H5r.out rfl ?_)
        | (refine wp_whole rfl 32 _ rfl (w.heap.size) rfl 32 #[.int .i64 x.me, .int .i64 x.rv, .int .i64 x.nx, .int .i64 x.mo, .int .i64 x.bo, .int .i64 x.fr, .slice p len cap] _ H5d.out Try.underlying32 rfl (by kernel_rfl) ?_)
        | (refine wp_whole rfl 32 _ rfl (w.heap.size + 1) rfl 32 #[.int .i64 0, .int .i64 0, .int .i64 0, .int .i64 0, .int .i64 0, .int .i64 0, .slice none 0 0] _ H5r.out Try.underlying32 rfl (by kernel_rfl) ?_)
        | (refine wp_whole rfl 41 _ rfl (w.heap.size + 1 + 1) rfl 41 #[.int .i64 0, .int .i64 0, .int .i64 0, .int .i64 0, .int .i64 0, .int .i64 0, .int .i64 0] _ H5l.out Try.underlying41 rfl (by kernel_rfl) ?_)
        | (refine wp_whole rfl 78 _ rfl (w1.heap.size) rfl 78 #[.int .i64 y.me, .int .i64 y.rv, .int .i64 y.nx, .int .i64 y.mo, .int .i64 y.bo, .int .i64 y.fr, .slice q n c, .int .i64 b.id, .int .i64 b.te, .int .i64 b.de, .int .i64 b.fe, .int .i64 b.pr, .int .i64 b.ch, .int .i64 b.un] _ H5n.out Try.underlying78 rfl (by kernel_rfl) ?_)
        | fail)
      intro w5a hU
      have H7d : Hid (Blk w5a (w.heap.size) #[.int .i64 x.me, .int .i64 x.rv, .int .i64 x.nx, .int .i64 x.mo, .int .i64 x.bo, .int .i64 x.fr, .slice p len cap] 32) := hU.keep H5d.out (by omega)
      have H7r : Hid (Blk w5a (w.heap.size + 1) #[.int .i64 0, .int .i64 0, .int .i64 0, .int .i64 0, .int .i64 0, .int .i64 0, .slice none 0 0] 32) := hU.blk
      have H7l : Hid (Blk w5a (w.heap.size + 1 + 1) #[.int .i64 0, .int .i64 0, .int .i64 0, .int .i64 0, .int .i64 0, .int .i64 0, .int .i64 0] 41) := hU.keep H5l.out (by omega)
      have H7n : Hid (Blk w5a (w1.heap.size) #[.int .i64 y.me, .int .i64 y.rv, .int .i64 y.nx, .int .i64 y.mo, .int .i64 y.bo, .int .i64 y.fr, .slice q n c, .int .i64 b.id, .int .i64 b.te, .int .i64 b.de, .int .i64 b.fe, .int .i64 b.pr, .int .i64 b.ch, .int .i64 b.un] 78) := hU.keep H5n.out (by omega)
      have H7B : Hid (Below w.heap.size w w5a) := hU.bel _ _ (by omega) H5B.out
      have hsw5a : w5a.heap.size = w5.heap.size := hU.size
      clear hU H5d H5r H5l H5n H5B
      go_wp2_with (first
        | (refine wp_letAll rfl 41 _ _ rfl (w.heap.size + 1 + 1) rfl #[.int .i64 0, .int .i64 0, .int .i64 0, .int .i64 0, .int .i64 0, .int .i64 0, .int .i64 0] rfl (by kernel_rfl) (by simp [Value.oneCell']) #[.int .i64 0, .int .i64 0, .int .i64 0, .int .i64 0, .int .i64 0, .int .i64 0, .int .i64 0] 41 H7l.out rfl ?_)
        | (refine wp_whole rfl 32 _ rfl (w.heap.size) rfl 32 #[.int .i64 x.me, .int .i64 x.rv, .int .i64 x.nx, .int .i64 x.mo, .int .i64 x.bo, .int .i64 x.fr, .slice p len cap] _ H7d.out Try.underlying32 rfl (by kernel_rfl) ?_)
        | (refine wp_whole rfl 32 _ rfl (w.heap.size + 1) rfl 32 #[.int .i64 0, .int .i64 0, .int .i64 0, .int .i64 0, .int .i64 0, .int .i64 0, .slice none 0 0] _ H7r.out Try.underlying32 rfl (by kernel_rfl) ?_)
        | (refine wp_whole rfl 41 _ rfl (w.heap.size + 1 + 1) rfl 41 #[.int .i64 0, .int .i64 0, .int .i64 0, .int .i64 0, .int .i64 0, .int .i64 0, .int .i64 0] _ H7l.out Try.underlying41 rfl (by kernel_rfl) ?_)
        | (refine wp_whole rfl 78 _ rfl (w1.heap.size) rfl 78 #[.int .i64 y.me, .int .i64 y.rv, .int .i64 y.nx, .int .i64 y.mo, .int .i64 y.bo, .int .i64 y.fr, .slice q n c, .int .i64 b.id, .int .i64 b.te, .int .i64 b.de, .int .i64 b.fe, .int .i64 b.pr, .int .i64 b.ch, .int .i64 b.un] _ H7n.out Try.underlying78 rfl (by kernel_rfl) ?_)
        | fail)
      intro w5ab hU
      have H8d : Hid (Blk w5ab (w.heap.size) #[.int .i64 x.me, .int .i64 x.rv, .int .i64 x.nx, .int .i64 x.mo, .int .i64 x.bo, .int .i64 x.fr, .slice p len cap] 32) := hU.keep H7d.out (by omega)
      have H8r : Hid (Blk w5ab (w.heap.size + 1) #[.int .i64 0, .int .i64 0, .int .i64 0, .int .i64 0, .int .i64 0, .int .i64 0, .slice none 0 0] 32) := hU.keep H7r.out (by omega)
      have H8l : Hid (Blk w5ab (w.heap.size + 1 + 1) #[.int .i64 0, .int .i64 0, .int .i64 0, .int .i64 0, .int .i64 0, .int .i64 0, .int .i64 0] 41) := hU.blk
      have H8n : Hid (Blk w5ab (w1.heap.size) #[.int .i64 y.me, .int .i64 y.rv, .int .i64 y.nx, .int .i64 y.mo, .int .i64 y.bo, .int .i64 y.fr, .slice q n c, .int .i64 b.id, .int .i64 b.te, .int .i64 b.de, .int .i64 b.fe, .int .i64 b.pr, .int .i64 b.ch, .int .i64 b.un] 78) := hU.keep H7n.out (by omega)
      have H8B : Hid (Below w.heap.size w w5ab) := hU.bel _ _ (by omega) H7B.out
      have hsw5ab : w5ab.heap.size = w5a.heap.size := hU.size
      clear hU H7d H7r H7l H7n H7B
      have Rr0 : Hid (w5ab.cell? ⟨w.heap.size + 1, 0, none⟩ = some (.int .i64 0)) := H8r.out.cell 0
      have Rr1 : Hid (w5ab.cell? ⟨w.heap.size + 1, 1, none⟩ = some (.int .i64 0)) := H8r.out.cell 1
      have Rr2 : Hid (w5ab.cell? ⟨w.heap.size + 1, 2, none⟩ = some (.int .i64 0)) := H8r.out.cell 2
      have Rr3 : Hid (w5ab.cell? ⟨w.heap.size + 1, 3, none⟩ = some (.int .i64 0)) := H8r.out.cell 3
      have Rr4 : Hid (w5ab.cell? ⟨w.heap.size + 1, 4, none⟩ = some (.int .i64 0)) := H8r.out.cell 4
      have Rr5 : Hid (w5ab.cell? ⟨w.heap.size + 1, 5, none⟩ = some (.int .i64 0)) := H8r.out.cell 5
      have Rr6 : Hid (w5ab.cell? ⟨w.heap.size + 1, 6, none⟩ = some (.slice none 0 0)) := H8r.out.cell 6
      have Rl0 : Hid (w5ab.cell? ⟨w.heap.size + 1 + 1, 0, none⟩ = some (.int .i64 0)) := H8l.out.cell 0
      have Rl1 : Hid (w5ab.cell? ⟨w.heap.size + 1 + 1, 1, none⟩ = some (.int .i64 0)) := H8l.out.cell 1
      have Rl2 : Hid (w5ab.cell? ⟨w.heap.size + 1 + 1, 2, none⟩ = some (.int .i64 0)) := H8l.out.cell 2
      have Rl3 : Hid (w5ab.cell? ⟨w.heap.size + 1 + 1, 3, none⟩ = some (.int .i64 0)) := H8l.out.cell 3
      have Rl4 : Hid (w5ab.cell? ⟨w.heap.size + 1 + 1, 4, none⟩ = some (.int .i64 0)) := H8l.out.cell 4
      have Rl5 : Hid (w5ab.cell? ⟨w.heap.size + 1 + 1, 5, none⟩ = some (.int .i64 0)) := H8l.out.cell 5
      have Rl6 : Hid (w5ab.cell? ⟨w.heap.size + 1 + 1, 6, none⟩ = some (.int .i64 0)) := H8l.out.cell 6
      go_wp2_with fail
      exact bodyPost_ret (v := .tuple #[.agg #[.int .i64 0, .int .i64 0, .int .i64 0, .int .i64 0, .int .i64 0, .int .i64 0, .slice none 0 0], .agg #[.int .i64 0, .int .i64 0, .int .i64 0, .int .i64 0, .int .i64 0, .int .i64 0, .int .i64 0], .int .i64 f]) (by simp [results, Try.results34, Rr0.out, Rr1.out, Rr2.out, Rr3.out, Rr4.out, Rr5.out, Rr6.out, Rl0.out, Rl1.out, Rl2.out, Rl3.out, Rl4.out, Rl5.out, Rl6.out, go_sem]) rfl ⟨ac0, bi0, none, 0, 0, _, rfl, HV.out, deb.fresh_nil _ _, H8B.out⟩

end Go.Proofs.Ytlolippocnngcaa.acc

/- account.Grant. -/
namespace Go.Proofs.Ytlolippocnngcaa.acc
open Go.Proofs.Ytlolippocnngcaa.tar (Du du0 Came RowD Ld PairT)
open Go.RowKit
set_option maxRecDepth 100000
set_option linter.unusedVariables false
set_option linter.unusedSimpArgs false

set_option maxHeartbeats 1000000 in
theorem pgrant1 (B0 B1 g : Nat) (x : Ac) (p : Option Addr) (len cap : Nat) (t : Tm) (pt : Option Addr) (lt ct : Nat) (m : Int) (w : World) (hB0 : Blk w B0 #[.slice pt lt ct, .int .i64 t.ff, .int .i64 t.fb, .int .i64 t.db, .int .i64 t.al] 24) (hB1 : Blk w B1 #[.int .i64 m] 3) (hw : Blk w g (wcs x bi0 p len cap) 78) (hd : deb.Fresh w (g + 1) p len cap x.ds) (ha : AMay x) (ht : Came w pt lt ct t.ts) (hwf : wf4 t) (hfar : Far pt lt g) : Calls Try.prog 45 #[.pointer (some ⟨g, 0, none⟩), .pointer (some ⟨B0, 0, none⟩), .pointer (some ⟨B1, 0, none⟩)] w fun e w' => WPost w g (Or0 (GrantIs x t m)) e w' := by
  have HIN : Hid (Calls Try.prog 46 #[.pointer (some ⟨g, 0, none⟩), .agg #[.slice pt lt ct, .int .i64 t.ff, .int .i64 t.fb, .int .i64 t.db, .int .i64 t.al], .int .i64 m] w fun e w' => WPost w g (Or0 (GrantIs x t m)) e w') := (pgrant g x p len cap t pt lt ct m w hw hd ha ht hwf hfar).mono fun e w' h => h.w (Nat.le_of_lt hw.lt)
  have HK0 : Hid (Blk w B0 #[.slice pt lt ct, .int .i64 t.ff, .int .i64 t.fb, .int .i64 t.db, .int .i64 t.al] 24) := hB0
  have HK1 : Hid (Blk w B1 #[.int .i64 m] 3) := hB1
  have qB1 : w.cell? ⟨B1, 0, none⟩ = some (.int .i64 m) := hB1.cell 0
  clear hw ha hd ht hwf hfar
  go_enter Try.func45, Try.ntmps45
  go_wp2_with (first | (refine wp_whole rfl 24 _ rfl B0 rfl 24 #[.slice pt lt ct, .int .i64 t.ff, .int .i64 t.fb, .int .i64 t.db, .int .i64 t.al] _ HK0.out Try.underlying24 rfl (by kernel_rfl) ?_) | fail)
  refine HIN.out.mono ?_
  rintro e w1 hx
  have HX : Hid (WPost w g (Or0 (GrantIs x t m)) e w1) := hx
  obtain ⟨y, b, q, n, c, f, rfl, _⟩ := hx
  clear HIN
  go_wp2_with fail
  go_ret
  exact HX.out
set_option maxHeartbeats 4000000 in
theorem kgrant : KcGrant := by
  intro w x p len cap t pt lt ct m ha ht hm
  unfold Ac.v Ac.cs Tm.v
  have H0d : Hid (Blk (((((w.alloc (.cells #[.int .i64 x.me, .int .i64 x.rv, .int .i64 x.nx, .int .i64 x.mo, .int .i64 x.bo, .int .i64 x.fr, .slice p len cap] 32)).alloc (.cells #[.slice pt lt ct, .int .i64 t.ff, .int .i64 t.fb, .int .i64 t.db, .int .i64 t.al] 24)).alloc (.cells #[.int .i64 m] 3)).alloc (.cells #[.int .i64 0, .int .i64 0, .int .i64 0, .int .i64 0, .int .i64 0, .int .i64 0, .slice none 0 0] 32)).alloc (.cells #[.int .i64 0, .int .i64 0, .int .i64 0, .int .i64 0, .int .i64 0, .int .i64 0, .int .i64 0] 41)) (w.heap.size) #[.int .i64 x.me, .int .i64 x.rv, .int .i64 x.nx, .int .i64 x.mo, .int .i64 x.bo, .int .i64 x.fr, .slice p len cap] 32) := ((((Blk.new w _ _).alloc _).alloc _).alloc _).alloc _
  have H0t : Hid (Blk (((((w.alloc (.cells #[.int .i64 x.me, .int .i64 x.rv, .int .i64 x.nx, .int .i64 x.mo, .int .i64 x.bo, .int .i64 x.fr, .slice p len cap] 32)).alloc (.cells #[.slice pt lt ct, .int .i64 t.ff, .int .i64 t.fb, .int .i64 t.db, .int .i64 t.al] 24)).alloc (.cells #[.int .i64 m] 3)).alloc (.cells #[.int .i64 0, .int .i64 0, .int .i64 0, .int .i64 0, .int .i64 0, .int .i64 0, .slice none 0 0] 32)).alloc (.cells #[.int .i64 0, .int .i64 0, .int .i64 0, .int .i64 0, .int .i64 0, .int .i64 0, .int .i64 0] 41)) (w.heap.size + 1) #[.slice pt lt ct, .int .i64 t.ff, .int .i64 t.fb, .int .i64 t.db, .int .i64 t.al] 24) := (((Blk.new1 w _ _ _).alloc _).alloc _).alloc _
  have H0m : Hid (Blk (((((w.alloc (.cells #[.int .i64 x.me, .int .i64 x.rv, .int .i64 x.nx, .int .i64 x.mo, .int .i64 x.bo, .int .i64 x.fr, .slice p len cap] 32)).alloc (.cells #[.slice pt lt ct, .int .i64 t.ff, .int .i64 t.fb, .int .i64 t.db, .int .i64 t.al] 24)).alloc (.cells #[.int .i64 m] 3)).alloc (.cells #[.int .i64 0, .int .i64 0, .int .i64 0, .int .i64 0, .int .i64 0, .int .i64 0, .slice none 0 0] 32)).alloc (.cells #[.int .i64 0, .int .i64 0, .int .i64 0, .int .i64 0, .int .i64 0, .int .i64 0, .int .i64 0] 41)) (w.heap.size + 1 + 1) #[.int .i64 m] 3) := ((Blk.new2 w _ _ _ _).alloc _).alloc _
  have H0r : Hid (Blk (((((w.alloc (.cells #[.int .i64 x.me, .int .i64 x.rv, .int .i64 x.nx, .int .i64 x.mo, .int .i64 x.bo, .int .i64 x.fr, .slice p len cap] 32)).alloc (.cells #[.slice pt lt ct, .int .i64 t.ff, .int .i64 t.fb, .int .i64 t.db, .int .i64 t.al] 24)).alloc (.cells #[.int .i64 m] 3)).alloc (.cells #[.int .i64 0, .int .i64 0, .int .i64 0, .int .i64 0, .int .i64 0, .int .i64 0, .slice none 0 0] 32)).alloc (.cells #[.int .i64 0, .int .i64 0, .int .i64 0, .int .i64 0, .int .i64 0, .int .i64 0, .int .i64 0] 41)) (w.heap.size + 1 + 1 + 1) #[.int .i64 0, .int .i64 0, .int .i64 0, .int .i64 0, .int .i64 0, .int .i64 0, .slice none 0 0] 32) := (Blk.new3 w _ _ _ _ _).alloc _
  have H0l : Hid (Blk (((((w.alloc (.cells #[.int .i64 x.me, .int .i64 x.rv, .int .i64 x.nx, .int .i64 x.mo, .int .i64 x.bo, .int .i64 x.fr, .slice p len cap] 32)).alloc (.cells #[.slice pt lt ct, .int .i64 t.ff, .int .i64 t.fb, .int .i64 t.db, .int .i64 t.al] 24)).alloc (.cells #[.int .i64 m] 3)).alloc (.cells #[.int .i64 0, .int .i64 0, .int .i64 0, .int .i64 0, .int .i64 0, .int .i64 0, .slice none 0 0] 32)).alloc (.cells #[.int .i64 0, .int .i64 0, .int .i64 0, .int .i64 0, .int .i64 0, .int .i64 0, .int .i64 0] 41)) (w.heap.size + 1 + 1 + 1 + 1) #[.int .i64 0, .int .i64 0, .int .i64 0, .int .i64 0, .int .i64 0, .int .i64 0, .int .i64 0] 41) := blk_new4 w _ _ _ _ _ _
  have H0B : Hid (Below w.heap.size w (((((w.alloc (.cells #[.int .i64 x.me, .int .i64 x.rv, .int .i64 x.nx, .int .i64 x.mo, .int .i64 x.bo, .int .i64 x.fr, .slice p len cap] 32)).alloc (.cells #[.slice pt lt ct, .int .i64 t.ff, .int .i64 t.fb, .int .i64 t.db, .int .i64 t.al] 24)).alloc (.cells #[.int .i64 m] 3)).alloc (.cells #[.int .i64 0, .int .i64 0, .int .i64 0, .int .i64 0, .int .i64 0, .int .i64 0, .slice none 0 0] 32)).alloc (.cells #[.int .i64 0, .int .i64 0, .int .i64 0, .int .i64 0, .int .i64 0, .int .i64 0, .int .i64 0] 41))) := (((((Below.refl w.heap.size w).alloc (by simp) _).alloc (by simp) _).alloc (by simp; omega) _).alloc (by simp; omega) _).alloc (by simp; omega) _
  have H0R : Hid (Came (((((w.alloc (.cells #[.int .i64 x.me, .int .i64 x.rv, .int .i64 x.nx, .int .i64 x.mo, .int .i64 x.bo, .int .i64 x.fr, .slice p len cap] 32)).alloc (.cells #[.slice pt lt ct, .int .i64 t.ff, .int .i64 t.fb, .int .i64 t.db, .int .i64 t.al] 24)).alloc (.cells #[.int .i64 m] 3)).alloc (.cells #[.int .i64 0, .int .i64 0, .int .i64 0, .int .i64 0, .int .i64 0, .int .i64 0, .slice none 0 0] 32)).alloc (.cells #[.int .i64 0, .int .i64 0, .int .i64 0, .int .i64 0, .int .i64 0, .int .i64 0, .int .i64 0] 41)) p len cap x.ds) := ha.ds.below H0B.out
  have hs0 : w.heap.size + 1 + 1 + 1 + 1 < (((((w.alloc (.cells #[.int .i64 x.me, .int .i64 x.rv, .int .i64 x.nx, .int .i64 x.mo, .int .i64 x.bo, .int .i64 x.fr, .slice p len cap] 32)).alloc (.cells #[.slice pt lt ct, .int .i64 t.ff, .int .i64 t.fb, .int .i64 t.db, .int .i64 t.al] 24)).alloc (.cells #[.int .i64 m] 3)).alloc (.cells #[.int .i64 0, .int .i64 0, .int .i64 0, .int .i64 0, .int .i64 0, .int .i64 0, .slice none 0 0] 32)).alloc (.cells #[.int .i64 0, .int .i64 0, .int .i64 0, .int .i64 0, .int .i64 0, .int .i64 0, .int .i64 0] 41)).heap.size := H0l.out.lt
  generalize hWW : (((((w.alloc (.cells #[.int .i64 x.me, .int .i64 x.rv, .int .i64 x.nx, .int .i64 x.mo, .int .i64 x.bo, .int .i64 x.fr, .slice p len cap] 32)).alloc (.cells #[.slice pt lt ct, .int .i64 t.ff, .int .i64 t.fb, .int .i64 t.db, .int .i64 t.al] 24)).alloc (.cells #[.int .i64 m] 3)).alloc (.cells #[.int .i64 0, .int .i64 0, .int .i64 0, .int .i64 0, .int .i64 0, .int .i64 0, .slice none 0 0] 32)).alloc (.cells #[.int .i64 0, .int .i64 0, .int .i64 0, .int .i64 0, .int .i64 0, .int .i64 0, .int .i64 0] 41)) = W0 at *
  have HWW : Hid ((((((w.alloc (.cells #[.int .i64 x.me, .int .i64 x.rv, .int .i64 x.nx, .int .i64 x.mo, .int .i64 x.bo, .int .i64 x.fr, .slice p len cap] 32)).alloc (.cells #[.slice pt lt ct, .int .i64 t.ff, .int .i64 t.fb, .int .i64 t.db, .int .i64 t.al] 24)).alloc (.cells #[.int .i64 m] 3)).alloc (.cells #[.int .i64 0, .int .i64 0, .int .i64 0, .int .i64 0, .int .i64 0, .int .i64 0, .slice none 0 0] 32)).alloc (.cells #[.int .i64 0, .int .i64 0, .int .i64 0, .int .i64 0, .int .i64 0, .int .i64 0, .int .i64 0] 41)) = W0) := hWW
  clear hWW
  go_enter Try.func21, Try.ntmps21
  go_upto_region 1 with fail
  rw [HWW.out]
  clear HWW
  have HXt : Hid (∀ W, Below W0.heap.size W0 W → Blk W (w.heap.size + 1) #[.slice pt lt ct, .int .i64 t.ff, .int .i64 t.fb, .int .i64 t.db, .int .i64 t.al] 24) := fun W hW => H0t.out.next hW
  have HXm : Hid (∀ W, Below W0.heap.size W0 W → Blk W (w.heap.size + 1 + 1) #[.int .i64 m] 3) := fun W hW => H0m.out.next hW
  have HTC : Hid (Came w pt lt ct t.ts) := ht.ts
  have HBW : Hid (Below w.heap.size w W0) := H0B.out
  have hbw : w.heap.size ≤ W0.heap.size := H0B.out.size
  have HWK : Hid (Calls Try.prog 34 #[.agg #[.int .i64 x.me, .int .i64 x.rv, .int .i64 x.nx, .int .i64 x.mo, .int .i64 x.bo, .int .i64 x.fr, .slice p len cap], .func (.func 45) #[] #[.pointer (some ⟨w.heap.size + 1, 0, none⟩), .pointer (some ⟨w.heap.size + 1 + 1, 0, none⟩)]] W0 fun e w' => BPost W0 (GrantIs x t m) e w') := by
    refine pwork 45 #[.pointer (some ⟨w.heap.size + 1, 0, none⟩), .pointer (some ⟨w.heap.size + 1 + 1, 0, none⟩)] (GrantIs x t m) x p len cap W0 H0R.out (fun h => .inl ⟨.inl ⟨h, rfl⟩, rfl, rfl⟩) (fun _ _ => by kernel_rfl) ?_
    intro hm W g p' cap' hB hg hblk hld
    have HFR : deb.Fresh W (g + 1) p' len cap' x.ds := by
      obtain ⟨a0, c0, hv, hfr⟩ := deb.ld_fresh hld hm.1
      injection hv with h1 h2 h3
      rw [h1, h2, h3]; exact hfr
    have hfar : Far pt lt g := fun hn y hy => by have := came_lt HTC.out hn y hy; omega
    exact pgrant1 _ _ g x p' len cap' t pt lt ct m W (HXt.out W hB) (HXm.out W hB) hblk HFR hm (HTC.out.below (HBW.out.trans (hB.mono hbw))) ht.wf hfar
  clear ha ht HXt HXm
  go_wp2_with (first
    | (refine wp_whole rfl 32 _ rfl (w.heap.size) rfl 32 #[.int .i64 x.me, .int .i64 x.rv, .int .i64 x.nx, .int .i64 x.mo, .int .i64 x.bo, .int .i64 x.fr, .slice p len cap] _ H0d.out Try.underlying32 rfl (by kernel_rfl) ?_)
    | (refine wp_whole rfl 24 _ rfl (w.heap.size + 1) rfl 24 #[.slice pt lt ct, .int .i64 t.ff, .int .i64 t.fb, .int .i64 t.db, .int .i64 t.al] _ H0t.out Try.underlying24 rfl (by kernel_rfl) ?_)
    | (refine wp_whole rfl 3 _ rfl (w.heap.size + 1 + 1) rfl 3 #[.int .i64 m] _ H0m.out Try.underlying3 rfl (by kernel_rfl) ?_)
    | (refine wp_whole rfl 32 _ rfl (w.heap.size + 1 + 1 + 1) rfl 32 #[.int .i64 0, .int .i64 0, .int .i64 0, .int .i64 0, .int .i64 0, .int .i64 0, .slice none 0 0] _ H0r.out Try.underlying32 rfl (by kernel_rfl) ?_)
    | (refine wp_whole rfl 41 _ rfl (w.heap.size + 1 + 1 + 1 + 1) rfl 41 #[.int .i64 0, .int .i64 0, .int .i64 0, .int .i64 0, .int .i64 0, .int .i64 0, .int .i64 0] _ H0l.out Try.underlying41 rfl (by kernel_rfl) ?_)
    | fail)
  refine HWK.out.mono ?_
  rintro e w1 ⟨b, l, pr, lr, cr, fz, rfl, hi, hf, hb1⟩
  have H1d : Hid (Blk w1 (w.heap.size) #[.int .i64 x.me, .int .i64 x.rv, .int .i64 x.nx, .int .i64 x.mo, .int .i64 x.bo, .int .i64 x.fr, .slice p len cap] 32) := H0d.out.next hb1
  have H1t : Hid (Blk w1 (w.heap.size + 1) #[.slice pt lt ct, .int .i64 t.ff, .int .i64 t.fb, .int .i64 t.db, .int .i64 t.al] 24) := H0t.out.next hb1
  have H1m : Hid (Blk w1 (w.heap.size + 1 + 1) #[.int .i64 m] 3) := H0m.out.next hb1
  have H1r : Hid (Blk w1 (w.heap.size + 1 + 1 + 1) #[.int .i64 0, .int .i64 0, .int .i64 0, .int .i64 0, .int .i64 0, .int .i64 0, .slice none 0 0] 32) := H0r.out.next hb1
  have H1l : Hid (Blk w1 (w.heap.size + 1 + 1 + 1 + 1) #[.int .i64 0, .int .i64 0, .int .i64 0, .int .i64 0, .int .i64 0, .int .i64 0, .int .i64 0] 41) := H0l.out.next hb1
  have H1R : Hid (Came w1 p len cap x.ds) := H0R.out.below hb1
  have H1B : Hid (Below w.heap.size w w1) := H0B.out.trans (hb1.mono H0B.out.size)
  have hsw1 : W0.heap.size ≤ w1.heap.size := hb1.size
  clear hb1 H0d H0t H0m H0r H0l H0R H0B
  unfold Ac.v Ac.cs Bi.v
  clear HWK
  have H2F : Hid (deb.Fresh w1 W0.heap.size pr lr cr b.ds) := hf
  have HUPF : Hid (0 < lr → ∀ y, pr = some y → y.block < w1.heap.size) := came_lt H2F.out.came
  have HV : Hid (GrantIs x t m b l fz) := hi
  clear hf hi
  go_wp2_with (first
    | (refine wp_letAll rfl 32 _ _ rfl (w.heap.size + 1 + 1 + 1) rfl #[.int .i64 b.me, .int .i64 b.rv, .int .i64 b.nx, .int .i64 b.mo, .int .i64 b.bo, .int .i64 b.fr, .slice pr lr cr] rfl (by kernel_rfl) (by simp [Value.oneCell']) #[.int .i64 0, .int .i64 0, .int .i64 0, .int .i64 0, .int .i64 0, .int .i64 0, .slice none 0 0] 32 H1r.out rfl ?_)
    | (refine wp_whole rfl 32 _ rfl (w.heap.size) rfl 32 #[.int .i64 x.me, .int .i64 x.rv, .int .i64 x.nx, .int .i64 x.mo, .int .i64 x.bo, .int .i64 x.fr, .slice p len cap] _ H1d.out Try.underlying32 rfl (by kernel_rfl) ?_)
    | (refine wp_whole rfl 24 _ rfl (w.heap.size + 1) rfl 24 #[.slice pt lt ct, .int .i64 t.ff, .int .i64 t.fb, .int .i64 t.db, .int .i64 t.al] _ H1t.out Try.underlying24 rfl (by kernel_rfl) ?_)
    | (refine wp_whole rfl 3 _ rfl (w.heap.size + 1 + 1) rfl 3 #[.int .i64 m] _ H1m.out Try.underlying3 rfl (by kernel_rfl) ?_)
    | (refine wp_whole rfl 32 _ rfl (w.heap.size + 1 + 1 + 1) rfl 32 #[.int .i64 0, .int .i64 0, .int .i64 0, .int .i64 0, .int .i64 0, .int .i64 0, .slice none 0 0] _ H1r.out Try.underlying32 rfl (by kernel_rfl) ?_)
    | (refine wp_whole rfl 41 _ rfl (w.heap.size + 1 + 1 + 1 + 1) rfl 41 #[.int .i64 0, .int .i64 0, .int .i64 0, .int .i64 0, .int .i64 0, .int .i64 0, .int .i64 0] _ H1l.out Try.underlying41 rfl (by kernel_rfl) ?_)
    | fail)
  intro W4 hU
  have H3d : Hid (Blk W4 (w.heap.size) #[.int .i64 x.me, .int .i64 x.rv, .int .i64 x.nx, .int .i64 x.mo, .int .i64 x.bo, .int .i64 x.fr, .slice p len cap] 32) := hU.keep H1d.out (by omega)
  have H3t : Hid (Blk W4 (w.heap.size + 1) #[.slice pt lt ct, .int .i64 t.ff, .int .i64 t.fb, .int .i64 t.db, .int .i64 t.al] 24) := hU.keep H1t.out (by omega)
  have H3m : Hid (Blk W4 (w.heap.size + 1 + 1) #[.int .i64 m] 3) := hU.keep H1m.out (by omega)
  have H3r : Hid (Blk W4 (w.heap.size + 1 + 1 + 1) #[.int .i64 b.me, .int .i64 b.rv, .int .i64 b.nx, .int .i64 b.mo, .int .i64 b.bo, .int .i64 b.fr, .slice pr lr cr] 32) := hU.blk
  have H3l : Hid (Blk W4 (w.heap.size + 1 + 1 + 1 + 1) #[.int .i64 0, .int .i64 0, .int .i64 0, .int .i64 0, .int .i64 0, .int .i64 0, .int .i64 0] 41) := hU.keep H1l.out (by omega)
  have H3F : Hid (deb.Fresh W4 W0.heap.size pr lr cr b.ds) := fresh_updN H2F.out hU (fun hn y hy => by have f1 := H2F.out.new hn y hy; have f2 := HUPF.out hn y hy; omega)
  have H3B : Hid (Below w.heap.size w W4) := hU.bel _ _ (by omega) H1B.out
  have hsW4 : W4.heap.size = w1.heap.size := hU.size
  clear hU H1d H1t H1m H1r H1l H2F H1B
  go_wp2_with (first
    | (refine wp_letAll rfl 41 _ _ rfl (w.heap.size + 1 + 1 + 1 + 1) rfl #[.int .i64 l.id, .int .i64 l.te, .int .i64 l.de, .int .i64 l.fe, .int .i64 l.pr, .int .i64 l.ch, .int .i64 l.un] rfl (by kernel_rfl) (by simp [Value.oneCell']) #[.int .i64 0, .int .i64 0, .int .i64 0, .int .i64 0, .int .i64 0, .int .i64 0, .int .i64 0] 41 H3l.out rfl ?_)
    | (refine wp_whole rfl 32 _ rfl (w.heap.size) rfl 32 #[.int .i64 x.me, .int .i64 x.rv, .int .i64 x.nx, .int .i64 x.mo, .int .i64 x.bo, .int .i64 x.fr, .slice p len cap] _ H3d.out Try.underlying32 rfl (by kernel_rfl) ?_)
    | (refine wp_whole rfl 24 _ rfl (w.heap.size + 1) rfl 24 #[.slice pt lt ct, .int .i64 t.ff, .int .i64 t.fb, .int .i64 t.db, .int .i64 t.al] _ H3t.out Try.underlying24 rfl (by kernel_rfl) ?_)
    | (refine wp_whole rfl 3 _ rfl (w.heap.size + 1 + 1) rfl 3 #[.int .i64 m] _ H3m.out Try.underlying3 rfl (by kernel_rfl) ?_)
    | (refine wp_whole rfl 32 _ rfl (w.heap.size + 1 + 1 + 1) rfl 32 #[.int .i64 b.me, .int .i64 b.rv, .int .i64 b.nx, .int .i64 b.mo, .int .i64 b.bo, .int .i64 b.fr, .slice pr lr cr] _ H3r.out Try.underlying32 rfl (by kernel_rfl) ?_)
    | (refine wp_whole rfl 41 _ rfl (w.heap.size + 1 + 1 + 1 + 1) rfl 41 #[.int .i64 0, .int .i64 0, .int .i64 0, .int .i64 0, .int .i64 0, .int .i64 0, .int .i64 0] _ H3l.out Try.underlying41 rfl (by kernel_rfl) ?_)
    | fail)
  intro W5 hU
  have H4d : Hid (Blk W5 (w.heap.size) #[.int .i64 x.me, .int .i64 x.rv, .int .i64 x.nx, .int .i64 x.mo, .int .i64 x.bo, .int .i64 x.fr, .slice p len cap] 32) := hU.keep H3d.out (by omega)
  have H4t : Hid (Blk W5 (w.heap.size + 1) #[.slice pt lt ct, .int .i64 t.ff, .int .i64 t.fb, .int .i64 t.db, .int .i64 t.al] 24) := hU.keep H3t.out (by omega)
  have H4m : Hid (Blk W5 (w.heap.size + 1 + 1) #[.int .i64 m] 3) := hU.keep H3m.out (by omega)
  have H4r : Hid (Blk W5 (w.heap.size + 1 + 1 + 1) #[.int .i64 b.me, .int .i64 b.rv, .int .i64 b.nx, .int .i64 b.mo, .int .i64 b.bo, .int .i64 b.fr, .slice pr lr cr] 32) := hU.keep H3r.out (by omega)
  have H4l : Hid (Blk W5 (w.heap.size + 1 + 1 + 1 + 1) #[.int .i64 l.id, .int .i64 l.te, .int .i64 l.de, .int .i64 l.fe, .int .i64 l.pr, .int .i64 l.ch, .int .i64 l.un] 41) := hU.blk
  have H4F : Hid (deb.Fresh W5 W0.heap.size pr lr cr b.ds) := fresh_updN H3F.out hU (fun hn y hy => by have f1 := H3F.out.new hn y hy; have f2 := HUPF.out hn y hy; omega)
  have H4B : Hid (Below w.heap.size w W5) := hU.bel _ _ (by omega) H3B.out
  have hsW5 : W5.heap.size = W4.heap.size := hU.size
  clear hU H3d H3t H3m H3r H3l H3F H3B
  have Rr0 : Hid (W5.cell? ⟨w.heap.size + 1 + 1 + 1, 0, none⟩ = some (.int .i64 b.me)) := H4r.out.cell 0
  have Rr1 : Hid (W5.cell? ⟨w.heap.size + 1 + 1 + 1, 1, none⟩ = some (.int .i64 b.rv)) := H4r.out.cell 1
  have Rr2 : Hid (W5.cell? ⟨w.heap.size + 1 + 1 + 1, 2, none⟩ = some (.int .i64 b.nx)) := H4r.out.cell 2
  have Rr3 : Hid (W5.cell? ⟨w.heap.size + 1 + 1 + 1, 3, none⟩ = some (.int .i64 b.mo)) := H4r.out.cell 3
  have Rr4 : Hid (W5.cell? ⟨w.heap.size + 1 + 1 + 1, 4, none⟩ = some (.int .i64 b.bo)) := H4r.out.cell 4
  have Rr5 : Hid (W5.cell? ⟨w.heap.size + 1 + 1 + 1, 5, none⟩ = some (.int .i64 b.fr)) := H4r.out.cell 5
  have Rr6 : Hid (W5.cell? ⟨w.heap.size + 1 + 1 + 1, 6, none⟩ = some (.slice pr lr cr)) := H4r.out.cell 6
  have Rl0 : Hid (W5.cell? ⟨w.heap.size + 1 + 1 + 1 + 1, 0, none⟩ = some (.int .i64 l.id)) := H4l.out.cell 0
  have Rl1 : Hid (W5.cell? ⟨w.heap.size + 1 + 1 + 1 + 1, 1, none⟩ = some (.int .i64 l.te)) := H4l.out.cell 1
  have Rl2 : Hid (W5.cell? ⟨w.heap.size + 1 + 1 + 1 + 1, 2, none⟩ = some (.int .i64 l.de)) := H4l.out.cell 2
  have Rl3 : Hid (W5.cell? ⟨w.heap.size + 1 + 1 + 1 + 1, 3, none⟩ = some (.int .i64 l.fe)) := H4l.out.cell 3
  have Rl4 : Hid (W5.cell? ⟨w.heap.size + 1 + 1 + 1 + 1, 4, none⟩ = some (.int .i64 l.pr)) := H4l.out.cell 4
  have Rl5 : Hid (W5.cell? ⟨w.heap.size + 1 + 1 + 1 + 1, 5, none⟩ = some (.int .i64 l.ch)) := H4l.out.cell 5
  have Rl6 : Hid (W5.cell? ⟨w.heap.size + 1 + 1 + 1 + 1, 6, none⟩ = some (.int .i64 l.un)) := H4l.out.cell 6
  go_wp2_with fail
  exact bodyPost_ret (v := .tuple #[.agg #[.int .i64 b.me, .int .i64 b.rv, .int .i64 b.nx, .int .i64 b.mo, .int .i64 b.bo, .int .i64 b.fr, .slice pr lr cr], .agg #[.int .i64 l.id, .int .i64 l.te, .int .i64 l.de, .int .i64 l.fe, .int .i64 l.pr, .int .i64 l.ch, .int .i64 l.un], .int .i64 fz]) (by simp [results, Try.results21, Rr0.out, Rr1.out, Rr2.out, Rr3.out, Rr4.out, Rr5.out, Rr6.out, Rl0.out, Rl1.out, Rl2.out, Rl3.out, Rl4.out, Rl5.out, Rl6.out, go_sem]) rfl ⟨b, l, pr, lr, cr, fz, rfl, HV.out, H4F.out.low (by omega), H4B.out⟩

end Go.Proofs.Ytlolippocnngcaa.acc

/- An account that came in. -/
namespace Go.Proofs.Ytlolippocnngcaa.acc
open Go.ChangeShapes Go.WideShapes Go.ChangeAt Go.RowKit Go.Deep
set_option maxRecDepth 100000
set_option linter.unusedVariables false

theorem open_acc {H : Type} {enc : TypeId × Value → H} {W : World} {r : Reach} {b0 b1 : Nat} {held : Bool} {v : Value} {d : DataW H} {ps : List MemPlace}
    (hval : Value.okWide Try.prog W r b0 32 v) (h : DataW.Trod enc Try.prog W b1 (fun _ => true) held 32 v d ps) (hs : ∀ n ∈ d.weights Try.prog 32, n ≤ reachBytes) :
    ∃ (x : Ac) (p : Option Addr) (len cap : Nat), v = x.v p len cap ∧ ACame W x p len cap := by
  have hu := Try.underlying32
  have hc : Try.prog.cellsOf 32 = 7 := by kernel_rfl
  have ci : Try.prog.cellsOf 3 = 1 := by kernel_rfl
  have csl : Try.prog.cellsOf 30 = 1 := by kernel_rfl
  obtain ⟨cs, rfl, hsz⟩ := okWide_struct hu hval
  rw [hc] at hsz
  obtain ⟨c0, c1, c2, c3, c4, c5, c6, rfl⟩ : ∃ c0 c1 c2 c3 c4 c5 c6, cs = #[c0, c1, c2, c3, c4, c5, c6] := by
    cases cs with
    | mk l => match l, hsz with
      | [c0, c1, c2, c3, c4, c5, c6], _ => exact ⟨c0, c1, c2, c3, c4, c5, c6, rfl⟩
  obtain ⟨fuel, hf⟩ := h
  obtain ⟨xs, n, hx, hd, _, hlen, hg⟩ := DataW.trod_struct hu hf
  match xs, hlen with
  | [y0, y1, y2, y3, y4, y5, y6], _ =>
    have g0 := hg 0 _ rfl
    have g1 := hg 1 _ rfl
    have g2 := hg 2 _ rfl
    have g3 := hg 3 _ rfl
    have g4 := hg 4 _ rfl
    have g5 := hg 5 _ rfl
    have g6 := hg 6 _ rfl
    simp [Value.cells, ci, csl] at g0 g1 g2 g3 g4 g5 g6
    obtain ⟨x0, e0, -, w0⟩ := DataW.trod_int Try.underlying3 g0
    obtain ⟨x1, e1, -, w1⟩ := DataW.trod_int Try.underlying3 g1
    obtain ⟨x2, e2, -, w2⟩ := DataW.trod_int Try.underlying3 g2
    obtain ⟨x3, e3, -, w3⟩ := DataW.trod_int Try.underlying3 g3
    obtain ⟨x4, e4, -, w4⟩ := DataW.trod_int Try.underlying3 g4
    obtain ⟨x5, e5, -, w5⟩ := DataW.trod_int Try.underlying3 g5
    simp at e0 e1 e2 e3 e4 e5
    subst e0 e1 e2 e3 e4 e5
    rcases Deep.open_slice_pairs Try.underlying30 Try.underlying48 (by kernel_rfl) rfl rfl (by kernel_rfl) (by kernel_rfl) g6 with ⟨hcs, _⟩ | ⟨x, l, c, mm, fu, V0, V1, D0, D1, P0, P1, hcs, _, hl, hm, hmm, hy, hall⟩
    · simp at hcs
      subst hcs
      exact ⟨⟨x0, x1, x2, x3, x4, x5, []⟩, none, 0, 0, rfl, ⟨tar.RowD.nil _ _, (fun _ => rfl), Nat.le_refl _, by omega, (fun x hx => by cases hx)⟩, ⟨w0, w1, w2, w3, w4, w5⟩⟩
    · simp at hcs
      subst hcs
      simp only [if_true] at hmm
      subst hmm
      have hr := tar.rowD_of (len := l) (w := W) (a := x) (m := mm) (by omega) (fun j hj => by
        obtain ⟨k0, k1, t0, t1⟩ := hall j hj
        obtain ⟨z0, hv0, _, hw0⟩ := DataW.trod_int Try.underlying3 t0
        obtain ⟨z1, hv1, _, hw1⟩ := DataW.trod_int Try.underlying3 t1
        simp only [List.cons.injEq, and_true] at hv0 hv1
        rw [hv0] at k0
        rw [hv1] at k1
        exact ⟨z0, z1, k0, k1, hw0, hw1⟩)
      obtain ⟨zs, r1, r2⟩ := hr
      subst hy
      obtain ⟨hd1, _⟩ := Prod.mk.inj hd
      subst hd1
      have h1 := hs ((l + (mm - l)) * Try.prog.bytesOf 48) (by simp [DataW.weights, hu, DataW.weightsEach, Try.underlying30])
      rw [show Try.prog.bytesOf 48 = 16 from by kernel_rfl] at h1
      simp only [reachBytes] at h1
      exact ⟨⟨x0, x1, x2, x3, x4, x5, zs⟩, some x, l, mm, rfl, ⟨r1, (fun h => by cases h), hl, by omega, r2⟩, ⟨w0, w1, w2, w3, w4, w5⟩⟩

end Go.Proofs.Ytlolippocnngcaa.acc

/- Terms that came in. -/
namespace Go.Proofs.Ytlolippocnngcaa.acc
open Go.ChangeShapes Go.WideShapes Go.ChangeAt Go.RowKit Go.Deep
set_option maxRecDepth 100000
set_option linter.unusedVariables false

theorem open_terms {H : Type} {enc : TypeId × Value → H} {W : World} {r : Reach} {b0 b1 : Nat} {held : Bool} {v : Value} {d : DataW H} {ps : List MemPlace}
    (hval : Value.okWide Try.prog W r b0 24 v) (h : DataW.Trod enc Try.prog W b1 (fun _ => true) held 24 v d ps) (hs : ∀ n ∈ d.weights Try.prog 24, n ≤ reachBytes) :
    ∃ (x : Tm) (p : Option Addr) (len cap : Nat), v = x.v p len cap ∧ TCame W x p len cap := by
  have hu := Try.underlying24
  have hc : Try.prog.cellsOf 24 = 5 := by kernel_rfl
  have ci : Try.prog.cellsOf 3 = 1 := by kernel_rfl
  have csl : Try.prog.cellsOf 22 = 1 := by kernel_rfl
  obtain ⟨cs, rfl, hsz⟩ := okWide_struct hu hval
  rw [hc] at hsz
  obtain ⟨c0, c1, c2, c3, c4, rfl⟩ : ∃ c0 c1 c2 c3 c4, cs = #[c0, c1, c2, c3, c4] := by
    cases cs with
    | mk l => match l, hsz with
      | [c0, c1, c2, c3, c4], _ => exact ⟨c0, c1, c2, c3, c4, rfl⟩
  obtain ⟨fuel, hf⟩ := h
  obtain ⟨xs, n, hx, hd, _, hlen, hg⟩ := DataW.trod_struct hu hf
  match xs, hlen with
  | [y0, y1, y2, y3, y4], _ =>
    have g0 := hg 0 _ rfl
    have g1 := hg 1 _ rfl
    have g2 := hg 2 _ rfl
    have g3 := hg 3 _ rfl
    have g4 := hg 4 _ rfl
    simp [Value.cells, ci, csl] at g0 g1 g2 g3 g4
    obtain ⟨x1, e1, -, w1⟩ := DataW.trod_int Try.underlying3 g1
    obtain ⟨x2, e2, -, w2⟩ := DataW.trod_int Try.underlying3 g2
    obtain ⟨x3, e3, -, w3⟩ := DataW.trod_int Try.underlying3 g3
    obtain ⟨x4, e4, -, w4⟩ := DataW.trod_int Try.underlying3 g4
    simp at e1 e2 e3 e4
    subst e1 e2 e3 e4
    rcases Deep.open_slice_pairs Try.underlying22 Try.underlying74 (by kernel_rfl) rfl rfl (by kernel_rfl) (by kernel_rfl) g0 with ⟨hcs, _⟩ | ⟨x, l, c, mm, fu, V0, V1, D0, D1, P0, P1, hcs, _, hl, hm, hmm, hy, hall⟩
    · simp at hcs
      subst hcs
      exact ⟨⟨[], x1, x2, x3, x4⟩, none, 0, 0, rfl, ⟨tar.RowD.nil _ _, (fun _ => rfl), Nat.le_refl _, by omega, (fun x hx => by cases hx)⟩, ⟨w1, w2, w3, w4⟩⟩
    · simp at hcs
      subst hcs
      simp only [if_true] at hmm
      subst hmm
      have hr := tar.rowD_of (len := l) (w := W) (a := x) (m := mm) (by omega) (fun j hj => by
        obtain ⟨k0, k1, t0, t1⟩ := hall j hj
        obtain ⟨z0, hv0, _, hw0⟩ := DataW.trod_int Try.underlying3 t0
        obtain ⟨z1, hv1, _, hw1⟩ := DataW.trod_int Try.underlying3 t1
        simp only [List.cons.injEq, and_true] at hv0 hv1
        rw [hv0] at k0
        rw [hv1] at k1
        exact ⟨z0, z1, k0, k1, hw0, hw1⟩)
      obtain ⟨zs, r1, r2⟩ := hr
      subst hy
      obtain ⟨hd1, _⟩ := Prod.mk.inj hd
      subst hd1
      have h1 := hs ((l + (mm - l)) * Try.prog.bytesOf 74) (by simp [DataW.weights, hu, DataW.weightsEach, Try.underlying22])
      rw [show Try.prog.bytesOf 74 = 16 from by kernel_rfl] at h1
      simp only [reachBytes] at h1
      exact ⟨⟨zs, x1, x2, x3, x4⟩, some x, l, mm, rfl, ⟨r1, (fun h => by cases h), hl, by omega, r2⟩, ⟨w1, w2, w3, w4⟩⟩

end Go.Proofs.Ytlolippocnngcaa.acc
