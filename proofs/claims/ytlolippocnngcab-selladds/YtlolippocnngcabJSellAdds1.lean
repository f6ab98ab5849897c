import Derived.Test.YtlolippocnngcabDbD
import Derived.WalkKit
import Derived.Test.YtlolippocnngcabProg
import Derived.Test.YtlolippocnngcabDpC
import Derived.Test.YtlolippocnngcabDpG
import Derived.Test.YtlolippocnngcabDpL
import Derived.Test.YtlolippocnngcabDbK
import Derived.Test.YtlolippocnngcabLet
import Derived.OwnWalk
import Derived.Deep.LoopGhost
import Derived.WalkMore
import Derived.Test.YtlolippocnngcabApN
import Derived.Test.YtlolippocnngcabApI
import Derived.Test.YtlolippocnngcabOpAt
import Derived.Deep.DeepCutAuto
import Derived.Test.YtlolippocnngcabApC
import Derived.Test.YtlolippocnngcabPart
import Derived.Test.YtlolippocnngcabKdR
import Derived.Test.YtlolippocnngcabTfMin
import Derived.Test.YtlolippocnngcabTfD
import Derived.Sort.BigQuietIn
import Derived.RangeFuncCalls
import Derived.RangeFuncNested
import Derived.RangeFuncBound
import Derived.RangeFuncLeaves
import Derived.Shelf.Abstract
import Derived.Shelf.RegionOpen
import Derived.OwnWalkIn
import Derived.TacticsInMore
import Derived.LoopNIn
import Derived.LoopIn
import Derived.Test.YtlolippocnngcabTpC
import Derived.Test.YtlolippocnngcabApT
import Derived.Test.YtlolippocnngcabKcS
import Derived.Test.YtlolippocnngcabKcR
import Derived.Test.YtlolippocnngcabKtP
import Derived.Test.YtlolippocnngcabRows
import Derived.Test.YtlolippocnngcabAcD
import Derived.ProofKit
import Derived.OpenShut
import Derived.Below
import Derived.SizedLaws
import Derived.ChangeSame
import Derived.Lib.SmallJoins
import Derived.Deep.SlicePairs

/- debt.Age: what is asked of it. -/
namespace Go.Proofs.Ytlolippocnngcab.deb
open Go.Proofs.Ytlolippocnngcab.tar (Du du0 Came TwoPost)
open Go.RowKit

def KdAge : Prop := ∀ (W : World) (a : Option Addr) (len cap : Nat) (ls : List Du) (m : Int), Came W a len cap ls → (Lit.int .i64 m).wf = true → Calls Try.prog 51 #[.slice a len cap, .int .i64 m] W fun e w' => AgePost W ls m e w'

end Go.Proofs.Ytlolippocnngcab.deb

/- debt.Age. -/
namespace Go.Proofs.Ytlolippocnngcab.deb
open Go.Proofs.Ytlolippocnngcab.tar (Du du0 Came RowD Ld ErrPost TwoPost PairT GaveD)
open Go.RowKit
set_option maxRecDepth 100000
set_option linter.unusedVariables false
set_option linter.unusedSimpArgs false

set_option maxHeartbeats 4000000 in
theorem kage : KdAge := by
  intro w a len cap ls mo hcame hmw
  have hr := hcame.row
  have HBY : Hid (len * 16 ≤ 140737488351232) := hcame.bytes
  have HNIL : Hid (a = none → cap = 0) := hcame.nil
  have HFA : Hid (Calls Try.prog 40 #[.slice a len cap] w fun e w' => ∃ f, e = .returned (.int .i64 f) ∧ FaultIs ls f ∧ Below w.heap.size w w') := pcheck a len cap ls w hr hcame.most
  have HIM : Hid (∀ W, Calls Try.prog 52 #[.int .i64 0, .int .i64 2400, .int .i64 mo] W fun e w' => e = .returned (.bool (decide (0 ≤ mo ∧ mo ≤ 2400))) ∧ w' = W) := fun W => dwithin 0 2400 mo W
  have HROW0 : Hid (RowD w a len ls) := hr
  clear hcame hr hmw
  go_enter Try.func51, Try.ntmps51
  go_wp2_with fail
  go_step3
  go_wp2_with fail
  refine HFA.out.mono ?_
  rintro e w1 ⟨f, rfl, hf, hb1⟩
  have HB1 : Hid (Below w.heap.size w w1) := hb1
  have HF : Hid (FaultIs ls f) := hf
  clear hb1 HFA
  by_cases h0 : f = 0
  · subst h0
    have hm := hf.ok.1 rfl
    have HM : Hid (Mays ls) := hm
    have HROW : Hid (RowD w1 a len ls) := HROW0.out.below HB1.out
    have HLEN : Hid (ls.length = len) := HROW.out.1
    have hl8 : len ≤ 8 := by have := hm.1; have := HLEN.out; omega
    clear hf hm HROW0 HF
    by_cases hmm : 0 ≤ mo ∧ mo ≤ 2400
    · rw [decide_eq_true hmm] at HIM
      have HMO : Hid (0 ≤ mo ∧ mo ≤ 2400) := hmm
      obtain ⟨m, rfl⟩ := Int.eq_ofNat_of_zero_le hmm.1
      have hm2 : m ≤ 2400 := by omega
      have HMT : Hid ((m : Int).toNat = m) := by show _ = _; omega
      clear hmm
      go_wp2_with fail
      refine (HIM.out _).mono ?_
      rintro e w2 ⟨rfl, hw2⟩
      subst hw2
      clear HIM
      cases a with
      | none =>
        have hc0 := HNIL.out rfl
        have hl0 : len = 0 := by rcases HROW.out.2 with h | ⟨b, off, h, _⟩; exact h; cases h
        subst hc0 hl0
        have happ : ∀ w : World, (Builtin.append_ #[22, 22] 22 #[.slice none 0 0, .slice none 0 0]).run Try.prog w = .ok (.slice none 0 0) w := fun w => by kernel_rfl
        have HAI : Hid (AgeIs ls (m : Int) (ageAll ls m) 0) := .inr (.inr ⟨HM.out, HMO.out, rfl, by rw [HMT.out]⟩)
        have HZ : Hid (ageAll ls m = []) := by
          obtain rfl : ls = [] := List.eq_nil_of_length_eq_zero HLEN.out
          rfl
        go_wp2_with fail
        go_step3
        go_wp2_with fail
        go_loopg [22] 0 (fun g z wr => z = .int .i64 0 ∧ wr = w2)
        case atStart => exact ⟨rfl, rfl⟩
        case round =>
          obtain ⟨rfl, rfl⟩ := hrel
          go_wp2_with fail
          try rw [Exit.noGoto_ret]
          go_ret2
          exact ⟨none, 0, 0, _, 0, rfl, HAI.out, by rw [HZ.out]; exact fresh_nil _ _, HB1.out⟩
      | some A =>
        go_wp2_with (first
          | (at_builtin; refine tar.wp_pairs debtT rfl _ _ rfl w2.heap.size A len cap ls rfl rfl HROW.out HBY.out (Nat.le_refl _) ?_)
          | fail)
        intro v3 w3 hown hg
        obtain ⟨a3, cap3, hv3, hcm⟩ := ld_mays hown HM.out
        rw [HLEN.out] at hv3
        subst hv3
        have HL3 : Hid (Ld 70 w3 w2.heap.size (.slice a3 len cap3) ls) := hown
        have HB3 : Hid (Below w2.heap.size w2 w3) := (Below.refl _ _).grown hg (Nat.le_refl _) (fun k hk => by cases hk)
        clear hown hg hcm
        go_wp2_with fail
        go_step3
        go_wp2_with fail
        have HMIX : Hid (Ld 70 w3 w2.heap.size (.slice a3 len cap3) (mixK ls m 0)) := HL3.out
        go_loopg [22] len (fun g z wr => ∃ k : Nat, k + g = len ∧ z = .int .i64 (k : Int) ∧ Ld 70 wr w2.heap.size (.slice a3 len cap3) (mixK ls m k) ∧ Below w2.heap.size w2 wr)
        case atStart => exact ⟨0, by omega, rfl, HMIX.out, HB3.out⟩
        case round =>
          obtain ⟨k, hkg, rfl, hl, hb⟩ := hrel
          have HLK : Hid (Ld 70 wr w2.heap.size (.slice a3 len cap3) (mixK ls m k)) := hl
          have HBK : Hid (Below w2.heap.size w2 wr) := hb
          clear hl hb HMIX HL3 HB3
          cases gk with
          | zero =>
            obtain rfl : k = len := by omega
            have hdl : decide ((k : Int) < (k : Int)) = false := by simp
            have HAI : Hid (AgeIs ls (m : Int) (ageAll ls m) 0) := .inr (.inr ⟨HM.out, HMO.out, rfl, by rw [HMT.out]⟩)
            have HLE : Hid (Ld 70 wr w2.heap.size (.slice a3 k cap3) (ageAll ls m)) := by have := HLK.out; rw [mix_all ls m k HLEN.out] at this; exact this
            have HCM : Hid (Fresh wr w.heap.size a3 k cap3 (ageAll ls m)) := by
              obtain ⟨a4, cap4, hv4, hcm⟩ := ld_fresh HLE.out (ageAll_mays HM.out m)
              have e : (ageAll ls m).length = k := by rw [ageAll_len]; exact HLEN.out
              rw [e] at hv4 hcm
              simp only [Value.slice.injEq, true_and] at hv4
              obtain ⟨rfl, rfl⟩ := hv4
              exact hcm.low HB1.out.size
            have HB9 : Hid (Below w.heap.size w wr) := HB1.out.trans (HBK.out.mono HB1.out.size)
            clear HLK HLE
            generalize ageAll ls m = Z at *
            go_wp2_with fail
            try rw [Exit.noGoto_ret]
            go_ret2
            exact ⟨a3, k, cap3, Z, 0, rfl, HAI.out, HCM.out, HB9.out⟩
          | succ g =>
            have hlt : k < len := by omega
            have hdl : decide ((k : Int) < (len : Int)) = true := by simp; omega
            have hkl : k < ls.length := by rw [HLEN.out]; exact hlt
            have ho := HM.out.2 k hkl
            have HML : Hid ((mixK ls m k).length = len) := by show _ = _; rw [mix_len ls m k (by omega)]; exact HLEN.out
            have HSM : Hid ((mixK ls m k).set k ⟨growN (ls.getD k du0).b 0 (ls.getD k du0).a, (ls.getD k du0).b⟩ = mixK ls m k) := mix_same ls m k hkl
            have HNX : Hid ((mixK ls m k).set k ⟨growN (ls.getD k du0).b m (ls.getD k du0).a, (ls.getD k du0).b⟩ = mixK ls m (k + 1)) := mix_next ls m k hkl
            have hx0 := ho.1.1
            have hx1 := ho.1.2
            have hy0 := ho.2.1
            have hy1 := ho.2.2
            clear ho hkl
            generalize (ls.getD k du0).a = x at *
            generalize (ls.getD k du0).b = y at *
            go_wp2_with fail
            go_loopg [26] m (fun g2 z wy => ∃ j : Nat, j + g2 = m ∧ z = .int .i64 (j : Int) ∧ Ld 70 wy w2.heap.size (.slice a3 len cap3) ((mixK ls m k).set k ⟨growN y j x, y⟩) ∧ Below w2.heap.size w2 wy)
            case atStart => exact ⟨0, by omega, rfl, by rw [HSM.out]; exact HLK.out, HBK.out⟩
            case round =>
              rename_i wo
              obtain ⟨j, hjg, rfl, hl, hb⟩ := hrel
              have HLJ : Hid (Ld 70 wr w2.heap.size (.slice a3 len cap3) ((mixK ls m k).set k ⟨growN y j x, y⟩)) := hl
              have HBJ : Hid (Below w2.heap.size w2 wr) := hb
              clear hl hb HLK HBK HSM
              cases gk with
              | zero =>
                obtain rfl : j = m := by omega
                have hdj : decide ((j : Int) < (j : Int)) = false := by simp
                have HLN : Hid (Ld 70 wr w2.heap.size (.slice a3 len cap3) (mixK ls j (k + 1))) := by have := HLJ.out; rw [HNX.out] at this; exact this
                clear HLJ HNX
                go_wp2_with fail
                go_roundg g
                case measure => omega
                case rel => exact ⟨k + 1, by omega, by first | rfl | go_num, HLN.out, HBJ.out⟩
              | succ g2 =>
                have hdj : decide ((j : Int) < (m : Int)) = true := by simp; omega
                have hjm : j < m := by omega
                obtain ⟨gg, cur, hga, hgb, hblk, hcs, hcc⟩ := ld_lies HLJ.out (by omega)
                have hcell := hcc k (by rw [List.length_set, HML.out]; exact hlt)
                have hat : ((mixK ls m k).set k ⟨growN y j x, y⟩).getD k du0 = ⟨growN y j x, y⟩ := by
                  have : k < (mixK ls m k).length := by rw [HML.out]; exact hlt
                  simp [List.getD, this]
                rw [hat] at hcell
                obtain ⟨off, hoff⟩ : ∃ off : Nat, off = 0 := ⟨0, rfl⟩
                have HOFF : Hid (off = 0) := hoff
                have hga2 : a3 = some ⟨gg, off, none⟩ := by rw [hga, hoff]
                have c0 : wr.cell? ⟨gg, off + k * 2, none⟩ = some (.int .i64 (growN y j x)) := by rw [hoff, Nat.zero_add]; exact hcell.1
                have c1 : wr.cell? ⟨gg, off + k * 2 + 1, none⟩ = some (.int .i64 y) := by rw [hoff, Nat.zero_add]; exact hcell.2
                have HBL : Hid (Blk wr gg cur 70) := hblk
                have hin : off + k * 2 < cur.size := by omega
                have HGB : Hid (w2.heap.size ≤ gg) := hgb
                clear hcell hat hcc hblk hgb hga hcs hoff
                subst hga2
                have hgn := growN_bd hy0 hy1 hx0 hx1 j
                have hu0 : 0 ≤ growN y j x := by omega
                have hu1 := hgn.2
                have HGS : Hid (growN y (j + 1) x = grow y (growN y j x)) := rfl
                have HGR : Hid (∀ W, Calls Try.prog 57 #[.agg #[.int .i64 (growN y j x), .int .i64 y]] W fun e w' => e = .returned (.int .i64 (min (growN y j x * y / 10000) (1000000000 - growN y j x))) ∧ Below W.heap.size W w') := fun W => pgrowth _ _ W ⟨hu0, hu1⟩ ⟨hy0, hy1⟩
                have HMO2 : Hid (grow y (growN y j x) = growN y j x + min (growN y j x * y / 10000) (1000000000 - growN y j x)) := grow_more hu0 hu1 hy0
                have hv0 : 0 ≤ min (growN y j x * y / 10000) (1000000000 - growN y j x) := by
                  have := Int.mul_nonneg hu0 hy0
                  generalize growN y j x * y = pp at *
                  omega
                have hv1 : min (growN y j x * y / 10000) (1000000000 - growN y j x) ≤ 1000000000 - growN y j x := Int.min_le_right _ _
                generalize min (growN y j x * y / 10000) (1000000000 - growN y j x) = v at *
                clear hgn
                by_cases hz : v = 0
                · have hvz : (v == 0) = true := by simpa using hz
                  have HST : Hid (growN y m x = growN y j x) := by
                    have h1 : grow y (growN y j x) = growN y j x := by rw [HMO2.out, hz]; omega
                    have h2 := growN_still h1 (m - j)
                    rw [growN_add, show j + (m - j) = m by omega] at h2
                    exact h2
                  have HLN : Hid (Ld 70 wr w2.heap.size (.slice (some ⟨gg, off, none⟩) len cap3) (mixK ls m (k + 1))) := by have := HLJ.out; rw [← HST.out, HNX.out] at this; exact this
                  clear hz HST HNX HLJ
                  generalize growN y j x = u at *
                  go_wp2_with fail
                  refine (HGR.out _).mono ?_
                  rintro e w5 ⟨rfl, hb5⟩
                  have HL5 : Hid (Ld 70 w5 w2.heap.size (.slice (some ⟨gg, off, none⟩) len cap3) (mixK ls m (k + 1))) := HLN.out.next hb5
                  have HB5 : Hid (Below w2.heap.size w2 w5) := HBJ.out.trans (hb5.mono HBJ.out.size)
                  clear hb5 HGR HLN c0 c1
                  go_wp2_with fail
                  go_roundg g
                  case measure => omega
                  case rel => exact ⟨k + 1, by omega, by first | rfl | go_num, HL5.out, HB5.out⟩
                · have hvz : (v == 0) = false := by simpa using hz
                  have HSS : Hid (((mixK ls m k).set k ⟨growN y j x, y⟩).set k ⟨growN y j x + v, y⟩ = (mixK ls m k).set k ⟨growN y (j + 1) x, y⟩) := by show _ = _; rw [List.set_set, HGS.out, HMO2.out]
                  have HAT : Hid ((((mixK ls m k).set k ⟨growN y j x, y⟩).getD k du0).b = y) := by
                    have : k < (mixK ls m k).length := by rw [HML.out]; exact hlt
                    show _ = _
                    simp [List.getD, this]
                  have HKL : Hid (k < ((mixK ls m k).set k ⟨growN y j x, y⟩).length) := by show _ < _; rw [List.length_set, HML.out]; exact hlt
                  clear hz HGS HMO2
                  generalize (mixK ls m k).set k ⟨growN y j x, y⟩ = Z at *
                  generalize growN y j x = u at *
                  go_wp2_with fail
                  refine (HGR.out _).mono ?_
                  rintro e w5 ⟨rfl, hb5⟩
                  have HL5 : Hid (Ld 70 w5 w2.heap.size (.slice (some ⟨gg, off, none⟩) len cap3) Z) := HLJ.out.next hb5
                  have HB5 : Hid (Below w2.heap.size w2 w5) := HBJ.out.trans (hb5.mono HBJ.out.size)
                  have HK5 : Hid (Blk w5 gg cur 70) := HBL.out.next hb5
                  have e0 : w5.cell? ⟨gg, off + k * 2, none⟩ = some (.int .i64 u) := (hb5.cell (p := ⟨gg, off + k * 2, none⟩) HBL.out.lt).trans c0
                  clear hb5 HGR HLJ c0 c1 HBL HBJ
                  go_wp2_with (first
                    | (refine wp_let1 rfl 3 _ _ rfl gg (off + k * 2) rfl .i64 (u + v) rfl (by kernel_rfl) cur 70 HK5.out hin ?_)
                    | fail)
                  intro W6 hU
                  have HL6 : Hid (Ld 70 W6 w2.heap.size (.slice (some ⟨gg, off, none⟩) len cap3) ((mixK ls m k).set k ⟨growN y (j + 1) x, y⟩)) := by
                    obtain rfl := HOFF.out
                    rw [Nat.zero_add] at hU
                    show Ld _ _ _ _ _
                    rw [← HSS.out]
                    exact ld_put HL5.out HK5.out k HKL.out _ _ HAT.out hU
                  have HB6 : Hid (Below w2.heap.size w2 W6) := hU.bel _ _ HGB.out HB5.out
                  clear hU HL5 HK5 HB5 e0
                  go_wp2_with fail
                  go_roundg g2
                  case measure => omega
                  case rel => exact ⟨j + 1, by omega, by first | rfl | go_num, HL6.out, HB6.out⟩
    · rw [decide_eq_false hmm] at HIM
      have HMO : Hid (¬ (0 ≤ mo ∧ mo ≤ 2400)) := hmm
      clear hmm
      go_wp2_with fail
      refine (HIM.out _).mono ?_
      rintro e w2 ⟨rfl, hw2⟩
      subst hw2
      go_wp2_with fail
      try rw [Exit.noGoto_ret]
      go_ret2
      exact ⟨none, 0, 0, [], 2, rfl, .inr (.inl ⟨HM.out, HMO.out, rfl, rfl⟩), fresh_nil _ _, HB1.out⟩
  · have hne : (f != 0) = true := by simpa using h0
    have HN : Hid (¬ Mays ls) := fun h => h0 (hf.ok.2 h)
    clear hf h0 HIM
    go_wp2_with fail
    try rw [Exit.noGoto_ret]
    go_ret2
    exact ⟨none, 0, 0, [], f, rfl, .inl ⟨HN.out, HF.out, rfl⟩, fresh_nil _ _, HB1.out⟩

end Go.Proofs.Ytlolippocnngcab.deb

/- An account at work is rolled on. -/
namespace Go.Proofs.Ytlolippocnngcab.acc
open Go.Proofs.Ytlolippocnngcab.tar (Du du0 Came RowD Ld PairT)
open Go.RowKit
set_option maxRecDepth 100000
set_option linter.unusedVariables false
set_option linter.unusedSimpArgs false

def RollR (x : Ac) (m : Int) (b0 : Bi) (y : Ac) (b : Bi) (f : Int) : Prop := ((¬ RMay x m ∧ RErr x m f ∧ y = x) ∨ (RMay x m ∧ y = rolled x m ∧ f = 0)) ∧ b = b0
set_option maxHeartbeats 4000000 in
theorem proll (g : Nat) (x : Ac) (b : Bi) (p : Option Addr) (len cap : Nat) (m : Int) (w : World) (hw : Blk w g (wcs x b p len cap) 81) (hd : deb.Fresh w (g + 1) p len cap x.ds) (ha : AMay x) : Calls Try.prog 35 #[.pointer (some ⟨g, 0, none⟩), .int .i64 m] w fun e w' => DPost w g (RollR x m b) e w' := by
  have hgl := hw.lt
  have hmo := ha.2.2.2.2.1
  have HMA : Hid (deb.Mays x.ds) := ha.1
  obtain ⟨me, rv, nx, mo, bo, fr, ds⟩ := x
  obtain ⟨id, te, de, fe, pr, ch, un⟩ := b
  simp only [] at hmo
  have HI : Hid (Blk w g #[.int .i64 me, .int .i64 rv, .int .i64 nx, .int .i64 mo, .int .i64 bo, .int .i64 fr, .slice p len cap, .int .i64 id, .int .i64 te, .int .i64 de, .int .i64 fe, .int .i64 pr, .int .i64 ch, .int .i64 un] 81) := hw
  have HD : Hid (deb.Fresh w (g + 1) p len cap ds) := hd
  have HIM : Hid (∀ W, Calls Try.prog 49 #[.int .i64 0, .int .i64 2399, .int .i64 m] W fun e w' => e = .returned (.bool (decide (0 ≤ m ∧ m ≤ 2399))) ∧ w' = W) := fun W => awithin 0 2399 m W
  have q3 : w.cell? ⟨g, 3, none⟩ = some (.int .i64 mo) := HI.out.cell 3
  clear hw hd ha
  by_cases h1 : 0 ≤ m ∧ m ≤ 2399
  · rw [decide_eq_true h1] at HIM
    by_cases h2 : m < mo
    · have d2 : decide (m < mo) = true := decide_eq_true h2
      have HV : Hid (RollR ⟨me, rv, nx, mo, bo, fr, ds⟩ m ⟨id, te, de, fe, pr, ch, un⟩ ⟨me, rv, nx, mo, bo, fr, ds⟩ ⟨id, te, de, fe, pr, ch, un⟩ 23) := ⟨.inl ⟨fun hh => by have : mo ≤ m := hh.2; omega, .inr ⟨h1, h2, rfl⟩, rfl⟩, rfl⟩
      clear h1 h2 hmo
      go_enter Try.func35, Try.ntmps35
      go_wp2_with fail
      refine (HIM.out _).mono ?_
      rintro e w2 ⟨rfl, hw2⟩
      subst w2
      go_wp2_with fail
      go_ret
      exact ⟨_, _, p, len, cap, 23, rfl, HV.out, HI.out, HD.out, Chg.refl _ _⟩
    · have d2 : decide (m < mo) = false := decide_eq_false h2
      have HRM : Hid (RMay ⟨me, rv, nx, mo, bo, fr, ds⟩ m) := ⟨h1, by show mo ≤ m; omega⟩
      by_cases h3 : mo < m
      · have d3 : decide (mo < m) = true := decide_eq_true h3
        have hwr : IntKind.i64.wrap (m - mo) = m - mo := by rw [IntKind.wrap_i64]; omega
        have HAG : Hid (Calls Try.prog 51 #[.slice p len cap, .int .i64 (m - mo)] w.drew fun e w' => deb.AgePost w.drew ds (m - mo) e w') := deb.kage _ p len cap ds (m - mo) (fresh_drew HD.out).came (tar.wf_mid (by omega) (by omega))
        have HMR : Hid (0 ≤ m - mo ∧ m - mo ≤ 2400) := ⟨by omega, by omega⟩
        have HNE : Hid (¬ m = mo) := by show ¬ _ = _; omega
        clear h1 h2 h3
        go_enter Try.func35, Try.ntmps35
        go_wp2_with fail
        refine (HIM.out _).mono ?_
        rintro e w2 ⟨rfl, hw2⟩
        subst w2
        go_wp2_with fail
        clear HIM d2 d3 q3
        have q6 : w.drew.cell? ⟨g, 6, none⟩ = some (.slice p len cap) := HI.out.cell 6
        refine wp_region_held_drew (S := fun v => v.cell? ⟨g, 3, none⟩ = some (.int .i64 mo)) (by kernel_rfl) (show w.drew.cell? _ = _ from HI.out.cell 3) (fun hHeld => ?_)
        refine take_at 0 26 (.pointer (some ⟨g, 0, none⟩)) _ rfl rfl (by kernel_rfl) (by kernel_rfl) (by kernel_rfl) (fun _ _ _ h => h) (Or.inl ⟨by rfl, fun v hv => by skip; clear hv; go_simp⟩) hHeld ?_
        simp only [Act.put, List.setIfInBounds_toArray, List.set_cons_zero, List.set_cons_succ]
        refine take_at 1 27 (.pointer (some ⟨g, 0, none⟩)) _ rfl rfl (by kernel_rfl) (by kernel_rfl) (by kernel_rfl) (fun _ _ _ h => h) (Or.inl ⟨by rfl, fun v hv => by skip; clear hv; go_simp⟩) hHeld ?_
        simp only [Act.put, List.setIfInBounds_toArray, List.set_cons_zero, List.set_cons_succ]
        refine take_at 2 28 (.pointer (some ⟨g, 0, none⟩)) _ rfl rfl (by kernel_rfl) (by kernel_rfl) (by kernel_rfl) (fun _ _ _ h => h) (Or.inl ⟨by rfl, fun v hv => by skip; clear hv; go_simp⟩) hHeld ?_
        simp only [Act.put, List.setIfInBounds_toArray, List.set_cons_zero, List.set_cons_succ]
        refine take_at 3 29 (.pointer (some ⟨g, 0, none⟩)) _ rfl rfl (by kernel_rfl) (by kernel_rfl) (by kernel_rfl) (fun _ _ _ h => h) (Or.inl ⟨by rfl, fun v hv => by skip; clear hv; go_simp⟩) hHeld ?_
        simp only [Act.put, List.setIfInBounds_toArray, List.set_cons_zero, List.set_cons_succ]
        refine take_at 4 30 (.pointer (some ⟨g, 6, none⟩)) _ rfl rfl (by kernel_rfl) (by kernel_rfl) (by kernel_rfl) (fun _ _ _ h => h) (Or.inl ⟨by rfl, fun v hv => by skip; clear hv; go_simp⟩) hHeld ?_
        simp only [Act.put, List.setIfInBounds_toArray, List.set_cons_zero, List.set_cons_succ]
        refine take_at 6 32 (.int .i64 m) _ rfl rfl (by kernel_rfl) (by kernel_rfl) (by kernel_rfl) (fun _ _ _ h => h) (Or.inl ⟨by rfl, fun v hv => by skip; clear hv; go_simp⟩) hHeld ?_
        simp only [Act.put, List.setIfInBounds_toArray, List.set_cons_zero, List.set_cons_succ]
        refine take_at 7 33 (.pointer (some ⟨g, 0, none⟩)) _ rfl rfl (by kernel_rfl) (by kernel_rfl) (by kernel_rfl) (fun _ _ _ h => h) (Or.inl ⟨by rfl, fun v hv => by skip; clear hv; go_simp⟩) hHeld ?_
        simp only [Act.put, List.setIfInBounds_toArray, List.set_cons_zero, List.set_cons_succ]
        refine take_at 8 34 (.pointer (some ⟨g, 0, none⟩)) _ rfl rfl (by kernel_rfl) (by kernel_rfl) (by kernel_rfl) (fun _ _ _ h => h) (Or.inl ⟨by rfl, fun v hv => by skip; clear hv; go_simp⟩) hHeld ?_
        simp only [Act.put, List.setIfInBounds_toArray, List.set_cons_zero, List.set_cons_succ]
        refine take_at 9 35 (.pointer (some ⟨g, 0, none⟩)) _ rfl rfl (by kernel_rfl) (by kernel_rfl) (by kernel_rfl) (fun _ _ _ h => h) (Or.inl ⟨by rfl, fun v hv => by skip; clear hv; go_simp⟩) hHeld ?_
        simp only [Act.put, List.setIfInBounds_toArray, List.set_cons_zero, List.set_cons_succ]
        refine take_at 10 36 (.pointer (some ⟨g, 3, none⟩)) _ rfl rfl (by kernel_rfl) (by kernel_rfl) (by kernel_rfl) (fun _ _ _ h => h) (Or.inl ⟨by rfl, fun v hv => by skip; clear hv; go_simp⟩) hHeld ?_
        simp only [Act.put, List.setIfInBounds_toArray, List.set_cons_zero, List.set_cons_succ]
        refine take_at 11 37 (.int .i64 mo) _ rfl rfl (by kernel_rfl) (by kernel_rfl) (by kernel_rfl) (fun _ _ _ h => h) (Or.inl ⟨by rfl, fun v hv => by have g0 := hv; clear hv; go_simp⟩) hHeld ?_
        simp only [Act.put, List.setIfInBounds_toArray, List.set_cons_zero, List.set_cons_succ]
        refine take_at 12 38 (.int .i64 (m - mo)) _ rfl rfl (by kernel_rfl) (by kernel_rfl) (by kernel_rfl) (fun _ _ _ h => h) (Or.inl ⟨by rfl, fun v hv => by skip; clear hv; go_simp⟩) hHeld ?_
        simp only [Act.put, List.setIfInBounds_toArray, List.set_cons_zero, List.set_cons_succ]
        refine wpAnyH_ready (rs := [5]) (by kernel_rfl) (by simp) (AllReadyH.cons rfl (fun K hK => ?_) AllReadyH.nil)
        rw [if_pos (by rfl)]
        refine wp_runOp (v := .slice p len cap) (w' := w.drew) 31 rfl (by clear hK; go_simp) ?_
        refine hK.out _ _ (show w.drew.cell? _ = _ from HI.out.cell 3) (fun hHeld => ?_)
        clear hK K q6
        simp only [Act.put, List.setIfInBounds_toArray, List.set_cons_zero, List.set_cons_succ]
        refine wpAnyH_ready (rs := [13]) (by kernel_rfl) (by simp) (AllReadyH.cons rfl (fun K hK => ?_) AllReadyH.nil)
        rw [if_pos (by rfl)]
        refine wp_callOp 39 rfl (by clear hK; go_simp) HAG.out ?_
        rintro e w1 ⟨q, n, c, z, f, rfl, hz, hf, hb1⟩
        obtain ⟨rfl, hz2⟩ := hz.got HMA.out HMR.out
        have HI1 : Hid (Blk w1 g #[.int .i64 me, .int .i64 rv, .int .i64 nx, .int .i64 mo, .int .i64 bo, .int .i64 fr, .slice p len cap, .int .i64 id, .int .i64 te, .int .i64 de, .int .i64 fe, .int .i64 pr, .int .i64 ch, .int .i64 un] 81) := (Blk.drew HI.out 1).next hb1
        have HC1 : Hid (Chg w w1 g) := (Chg.of (bel_drew (Below.refl _ _) 1)).trans (.of hb1)
        have HF1 : Hid (deb.Fresh w1 (g + 1) q n c z) := hf.low (by show g + 1 ≤ w.heap.size; omega)
        have HZ : Hid (z = deb.ageAll ds (m - mo).toNat) := hz2
        refine ⟨_, rfl, hK.out _ _ (HI1.out.cell 3) (fun hHeld => ?_)⟩
        clear hK K hz hf hb1 hz2 HAG HI HD
        simp only [Act.put, List.setIfInBounds_toArray, List.set_cons_zero, List.set_cons_succ]
        refine take_at 14 25 (.tuple #[.slice q n c, .int .i64 0]) _ rfl rfl (by kernel_rfl) (by kernel_rfl) (by kernel_rfl) (fun _ _ _ h => h) (Or.inl ⟨by rfl, fun v hv => by skip; clear hv; go_simp⟩) hHeld ?_
        simp only [Act.put, List.setIfInBounds_toArray, List.set_cons_zero, List.set_cons_succ]
        refine take_at 15 40 (.slice q n c) _ rfl rfl (by kernel_rfl) (by kernel_rfl) (by kernel_rfl) (fun _ _ _ h => h) (Or.inl ⟨by rfl, fun v hv => by skip; clear hv; go_simp⟩) hHeld ?_
        simp only [Act.put, List.setIfInBounds_toArray, List.set_cons_zero, List.set_cons_succ]
        refine take_at 16 41 (.int .i64 0) _ rfl rfl (by kernel_rfl) (by kernel_rfl) (by kernel_rfl) (fun _ _ _ h => h) (Or.inl ⟨by rfl, fun v hv => by skip; clear hv; go_simp⟩) hHeld ?_
        simp only [Act.put, List.setIfInBounds_toArray, List.set_cons_zero, List.set_cons_succ]
        refine take_at 17 42 (.pointer (some ⟨g, 0, none⟩)) _ rfl rfl (by kernel_rfl) (by kernel_rfl) (by kernel_rfl) (fun _ _ _ h => h) (Or.inl ⟨by rfl, fun v hv => by skip; clear hv; go_simp⟩) hHeld ?_
        simp only [Act.put, List.setIfInBounds_toArray, List.set_cons_zero, List.set_cons_succ]
        refine take_at 18 43 (.pointer (some ⟨g, 0, none⟩)) _ rfl rfl (by kernel_rfl) (by kernel_rfl) (by kernel_rfl) (fun _ _ _ h => h) (Or.inl ⟨by rfl, fun v hv => by skip; clear hv; go_simp⟩) hHeld ?_
        simp only [Act.put, List.setIfInBounds_toArray, List.set_cons_zero, List.set_cons_succ]
        refine take_at 19 44 (.pointer (some ⟨g, 6, none⟩)) _ rfl rfl (by kernel_rfl) (by kernel_rfl) (by kernel_rfl) (fun _ _ _ h => h) (Or.inl ⟨by rfl, fun v hv => by skip; clear hv; go_simp⟩) hHeld ?_
        simp only [Act.put, List.setIfInBounds_toArray, List.set_cons_zero, List.set_cons_succ]
        refine wpAnyH_ready (rs := [20]) (by kernel_rfl) (by simp) (AllReadyH.cons rfl (fun K hK => ?_) AllReadyH.nil)
        rw [if_pos (by rfl)]
        refine wp_letOp1 22 _ _ rfl g 6 rfl (.slice q n c) rfl rfl (by kernel_rfl) rfl #[.int .i64 me, .int .i64 rv, .int .i64 nx, .int .i64 mo, .int .i64 bo, .int .i64 fr, .slice p len cap, .int .i64 id, .int .i64 te, .int .i64 de, .int .i64 fe, .int .i64 pr, .int .i64 ch, .int .i64 un] 81 HI1.out (by simp) rfl ?_
        intro W2 hU
        have HI2 : Hid (Blk W2 g #[.int .i64 me, .int .i64 rv, .int .i64 nx, .int .i64 mo, .int .i64 bo, .int .i64 fr, .slice q n c, .int .i64 id, .int .i64 te, .int .i64 de, .int .i64 fe, .int .i64 pr, .int .i64 ch, .int .i64 un] 81) := hU.blk
        have HC2 : Hid (Chg w W2 g) := HC1.out.trans (.upd hU)
        have HF2 : Hid (deb.Fresh W2 (g + 1) q n c z) := fresh_chg HF1.out (.upd hU)
        clear hU HF1 HC1
        refine hK.out _ _ (HI2.out.cell 3) (fun hHeld => ?_)
        clear hK K HI1
        refine wpAnyH_done (by kernel_rfl) ?_ _
        clear hHeld
        go_wp2_with (first | (refine wp_let1 rfl 3 _ _ rfl g 3 rfl .i64 m rfl (by kernel_rfl) #[.int .i64 me, .int .i64 rv, .int .i64 nx, .int .i64 mo, .int .i64 bo, .int .i64 fr, .slice q n c, .int .i64 id, .int .i64 te, .int .i64 de, .int .i64 fe, .int .i64 pr, .int .i64 ch, .int .i64 un] 81 HI2.out (by simp) ?_) | fail)
        intro W3 hU
        have HI3 : Hid (Blk W3 g #[.int .i64 me, .int .i64 rv, .int .i64 nx, .int .i64 m, .int .i64 bo, .int .i64 fr, .slice q n c, .int .i64 id, .int .i64 te, .int .i64 de, .int .i64 fe, .int .i64 pr, .int .i64 ch, .int .i64 un] 81) := hU.blk
        have HC3 : Hid (Chg w W3 g) := HC2.out.trans (.upd hU)
        have HF3 : Hid (deb.Fresh W3 (g + 1) q n c z) := fresh_chg HF2.out (.upd hU)
        clear hU HF2 HC2 HI2
        go_wp2_with (first | (refine wp_let1 rfl 3 _ _ rfl g 4 rfl .i64 0 rfl (by kernel_rfl) #[.int .i64 me, .int .i64 rv, .int .i64 nx, .int .i64 m, .int .i64 bo, .int .i64 fr, .slice q n c, .int .i64 id, .int .i64 te, .int .i64 de, .int .i64 fe, .int .i64 pr, .int .i64 ch, .int .i64 un] 81 HI3.out (by simp) ?_) | fail)
        intro W4 hU
        have HI4 : Hid (Blk W4 g #[.int .i64 me, .int .i64 rv, .int .i64 nx, .int .i64 m, .int .i64 0, .int .i64 fr, .slice q n c, .int .i64 id, .int .i64 te, .int .i64 de, .int .i64 fe, .int .i64 pr, .int .i64 ch, .int .i64 un] 81) := hU.blk
        have HC4 : Hid (Chg w W4 g) := HC3.out.trans (.upd hU)
        have HF4 : Hid (deb.Fresh W4 (g + 1) q n c z) := fresh_chg HF3.out (.upd hU)
        have HV : Hid (RollR ⟨me, rv, nx, mo, bo, fr, ds⟩ m ⟨id, te, de, fe, pr, ch, un⟩ ⟨me, rv, nx, m, 0, fr, z⟩ ⟨id, te, de, fe, pr, ch, un⟩ 0) := ⟨.inr ⟨HRM.out, by unfold rolled; rw [if_neg HNE.out, HZ.out], rfl⟩, rfl⟩
        clear hU HF3 HC3 HI3
        go_wp2_with fail
        go_ret
        exact ⟨⟨me, rv, nx, m, 0, fr, z⟩, _, q, n, c, 0, rfl, HV.out, HI4.out, HF4.out, HC4.out⟩
      · have d3 : decide (mo < m) = false := decide_eq_false h3
        have HV : Hid (RollR ⟨me, rv, nx, mo, bo, fr, ds⟩ m ⟨id, te, de, fe, pr, ch, un⟩ ⟨me, rv, nx, mo, bo, fr, ds⟩ ⟨id, te, de, fe, pr, ch, un⟩ 0) := ⟨.inr ⟨HRM.out, by unfold rolled; rw [if_pos (by show m = mo; omega)], rfl⟩, rfl⟩
        clear h1 h2 h3 hmo
        go_enter Try.func35, Try.ntmps35
        go_wp2_with fail
        refine (HIM.out _).mono ?_
        rintro e w2 ⟨rfl, hw2⟩
        subst w2
        go_wp2_with fail
        go_ret
        exact ⟨_, _, p, len, cap, 0, rfl, HV.out, HI.out, HD.out, Chg.refl _ _⟩
  · rw [decide_eq_false h1] at HIM
    have HV : Hid (RollR ⟨me, rv, nx, mo, bo, fr, ds⟩ m ⟨id, te, de, fe, pr, ch, un⟩ ⟨me, rv, nx, mo, bo, fr, ds⟩ ⟨id, te, de, fe, pr, ch, un⟩ 2) := ⟨.inl ⟨fun hh => h1 hh.1, .inl ⟨h1, rfl⟩, rfl⟩, rfl⟩
    clear h1 hmo q3
    go_enter Try.func35, Try.ntmps35
    go_wp2_with fail
    refine (HIM.out _).mono ?_
    rintro e w2 ⟨rfl, hw2⟩
    subst w2
    go_wp2_with fail
    go_ret
    exact ⟨_, _, p, len, cap, 2, rfl, HV.out, HI.out, HD.out, Chg.refl _ _⟩

end Go.Proofs.Ytlolippocnngcab.acc

/- An account at work begins, by terms. -/
namespace Go.Proofs.Ytlolippocnngcab.acc
open Go.Proofs.Ytlolippocnngcab.tar (Du du0 Came RowD Ld PairT)
open Go.RowKit
set_option maxRecDepth 100000
set_option linter.unusedVariables false
set_option linter.unusedSimpArgs false

def BeginR (x : Ac) (t : Tm) (m : Int) (b0 : Bi) (y : Ac) (b : Bi) (f : Int) : Prop := ((¬ TRight t ∧ TFault t f ∧ y = x) ∨ (TRight t ∧ ¬ RMay x m ∧ RErr x m f ∧ y = x) ∨ (TRight t ∧ RMay x m ∧ y = rolled x m ∧ f = 0)) ∧ b = b0
set_option maxHeartbeats 2000000 in
theorem pbegin (g : Nat) (x : Ac) (p : Option Addr) (len cap : Nat) (t : Tm) (pt : Option Addr) (lt ct : Nat) (b : Bi) (m : Int) (w : World) (hw : Blk w g (wcs x b p len cap) 81) (hd : deb.Fresh w (g + 1) p len cap x.ds) (ha : AMay x) (ht : Came w pt lt ct t.ts) (hwf : wf4 t) (hfar : Far pt lt g) : Calls Try.prog 48 #[.pointer (some ⟨g, 0, none⟩), .agg #[.slice pt lt ct, .int .i64 t.ff, .int .i64 t.fb, .int .i64 t.db, .int .i64 t.al], .int .i64 m] w fun e w' => DPost w g (BeginR x t m b) e w' := by
  have hgl := hw.lt
  have HCK : Hid (∀ W, Below w.heap.size w W → Calls Try.prog 56 #[.agg #[.slice pt lt ct, .int .i64 t.ff, .int .i64 t.fb, .int .i64 t.db, .int .i64 t.al]] W fun e w' => tar.ErrPost W (TFault t) e w') := fun W hW => kcheck W t pt lt ct ⟨ht.below hW, hwf⟩
  have HRL : Hid (∀ W, Blk W g (wcs x b p len cap) 81 → deb.Fresh W (g + 1) p len cap x.ds → Calls Try.prog 35 #[.pointer (some ⟨g, 0, none⟩), .int .i64 m] W fun e w' => DPost W g (RollR x m b) e w') := fun W h1 h2 => proll g x b p len cap m W h1 h2 ha
  have H0B : Hid (Below w.heap.size w (w.alloc (.cells #[.slice pt lt ct, .int .i64 t.ff, .int .i64 t.fb, .int .i64 t.db, .int .i64 t.al] 42))) := (Below.refl w.heap.size w).alloc (by simp) _
  have H0t : Hid (Blk (w.alloc (.cells #[.slice pt lt ct, .int .i64 t.ff, .int .i64 t.fb, .int .i64 t.db, .int .i64 t.al] 42)) w.heap.size #[.slice pt lt ct, .int .i64 t.ff, .int .i64 t.fb, .int .i64 t.db, .int .i64 t.al] 42) := Blk.new w _ _
  have H0g : Hid (Blk (w.alloc (.cells #[.slice pt lt ct, .int .i64 t.ff, .int .i64 t.fb, .int .i64 t.db, .int .i64 t.al] 42)) g (wcs x b p len cap) 81) := hw.alloc _
  have H0D : Hid (deb.Fresh (w.alloc (.cells #[.slice pt lt ct, .int .i64 t.ff, .int .i64 t.fb, .int .i64 t.db, .int .i64 t.al] 42)) (g + 1) p len cap x.ds) := hd.below H0B.out
  clear hw hd ha ht hwf hfar
  generalize hWW : (w.alloc (.cells #[.slice pt lt ct, .int .i64 t.ff, .int .i64 t.fb, .int .i64 t.db, .int .i64 t.al] 42)) = W0 at *
  have HWW : Hid ((w.alloc (.cells #[.slice pt lt ct, .int .i64 t.ff, .int .i64 t.fb, .int .i64 t.db, .int .i64 t.al] 42)) = W0) := hWW
  clear hWW
  go_enter Try.func48, Try.ntmps48
  go_upto_region 1 with fail
  rw [HWW.out]
  clear HWW
  go_wp2_with (first
    | (refine wp_whole rfl 42 _ rfl (w.heap.size) rfl 42 #[.slice pt lt ct, .int .i64 t.ff, .int .i64 t.fb, .int .i64 t.db, .int .i64 t.al] _ H0t.out Try.underlying42 rfl (by kernel_rfl) ?_)
    | fail)
  refine (HCK.out _ H0B.out).mono ?_
  rintro e w1 ⟨f, rfl, hf, hb1⟩
  have H1g : Hid (Blk w1 g (wcs x b p len cap) 81) := H0g.out.next hb1
  have H1D : Hid (deb.Fresh w1 (g + 1) p len cap x.ds) := H0D.out.below hb1
  have H1C : Hid (Chg w w1 g) := .of (bel_step H0B.out hb1)
  have HF : Hid (TFault t f) := hf
  clear hf hb1 H0B H0t H0g H0D HCK
  by_cases h0 : f = 0
  · subst h0
    have HT : Hid (TRight t) := HF.out.ok.1 rfl
    go_wp2_with fail
    refine (HRL.out _ H1g.out H1D.out).mono ?_
    rintro e w2 ⟨y, b2, q, n, c, f, rfl, ⟨hr, hb⟩, hi, hfr, hc⟩
    have HX : Hid (DPost w g (BeginR x t m b) (.returned (.int .i64 f)) w2) := by
      refine ⟨y, b2, q, n, c, f, rfl, ⟨?_, hb⟩, hi, hfr, H1C.out.trans hc⟩
      rcases hr with ⟨h1, h2, h3⟩ | ⟨h1, h2, h3⟩
      · exact .inr (.inl ⟨HT.out, h1, h2, h3⟩)
      · exact .inr (.inr ⟨HT.out, h1, h2, h3⟩)
    clear hr hb hi hfr hc HRL
    go_wp2_with fail
    go_ret
    exact HX.out
  · have d0 : (f != 0) = true := by simpa using h0
    have HX : Hid (DPost w g (BeginR x t m b) (.returned (.int .i64 f)) w1) := ⟨x, b, p, len, cap, f, rfl, ⟨.inl ⟨fun h => h0 (HF.out.ok.2 h), HF.out, rfl⟩, rfl⟩, H1g.out, H1D.out, H1C.out⟩
    clear h0 HRL HF
    go_wp2_with fail
    go_ret
    exact HX.out

end Go.Proofs.Ytlolippocnngcab.acc

/- The next number, for an account at work. -/
namespace Go.Proofs.Ytlolippocnngcab.acc
open Go.Proofs.Ytlolippocnngcab.tar (Du du0 Came RowD Ld PairT)
open Go.RowKit
set_option maxRecDepth 100000
set_option linter.unusedVariables false
set_option linter.unusedSimpArgs false

def NumPost (w : World) (g : Nat) (x : Ac) (b : Bi) (p : Option Addr) (len cap : Nat) (e : Ending) (w' : World) : Prop :=
  Chg w w' g ∧ ((¬ x.nx ≤ 1048575 ∧ e = .returned (.int .i64 20) ∧ Blk w' g (wcs x b p len cap) 81) ∨ (x.nx ≤ 1048575 ∧ e = .returned (.int .i64 0) ∧ Blk w' g (wcs { x with nx := x.nx + 1 } { b with id := x.nx } p len cap) 81))
set_option maxHeartbeats 2000000 in
theorem pnum (g : Nat) (x : Ac) (b : Bi) (p : Option Addr) (len cap : Nat) (w : World) (hw : Blk w g (wcs x b p len cap) 81) (hn : 1 ≤ x.nx ∧ x.nx ≤ 1048576) : Calls Try.prog 45 #[.pointer (some ⟨g, 0, none⟩)] w fun e w' => NumPost w g x b p len cap e w' := by
  obtain ⟨me, rv, nx, mo, bo, fr, ds⟩ := x
  obtain ⟨id, te, de, fe, pr, ch, un⟩ := b
  simp only [] at hn
  have HI : Hid (Blk w g #[.int .i64 me, .int .i64 rv, .int .i64 nx, .int .i64 mo, .int .i64 bo, .int .i64 fr, .slice p len cap, .int .i64 id, .int .i64 te, .int .i64 de, .int .i64 fe, .int .i64 pr, .int .i64 ch, .int .i64 un] 81) := hw
  have q2 : w.cell? ⟨g, 2, none⟩ = some (.int .i64 nx) := HI.out.cell 2
  clear hw
  by_cases h1 : nx ≤ 1048575
  · have d1 : decide (1048575 < nx) = false := decide_eq_false (by omega)
    have hwr : IntKind.i64.wrap (nx + 1) = nx + 1 := by rw [IntKind.wrap_i64]; omega
    have H1 : Hid (nx ≤ 1048575) := h1
    go_enter Try.func45, Try.ntmps45
    go_wp2_with (first | (refine wp_let1 rfl 3 _ _ rfl g 7 rfl .i64 nx rfl (by kernel_rfl) #[.int .i64 me, .int .i64 rv, .int .i64 nx, .int .i64 mo, .int .i64 bo, .int .i64 fr, .slice p len cap, .int .i64 id, .int .i64 te, .int .i64 de, .int .i64 fe, .int .i64 pr, .int .i64 ch, .int .i64 un] 81 HI.out (by simp) ?_) | fail)
    intro W1 hU1
    have HI1 : Hid (Blk W1 g #[.int .i64 me, .int .i64 rv, .int .i64 nx, .int .i64 mo, .int .i64 bo, .int .i64 fr, .slice p len cap, .int .i64 nx, .int .i64 te, .int .i64 de, .int .i64 fe, .int .i64 pr, .int .i64 ch, .int .i64 un] 81) := hU1.blk
    have HC1 : Hid (Chg w W1 g) := .upd hU1
    have q2' : W1.cell? ⟨g, 2, none⟩ = some (.int .i64 nx) := HI1.out.cell 2
    clear hU1 q2 HI d1
    go_wp2_with (first | (refine wp_let1 rfl 3 _ _ rfl g 2 rfl .i64 (nx + 1) rfl (by kernel_rfl) #[.int .i64 me, .int .i64 rv, .int .i64 nx, .int .i64 mo, .int .i64 bo, .int .i64 fr, .slice p len cap, .int .i64 nx, .int .i64 te, .int .i64 de, .int .i64 fe, .int .i64 pr, .int .i64 ch, .int .i64 un] 81 HI1.out (by simp) ?_) | fail)
    intro W2 hU2
    have HI2 : Hid (Blk W2 g #[.int .i64 me, .int .i64 rv, .int .i64 (nx + 1), .int .i64 mo, .int .i64 bo, .int .i64 fr, .slice p len cap, .int .i64 nx, .int .i64 te, .int .i64 de, .int .i64 fe, .int .i64 pr, .int .i64 ch, .int .i64 un] 81) := hU2.blk
    have HC2 : Hid (Chg w W2 g) := HC1.out.trans (.upd hU2)
    clear hU2 q2' HI1 HC1
    go_wp2_with fail
    go_ret
    exact ⟨HC2.out, .inr ⟨H1.out, rfl, HI2.out⟩⟩
  · have d1 : decide (1048575 < nx) = true := decide_eq_true (by omega)
    have H1 : Hid (¬ nx ≤ 1048575) := h1
    clear h1 hn
    go_enter Try.func45, Try.ntmps45
    go_wp2_with fail
    go_ret
    exact ⟨Chg.refl _ _, .inl ⟨Int.not_le.2 H1.out, rfl, HI.out⟩⟩

end Go.Proofs.Ytlolippocnngcab.acc

/- The share of what is handed over, in the program. -/
namespace Go.Proofs.Ytlolippocnngcab.deb
open Go.Proofs.Ytlolippocnngcab.tar (Du du0 Came RowD Ld ErrPost TwoPost PairT GaveD)
open Go.RowKit
set_option maxRecDepth 100000
set_option linter.unusedVariables false
set_option linter.unusedSimpArgs false

/-- What shareFor gives back. -/
def SharePost (ls : List Du) (t bp : Int) (w : World) (e : Ending) (w' : World) : Prop := ∃ s f, e = .returned (.tuple #[.int .i64 s, .int .i64 f]) ∧ ((¬ Mays ls ∧ FaultIs ls f ∧ s = 0) ∨ (Mays ls ∧ ShareIs t bp s f)) ∧ Below w.heap.size w w'
set_option maxHeartbeats 2000000 in
theorem pshare (a : Option Addr) (len cap : Nat) (ls : List Du) (t bp : Int) (w : World) (hr : RowD w a len ls) (hl : len ≤ maxLen) : Calls Try.prog 36 #[.slice a len cap, .int .i64 t, .int .i64 bp] w fun e w' => SharePost ls t bp w e w' := by
  have HFA : Hid (Calls Try.prog 40 #[.slice a len cap] w fun e w' => ∃ f, e = .returned (.int .i64 f) ∧ FaultIs ls f ∧ Below w.heap.size w w') := pcheck a len cap ls w hr hl
  have HIT : Hid (∀ W, Calls Try.prog 52 #[.int .i64 0, .int .i64 100000000, .int .i64 t] W fun e w' => e = .returned (.bool (decide (0 ≤ t ∧ t ≤ 100000000))) ∧ w' = W) := fun W => dwithin 0 100000000 t W
  clear hr hl
  go_enter Try.func36, Try.ntmps36
  go_wp2_with fail
  refine HFA.out.mono ?_
  rintro e w1 ⟨f, rfl, hf, hb1⟩
  have HB1 : Hid (Below w.heap.size w w1) := hb1
  have HF : Hid (FaultIs ls f) := hf
  clear hb1 HFA
  by_cases h0 : f = 0
  · subst h0
    have HM : Hid (Mays ls) := hf.ok.1 rfl
    clear hf HF
    by_cases ht : 0 ≤ t ∧ t ≤ 100000000
    · rw [decide_eq_true ht] at HIT
      by_cases hb : 0 ≤ bp ∧ bp ≤ 10000
      · have HPA : Hid (∀ W, Calls Try.prog 19 #[.int .i64 t, .int .i64 bp] W fun e w' => e = .returned (.tuple #[.int .i64 (t * bp / 10000), .int .i64 0]) ∧ Below W.heap.size W w') := fun W => cents.part_yes t bp W ht.1 (by omega) hb.1 hb.2
        have HT : Hid (TMay t bp) := ⟨ht, hb⟩
        clear ht hb
        go_wp2_with fail
        refine (HIT.out _).mono ?_
        rintro e w2 ⟨rfl, hw2⟩
        subst hw2
        go_wp2_with fail
        refine (HPA.out _).mono ?_
        rintro e w3 ⟨rfl, hb3⟩
        have HB3 : Hid (Below w.heap.size w w3) := HB1.out.trans (hb3.mono HB1.out.size)
        clear hb3
        go_wp2_with fail
        go_ret2
        exact ⟨_, _, rfl, .inr ⟨HM.out, .inl ⟨HT.out, rfl, rfl⟩⟩, HB3.out⟩
      · have HPA : Hid (∀ W, Calls Try.prog 19 #[.int .i64 t, .int .i64 bp] W fun e w' => e = .returned (.tuple #[.int .i64 0, .int .i64 2]) ∧ Below W.heap.size W w') := fun W => cents.part_no t bp W (.inr (by omega))
        have HT : Hid (¬ TMay t bp) := fun h => hb h.2
        clear ht hb
        go_wp2_with fail
        refine (HIT.out _).mono ?_
        rintro e w2 ⟨rfl, hw2⟩
        subst hw2
        go_wp2_with fail
        refine (HPA.out _).mono ?_
        rintro e w3 ⟨rfl, hb3⟩
        have HB3 : Hid (Below w.heap.size w w3) := HB1.out.trans (hb3.mono HB1.out.size)
        clear hb3
        go_wp2_with fail
        go_ret2
        exact ⟨_, _, rfl, .inr ⟨HM.out, .inr ⟨HT.out, rfl, rfl⟩⟩, HB3.out⟩
    · rw [decide_eq_false ht] at HIT
      have HT : Hid (¬ TMay t bp) := fun h => ht h.1
      clear ht
      go_wp2_with fail
      refine (HIT.out _).mono ?_
      rintro e w2 ⟨rfl, hw2⟩
      subst hw2
      go_wp2_with fail
      go_ret2
      exact ⟨_, _, rfl, .inr ⟨HM.out, .inr ⟨HT.out, rfl, rfl⟩⟩, HB1.out⟩
  · have hne : (f != 0) = true := by simpa using h0
    have HN : Hid (¬ Mays ls) := fun h => h0 (hf.ok.2 h)
    clear hf h0 HIT
    go_wp2_with fail
    go_ret2
    exact ⟨_, _, rfl, .inl ⟨HN.out, HF.out, rfl⟩, HB1.out⟩

end Go.Proofs.Ytlolippocnngcab.deb

/- debt.Recover. -/
namespace Go.Proofs.Ytlolippocnngcab.deb
open Go.Proofs.Ytlolippocnngcab.tar (Du du0 Came RowD Ld ErrPost TwoPost PairT GaveD)
open Go.RowKit
set_option maxRecDepth 100000
set_option linter.unusedVariables false
set_option linter.unusedSimpArgs false

set_option maxHeartbeats 4000000 in
theorem krec : KdRec := by
  intro w a len cap ls t bp hcame ht0 hb0
  have hr := hcame.row
  have HSH : Hid (Calls Try.prog 36 #[.slice a len cap, .int .i64 t, .int .i64 bp] w fun e w' => SharePost ls t bp w e w') := pshare a len cap ls t bp w hr hcame.most
  have HROW0 : Hid (RowD w a len ls) := hr
  clear hcame hr ht0 hb0
  go_enter Try.func18, Try.ntmps18
  go_wp2_with fail
  refine HSH.out.mono ?_
  rintro e w1 ⟨s, f, rfl, hf, hb1⟩
  have HB1 : Hid (Below w.heap.size w w1) := hb1
  clear hb1 HSH
  rcases hf with ⟨hm, hf, rfl⟩ | ⟨hm, ⟨ht, hse, hg⟩ | ⟨ht, rfl, rfl⟩⟩
  · have hne : (f != 0) = true := by simpa using fun h => hm (hf.ok.1 h)
    have HN : Hid (¬ Mays ls) := hm
    have HF : Hid (FaultIs ls f) := hf
    clear hf hm
    go_wp2_with fail
    go_ret3
    exact ⟨none, 0, 0, [], 0, f, rfl, .inl ⟨HN.out, HF.out, rfl, rfl⟩, fresh_nil _ _, HB1.out⟩
  · subst hg
    have HT : Hid (TMay t bp) := ht
    have hsb := share_bd ht
    rw [← hse] at hsb
    have HSE : Hid (s = t * bp / 10000) := hse
    have HM : Hid (Mays ls) := hm
    have HROW : Hid (RowD w1 a len ls) := HROW0.out.below HB1.out
    have HLEN : Hid (ls.length = len) := HROW.out.1
    have hl8 : len ≤ 8 := by have := hm.1; have := HLEN.out; omega
    clear ht hse hm HROW0
    go_wp2_with fail
    go_loopw [11, 12, 29] (fun u v x wr => ∃ (k : Nat) (V : Value), k ≤ len ∧ x = .int .i64 (k : Int) ∧ v = .int .i64 (max 0 (s - sumK ls k)) ∧ V = u ∧ Ld 70 wr w1.heap.size V (recK ls s k) ∧ Below w1.heap.size w1 wr) (fun _ _ x _ => len - (intOf x).toNat)
    case atStart => exact ⟨0, _, Nat.zero_le _, rfl, by show _ = Value.int .i64 (max 0 (s - 0)); rw [show max 0 (s - 0) = s by omega], rfl, tar.Ld.zero _ _ _, Below.refl _ _⟩
    case round =>
      obtain ⟨k, V, hk, rfl, rfl, hV, hu, hb⟩ := hrel
      subst hV
      have HBW : Hid (Below w1.heap.size w1 wr) := hb
      have HU : Hid (Ld 70 wr w1.heap.size V (recK ls s k)) := hu
      have hsk := sumK_bd HM.out k (by rw [HLEN.out]; exact hk)
      by_cases hlt : k < len
      · have hdl : decide ((k : Int) < (len : Int)) = true := by simp; omega
        obtain ⟨b, off, rfl, hbl, hc⟩ := HROW.out.at (by omega)
        have c0 : wr.cell? ⟨b, off + k * 2, none⟩ = some (.int .i64 (ls.getD k du0).a) := (hb.cell (p := ⟨b, off + k * 2, none⟩) hbl).trans (hc k hlt).1
        have c1 : wr.cell? ⟨b, off + k * 2 + 1, none⟩ = some (.int .i64 (ls.getD k du0).b) := (hb.cell (p := ⟨b, off + k * 2 + 1, none⟩) hbl).trans (hc k hlt).2
        have ho := HM.out.2 k (by rw [HLEN.out]; exact hlt)
        have ho1 := ho.1.1
        have ho2 := ho.1.2
        have HN : Hid (sumK ls k + (ls.getD k du0).a = sumK ls (k + 1)) := (sumK_next ls k).symm
        have HY : Hid (0 < left (ls.getD k du0).a (sumK ls k + (ls.getD k du0).a) s → recK ls s (k + 1) = recK ls s k ++ [⟨left (ls.getD k du0).a (sumK ls k + (ls.getD k du0).a) s, (ls.getD k du0).b⟩]) := recK_yes ls s k
        have HZ : Hid (¬ 0 < left (ls.getD k du0).a (sumK ls k + (ls.getD k du0).a) s → recK ls s (k + 1) = recK ls s k) := recK_no ls s k
        have hzl : (recK ls s k).length ≤ 1000000 := by have := recK_len ls s k; omega
        clear hc hb hu ho
        generalize recK ls s k = Z at *
        generalize hq1 : sumK ls k = q at *
        generalize (ls.getD k du0).a = x at *
        generalize (ls.getD k du0).b = y at *
        have HBX : Hid (Blk (wr.alloc (.cells #[.int .i64 x, .int .i64 y] 70)) wr.heap.size #[.int .i64 x, .int .i64 y] 70) := Blk.new wr _ _
        generalize hR : max 0 (s - q) = R at *
        have hR0 : 0 ≤ R := by omega
        have hR1 : R ≤ 100000000 := by omega
        have hmin := tar.run_min R x _ rfl
        generalize hp : min R x = p at *
        have hp0 : 0 ≤ p := by omega
        have hp1 : p ≤ x := by omega
        have hp2 : p ≤ R := by omega
        by_cases hpos : 0 < x - p
        ·
          have HRN : Hid (R - p = max 0 (s - sumK ls (k + 1))) := by show _ = _; rw [← HN.out]; omega
          have hd2 : decide (0 < x - p) = true := decide_eq_true hpos
          have hle : left x (q + x) s = x - p := by unfold left; omega
          rw [hle] at HY
          have HZ2 : Hid (recK ls s (k + 1) = Z ++ [⟨x - p, y⟩]) := HY.out hpos
          clear HY HZ hle
          clear hq1 hR hp hsk HN
          go_wp2_with (first
            | (refine wp_let1 rfl 3 _ _ rfl (wr.heap.size) 0 rfl .i64 (x - p) rfl (by kernel_rfl) #[.int .i64 x, .int .i64 y] 70 HBX.out (by simp) ?_)
            | fail)
          intro W1 hU1
          have HX1 : Hid (Blk W1 wr.heap.size #[.int .i64 (x - p), .int .i64 y] 70) := hU1.blk
          have hbw : Below wr.heap.size wr W1 := hU1.bel _ _ (Nat.le_refl _) ((Below.refl _ _).alloc (Nat.le_refl _) _)
          have HBW1 : Hid (Below w1.heap.size w1 W1) := HBW.out.trans (hbw.mono HBW.out.size)
          have HU1 : Hid (Ld 70 W1 w1.heap.size V Z) := HU.out.next hbw
          have d0 : W1.cell? ⟨wr.heap.size, 0, none⟩ = some (.int .i64 (x - p)) := HX1.out.cell 0
          have d1 : W1.cell? ⟨wr.heap.size, 1, none⟩ = some (.int .i64 y) := HX1.out.cell 1
          clear hU1 hbw HBX HBW HU c0 c1
          have HBA : Hid (Below w1.heap.size w1 (W1.alloc (.cells #[.int .i64 (x - p), .int .i64 y] 70))) := HBW1.out.alloc HBW1.out.size _
          have HZA : Hid (Ld 70 (W1.alloc (.cells #[.int .i64 (x - p), .int .i64 y] 70)) w1.heap.size V Z) := HU1.out.alloc _
          have HCA : Hid ((W1.alloc (.cells #[.int .i64 (x - p), .int .i64 y] 70)).cell? ⟨W1.heap.size, 0, none⟩ = some (.int .i64 (x - p)) ∧ (W1.alloc (.cells #[.int .i64 (x - p), .int .i64 y] 70)).cell? ⟨W1.heap.size, 1, none⟩ = some (.int .i64 y)) := ⟨(Blk.new W1 _ _).cell 0, (Blk.new W1 _ _).cell 1⟩
          go_wp2_with (first
            | (at_builtin; refine tar.wp_pair debtT rfl _ _ rfl w1.heap.size (W1.heap.size) V Z ⟨x - p, y⟩ rfl rfl HZA.out HCA.out hzl HBA.out.size ?_)
            | fail)
          intro v3 w3 h3 hg3
          have HB3 : Hid (Below w1.heap.size w1 w3) := tar.own_bel HZA.out hg3 HBA.out (Nat.le_refl _) HBA.out.size
          have H3 : Hid (Ld 70 w3 w1.heap.size v3 (Z ++ [⟨x - p, y⟩])) := h3
          clear h3 hg3 HZA HCA HBA HU1 d0 d1
          go_wp2_with fail
          go_roundw
          case rel => exact ⟨k + 1, v3, by omega, by go_num, by rw [← HRN.out], by first | rfl | trivial, by rw [HZ2.out]; exact H3.out, HB3.out⟩
          case measure => simp [intOf]; omega
        ·
          have HRN : Hid (R - p = max 0 (s - sumK ls (k + 1))) := by show _ = _; rw [← HN.out]; omega
          have hd2 : decide (0 < x - p) = false := decide_eq_false hpos
          have hle : ¬ 0 < left x (q + x) s := by unfold left; omega
          have HZ2 : Hid (recK ls s (k + 1) = Z) := HZ.out hle
          clear HY HZ hle
          clear hq1 hR hp hsk HN
          go_wp2_with (first
            | (refine wp_let1 rfl 3 _ _ rfl (wr.heap.size) 0 rfl .i64 (x - p) rfl (by kernel_rfl) #[.int .i64 x, .int .i64 y] 70 HBX.out (by simp) ?_)
            | fail)
          intro W1 hU1
          have HX1 : Hid (Blk W1 wr.heap.size #[.int .i64 (x - p), .int .i64 y] 70) := hU1.blk
          have hbw : Below wr.heap.size wr W1 := hU1.bel _ _ (Nat.le_refl _) ((Below.refl _ _).alloc (Nat.le_refl _) _)
          have HBW1 : Hid (Below w1.heap.size w1 W1) := HBW.out.trans (hbw.mono HBW.out.size)
          have HU1 : Hid (Ld 70 W1 w1.heap.size V Z) := HU.out.next hbw
          have d0 : W1.cell? ⟨wr.heap.size, 0, none⟩ = some (.int .i64 (x - p)) := HX1.out.cell 0
          have d1 : W1.cell? ⟨wr.heap.size, 1, none⟩ = some (.int .i64 y) := HX1.out.cell 1
          clear hU1 hbw HBX HBW HU c0 c1
          go_wp2_with fail
          go_roundw
          case rel => exact ⟨k + 1, V, by omega, by go_num, by rw [← HRN.out], by first | rfl | trivial, by rw [HZ2.out]; exact HU1.out, HBW1.out⟩
          case measure => simp [intOf]; omega
      · obtain rfl : k = len := by omega
        have hdl : decide ((k : Int) < (k : Int)) = false := by simp
        have HV : Hid (sumK ls k = sumD ls) := by have := sumK_all ls; rw [HLEN.out] at this; exact this
        have HRE : Hid (recK ls s k = recK ls (t * bp / 10000) ls.length) := by show _ = _; rw [HLEN.out, HSE.out]
        have hmz : Mays (recK ls s k) := ⟨Nat.le_trans (recK_len ls s k) hl8, fits_mem fun d hd => (recK_ok HM.out s k (by rw [HLEN.out]; exact Nat.le_refl _) d hd).1⟩
        obtain ⟨a3, cap3, hv3, hcm⟩ := ld_fresh hu hmz
        subst hv3
        have HCM : Hid (Fresh wr w.heap.size a3 (recK ls s k).length cap3 (recK ls s k)) := hcm.low HB1.out.size
        have HB9 : Hid (Below w.heap.size w wr) := HB1.out.trans (HBW.out.mono HB1.out.size)
        have HP : Hid (s - max 0 (s - sumK ls k) = min (t * bp / 10000) (sumD ls)) := by show _ = _; rw [← HSE.out, ← HV.out]; omega
        clear hb hu hmz hcm HU
        generalize (recK ls s k).length = len3 at *
        generalize recK ls s k = Z at *
        generalize hq : max 0 (s - sumK ls k) = q at *
        have hq0 : 0 ≤ q := by omega
        have hq1 : q ≤ s := by omega
        clear hq hsk
        go_wp2_with fail
        go_ret3
        exact ⟨a3, len3, cap3, Z, s - q, 0, rfl, .inr (.inr ⟨HM.out, HT.out, rfl, HRE.out, HP.out⟩), HCM.out, HB9.out⟩
  · have HM : Hid (Mays ls) := hm
    have HT : Hid (¬ TMay t bp) := ht
    clear ht hm
    go_wp2_with fail
    go_ret3
    exact ⟨none, 0, 0, [], 0, 2, rfl, .inr (.inl ⟨HM.out, HT.out, rfl, rfl, rfl⟩), fresh_nil _ _, HB1.out⟩

end Go.Proofs.Ytlolippocnngcab.deb

/- tariff.Most: what is asked of it. -/
namespace Go.Proofs.Ytlolippocnngcab.tar
open Go.RowKit

def KtMost : Prop := ∀ (W : World) (a : Option Addr) (len cap : Nat) (ls : List Du) (x n : Int), Came W a len cap ls → (Lit.int .i64 x).wf = true → (Lit.int .i64 n).wf = true → Calls Try.prog 50 #[.slice a len cap, .int .i64 x, .int .i64 n] W fun e w' => ThreePost W (MostIs ls x n) e w'

end Go.Proofs.Ytlolippocnngcab.tar

/- A quiet region that draws its order, in a round of a loop over a function. -/
namespace Go.Proofs.Ytlolippocnngcab
open Go.RowKit

theorem operIn_round {F : Fence} {n : Nat} {P : Program} (hro : F.round = none) (l : Nat) {o : Oper} (hd : ∀ c, o.op ≠ .defer c) {a : Act} {w : World} {K K' : Act → World → Prop} {Q : Exit → Act → World → Prop} (hK : ∀ a w, K a w → K' a w) (h : o.wpIn F n P a w K Q) : o.wpIn (F.inRound l) n P a w K' Q := by
  have h2 := Oper.wpIn_mono hK h
  unfold Oper.wpIn at *
  refine ⟨h2.1, ?_⟩
  have h3 := h2.2
  rw [hro, Oper.semAt_none] at h3
  rw [Fence.inRound_round, Oper.semAt_some l _ _ hd]
  generalize (execOp a.eval o).run P w = r at *
  cases r with
  | ok x w' => cases x <;> exact h3
  | halt x w' => cases x <;> exact h3
theorem opsIn_round {F : Fence} {n : Nat} {P : Program} {ops : Array Oper} {Q : Exit → Act → World → Prop} (hro : F.round = none) (l : Nat) (hd : ∀ (i : Nat) (o : Oper), ops[i]? = some o → ∀ c, o.op ≠ .defer c) : ∀ (s : List Nat) (a : Act) (w : World), wpOpsIn F n P ops Q s a w → wpOpsIn (F.inRound l) n P ops Q s a w
  | [], _, _, h => h
  | i :: s, a, w, h => by
    unfold wpOpsIn at h ⊢
    cases hi : ops[i]? with
    | none => rw [hi] at h; exact opsIn_round hro l hd s a w h
    | some o =>
      rw [hi] at h
      dsimp only at h ⊢
      by_cases hw : Region.wanted o (yielded ops a.tmps) = true
      · rw [if_pos hw] at h ⊢
        exact operIn_round hro l (hd i o hi) (fun a w h => opsIn_round hro l hd s a w h) h
      · rw [if_neg hw] at h ⊢
        exact ⟨h.1, opsIn_round hro l hd s _ w h.2⟩
def noDefer (l : List Oper) : Bool := l.all fun o => match o.op with | .defer _ => false | _ => true
theorem noDefer_spec {l : List Oper} (h : noDefer l = true) (i : Nat) (o : Oper) (ho : l.toArray[i]? = some o) (c : Call) : o.op ≠ .defer c := by
  intro e
  have h1 : o ∈ l := by
    have : l[i]? = some o := by simpa using ho
    exact List.mem_of_getElem? this
  have h2 := List.all_eq_true.1 h o h1
  rw [e] at h2
  exact Bool.noConfusion h2
theorem round_quiet {F : Fence} {n : Nat} {P : Program} {id : Nat} {Q : Exit → Act → World → Prop} {a : Act} {w : World} {l : List Oper} {r : Nat} (hro : F.round = none) (hm : P.follows .mixedOrders = true) (hB : Region.lexB .any l.toArray = true) (hd : noDefer l = true)
    (h : wpQuietIn F n P l.toArray (fun w' => ∃ n, w' = w.drewN n) (fun a' => ∀ w', (∃ n, w' = w.drewN n) → Q .normal a' w') l a) : (Code.region id l.toArray true).wpIn (F.inRound r) n P Q a w := by
  simp only [Region.lexB, Bool.and_eq_true] at hB
  refine wpIn_region_draw fun t => opsIn_round hro r (noDefer_spec hd) _ _ _ ?_
  simp only [Region.schedule, hm, Bool.true_or, if_true]
  refine wpAnyIn_sound _ t _ a _ ?_
  refine wpAnyIn_of_quiet (C := fun w' => ∃ n, w' = w.drewN n) (Q := fun a' => ∀ w', (∃ n, w' = w.drewN n) → Q .normal a' w') hro (fun _ w' hw' h => h w' hw') _ _ _ _ ⟨1, rfl⟩ ?_
  have := wpAnyQIn_lex (F := F) (n := n) (C := fun w' => ∃ n, w' = w.drewN n) (md := .any) hB.1 l 0 (Array.replicate l.toArray.size false) a (by simp) (by simpa using hB.2) h
  simpa using this

end Go.Proofs.Ytlolippocnngcab

/- Lines that come one by one: plain facts. -/
namespace Go.Proofs.Ytlolippocnngcab.tar
open Go.RowKit
set_option linter.unusedVariables false

/-- A line as it is handed over. -/
abbrev Ln := { t : Tr // LineOk t }
def encL (t : Ln) : Array Value := #[.agg #[.int .i64 t.1.a, .int .i64 t.1.b, .int .i64 t.1.c]]
def lns (l : List Ln) : List Tr := l.map (fun t => t.1)
theorem lns_app (l m : List Ln) : lns (l ++ m) = lns l ++ lns m := by unfold lns; rw [List.map_append]
theorem lns_len (l : List Ln) : (lns l).length = l.length := by unfold lns; rw [List.length_map]
theorem lns_ok (l : List Ln) : ∀ t ∈ lns l, LineOk t := fun t ht => by
  unfold lns at ht
  obtain ⟨s, _, rfl⟩ := List.mem_map.1 ht
  exact s.2
/-- Whatever a round may turn: nothing below n, and none of the blocks from lo to hi. -/
def Kq (n lo hi : Nat) (W W' : World) : Prop := Below n W W' ∧ ∀ j, lo ≤ j → j < hi → W'.heap[j]? = W.heap[j]?
theorem Kq.trans {n lo hi : Nat} {A B C : World} (h : Kq n lo hi A B) (k : Kq n lo hi B C) : Kq n lo hi A C := ⟨h.1.trans k.1, fun j a b => (k.2 j a b).trans (h.2 j a b)⟩
/-- The units that come next. -/
theorem nxt_yes {l : List Du} (h : Right l) (x y : Int) (hx : 0 ≤ x) (hxy : x ≤ y) (k : Nat) (hk : k < l.length) (hp : 0 < min (l.getD k du0).a y - (x + manyK l x y k)) : min (l.getD k du0).a y - (x + manyK l x y k) = ov (low l k) (l.getD k du0).a x y := by
  have h1 := many_eq h x y hx hxy k (by omega)
  have h2 := h.rise k hk
  have h3 := h.low_pos k (by omega)
  rw [h1] at hp ⊢
  unfold ov
  omega
theorem nxt_no {l : List Du} (h : Right l) (x y : Int) (hx : 0 ≤ x) (hxy : x ≤ y) (k : Nat) (hk : k < l.length) (hp : ¬ 0 < min (l.getD k du0).a y - (x + manyK l x y k)) : ov (low l k) (l.getD k du0).a x y = 0 := by
  have h1 := many_eq h x y hx hxy k (by omega)
  have h2 := h.rise k hk
  have h3 := h.low_pos k (by omega)
  rw [h1] at hp
  unfold ov
  omega
theorem many_next (l : List Du) (x y : Int) (k : Nat) : manyK l x y (k + 1) = manyK l x y k + ov (low l k) (l.getD k du0).a x y := rfl
theorem many_bd {l : List Du} (h : Right l) (x y : Int) (hx : 0 ≤ x) (hxy : x ≤ y) (k : Nat) (hk : k ≤ l.length) : 0 ≤ manyK l x y k ∧ manyK l x y k ≤ y - x := by
  rw [many_eq h x y hx hxy k hk]; omega
theorem line_ok {l : List Du} (h : Right l) (x y : Int) (k : Nat) (hk : k < l.length) (hp : 0 < ov (low l k) (l.getD k du0).a x y) : LineOk ⟨ov (low l k) (l.getD k du0).a x y, (l.getD k du0).b, ov (low l k) (l.getD k du0).a x y * (l.getD k du0).b⟩ := by
  have h1 := h.price k hk
  have h2 := h.upto k hk
  have h3 := h.low_pos k (by omega)
  exact ⟨by show 1 ≤ ov _ _ _ _; omega, ov_le _ _ _ _ h3 h2.2, h1.1, h1.2, rfl⟩
theorem bill_prefix (l : List Du) (x y : Int) (k m : Nat) (hkm : k ≤ m) : billK l x y k <+: billK l x y m := by
  induction m with
  | zero => have : k = 0 := by omega
            subst this; exact List.prefix_refl _
  | succ m ih =>
    by_cases e : k = m + 1
    · subst e; exact List.prefix_refl _
    · exact (ih (by omega)).trans (List.prefix_append (billK l x y m) (if 0 < ov (low l m) (l.getD m du0).a x y then [⟨ov (low l m) (l.getD m du0).a x y, (l.getD m du0).b, ov (low l m) (l.getD m du0).a x y * (l.getD m du0).b⟩] else []))

end Go.Proofs.Ytlolippocnngcab.tar

/- The lines, one by one, in the program. -/
namespace Go.Proofs.Ytlolippocnngcab.tar
open Go.RowKit Go.Shelf
set_option maxRecDepth 100000
set_option linter.unusedVariables false
set_option linter.unusedSimpArgs false
attribute [local go_sem] Oper.semAt_some

theorem boxed_same {W W' : World} {B : Nat} {t : TypeId} {v : Value} (h : Boxed W B t v) (e : W'.heap[B]? = W.heap[B]?) : Boxed W' B t v := e.trans h

set_option maxHeartbeats 2000000 in
theorem lines1_in (F : Fence) (n : Nat) (hF : F.fn 55) (hro : F.round = none) (hn : 1 ≤ n) (l Bf Bt Bu n₀ lo hi b off len cap B0 : Nat) (ls : List Du) (x u : Int) (J Jx : List Ln → World → Prop)
    (hR : Right ls) (hlen : ls.length = len) (hx : 0 ≤ x ∧ x ≤ 10000000) (hu : 0 ≤ u ∧ x + u ≤ 10000000) (hJ : AbidesFrom B0 J)
    (hY : ∀ pre t W, J pre W → pre.length < len → YieldAt F (n - 1) Try.prog l (encL t) W fun e W' =>
      (e = .returned (.bool true) ∧ J (pre ++ [t]) W' ∧ Kq n₀ lo hi W W') ∨ (e = .returned (.bool false) ∧ Jx (pre ++ [t]) W'))
    (W : World) (hf : Boxed W Bf 3 (.int .i64 x)) (ht : Boxed W Bt 40 (.slice (some ⟨b, off, none⟩) len cap)) (hun : Boxed W Bu 3 (.int .i64 u)) (h1 : lo ≤ Bf ∧ Bf < hi) (h2 : lo ≤ Bu ∧ Bu < hi) (hb : b < n₀) (hnW : n₀ ≤ W.heap.size)
    (hc : ∀ i, i < len → W.cell? ⟨b, off + i * 2, none⟩ = some (.int .i64 (ls.getD i du0).a) ∧ W.cell? ⟨b, off + i * 2 + 1, none⟩ = some (.int .i64 (ls.getD i du0).b)) (h0 : J [] W) :
    CallsIn F n Try.prog 55 #[.func (.yield l) #[] #[], .pointer (some ⟨Bf, 0, none⟩), .pointer (some ⟨Bt, 0, none⟩), .pointer (some ⟨Bu, 0, none⟩)] W fun e W' => (∃ v, e = .returned v) ∧
      ((∃ ys, lns ys = billK ls x (x + u) len ∧ J ys W') ∨ (∃ pre, lns pre <+: billK ls x (x + u) len ∧ Jx pre W')) := by
  have HR : Hid (Right ls) := hR
  have HY : Hid (∀ pre t W, J pre W → pre.length < len → YieldAt F (n - 1) Try.prog l (encL t) W fun e W' =>
      (e = .returned (.bool true) ∧ J (pre ++ [t]) W' ∧ Kq n₀ lo hi W W') ∨ (e = .returned (.bool false) ∧ Jx (pre ++ [t]) W')) := hY
  have HJ : Hid (AbidesFrom B0 J) := hJ
  have HC : Hid (∀ i, i < len → W.cell? ⟨b, off + i * 2, none⟩ = some (.int .i64 (ls.getD i du0).a) ∧ W.cell? ⟨b, off + i * 2 + 1, none⟩ = some (.int .i64 (ls.getD i du0).b)) := hc
  have HLEN : Hid (ls.length = len) := hlen
  have hl8 : len ≤ 8 := by have := hR.1.2; omega
  have ct := ht.cell
  have cf := hf.cell
  obtain ⟨hx0, hx1⟩ := hx
  obtain ⟨hu0, hu1⟩ := hu
  have HX : Hid (0 ≤ x ∧ x ≤ x + u ∧ x + u ≤ 10000000) := ⟨hx0, by omega, hu1⟩
  clear hR hY hJ hc hlen
  refine callsIn_of_wp Try.func55 rfl hF ?_ hro
  simp only [Try.ntmps55, List.size_toArray, List.length_cons, List.length_nil, Nat.reduceAdd, Nat.reduceSub, Array.replicate_succ, Array.replicate_zero, List.push_toArray, List.append_toArray, List.nil_append, List.cons_append]
  gi_wp2
  gi_loopw [5, 12] (fun r i wr => ∃ (k : Nat) (pre : List Ln), k ≤ len ∧ i = .int .i64 (k : Int) ∧ r = .int .i64 (x + manyK ls x (x + u) k) ∧ lns pre = billK ls x (x + u) k ∧ J pre wr ∧ Boxed wr Bf 3 (.int .i64 x) ∧ Boxed wr Bu 3 (.int .i64 u) ∧ Below n₀ W wr) (fun _ i _ => len - (intOf i).toNat)
  case atStart => exact ⟨0, [], Nat.zero_le _, rfl, by show _ = Value.int .i64 (x + 0); rw [Int.add_zero], rfl, h0, hf, hun, Below.refl _ _⟩
  case round =>
    obtain ⟨k, pre, hk, rfl, rfl, hpre, hj, hbf, hbu, hbl⟩ := hrel
    have HPRE : Hid (lns pre = billK ls x (x + u) k) := hpre
    have HJP : Hid (J pre wr) := hj
    have HBF : Hid (Boxed wr Bf 3 (.int .i64 x)) := hbf
    have HBU : Hid (Boxed wr Bu 3 (.int .i64 u)) := hbu
    have HBL : Hid (Below n₀ W wr) := hbl
    clear hpre hj hf hun ht ct cf
    by_cases hlt : k < len
    · have hdl : decide ((k : Int) < (len : Int)) = true := by simp; omega
      have c0 : wr.cell? ⟨b, off + k * 2, none⟩ = some (.int .i64 (ls.getD k du0).a) := (hbl.cell (p := ⟨b, off + k * 2, none⟩) hb).trans (HC.out k hlt).1
      have c1 : wr.cell? ⟨b, off + k * 2 + 1, none⟩ = some (.int .i64 (ls.getD k du0).b) := (hbl.cell (p := ⟨b, off + k * 2 + 1, none⟩) hb).trans (HC.out k hlt).2
      have hkl : k < ls.length := by rw [HLEN.out]; exact hlt
      have hpr := HR.out.price k hkl
      have hup := HR.out.upto k hkl
      have hmb := many_bd HR.out x (x + u) hx0 (by omega) k (by omega)
      have hmin := run_min (ls.getD k du0).a (x + u) _ rfl
      have hpl : pre.length < len := by
        have e1 := lns_len pre
        have e2 := bill_len ls x (x + u) k
        rw [HPRE.out] at e1
        omega
      have HBA : Hid (∀ o, Below n₀ W (wr.alloc o)) := fun o => hbl.alloc (Nat.le_trans hnW hbl.size) o
      have cf : ∀ o, (wr.alloc o).cell? ⟨Bf, 0, none⟩ = some (.int .i64 x) := fun o => (hbf.alloc o).cell
      have cu : ∀ o, (wr.alloc o).cell? ⟨Bu, 0, none⟩ = some (.int .i64 u) := fun o => (hbu.alloc o).cell
      have HFA : Hid (∀ o, Boxed (wr.alloc o) Bf 3 (.int .i64 x)) := fun o => hbf.alloc o
      have HUA : Hid (∀ o, Boxed (wr.alloc o) Bu 3 (.int .i64 u)) := fun o => hbu.alloc o
      have HJA : Hid (∀ o, J pre (wr.alloc o)) := fun o => HJ.out pre wr _ none HJP.out (World.grownBy_alloc wr o none) (fun r e => by cases e)
      clear hbf hbu hbl
      by_cases hp : 0 < min (ls.getD k du0).a (x + u) - (x + manyK ls x (x + u) k)
      · have ho := nxt_yes HR.out x (x + u) hx0 (by omega) k hkl hp
        have hp2 := hp
        rw [ho] at hp2
        have hok := line_ok HR.out x (x + u) k hkl hp2
        have HN : Hid (billK ls x (x + u) (k + 1) = billK ls x (x + u) k ++ [⟨ov (low ls k) (ls.getD k du0).a x (x + u), (ls.getD k du0).b, ov (low ls k) (ls.getD k du0).a x (x + u) * (ls.getD k du0).b⟩]) := billK_yes ls x (x + u) k hp2
        have HM : Hid (manyK ls x (x + u) (k + 1) = manyK ls x (x + u) k + ov (low ls k) (ls.getD k du0).a x (x + u)) := many_next ls x (x + u) k
        have hm2 := many_bd HR.out x (x + u) hx0 (by omega) (k + 1) (by omega)
        rw [HM.out] at hm2
        have hle := ov_le (low ls k) (ls.getD k du0).a x (x + u) (HR.out.low_pos k (by omega)) hup.2
        have hpb := prod_bd (Int.le_of_lt hp2) hle hpr.1 hpr.2
        generalize ov (low ls k) (ls.getD k du0).a x (x + u) = o at *
        generalize manyK ls x (x + u) k = mk at *
        generalize (ls.getD k du0).a = up at *
        generalize (ls.getD k du0).b = p at *
        generalize min up (x + u) = m at *
        have hm : m - (x + mk) = o := ho
        have hdo : decide (o ≤ 0) = false := by simp; omega
        have HQ : Hid (∀ C, YieldAt F (n - 1) Try.prog l (encL ⟨⟨o, p, o * p⟩, hok⟩) (wr.alloc C) fun e W' =>
          (e = .returned (.bool true) ∧ J (pre ++ [⟨⟨o, p, o * p⟩, hok⟩]) W' ∧ Kq n₀ lo hi (wr.alloc C) W') ∨ (e = .returned (.bool false) ∧ Jx (pre ++ [⟨⟨o, p, o * p⟩, hok⟩]) W')) := fun C => HY.out pre ⟨⟨o, p, o * p⟩, hok⟩ _ (HJA.out C) hpl
        obtain ⟨fn, tmps, assign, body, hy, hRd⟩ := HQ.out (.cells #[.int .i64 up, .int .i64 p] 87)
        have HNX : Hid (lns (pre ++ [⟨⟨o, p, o * p⟩, hok⟩]) = billK ls x (x + u) (k + 1)) := by
          show _ = _
          rw [lns_app, HPRE.out, HN.out]; rfl
        have hpb0 := hpb.1
        have hpb1 := hpb.2
        have hxm0 : 0 ≤ x + mk := by omega
        have hxm1 : x + mk ≤ 10000000 := by omega
        have hm0 : 0 ≤ m := by omega
        have hm1 : m ≤ 20000000 := by omega
        have hs1 : x + mk + o ≤ 10000000 := by omega
        have ho0 : 0 ≤ o := by omega
        simp only [encL] at hy
        clear ho hp HQ hmb hm2 hpb hpr hup
        gi_wp2
        refine hRd.mono ?_
        rintro e W3 (⟨rfl, hJ3, hk3⟩ | ⟨rfl, hJx3⟩)
        · have HB3 : Hid (Below n₀ W W3) := (HBA.out _).trans hk3.1
          have HF3 : Hid (Boxed W3 Bf 3 (.int .i64 x)) := boxed_same (HFA.out _) (hk3.2 Bf h1.1 h1.2)
          have HU3 : Hid (Boxed W3 Bu 3 (.int .i64 u)) := boxed_same (HUA.out _) (hk3.2 Bu h2.1 h2.2)
          have HJ3 : Hid (J (pre ++ [⟨⟨o, p, o * p⟩, hok⟩]) W3) := hJ3
          clear hk3 hJ3
          gi_wp2
          go_roundw
          case rel => exact ⟨k + 1, pre ++ [⟨⟨o, p, o * p⟩, hok⟩], by omega, by go_num, by rw [HM.out, Int.add_assoc], HNX.out, HJ3.out, HF3.out, HU3.out, HB3.out⟩
          case measure => simp [intOf]; omega
        · have HJX : Hid (Jx (pre ++ [⟨⟨o, p, o * p⟩, hok⟩]) W3) := hJx3
          clear hJx3
          gi_wp2
          refine bodyPost_ret (results_none rfl _ _ _) rfl ?_
          exact ⟨⟨_, rfl⟩, .inr ⟨pre ++ [⟨⟨o, p, o * p⟩, hok⟩], by rw [HNX.out]; exact bill_prefix ls x (x + u) (k + 1) len (by omega), HJX.out⟩⟩
      · have ho := nxt_no HR.out x (x + u) hx0 (by omega) k hkl hp
        have hmz : 0 ≤ min (ls.getD k du0).a (x + u) := by omega
        have HN : Hid (billK ls x (x + u) (k + 1) = billK ls x (x + u) k) := billK_no ls x (x + u) k (by omega)
        have HM : Hid (manyK ls x (x + u) (k + 1) = manyK ls x (x + u) k) := by show _ = _; rw [many_next, ho, Int.add_zero]
        generalize manyK ls x (x + u) k = mk at *
        generalize (ls.getD k du0).a = up at *
        generalize (ls.getD k du0).b = p at *
        generalize min up (x + u) = m at *
        have hxm0 : 0 ≤ x + mk := by omega
        have hxm1 : x + mk ≤ 10000000 := by omega
        have hdo : decide (m - (x + mk) ≤ 0) = true := by simp; omega
        have hm0 : 0 ≤ m := hmz
        have hm1 : m ≤ 20000000 := by omega
        clear ho hp hmb hpr hup
        gi_wp2
        go_roundw
        case rel => exact ⟨k + 1, pre, by omega, by go_num, by rw [HM.out], by rw [HN.out]; exact HPRE.out, HJA.out _, HFA.out _, HUA.out _, HBA.out _⟩
        case measure => simp [intOf]; omega
    · obtain rfl : k = len := by omega
      have hdl : decide ((k : Int) < (k : Int)) = false := by simp
      clear hbf hbu hbl
      gi_wp2
      go_end0
      exact ⟨⟨_, rfl⟩, .inl ⟨pre, HPRE.out, HJP.out⟩⟩

end Go.Proofs.Ytlolippocnngcab.tar

/- The lines as a function that yields, in the program. -/
namespace Go.Proofs.Ytlolippocnngcab.tar
open Go.RowKit Go.Shelf
set_option maxRecDepth 100000
set_option linter.unusedVariables false
set_option linter.unusedSimpArgs false
attribute [local go_sem] Oper.semAt_some

theorem blk_own {β : Type} (B : Nat) (t : TypeId) (f : β → Array Value) : Own (fun s W => Blk W B (f s) t) := fun s X Y row hs hg hrow => by
  have hl := hs.lt
  refine (hg.block B hl fun e' => ?_).trans hs
  obtain ⟨o, ho, hc⟩ := hrow B e'.symm
  rw [show X.heap[B]? = _ from hs] at ho; cases ho; cases hc
def boxes (w : World) (v : Value) (x u : Int) : World := ((w.alloc (.cells #[v] 40)).alloc (.cells #[.int .i64 x] 3)).alloc (.cells #[.int .i64 u] 3)
theorem boxes_size (w : World) (v : Value) (x u : Int) : (boxes w v x u).heap.size = w.heap.size + 3 := by unfold boxes; simp
theorem boxes_t (w : World) (v : Value) (x u : Int) : Boxed (boxes w v x u) w.heap.size 40 v := ((Boxed.new w _ v).alloc _).alloc _
theorem boxes_x (w : World) (v : Value) (x u : Int) : Boxed (boxes w v x u) (w.heap.size + 1) 3 (.int .i64 x) := by
  have h := (Boxed.new (w.alloc (.cells #[v] 40)) 3 (.int .i64 x)).alloc (.cells #[.int .i64 u] 3)
  rw [World.size_alloc] at h
  exact h
theorem boxes_u (w : World) (v : Value) (x u : Int) : Boxed (boxes w v x u) (w.heap.size + 1 + 1) 3 (.int .i64 u) := by
  have h := Boxed.new ((w.alloc (.cells #[v] 40)).alloc (.cells #[.int .i64 x] 3)) 3 (.int .i64 u)
  rw [World.size_alloc, World.size_alloc] at h
  exact h
theorem boxes_bel {n : Nat} {w0 w : World} (h : Below n w0 w) (hn : n ≤ w.heap.size) (v : Value) (x u : Int) : Below n w0 (boxes w v x u) := ((h.alloc hn _).alloc (by simp; omega) _).alloc (by simp; omega) _
theorem boxes_boxed {w : World} {B : Nat} {t : TypeId} {o : Value} (h : Boxed w B t o) (v : Value) (x u : Int) : Boxed (boxes w v x u) B t o := ((h.alloc _).alloc _).alloc _

set_option maxHeartbeats 1000000 in
theorem lines_in (F : Fence) (n : Nat) (hF : F.fn 39) (hro : F.round = none) (a : Option Addr) (len cap : Nat) (x u : Int) (w : World) :
    CallsIn F n Try.prog 39 #[.slice a len cap, .int .i64 x, .int .i64 u] w fun e w' => e = .returned (.func (.func 55) #[] #[.pointer (some ⟨w.heap.size + 1, 0, none⟩), .pointer (some ⟨w.heap.size, 0, none⟩), .pointer (some ⟨w.heap.size + 1 + 1, 0, none⟩)]) ∧ w' = boxes w (.slice a len cap) x u := by
  refine callsIn_of_wp Try.func39 rfl hF ?_ hro
  simp only [Try.ntmps39, List.size_toArray, List.length_cons, List.length_nil, Nat.reduceAdd, Nat.reduceSub, Array.replicate_succ, Array.replicate_zero, List.push_toArray, List.append_toArray, List.nil_append, List.cons_append]
  gi_wp2
  go_ret
  exact ⟨rfl, rfl⟩
/-- What is to be known of a call of the lines, at the world w where the loop begins. -/
structure Lnd (w : World) (n₀ B b off len cap : Nat) (ls : List Du) (x u : Int) : Prop where
  right : Right ls
  many : ls.length = len
  x0 : 0 ≤ x
  x1 : x ≤ 10000000
  u0 : 0 ≤ u
  u1 : x + u ≤ 10000000
  bt : Boxed w B 40 (.slice (some ⟨b, off, none⟩) len cap)
  bx : Boxed w (B + 1) 3 (.int .i64 x)
  bu : Boxed w (B + 1 + 1) 3 (.int .i64 u)
  hb : b < n₀
  hn : n₀ ≤ w.heap.size
  row : ∀ i, i < len → w.cell? ⟨b, off + i * 2, none⟩ = some (.int .i64 (ls.getD i du0).a) ∧ w.cell? ⟨b, off + i * 2 + 1, none⟩ = some (.int .i64 (ls.getD i du0).b)
theorem lines_stops (F : Fence) (n : Nat) (hF : F.fn 55) (hro : F.round = none) (hn : 1 ≤ n) (n₀ B b off len cap : Nat) (ls : List Du) (x u : Int) (w : World) (h : Lnd w n₀ B b off len cap ls x u) :
    SeqStopsK F n Try.prog 55 #[.pointer (some ⟨B + 1, 0, none⟩), .pointer (some ⟨B, 0, none⟩), .pointer (some ⟨B + 1 + 1, 0, none⟩)] encL (Kq n₀ B (B + 3)) (fun ys => lns ys = billK ls x (x + u) len) (fun pre => lns pre <+: billK ls x (x + u) len) len w := fun l J Jx W hW hJ _ hY h0 =>
  lines1_in F n hF hro hn l (B + 1) B (B + 1 + 1) n₀ B (B + 3) b off len cap W.heap.size ls x u J Jx h.right h.many ⟨h.x0, h.x1⟩ ⟨h.u0, h.u1⟩ hJ hY W
    (boxed_same h.bx (hW.block _ h.bx.lt)) (boxed_same h.bt (hW.block _ h.bt.lt)) (boxed_same h.bu (hW.block _ h.bu.lt)) ⟨by omega, by omega⟩ ⟨by omega, by omega⟩ h.hb (Nat.le_trans h.hn hW.size)
    (fun i hi => ⟨(hW.cell (p := ⟨b, off + i * 2, none⟩) (Nat.lt_of_lt_of_le h.hb h.hn)).trans (h.row i hi).1, (hW.cell (p := ⟨b, off + i * 2 + 1, none⟩) (Nat.lt_of_lt_of_le h.hb h.hn)).trans (h.row i hi).2⟩) h0
/-- A round may turn blocks that lie neither below n nor among these. -/
theorem Kq.refl (n lo hi : Nat) (W : World) : Kq n lo hi W W := ⟨Below.refl _ _, fun _ _ _ => rfl⟩
theorem Kq.alloc {n lo hi : Nat} {W W' : World} (h : Kq n lo hi W W') (o : Obj) (hn : n ≤ W'.heap.size) (hs : hi ≤ W'.heap.size) : Kq n lo hi W (W'.alloc o) := ⟨h.1.alloc hn o, fun j a b => (Below.heap_alloc W' o j (by omega)).trans (h.2 j a b)⟩
theorem Kq.set {n lo hi : Nat} {W W' : World} (h : Kq n lo hi W W') (B i : Nat) (v : Value) (hB : n ≤ B) (hl : B < lo ∨ hi ≤ B) : Kq n lo hi W (W'.setCell ⟨B, i, none⟩ v) := ⟨h.1.setCell (p := ⟨B, i, none⟩) hB v, fun j a b => (Below.heap_setCell W' ⟨B, i, none⟩ v j (by show j ≠ B; omega)).trans (h.2 j a b)⟩
theorem kq_b {n lo hi : Nat} {w : World} (hn : n ≤ w.heap.size) (hh : hi ≤ w.heap.size) (W : World) (l : Nat) (o o' : Obj) (hl : w.heap.size ≤ l) (h : W.heap[l]? = some o) (hc : o.isCells = false) (hw : o.isWalk = false) : Kq n lo hi W (W.putObj l o') := ⟨belowK_b hn W l o o' hl h hc hw, fun j a b => (grownBy_putObj' W l o').block j (by have := (Array.getElem?_eq_some_iff.1 h).1; omega) (fun e => by cases e; omega)⟩
theorem lnd_of {w w1 : World} (n₀ B b off len cap : Nat) {ls : List Du} {x u : Int} (hr : Right ls) (hl : ls.length = len) (hx : 0 ≤ x ∧ x ≤ 10000000) (hu : 0 ≤ u ∧ x + u ≤ 10000000) (hB : w1.heap.size = B) (hb : b < n₀) (hn : n₀ ≤ w1.heap.size)
    (hbel : Below n₀ w w1) (hc : ∀ i, i < len → w.cell? ⟨b, off + i * 2, none⟩ = some (.int .i64 (ls.getD i du0).a) ∧ w.cell? ⟨b, off + i * 2 + 1, none⟩ = some (.int .i64 (ls.getD i du0).b)) : Lnd (boxes w1 (.slice (some ⟨b, off, none⟩) len cap) x u) n₀ B b off len cap ls x u := by
  subst hB
  have h2 := boxes_bel hbel hn (.slice (some ⟨b, off, none⟩) len cap) x u
  exact ⟨hr, hl, hx.1, hx.2, hu.1, hu.2, boxes_t _ _ _ _, boxes_x _ _ _ _, boxes_u _ _ _ _, hb, by rw [boxes_size]; omega, fun i hi => ⟨(h2.cell (p := ⟨b, off + i * 2, none⟩) hb).trans (hc i hi).1, (h2.cell (p := ⟨b, off + i * 2 + 1, none⟩) hb).trans (hc i hi).2⟩⟩

end Go.Proofs.Ytlolippocnngcab.tar

/- The most units for an amount: plain facts. -/
namespace Go.Proofs.Ytlolippocnngcab.tar
set_option linter.unusedVariables false

theorem ov_before {l : List Du} (h : Right l) (x y z : Int) (k j : Nat) (hk : k < l.length) (hj : j < k) (hy : low l k ≤ y) (hz : low l k ≤ z) : ov (low l j) (l.getD j du0).a x z = ov (low l j) (l.getD j du0).a x y := by
  have h1 := low_mono h (j + 1) k (by omega) (by omega)
  rw [low_next] at h1
  unfold ov
  omega
theorem costK_before {l : List Du} (h : Right l) (x y z : Int) (k j : Nat) (hk : k < l.length) (hj : j ≤ k) (hy : low l k ≤ y) (hz : low l k ≤ z) : costK l x z j = costK l x y j := by
  induction j with
  | zero => rfl
  | succ j ih => rw [costK_next, costK_next, ih (by omega), ov_before h x y z k j hk (by omega) hy hz]
theorem costK_behind {l : List Du} (h : Right l) (x z : Int) (k j : Nat) (hkj : k ≤ j) (hj : j ≤ l.length) (hz : z ≤ low l k) : costK l x z j = costK l x z k := by
  induction j with
  | zero => have : k = 0 := by omega
            subst this; rfl
  | succ j ih =>
    by_cases e : k = j + 1
    · subst e; rfl
    · have h1 := ih (by omega) (by omega)
      have h2 := low_mono h k j (by omega) (by omega)
      rw [costK_next, h1, show ov (low l j) (l.getD j du0).a x z = 0 by unfold ov; omega]
      omega
/-- What all units of the steps ahead of k cost, and q of the step k. -/
theorem cost_part {l : List Du} (h : Right l) (x y : Int) (hx : 0 ≤ x) (hxy : x ≤ y) (k : Nat) (hk : k < l.length) (q : Int) (hq : 0 ≤ q) (hq2 : q ≤ ov (low l k) (l.getD k du0).a x y) (hp : 0 < ov (low l k) (l.getD k du0).a x y) :
    cost l x (x + (manyK l x y k + q)) = costK l x y k + q * (l.getD k du0).b := by
  have h1 := many_eq h x y hx hxy k (by omega)
  have h2 := h.rise k hk
  have h3 := h.low_pos k (by omega)
  have hlo : low l k ≤ y := by unfold ov at hp; omega
  have hz : low l k ≤ x + (manyK l x y k + q) := by rw [h1]; omega
  have hz2 : x + (manyK l x y k + q) ≤ low l (k + 1) := by rw [h1, low_next]; unfold ov at hq2 hp; omega
  unfold cost
  rw [costK_behind h x _ (k + 1) l.length (by omega) (Nat.le_refl _) hz2, costK_next, costK_before h x y _ k k hk (Nat.le_refl _) hlo hz]
  rw [show ov (low l k) (l.getD k du0).a x (x + (manyK l x y k + q)) = q by rw [h1]; unfold ov at hq2 hp ⊢; omega]
/-- Where a line stands. -/
theorem bill_at (l : List Du) (x y : Int) (n : Nat) (p : List Tr) (t : Tr) (h : p ++ [t] <+: billK l x y n) : ∃ k, k < n ∧ p = billK l x y k ∧ 0 < ov (low l k) (l.getD k du0).a x y ∧ t = ⟨ov (low l k) (l.getD k du0).a x y, (l.getD k du0).b, ov (low l k) (l.getD k du0).a x y * (l.getD k du0).b⟩ := by
  induction n with
  | zero =>
    have := h.length_le
    simp [billK] at this
  | succ n ih =>
    by_cases hp : 0 < ov (low l n) (l.getD n du0).a x y
    · rw [billK_yes l x y n hp] at h
      rcases List.prefix_concat_iff.1 h with h | h
      · obtain ⟨h1, h2⟩ := List.append_inj' h rfl
        exact ⟨n, by omega, h1, hp, by simpa using h2⟩
      · obtain ⟨k, a, b⟩ := ih h
        exact ⟨k, by omega, b⟩
    · rw [billK_no l x y n hp] at h
      obtain ⟨k, a, b⟩ := ih h
      exact ⟨k, by omega, b⟩
theorem top_bd {x : Int} (hx : 0 ≤ x ∧ x ≤ 10000000) : 0 ≤ Top x ∧ x + Top x ≤ 10000000 := by unfold Top; omega
theorem most_all {l : List Du} (h : Right l) (x m : Int) (hx : 0 ≤ x ∧ x ≤ 10000000) (hm : sumC (billK l x (x + Top x) l.length) ≤ m) : MostOf l x m (sumA (billK l x (x + Top x) l.length)) ∧ sumC (billK l x (x + Top x) l.length) = cost l x (x + sumA (billK l x (x + Top x) l.length)) := by
  have ht := top_bd hx
  have h1 := bill_sums l x (x + Top x) l.length
  have h2 := many_all h x (x + Top x) hx.1 (by omega) ht.2
  have e : sumA (billK l x (x + Top x) l.length) = Top x := by rw [h1.1, h2]; omega
  have e2 : sumC (billK l x (x + Top x) l.length) = cost l x (x + Top x) := h1.2
  rw [e, e2]
  rw [e2] at hm
  exact ⟨⟨⟨ht.1, Int.le_refl _⟩, hm, .inl rfl⟩, rfl⟩
theorem most_cut {l : List Du} (h : Right l) (x m q : Int) (hx : 0 ≤ x ∧ x ≤ 10000000) (p : List Tr) (t : Tr) (hpre : p ++ [t] <+: billK l x (x + Top x) l.length) (hq0 : 0 ≤ q) (hq : q < t.a) (h1 : sumC p + q * t.b ≤ m) (h2 : m < sumC p + (q + 1) * t.b) :
    MostOf l x m (sumA p + q) ∧ sumC p + q * t.b = cost l x (x + (sumA p + q)) := by
  have ht := top_bd hx
  obtain ⟨k, hk, rfl, hp, rfl⟩ := bill_at l x (x + Top x) l.length p t hpre
  have hs := bill_sums l x (x + Top x) k
  rw [hs.1, hs.2]
  rw [hs.2] at h1 h2
  dsimp only at hq h1 h2 ⊢
  have e1 := cost_part h x (x + Top x) hx.1 (by omega) k hk q hq0 (by omega) hp
  have e2 := cost_part h x (x + Top x) hx.1 (by omega) k hk (q + 1) (by omega) (by omega) hp
  have hb := many_bd h x (x + Top x) hx.1 (by omega) k (by omega)
  have hb2 := many_bd h x (x + Top x) hx.1 (by omega) (k + 1) (by omega)
  rw [many_next] at hb2
  rw [e1]
  refine ⟨⟨⟨by omega, by omega⟩, by rw [e1]; exact h1, .inr ?_⟩, rfl⟩
  rw [show manyK l x (x + Top x) k + q + 1 = manyK l x (x + Top x) k + (q + 1) by omega, e2]
  exact h2
theorem sums_bd (l : List Tr) (h : ∀ t ∈ l, LineOk t) : (0 ≤ sumA l ∧ sumA l ≤ (l.length : Int) * 10000000) ∧ 0 ≤ sumC l := by
  induction l with
  | nil => exact ⟨⟨Int.le_refl _, Int.le_refl _⟩, Int.le_refl _⟩
  | cons t l ih =>
    have h1 := ih fun x hx => h x (List.mem_cons_of_mem _ hx)
    obtain ⟨a1, a2, a3, a4, a5⟩ := h t List.mem_cons_self
    have h2 := prod_bd (show 0 ≤ t.a by omega) a2 a3 a4
    rw [← a5] at h2
    have e : ((t :: l).length : Int) = (l.length : Int) + 1 := by simp
    rw [e, Int.add_mul]
    exact ⟨⟨by show 0 ≤ t.a + sumA l; omega, by show t.a + sumA l ≤ _; omega⟩, by show 0 ≤ t.c + sumC l; omega⟩
theorem quo_bd {d p q : Int} (hd : 0 ≤ d) (hp : 1 ≤ p) (hq : d / p = q) : 0 ≤ q ∧ q * p ≤ d ∧ d < (q + 1) * p ∧ q ≤ d := by
  subst hq
  have h1 := Int.ediv_nonneg hd (show 0 ≤ p by omega)
  have h2 := Int.mul_ediv_self_le (x := d) (k := p) (by omega)
  have h3 := Int.lt_mul_ediv_self_add (x := d) (k := p) (by omega)
  have h4 : d / p ≤ d := Int.ediv_le_self _ hd
  rw [Int.mul_comm] at h2 h3
  exact ⟨h1, h2, by rw [Int.add_mul]; omega, h4⟩
theorem snoc_one {p : List Ln} {t : Ln} : lns (p ++ [t]) = lns p ++ [t.1] := by rw [lns_app]; rfl
theorem sums_one (p : List Ln) (t : Ln) : sumA (lns (p ++ [t])) = sumA (lns p) + t.1.a ∧ sumC (lns (p ++ [t])) = sumC (lns p) + t.1.c := by
  rw [snoc_one, sumA_app, sumC_app]
  exact ⟨by show _ + (t.1.a + 0) = _; omega, by show _ + (t.1.c + 0) = _; omega⟩

end Go.Proofs.Ytlolippocnngcab.tar

/- The most units for an amount, in the program. -/
namespace Go.Proofs.Ytlolippocnngcab.tar
open Go.RowKit Go.Shelf
set_option maxRecDepth 100000
set_option linter.unusedVariables false
set_option linter.unusedSimpArgs false
attribute [local go_sem] Oper.semAt_some

def three (w : World) (m : Int) : World := ((w.alloc (.cells #[.int .i64 m] 3)).alloc (.cells #[.int .i64 0] 3)).alloc (.cells #[.int .i64 0] 3)
theorem three_size (w : World) (m : Int) : (three w m).heap.size = w.heap.size + 3 := by unfold three; simp
theorem three_m (w : World) (m : Int) : Boxed (three w m) w.heap.size 3 (.int .i64 m) := ((Boxed.new w _ _).alloc _).alloc _
theorem three_u (w : World) (m : Int) : Boxed (three w m) (w.heap.size + 1) 3 (.int .i64 0) := by
  have h := (Boxed.new (w.alloc (.cells #[.int .i64 m] 3)) 3 (.int .i64 0)).alloc (.cells #[.int .i64 0] 3)
  rw [World.size_alloc] at h
  exact h
theorem three_p (w : World) (m : Int) : Boxed (three w m) (w.heap.size + 1 + 1) 3 (.int .i64 0) := by
  have h := Boxed.new ((w.alloc (.cells #[.int .i64 m] 3)).alloc (.cells #[.int .i64 0] 3)) 3 (.int .i64 0)
  rw [World.size_alloc, World.size_alloc] at h
  exact h
theorem three_bel (w : World) (m : Int) : Below w.heap.size w (three w m) := (((Below.refl _ w).alloc (Nat.le_refl _) _).alloc (by simp) _).alloc (by simp; omega) _

/-- A round has said that no more can be paid. -/
def Full (P : Nat) (w : World) (m : Int) (c : Code) (pre : List Ln) (W : World) : Prop := (∃ (p : List Ln) (t : Ln) (q : Int), c = Code.exit 0 ∧ pre = p ++ [t] ∧ (0 ≤ q ∧ q < t.1.a ∧ sumC (lns p) + q * t.1.b ≤ m ∧ m < sumC (lns p) + (q + 1) * t.1.b) ∧ Boxed W (P + 1) 3 (.int .i64 (sumA (lns p) + q)) ∧ Boxed W (P + 1 + 1) 3 (.int .i64 (sumC (lns p) + q * t.1.b))) ∧ Below P w W
theorem full_own (P B : Nat) (w : World) (m : Int) (c : Code) (h1 : P ≤ w.heap.size) (h2 : P ≤ B) : OwnFrom B (Full P w m c) :=
  OwnFrom.and (fun pre X Y row hs hg hr => by
    obtain ⟨p, t, q, h1, h2, h3, h4, h5⟩ := hs
    exact ⟨p, t, q, h1, h2, h3, boxed_own (P + 1) 3 (fun (_ : Unit) => Value.int .i64 (sumA (lns p) + q)) () X Y row h4 hg (fun r e => (hr r e).2), boxed_own (P + 1 + 1) 3 (fun (_ : Unit) => Value.int .i64 (sumC (lns p) + q * t.1.b)) () X Y row h5 hg (fun r e => (hr r e).2)⟩) (ownFrom_below h1 h2)

set_option maxHeartbeats 4000000 in
theorem pmost_in (F : Fence) (k : Nat) (hk : 6 ≤ k) (hF : F.fn 50) (hFl : F.fn 39) (hF1 : F.fn 55) (hFc : F.fn 53) (hFw : F.fn 54) (hro : F.round = none) (w : World) (a : Option Addr) (len cap : Nat) (ls : List Du) (x m : Int) (hc : Came w a len cap ls)
    (HCK : Hid (CallsIn F (k - 1) Try.prog 53 #[.slice a len cap] (three w m) fun e w' => ErrPost (three w m) (FaultIs ls) e w'))
    (HIX : Hid (∀ W, CallsIn F (k - 1) Try.prog 54 #[.int .i64 0, .int .i64 10000000, .int .i64 x] W fun e w' => e = .returned (.bool (decide (0 ≤ x ∧ x ≤ 10000000))) ∧ w' = W))
    (HIM : Hid (∀ W, CallsIn F (k - 1) Try.prog 54 #[.int .i64 0, .int .i64 1000000000000, .int .i64 m] W fun e w' => e = .returned (.bool (decide (0 ≤ m ∧ m ≤ 1000000000000))) ∧ w' = W)) :
    CallsIn F k Try.prog 50 #[.slice a len cap, .int .i64 x, .int .i64 m] w fun e w' => ThreePost w (MostIs ls x m) e w' := by
  have h1 : 1 ≤ k := by omega
  have hmo : Try.prog.follows .mixedOrders = true := by kernel_rfl
  have HRW := hc.row
  have HLEN : Hid (ls.length = len) := hc.row.1
  clear hc
  refine callsIn_of_wp_marks Try.func50 rfl hF ?_ hro
  simp only [Try.ntmps50, List.size_toArray, List.length_cons, List.length_nil, Nat.reduceAdd, Nat.reduceSub, Array.replicate_succ, Array.replicate_zero, List.push_toArray, List.append_toArray, List.nil_append, List.cons_append]
  gi_wp2_with fail
  refine HCK.out.mono ?_
  rintro e w1 ⟨f, rfl, hf, hb⟩
  have HB : Hid (Below w.heap.size w w1) := (three_bel w m).trans (hb.mono (by rw [three_size]; omega))
  have HF : Hid (FaultIs ls f) := hf
  have bM : Boxed w1 w.heap.size 3 (.int .i64 m) := boxed_same (three_m w m) (hb.block _ (three_m w m).lt)
  have bU : Boxed w1 (w.heap.size + 1) 3 (.int .i64 0) := boxed_same (three_u w m) (hb.block _ (three_u w m).lt)
  have bP : Boxed w1 (w.heap.size + 1 + 1) 3 (.int .i64 0) := boxed_same (three_p w m) (hb.block _ (three_p w m).lt)
  have hsz1 : w.heap.size + 3 ≤ w1.heap.size := by have := hb.size; rw [three_size] at this; exact this
  clear HCK hb
  by_cases h0 : f = 0
  · subst h0
    have HR : Hid (Right ls) := hf.ok.1 rfl
    have hpos : 0 < len := by have := HR.out.1.1; have := HLEN.out; omega
    obtain ⟨b, off, rfl, hbl, hcl⟩ := HRW.at hpos
    have HC : Hid (∀ i, i < len → w.cell? ⟨b, off + i * 2, none⟩ = some (.int .i64 (ls.getD i du0).a) ∧ w.cell? ⟨b, off + i * 2 + 1, none⟩ = some (.int .i64 (ls.getD i du0).b)) := hcl
    have hl8 : len ≤ 8 := by have := HR.out.1.2; have := HLEN.out; omega
    clear hf hcl HRW
    have cM := bM.cell
    by_cases hx : 0 ≤ x ∧ x ≤ 10000000
    · rw [decide_eq_true hx] at HIX
      by_cases hmm : 0 ≤ m ∧ m ≤ 1000000000000
      · rw [decide_eq_true hmm] at HIM
        have HMM : Hid (MayMost x m) := ⟨hx, hmm⟩
        have HTP : Hid (0 ≤ Top x ∧ x + Top x ≤ 10000000) := top_bd hx
        obtain ⟨hx0, hx1⟩ := hx
        obtain ⟨hm0, hm1⟩ := hmm
        gi_wp2_with fail
        refine (HIX.out _).mono ?_
        rintro e w2 ⟨rfl, hw2⟩
        subst w2
        gi_wp2_with fail
        refine (HIM.out _).mono ?_
        rintro e w2 ⟨rfl, hw2⟩
        subst w2
        clear HIX HIM
        have hmin := run_min 2097151 (10000000 - x) (Top x) rfl
        have HTX : Hid (Top x = Top x) := rfl
        generalize hT : Top x = T at *
        gi_wp2_with (gi_at_call 39; refine (lines_in F (k - 1) hFl hro _ _ _ _ _ _).mono ?_; rintro e w' ⟨rfl, rfl⟩)
        have hL := lnd_of (w := w) (w1 := w1) w.heap.size w1.heap.size b off len cap HR.out HLEN.out ⟨hx0, hx1⟩ HTP.out rfl hbl (by omega) HB.out HC.out
        have bM2 := boxes_boxed bM (.slice (some ⟨b, off, none⟩) len cap) x T
        have bU2 := boxes_boxed bU (.slice (some ⟨b, off, none⟩) len cap) x T
        have bP2 := boxes_boxed bP (.slice (some ⟨b, off, none⟩) len cap) x T
        have hB2 : Below w.heap.size w (boxes w1 (.slice (some ⟨b, off, none⟩) len cap) x T) := boxes_bel HB.out (by omega) _ _ _
        have hsz := boxes_size w1 (.slice (some ⟨b, off, none⟩) len cap) x T
        generalize boxes w1 (.slice (some ⟨b, off, none⟩) len cap) x T = W0 at *
        generalize hB1 : w1.heap.size = B at *
        generalize hP0 : w.heap.size = P at *
        clear bM bU bP cM hmin
        refine wpIn_rangeFunc_ownH hro h1 (gf := 55) (lb := #[.pointer (some ⟨B + 1, 0, none⟩), .pointer (some ⟨B, 0, none⟩), .pointer (some ⟨B + 1 + 1, 0, none⟩)]) rfl hF1 (enters_of Try.func55 (by kernel_rfl) rfl)
          (lines_stops F (k - 1) hF1 hro (by omega) P B b off len cap ls x T W0 hL) Kq.trans (kq_b hL.hn (by omega)) (Below.refl _ _) (fun _ => rfl)
          (fun pre W => (Boxed W P 3 (.int .i64 m) ∧ Boxed W (P + 1) 3 (.int .i64 (sumA (lns pre))) ∧ Boxed W (P + 1 + 1) 3 (.int .i64 (sumC (lns pre)))) ∧ sumC (lns pre) ≤ m ∧ Below P w W ∧ W0.heap.size ≤ W.heap.size)
          (Full P w m)
          (OwnFrom.and (OwnFrom.and (Own.from (boxed_own _ _ _) _) (OwnFrom.and (Own.from (boxed_own _ _ _) _) (Own.from (boxed_own _ _ _) _))) (OwnFrom.and (ownFrom_pure _ _) (OwnFrom.and (ownFrom_below (by omega) (by omega)) (fun _ _ _ _ hs hg _ => Nat.le_trans hs hg.size))))
          (fun c => full_own P _ w m c (by omega) (by omega))
          ⟨⟨bM2, bU2, bP2⟩, hm0, hB2, Nat.le_refl _⟩
          (fun t a' W => ∃ Bx, B + 3 ≤ Bx ∧ Blk W Bx #[.int .i64 t.1.a, .int .i64 t.1.b, .int .i64 t.1.c] 77 ∧ a' = { tmps := #[.slice (some ⟨b, off, none⟩) len cap, .int .i64 x, .int .i64 m, undef, undef, .pointer (some ⟨P, 0, none⟩), .pointer (some ⟨P + 1, 0, none⟩), .pointer (some ⟨P + 1 + 1, 0, none⟩), .int .i64 0, .pointer (some ⟨Bx, 0, none⟩), undef, .slice (some ⟨b, off, none⟩) len cap, .int .i64 0, .int .i64 0, .bool false, undef, .int .i64 x, .bool true, .bool false, .bool false, .int .i64 m, .bool true, .bool false, .bool false, .slice (some ⟨b, off, none⟩) len cap, .int .i64 x, .int .i64 x, .int .i64 (10000000 - x), .int .i64 T, .func (.func 55) #[] #[.pointer (some ⟨B + 1, 0, none⟩), .pointer (some ⟨B, 0, none⟩), .pointer (some ⟨B + 1 + 1, 0, none⟩)], .agg #[.int .i64 t.1.a, .int .i64 t.1.b, .int .i64 t.1.c], undef, undef, undef, undef, undef, undef, undef, undef, undef, undef, undef, undef, undef, undef, undef, undef, undef, undef, undef, undef, undef, undef, undef, undef], defers := [] })
          (fun t a' _ X Y row hs hg hr => by obtain ⟨Bx, h1, h2, h3⟩ := hs; exact ⟨Bx, h1, blk_own Bx 77 (fun (_ : Unit) => #[.int .i64 t.1.a, .int .i64 t.1.b, .int .i64 t.1.c]) () X Y row h2 hg (fun r e => (hr r e).2), h3⟩)
          ?assign ?body ?done ?stop
        case assign =>
          rintro l pre t W K ⟨⟨b1, b2, b3⟩, hle, hBS, hSW⟩ hK
          simp only [encL]
          gi_wp2
          exact hK _ _ ((KeepsOthers.alloc _ _).from _) ((Kq.refl _ _ _ W).alloc _ (by omega) (by omega)) ⟨⟨b1.alloc _, b2.alloc _, b3.alloc _⟩, hle, hBS.alloc (by omega) _, by simp; omega⟩ ⟨W.heap.size, by omega, Blk.new W _ _, rfl⟩
        case body =>
          rintro l pre t a' W hl ⟨r, hr⟩ ⟨⟨b1, b2, b3⟩, hle, hBS, hSW⟩ ⟨Bx, hBx, bX, rfl⟩ hlt
          have h2 := sums_bd (lns pre) (lns_ok pre)
          have h3 := lns_len pre
          have h4 := t.2.1
          have h5 := t.2.2.1
          have h6 := t.2.2.2.1
          have h7 := t.2.2.2.2.1
          have h8 := t.2.2.2.2.2
          have h9 := prod_bd (show 0 ≤ t.1.a by omega) h5 h6 h7
          rw [← h8] at h9
          have HN := sums_one pre t
          have c1 := b1.cell
          have c2 := b2.cell
          have c3 := b3.cell
          have f2 := b2.frozen
          have f3 := b3.frozen
          have cX0 : W.cell? ⟨Bx, 0, none⟩ = some (.int .i64 t.1.a) := bX.cell 0
          have cX1 : W.cell? ⟨Bx, 1, none⟩ = some (.int .i64 t.1.b) := bX.cell 1
          have hs0 : 0 ≤ sumC (lns pre) := h2.2
          have hs2 : sumA (lns pre) ≤ 80000000 := by have := h2.1.2; omega
          have hs1 : 0 ≤ sumA (lns pre) := h2.1.1
          have hq := quo_bd (d := m - sumC (lns pre)) (p := t.1.b) (by omega) h6 rfl
          have hp0 : (t.1.b == 0) = false := by simp; omega
          have hqe : (m - sumC (lns pre)).tdiv t.1.b = (m - sumC (lns pre)) / t.1.b := Int.tdiv_eq_ediv_of_nonneg (by omega)
          clear h2 h3
          obtain ⟨hN1, hN2⟩ := HN
          have HN1 : Hid (sumA (lns (pre ++ [t])) = sumA (lns pre) + t.1.a) := hN1
          have HN2 : Hid (sumC (lns (pre ++ [t])) = sumC (lns pre) + t.1.c) := hN2
          have HTC : Hid (t.1.c = t.1.a * t.1.b) := h8
          have HXI : Hid (∀ q W', 0 ≤ q ∧ q < t.1.a ∧ sumC (lns pre) + q * t.1.b ≤ m ∧ m < sumC (lns pre) + (q + 1) * t.1.b → Boxed W' (P + 1) 3 (.int .i64 (sumA (lns pre) + q)) → Boxed W' (P + 1 + 1) 3 (.int .i64 (sumC (lns pre) + q * t.1.b)) → Below P w W' → Full P w m (.exit 0) (pre ++ [t]) W') := fun q W' h1 h2 h3 h4 => ⟨⟨pre, t, q, rfl, rfl, h1, h2, h3⟩, h4⟩
          clear hN1 hN2 h8
          generalize t.1.a = ta at *
          generalize t.1.b = tb at *
          generalize t.1.c = tc at *
          generalize sumC (lns pre) = s at *
          generalize sumA (lns pre) = u at *
          have hd0 : 0 ≤ m - s := by omega
          have hd1 : m - s ≤ 1000000000000 := by omega
          generalize (m - s) / tb = q at *
          obtain ⟨q0, q1, q2, q3⟩ := hq
          by_cases hlt2 : q < ta
          · have hmin := run_min ta q q (by omega)
            have hq4 := prod_bd (o := q) (p := tb) q0 (by omega) h6 h7
            obtain ⟨hq5, hq6⟩ := hq4
            have hdd : decide (q < ta) = true := decide_eq_true hlt2
            gi_wp2_with fail
            refine round_quiet hro hmo (by kernel_rfl) (by kernel_rfl) ?_
            repeat (gi_big_quiet_step (fail))
            refine wpQuietIn_nil ?_
            intro _ hw'
            obtain ⟨nq, hw''⟩ := hw'
            subst hw''
            have e1 : Boxed (W.drewN nq) P 3 (.int .i64 m) := b1
            have e2 : Boxed (W.drewN nq) (P + 1) 3 (.int .i64 u) := b2
            have e3 : Boxed (W.drewN nq) (P + 1 + 1) 3 (.int .i64 s) := b3
            have eX : Blk (W.drewN nq) Bx #[.int .i64 ta, .int .i64 tb, .int .i64 tc] 77 := bX
            have eK : KeepsOthers W (W.drewN nq) := ⟨Nat.le_refl _, fun _ _ h _ => h⟩
            have eQ : Kq P B (B + 3) W (W.drewN nq) := ⟨bel_drewN (Below.refl _ _) nq, fun _ _ _ => rfl⟩
            have eB : Below P w (W.drewN nq) := bel_drewN hBS nq
            have eS : W0.heap.size ≤ (W.drewN nq).heap.size := hSW
            clear c1 c2 c3 f2 f3 cX0 cX1 hmin b1 b2 b3 bX hBS hSW
            generalize W.drewN nq = V at *
            have c2 := e2.cell
            have f2 := e2.frozen
            have c3 := fun v => (e3.other (B' := P + 1) (by omega) v).cell
            have f3 := fun v => (e3.other (B' := P + 1) (by omega) v).frozen
            have cX1 : ∀ v, (V.setCell ⟨P + 1, 0, none⟩ v).cell? ⟨Bx, 1, none⟩ = some (.int .i64 tb) := fun v => (eX.other 0 v (by omega)).cell 1
            have cX0 : ∀ v v2, ((V.setCell ⟨P + 1, 0, none⟩ v).setCell ⟨P + 1 + 1, 0, none⟩ v2).cell? ⟨Bx, 0, none⟩ = some (.int .i64 ta) := fun v v2 => ((eX.other 0 v (by omega)).other 0 v2 (by omega)).cell 0
            gi_wp2_with fail
            exact ⟨((eK.trans (KeepsOthers.setCell _ _ _)).trans (KeepsOthers.setCell _ _ _)).from _, HXI.out q _ ⟨q0, hlt2, by omega, by omega⟩ ((e2.set _).other (by omega) _) ((e3.other (by omega) _).set _) ((eB.setCell (p := ⟨P + 1, 0, none⟩) (by show P ≤ P + 1; omega) _).setCell (p := ⟨P + 1 + 1, 0, none⟩) (by show P ≤ P + 1 + 1; omega) _)⟩
          · have hmin := run_min ta q ta (by omega)
            have hta : ta * tb = tc := HTC.out.symm
            have htc0 : 0 ≤ tc := h9.1
            have htc1 : tc ≤ 1000000000000 := h9.2
            have hml : tc ≤ q * tb := by rw [← hta]; exact Int.mul_le_mul_of_nonneg_right (by omega) (by omega)
            have hdd : decide (ta < ta) = false := decide_eq_false (by omega)
            gi_wp2_with fail
            refine round_quiet hro hmo (by kernel_rfl) (by kernel_rfl) ?_
            repeat (gi_big_quiet_step (fail))
            refine wpQuietIn_nil ?_
            intro _ hw'
            obtain ⟨nq, hw''⟩ := hw'
            subst hw''
            have e1 : Boxed (W.drewN nq) P 3 (.int .i64 m) := b1
            have e2 : Boxed (W.drewN nq) (P + 1) 3 (.int .i64 u) := b2
            have e3 : Boxed (W.drewN nq) (P + 1 + 1) 3 (.int .i64 s) := b3
            have eX : Blk (W.drewN nq) Bx #[.int .i64 ta, .int .i64 tb, .int .i64 tc] 77 := bX
            have eK : KeepsOthers W (W.drewN nq) := ⟨Nat.le_refl _, fun _ _ h _ => h⟩
            have eQ : Kq P B (B + 3) W (W.drewN nq) := ⟨bel_drewN (Below.refl _ _) nq, fun _ _ _ => rfl⟩
            have eB : Below P w (W.drewN nq) := bel_drewN hBS nq
            have eS : W0.heap.size ≤ (W.drewN nq).heap.size := hSW
            clear c1 c2 c3 f2 f3 cX0 cX1 hmin b1 b2 b3 bX hBS hSW
            generalize W.drewN nq = V at *
            have c2 := e2.cell
            have f2 := e2.frozen
            have c3 := fun v => (e3.other (B' := P + 1) (by omega) v).cell
            have f3 := fun v => (e3.other (B' := P + 1) (by omega) v).frozen
            have cX1 : ∀ v, (V.setCell ⟨P + 1, 0, none⟩ v).cell? ⟨Bx, 1, none⟩ = some (.int .i64 tb) := fun v => (eX.other 0 v (by omega)).cell 1
            have cX0 : ∀ v v2, ((V.setCell ⟨P + 1, 0, none⟩ v).setCell ⟨P + 1 + 1, 0, none⟩ v2).cell? ⟨Bx, 0, none⟩ = some (.int .i64 ta) := fun v v2 => ((eX.other 0 v (by omega)).other 0 v2 (by omega)).cell 0
            gi_wp2_with fail
            exact ⟨((eK.trans (KeepsOthers.setCell _ _ _)).trans (KeepsOthers.setCell _ _ _)).from _, (eQ.set (P + 1) 0 _ (by omega) (.inl (by omega))).set (P + 1 + 1) 0 _ (by omega) (.inl (by omega)), ⟨(e1.other (by omega) _).other (by omega) _, by rw [HN1.out]; exact (e2.set _).other (by omega) _, by rw [HN2.out]; exact (e3.other (by omega) _).set _⟩, by rw [HN2.out]; omega, (eB.setCell (p := ⟨P + 1, 0, none⟩) (by show P ≤ P + 1; omega) _).setCell (p := ⟨P + 1 + 1, 0, none⟩) (by show P ≤ P + 1 + 1; omega) _, by simp [World.setCell]; omega⟩
        case done =>
          rintro D ys W hD hys ⟨⟨b1, b2, b3⟩, hle, hBS, hSW⟩ hK
          have HM : Hid (MostOf ls x m (sumA (lns ys)) ∧ sumC (lns ys) = cost ls x (x + sumA (lns ys))) := by
            have h := most_all HR.out x m ⟨hx0, hx1⟩
            rw [hT, HLEN.out, ← hys] at h
            exact h hle
          clear hys hle
          generalize sumA (lns ys) = u at *
          generalize sumC (lns ys) = s at *
          gi_wp2_with fail
          obtain ⟨Z, hZ⟩ : ∃ Z, ((W.setCell ⟨P + 1, 0, none⟩ (.int .i64 u)).setCell ⟨P + 1 + 1, 0, none⟩ (.int .i64 s)).drew = Z := ⟨_, rfl⟩
          have hKD : Z.heap[D]? = some (.deferred (some [])) := by
            rw [← hZ]
            exact ((KeepsOthers.setCell W ⟨P + 1, 0, none⟩ (.int .i64 u)).trans (KeepsOthers.setCell _ ⟨P + 1 + 1, 0, none⟩ (.int .i64 s))).same D _ hK rfl
          have HE2 : Boxed Z (P + 1) 3 (.int .i64 u) := by rw [← hZ]; exact (b2.set (.int .i64 u)).other (B' := P + 1 + 1) (by omega) (.int .i64 s)
          have HE3 : Boxed Z (P + 1 + 1) 3 (.int .i64 s) := by rw [← hZ]; exact (b3.other (B' := P + 1) (by omega) (.int .i64 u)).set (.int .i64 s)
          have HEB : Hid (Below w.heap.size w (Z.putObj D (.deferred none))) := by
            have h : Below P w Z := by
              rw [← hZ]
              exact bel_drewN ((hBS.setCell (p := ⟨P + 1, 0, none⟩) (by show P ≤ P + 1; omega) _).setCell (p := ⟨P + 1 + 1, 0, none⟩) (by show P ≤ P + 1 + 1; omega) _) 1
            show Below w.heap.size w (Z.putObj D (.deferred none))
            rw [hP0]
            exact h.trans (belowK_b (w := w) (by omega) _ D _ _ (by omega) hKD rfl rfl)
          have r2 := cell_kept HE2.cell (grownBy_putObj' _ D (.deferred none)) (fun r e => by cases e; exact ⟨_, hKD, rfl⟩)
          have r3 := cell_kept HE3.cell (grownBy_putObj' _ D (.deferred none)) (fun r e => by cases e; exact ⟨_, hKD, rfl⟩)
          have HZ : Hid (((W.setCell ⟨P + 1, 0, none⟩ (.int .i64 u)).setCell ⟨P + 1 + 1, 0, none⟩ (.int .i64 s)).drew = Z) := hZ
          clear hZ
          have g2 := b2.cell
          have g2' := b2.frozen
          have g3 := b3.cell
          have g3' := fun v => (b3.other (B' := P + 1) (by omega) v).cell
          have g3'' := fun v => (b3.other (B' := P + 1) (by omega) v).frozen
          gi_region_with_o (fail)
          all_goals gi_wp2
          all_goals rw [HZ.out]
          all_goals refine ⟨by simp, .inl ⟨_, _, rfl, run_takeDeferred hKD, ?_⟩⟩
          all_goals refine ⟨.tuple #[.int .i64 u, .int .i64 s, .int .i64 0], ?_, u, s, 0, rfl, .inr (.inr ⟨HR.out, HMM.out, rfl, HM.out.1, HM.out.2⟩), HEB.out⟩
          all_goals simp [results, Try.f50, go_sem, r2, r3]
        case stop =>
          rintro D c pre W hD hpre ⟨⟨p, t, q, rfl, rfl, ⟨g1, g2, g3, g4⟩, b2, b3⟩, hBS⟩ hK
          have HM : Hid (MostOf ls x m (sumA (lns p) + q) ∧ sumC (lns p) + q * t.1.b = cost ls x (x + (sumA (lns p) + q))) := by
            have h := most_cut HR.out x m q ⟨hx0, hx1⟩ (lns p) t.1
            rw [hT, HLEN.out, ← snoc_one] at h
            exact h hpre g1 g2 g3 g4
          clear hpre g3 g4
          generalize sumA (lns p) + q = u at *
          generalize sumC (lns p) + q * t.1.b = s at *
          gi_wp2_with fail
          obtain ⟨Z, hZ⟩ : ∃ Z, ((W.setCell ⟨P + 1, 0, none⟩ (.int .i64 u)).setCell ⟨P + 1 + 1, 0, none⟩ (.int .i64 s)).drew = Z := ⟨_, rfl⟩
          have hKD : Z.heap[D]? = some (.deferred (some [])) := by
            rw [← hZ]
            exact ((KeepsOthers.setCell W ⟨P + 1, 0, none⟩ (.int .i64 u)).trans (KeepsOthers.setCell _ ⟨P + 1 + 1, 0, none⟩ (.int .i64 s))).same D _ hK rfl
          have HE2 : Boxed Z (P + 1) 3 (.int .i64 u) := by rw [← hZ]; exact (b2.set (.int .i64 u)).other (B' := P + 1 + 1) (by omega) (.int .i64 s)
          have HE3 : Boxed Z (P + 1 + 1) 3 (.int .i64 s) := by rw [← hZ]; exact (b3.other (B' := P + 1) (by omega) (.int .i64 u)).set (.int .i64 s)
          have HEB : Hid (Below w.heap.size w (Z.putObj D (.deferred none))) := by
            have h : Below P w Z := by
              rw [← hZ]
              exact bel_drewN ((hBS.setCell (p := ⟨P + 1, 0, none⟩) (by show P ≤ P + 1; omega) _).setCell (p := ⟨P + 1 + 1, 0, none⟩) (by show P ≤ P + 1 + 1; omega) _) 1
            show Below w.heap.size w (Z.putObj D (.deferred none))
            rw [hP0]
            exact h.trans (belowK_b (w := w) (by omega) _ D _ _ (by omega) hKD rfl rfl)
          have r2 := cell_kept HE2.cell (grownBy_putObj' _ D (.deferred none)) (fun r e => by cases e; exact ⟨_, hKD, rfl⟩)
          have r3 := cell_kept HE3.cell (grownBy_putObj' _ D (.deferred none)) (fun r e => by cases e; exact ⟨_, hKD, rfl⟩)
          have HZ : Hid (((W.setCell ⟨P + 1, 0, none⟩ (.int .i64 u)).setCell ⟨P + 1 + 1, 0, none⟩ (.int .i64 s)).drew = Z) := hZ
          clear hZ
          have g2 := b2.cell
          have g2' := b2.frozen
          have g3 := b3.cell
          have g3' := fun v => (b3.other (B' := P + 1) (by omega) v).cell
          have g3'' := fun v => (b3.other (B' := P + 1) (by omega) v).frozen
          gi_region_with_o (fail)
          all_goals gi_wp2
          all_goals rw [HZ.out]
          all_goals refine ⟨by simp, .inl ⟨_, _, rfl, run_takeDeferred hKD, ?_⟩⟩
          all_goals refine ⟨.tuple #[.int .i64 u, .int .i64 s, .int .i64 0], ?_, u, s, 0, rfl, .inr (.inr ⟨HR.out, HMM.out, rfl, HM.out.1, HM.out.2⟩), HEB.out⟩
          all_goals simp [results, Try.f50, go_sem, r2, r3]
      · rw [decide_eq_false hmm] at HIM
        have HN : Hid (¬ MayMost x m) := fun h => hmm h.2
        clear hmm
        have e2 := (bU.set (.int .i64 0)).other (B' := w.heap.size + 1 + 1) (by omega) (.int .i64 0)
        have e3 := (bP.other (B' := w.heap.size + 1) (by omega) (.int .i64 0)).set (.int .i64 0)
        have cU := bU.cell
        have fU := bU.frozen
        have cP := fun v => (bP.other (B' := w.heap.size + 1) (by omega) v).cell
        have fP := fun v => (bP.other (B' := w.heap.size + 1) (by omega) v).frozen
        have HEB : Hid (Below w.heap.size w ((w1.setCell ⟨w.heap.size + 1, 0, none⟩ (.int .i64 0)).setCell ⟨w.heap.size + 1 + 1, 0, none⟩ (.int .i64 0))) := (HB.out.setCell (p := ⟨w.heap.size + 1, 0, none⟩) (by show w.heap.size ≤ w.heap.size + 1; omega) _).setCell (p := ⟨w.heap.size + 1 + 1, 0, none⟩) (by show w.heap.size ≤ w.heap.size + 1 + 1; omega) _
        gi_wp2_with fail
        refine (HIX.out _).mono ?_
        rintro e w2 ⟨rfl, hw2⟩
        subst w2
        gi_wp2_with fail
        refine (HIM.out _).mono ?_
        rintro e w2 ⟨rfl, hw2⟩
        subst w2
        gi_wp2_with fail
        have r2 := e2.cell
        have r3 := e3.cell
        refine ⟨.tuple #[.int .i64 0, .int .i64 0, .int .i64 2], ?_, 0, 0, 2, rfl, .inr (.inl ⟨HR.out, HN.out, rfl, rfl, rfl⟩), HEB.out⟩
        simp [results, Try.f50, go_sem, r2, r3]
    · rw [decide_eq_false hx] at HIX
      have HN : Hid (¬ MayMost x m) := fun h => hx h.1
      clear hx
      have e2 := (bU.set (.int .i64 0)).other (B' := w.heap.size + 1 + 1) (by omega) (.int .i64 0)
      have e3 := (bP.other (B' := w.heap.size + 1) (by omega) (.int .i64 0)).set (.int .i64 0)
      have cU := bU.cell
      have fU := bU.frozen
      have cP := fun v => (bP.other (B' := w.heap.size + 1) (by omega) v).cell
      have fP := fun v => (bP.other (B' := w.heap.size + 1) (by omega) v).frozen
      have HEB : Hid (Below w.heap.size w ((w1.setCell ⟨w.heap.size + 1, 0, none⟩ (.int .i64 0)).setCell ⟨w.heap.size + 1 + 1, 0, none⟩ (.int .i64 0))) := (HB.out.setCell (p := ⟨w.heap.size + 1, 0, none⟩) (by show w.heap.size ≤ w.heap.size + 1; omega) _).setCell (p := ⟨w.heap.size + 1 + 1, 0, none⟩) (by show w.heap.size ≤ w.heap.size + 1 + 1; omega) _
      gi_wp2_with fail
      refine (HIX.out _).mono ?_
      rintro e w2 ⟨rfl, hw2⟩
      subst w2
      gi_wp2_with fail
      have r2 := e2.cell
      have r3 := e3.cell
      refine ⟨.tuple #[.int .i64 0, .int .i64 0, .int .i64 2], ?_, 0, 0, 2, rfl, .inr (.inl ⟨HR.out, HN.out, rfl, rfl, rfl⟩), HEB.out⟩
      simp [results, Try.f50, go_sem, r2, r3]
  · have hne : (f != 0) = true := by simpa using h0
    have HN : Hid (¬ Right ls) := fun h => h0 (hf.ok.2 h)
    clear hf h0 HRW
    have e2 := (bU.set (.int .i64 0)).other (B' := w.heap.size + 1 + 1) (by omega) (.int .i64 0)
    have e3 := (bP.other (B' := w.heap.size + 1) (by omega) (.int .i64 0)).set (.int .i64 0)
    have cU := bU.cell
    have fU := bU.frozen
    have cP := fun v => (bP.other (B' := w.heap.size + 1) (by omega) v).cell
    have fP := fun v => (bP.other (B' := w.heap.size + 1) (by omega) v).frozen
    have HEB : Hid (Below w.heap.size w ((w1.setCell ⟨w.heap.size + 1, 0, none⟩ (.int .i64 0)).setCell ⟨w.heap.size + 1 + 1, 0, none⟩ (.int .i64 0))) := (HB.out.setCell (p := ⟨w.heap.size + 1, 0, none⟩) (by show w.heap.size ≤ w.heap.size + 1; omega) _).setCell (p := ⟨w.heap.size + 1 + 1, 0, none⟩) (by show w.heap.size ≤ w.heap.size + 1 + 1; omega) _
    gi_wp2_with fail
    have r2 := e2.cell
    have r3 := e3.cell
    refine ⟨.tuple #[.int .i64 0, .int .i64 0, .int .i64 f], ?_, 0, 0, f, rfl, .inl ⟨HN.out, HF.out, rfl, rfl⟩, HEB.out⟩
    simp [results, Try.f50, go_sem, r2, r3]

theorem kmost : KtMost := fun w a len cap ls x n hc _ _ => (callsIn_wide (n := 6)).1 (pmost_in Fence.wide 6 (by omega) trivial trivial trivial trivial trivial rfl w a len cap ls x n hc (callsIn_wide.2 (kcheck (three w n) a len cap ls (hc.below (three_bel w n)))) (fun W => callsIn_wide.2 (pwithin 0 10000000 x W)) (fun W => callsIn_wide.2 (pwithin 0 1000000000000 n W)))

end Go.Proofs.Ytlolippocnngcab.tar

/- A sale, to an account at work. -/
namespace Go.Proofs.Ytlolippocnngcab.acc
open Go.Proofs.Ytlolippocnngcab.tar (Du du0 Came RowD Ld PairT)
open Go.RowKit
set_option maxRecDepth 100000
set_option linter.unusedVariables false
set_option linter.unusedSimpArgs false

set_option maxHeartbeats 16000000 in
theorem psell (g : Nat) (x : Ac) (p : Option Addr) (len cap : Nat) (t : Tm) (pt : Option Addr) (lt ct : Nat) (te m : Int) (w : World) (hw : Blk w g (wcs x bi0 p len cap) 81) (hd : deb.Fresh w (g + 1) p len cap x.ds) (ha : AMay x) (ht : Came w pt lt ct t.ts) (hwf : wf4 t) (hfar : Far pt lt g) : Calls Try.prog 33 #[.pointer (some ⟨g, 0, none⟩), .agg #[.slice pt lt ct, .int .i64 t.ff, .int .i64 t.fb, .int .i64 t.db, .int .i64 t.al], .int .i64 te, .int .i64 m] w fun e w' => DPost w g (Or0 (SellIs x t te m)) e w' := by
  have HIT : Hid (∀ W, Calls Try.prog 49 #[.int .i64 1, .int .i64 100000000, .int .i64 te] W fun e w' => e = .returned (.bool (decide (1 ≤ te ∧ te ≤ 100000000))) ∧ w' = W) := fun W => awithin 1 100000000 te W
  have hgl := hw.lt
  have H0B : Hid (Below w.heap.size w (w.alloc (.cells #[.slice pt lt ct, .int .i64 t.ff, .int .i64 t.fb, .int .i64 t.db, .int .i64 t.al] 42))) := (Below.refl w.heap.size w).alloc (by simp) _
  have H0C : Hid (Chg w (w.alloc (.cells #[.slice pt lt ct, .int .i64 t.ff, .int .i64 t.fb, .int .i64 t.db, .int .i64 t.al] 42)) g) := .of H0B.out
  have H0t : Hid (Blk (w.alloc (.cells #[.slice pt lt ct, .int .i64 t.ff, .int .i64 t.fb, .int .i64 t.db, .int .i64 t.al] 42)) (w.heap.size) #[.slice pt lt ct, .int .i64 t.ff, .int .i64 t.fb, .int .i64 t.db, .int .i64 t.al] 42) := Blk.new w _ _
  have H0g : Hid (Blk (w.alloc (.cells #[.slice pt lt ct, .int .i64 t.ff, .int .i64 t.fb, .int .i64 t.db, .int .i64 t.al] 42)) g (wcs x bi0 p len cap) 81) := hw.alloc _
  have H0D : Hid (deb.Fresh (w.alloc (.cells #[.slice pt lt ct, .int .i64 t.ff, .int .i64 t.fb, .int .i64 t.db, .int .i64 t.al] 42)) (g + 1) p len cap x.ds) := hd.below H0B.out
  have H0T : Hid (Came (w.alloc (.cells #[.slice pt lt ct, .int .i64 t.ff, .int .i64 t.fb, .int .i64 t.db, .int .i64 t.al] 42)) pt lt ct t.ts) := ht.below H0B.out
  have HFAR : Hid (Far pt lt g) := hfar
  have HBG : Hid (∀ W, Blk W g (wcs x bi0 p len cap) 81 → deb.Fresh W (g + 1) p len cap x.ds → Came W pt lt ct t.ts → Calls Try.prog 48 #[.pointer (some ⟨g, 0, none⟩), .agg #[.slice pt lt ct, .int .i64 t.ff, .int .i64 t.fb, .int .i64 t.db, .int .i64 t.al], .int .i64 m] W fun e w' => DPost W g (BeginR x t m bi0) e w') := fun W h1 h2 h3 => pbegin g x p len cap t pt lt ct bi0 m W h1 h2 ha h3 hwf hfar
  have HM : Hid (AMay x) := ha
  have hnx := ha.2.2.2.1
  clear hw hd ht hwf hfar ha H0B
  generalize hWW : (w.alloc (.cells #[.slice pt lt ct, .int .i64 t.ff, .int .i64 t.fb, .int .i64 t.db, .int .i64 t.al] 42)) = W0 at *
  have HWW : Hid ((w.alloc (.cells #[.slice pt lt ct, .int .i64 t.ff, .int .i64 t.fb, .int .i64 t.db, .int .i64 t.al] 42)) = W0) := hWW
  clear hWW
  go_enter Try.func33, Try.ntmps33
  go_upto_region 1 with fail
  rw [HWW.out]
  clear HWW
  go_wp2_with (first | (refine wp_whole rfl 42 _ rfl (w.heap.size) rfl 42 #[.slice pt lt ct, .int .i64 t.ff, .int .i64 t.fb, .int .i64 t.db, .int .i64 t.al] _ H0t.out Try.underlying42 rfl (by kernel_rfl) ?_) | fail)
  refine (HBG.out _ H0g.out H0D.out H0T.out).mono ?_
  rintro e w1 ⟨y, b2, q, n, c, f, rfl, ⟨hr, hb2⟩, hi1, hf1, hc1⟩
  subst hb2
  have H1D : Hid (deb.Fresh w1 (g + 1) q n c y.ds) := hf1
  have H1g : Hid (Blk w1 g #[.int .i64 y.me, .int .i64 y.rv, .int .i64 y.nx, .int .i64 y.mo, .int .i64 y.bo, .int .i64 y.fr, .slice q n c, .int .i64 0, .int .i64 0, .int .i64 0, .int .i64 0, .int .i64 0, .int .i64 0, .int .i64 0] 81) := hi1
  have H1t : Hid (Blk w1 (w.heap.size) #[.slice pt lt ct, .int .i64 t.ff, .int .i64 t.fb, .int .i64 t.db, .int .i64 t.al] 42) := Chg.keep (g := g) (hc1) H0t.out (by omega)
  have H1T : Hid (Came w1 pt lt ct t.ts) := came_chg H0T.out (hc1) HFAR.out
  have H1C : Hid (Chg w w1 g) := H0C.out.trans (hc1)
  clear H0C H0g H0t H0T hf1 hc1 hi1 H0D HBG
  by_cases h0 : f = 0
  · skip
    subst h0
    have hrr : TRight t ∧ RMay x m ∧ y = rolled x m := by
      rcases hr with ⟨h1, h2, _⟩ | ⟨_, _, h3, _⟩ | ⟨h1, h2, h3, _⟩
      · exact absurd (h2.ok.1 rfl) h1
      · exact absurd rfl h3.ne
      · exact ⟨h1, h2, h3⟩
    have HRY : Hid (Ready x t m) := ⟨HM.out, hrr.1, hrr.2.1⟩
    have HT : Hid (TRight t) := hrr.1
    have HBR : Hid (y = rolled x m) := hrr.2.2
    have hbs := rolled_same x m
    rw [← hrr.2.2] at hbs
    have hbo := (rolled_may HM.out hrr.2.1).2.2.2.2.2.1
    rw [← hrr.2.2] at hbo
    have hdm : deb.Mays y.ds := by rw [hrr.2.2]; exact (rolled_may HM.out hrr.2.1).1
    have HYN : Hid (y.nx = x.nx) := hbs.2.2.1
    have hyx : 1 ≤ y.nx ∧ y.nx ≤ 1048576 := by rw [hbs.2.2.1]; exact hnx
    have HBS : Hid (y.me = x.me ∧ y.rv = x.rv ∧ y.nx = x.nx ∧ y.mo = m ∧ y.fr = x.fr) := hbs
    clear hrr hr hbs
    by_cases h5 : 1 ≤ te ∧ te ≤ 100000000
    · rw [decide_eq_true h5] at HIT
      go_wp2_with fail
      refine (HIT.out _).mono ?_
      rintro e wz ⟨rfl, hwz⟩
      subst wz
      clear HIT
      go_wp2_with fail
      have htok := HT.out.2
      have HTM : Hid (deb.TMay te t.db) := ⟨⟨by omega, h5.2⟩, htok.2.2.1⟩
      have HRE : Hid (Calls Try.prog 18 #[.slice q n c, .int .i64 te, .int .i64 t.db] w1.drew fun e w' => deb.RecPost w1.drew y.ds te t.db e w') := deb.krec _ q n c y.ds te t.db (fresh_drew H1D.out).came (tar.wf_mid (by omega) (by omega)) (tar.wf_mid htok.2.2.1.1 (by have := htok.2.2.1.2; omega))
      have HPA : Hid (∀ W, Calls Try.prog 19 #[.int .i64 te, .int .i64 t.fb] W fun e w' => e = .returned (.tuple #[.int .i64 (te * t.fb / 10000), .int .i64 0]) ∧ Below W.heap.size W w') := fun W => cents.part_yes te t.fb W (by omega) (by omega) htok.2.1.1 htok.2.1.2
      have hpb := deb.share_bd (t := te) (bp := t.fb) ⟨⟨by omega, h5.2⟩, htok.2.1⟩
      have hsb := deb.share_bd HTM.out
      refine wp_region_held_drew (S := fun v => Blk v (g) #[.int .i64 y.me, .int .i64 y.rv, .int .i64 y.nx, .int .i64 y.mo, .int .i64 y.bo, .int .i64 y.fr, .slice q n c, .int .i64 0, .int .i64 0, .int .i64 0, .int .i64 0, .int .i64 0, .int .i64 0, .int .i64 0] 81 ∧ Blk v (w.heap.size) #[.slice pt lt ct, .int .i64 t.ff, .int .i64 t.fb, .int .i64 t.db, .int .i64 t.al] 42) (by kernel_rfl) ⟨Blk.drew H1g.out 1, Blk.drew H1t.out 1⟩ (fun hHeld => ?_)
      refine take_at 0 31 (.pointer (some ⟨g, 0, none⟩)) _ rfl rfl (by kernel_rfl) (by kernel_rfl) (by kernel_rfl) (fun _ _ _ h => h) (Or.inl ⟨by rfl, fun v hv => by skip; clear hv; go_simp⟩) hHeld ?_
      simp only [Act.put, List.setIfInBounds_toArray, List.set_cons_zero, List.set_cons_succ]
      refine take_at 1 32 (.pointer (some ⟨g, 0, none⟩)) _ rfl rfl (by kernel_rfl) (by kernel_rfl) (by kernel_rfl) (fun _ _ _ h => h) (Or.inl ⟨by rfl, fun v hv => by skip; clear hv; go_simp⟩) hHeld ?_
      simp only [Act.put, List.setIfInBounds_toArray, List.set_cons_zero, List.set_cons_succ]
      refine take_at 2 33 (.pointer (some ⟨g, 0, none⟩)) _ rfl rfl (by kernel_rfl) (by kernel_rfl) (by kernel_rfl) (fun _ _ _ h => h) (Or.inl ⟨by rfl, fun v hv => by skip; clear hv; go_simp⟩) hHeld ?_
      simp only [Act.put, List.setIfInBounds_toArray, List.set_cons_zero, List.set_cons_succ]
      refine take_at 3 34 (.pointer (some ⟨g, 6, none⟩)) _ rfl rfl (by kernel_rfl) (by kernel_rfl) (by kernel_rfl) (fun _ _ _ h => h) (Or.inl ⟨by rfl, fun v hv => by skip; clear hv; go_simp⟩) hHeld ?_
      simp only [Act.put, List.setIfInBounds_toArray, List.set_cons_zero, List.set_cons_succ]
      refine take_at 4 35 (.slice q n c) _ rfl rfl (by kernel_rfl) (by kernel_rfl) (by kernel_rfl) (fun _ _ _ h => h) (Or.inl ⟨by rfl, fun v hv => by have g0 := hv.1.cell 6; clear hv; go_simp⟩) hHeld ?_
      simp only [Act.put, List.setIfInBounds_toArray, List.set_cons_zero, List.set_cons_succ]
      refine take_at 5 36 (.int .i64 te) _ rfl rfl (by kernel_rfl) (by kernel_rfl) (by kernel_rfl) (fun _ _ _ h => h) (Or.inl ⟨by rfl, fun v hv => by skip; clear hv; go_simp⟩) hHeld ?_
      simp only [Act.put, List.setIfInBounds_toArray, List.set_cons_zero, List.set_cons_succ]
      refine take_at 6 37 (.pointer (some ⟨w.heap.size, 3, none⟩)) _ rfl rfl (by kernel_rfl) (by kernel_rfl) (by kernel_rfl) (fun _ _ _ h => h) (Or.inl ⟨by rfl, fun v hv => by skip; clear hv; go_simp⟩) hHeld ?_
      simp only [Act.put, List.setIfInBounds_toArray, List.set_cons_zero, List.set_cons_succ]
      refine take_at 7 38 (.int .i64 t.db) _ rfl rfl (by kernel_rfl) (by kernel_rfl) (by kernel_rfl) (fun _ _ _ h => h) (Or.inl ⟨by rfl, fun v hv => by have g0 := hv.2.cell 3; clear hv; go_simp⟩) hHeld ?_
      simp only [Act.put, List.setIfInBounds_toArray, List.set_cons_zero, List.set_cons_succ]
      refine wpAnyH_ready (rs := [8]) (by kernel_rfl) (by simp) (AllReadyH.cons rfl (fun K hK => ?_) AllReadyH.nil)
      rw [if_pos (by rfl)]
      refine wp_callOp 39 rfl (by clear hK; go_simp) HRE.out ?_
      rintro e w5 ⟨pz, lz, cz, z, pd, fz, rfl, hi5, hf5, hb5⟩
      obtain ⟨rfl, hz, hpd⟩ := hi5.got hdm HTM.out
      have HZF : Hid (deb.Fresh w5 (g + 1) pz lz cz z) := hf5.low (by show g + 1 ≤ w1.heap.size; have := H1g.out.lt; omega)
      have hT0 := (deb.sumD_pos (deb.mem_fits hdm.2)).1
      have hpd0 : 0 ≤ pd := by rw [hpd]; omega
      have hpd1 : pd ≤ 100000000 := by rw [hpd]; omega
      have HPD : Hid (pd = paid x t te m) := by show _ = _; rw [hpd]; unfold paid share; rw [← HBR.out]
      have HZV : Hid (z = deb.recK (rolled x m).ds (share t te) (rolled x m).ds.length) := by show _ = _; rw [hz]; unfold share; rw [← HBR.out]
      have HFE : Hid (t.ff + te * t.fb / 10000 = fee t te) := rfl
      clear hpd hz hT0 hi5 hf5
      have H2g : Hid (Blk w5 g #[.int .i64 y.me, .int .i64 y.rv, .int .i64 y.nx, .int .i64 y.mo, .int .i64 y.bo, .int .i64 y.fr, .slice q n c, .int .i64 0, .int .i64 0, .int .i64 0, .int .i64 0, .int .i64 0, .int .i64 0, .int .i64 0] 81) := (Blk.drew H1g.out 1).next hb5
      have H2t : Hid (Blk w5 (w.heap.size) #[.slice pt lt ct, .int .i64 t.ff, .int .i64 t.fb, .int .i64 t.db, .int .i64 t.al] 42) := Chg.keep (g := g) ((Chg.of (bel_drew (Below.refl _ _) 1)).trans (.of hb5)) H1t.out (by omega)
      have H2T : Hid (Came w5 pt lt ct t.ts) := came_chg H1T.out ((Chg.of (bel_drew (Below.refl _ _) 1)).trans (.of hb5)) HFAR.out
      have H2D : Hid (deb.Fresh w5 (g + 1) q n c y.ds) := fresh_chg H1D.out ((Chg.of (bel_drew (Below.refl _ _) 1)).trans (.of hb5))
      have H2C : Hid (Chg w w5 g) := H1C.out.trans ((Chg.of (bel_drew (Below.refl _ _) 1)).trans (.of hb5))
      clear H1C H1g H1t H1T H1D 
      refine ⟨_, rfl, hK.out _ _ ⟨H2g.out, H2t.out⟩ (fun hHeld => ?_)⟩
      clear hK K hb5 HRE
      simp only [Act.put, List.setIfInBounds_toArray, List.set_cons_zero, List.set_cons_succ]
      refine take_at 9 30 (.tuple #[.slice pz lz cz, .int .i64 pd, .int .i64 0]) _ rfl rfl (by kernel_rfl) (by kernel_rfl) (by kernel_rfl) (fun _ _ _ h => h) (Or.inl ⟨by rfl, fun v hv => by skip; clear hv; go_simp⟩) hHeld ?_
      simp only [Act.put, List.setIfInBounds_toArray, List.set_cons_zero, List.set_cons_succ]
      refine take_at 10 40 (.slice pz lz cz) _ rfl rfl (by kernel_rfl) (by kernel_rfl) (by kernel_rfl) (fun _ _ _ h => h) (Or.inl ⟨by rfl, fun v hv => by skip; clear hv; go_simp⟩) hHeld ?_
      simp only [Act.put, List.setIfInBounds_toArray, List.set_cons_zero, List.set_cons_succ]
      refine take_at 11 41 (.int .i64 pd) _ rfl rfl (by kernel_rfl) (by kernel_rfl) (by kernel_rfl) (fun _ _ _ h => h) (Or.inl ⟨by rfl, fun v hv => by skip; clear hv; go_simp⟩) hHeld ?_
      simp only [Act.put, List.setIfInBounds_toArray, List.set_cons_zero, List.set_cons_succ]
      refine take_at 12 42 (.int .i64 0) _ rfl rfl (by kernel_rfl) (by kernel_rfl) (by kernel_rfl) (fun _ _ _ h => h) (Or.inl ⟨by rfl, fun v hv => by skip; clear hv; go_simp⟩) hHeld ?_
      simp only [Act.put, List.setIfInBounds_toArray, List.set_cons_zero, List.set_cons_succ]
      refine take_at 13 10 (.slice pz lz cz) _ rfl rfl (by kernel_rfl) (by kernel_rfl) (by kernel_rfl) (fun _ _ _ h => h) (Or.inl ⟨by rfl, fun v hv => by skip; clear hv; go_simp⟩) hHeld ?_
      simp only [Act.put, List.setIfInBounds_toArray, List.set_cons_zero, List.set_cons_succ]
      refine take_at 14 11 (.int .i64 pd) _ rfl rfl (by kernel_rfl) (by kernel_rfl) (by kernel_rfl) (fun _ _ _ h => h) (Or.inl ⟨by rfl, fun v hv => by skip; clear hv; go_simp⟩) hHeld ?_
      simp only [Act.put, List.setIfInBounds_toArray, List.set_cons_zero, List.set_cons_succ]
      refine take_at 15 12 (.int .i64 0) _ rfl rfl (by kernel_rfl) (by kernel_rfl) (by kernel_rfl) (fun _ _ _ h => h) (Or.inl ⟨by rfl, fun v hv => by skip; clear hv; go_simp⟩) hHeld ?_
      simp only [Act.put, List.setIfInBounds_toArray, List.set_cons_zero, List.set_cons_succ]
      refine wpAnyH_done (by kernel_rfl) ?_ _
      clear hHeld
      have qt2 : w5.cell? ⟨w.heap.size, 2, none⟩ = some (.int .i64 t.fb) := H2t.out.cell 2
      go_wp2_with fail
      refine (HPA.out _).mono ?_
      rintro e w6 ⟨rfl, hb6⟩
      have H3g : Hid (Blk w6 g #[.int .i64 y.me, .int .i64 y.rv, .int .i64 y.nx, .int .i64 y.mo, .int .i64 y.bo, .int .i64 y.fr, .slice q n c, .int .i64 0, .int .i64 0, .int .i64 0, .int .i64 0, .int .i64 0, .int .i64 0, .int .i64 0] 81) := H2g.out.next hb6
      have H3t : Hid (Blk w6 (w.heap.size) #[.slice pt lt ct, .int .i64 t.ff, .int .i64 t.fb, .int .i64 t.db, .int .i64 t.al] 42) := Chg.keep (g := g) (.of hb6) H2t.out (by omega)
      have H3T : Hid (Came w6 pt lt ct t.ts) := came_chg H2T.out (.of hb6) HFAR.out
      have H3D : Hid (deb.Fresh w6 (g + 1) q n c y.ds) := fresh_chg H2D.out (.of hb6)
      have H3Z : Hid (deb.Fresh w6 (g + 1) pz lz cz z) := fresh_chg HZF.out (.of hb6)
      have H3C : Hid (Chg w w6 g) := H2C.out.trans (.of hb6)
      clear H2C H2g H2t H2T H2D HZF hb6 qt2 HPA
      generalize te * t.fb / 10000 = pq at *
      have hff := htok.1
      have HRS : Hid (te - pd - (t.ff + pq) = rest x t te m) := by show _ = _; unfold rest; rw [HPD.out, HFE.out]
      have HRH : Hid (tar.Right t.ts) := HT.out.1
      clear htok
      by_cases h6 : te - pd - (t.ff + pq) < 0
      · have d6 : decide (te - pd - (t.ff + pq) < 0) = true := decide_eq_true h6
        have HV : Hid (Or0 (SellIs x t te m) y bi0 19) := .inl ⟨by decide, .inr (.inl ⟨HRY.out, fun hh => by have := hh.2.1; rw [← HRS.out] at this; omega, rfl, rfl, rfl⟩)⟩
        have qt1 : w6.cell? ⟨w.heap.size, 1, none⟩ = some (.int .i64 t.ff) := H3t.out.cell 1
        go_wp2_with fail
        go_ret
        exact ⟨y, bi0, q, n, c, 19, rfl, HV.out, H3g.out, H3D.out, H3C.out⟩
      · have d6 : decide (te - pd - (t.ff + pq) < 0) = false := decide_eq_false h6
        have HMS : Hid (Calls Try.prog 50 #[.slice pt lt ct, .int .i64 y.bo, .int .i64 (te - pd - (t.ff + pq))] w6.drew fun e w' => tar.ThreePost w6.drew (tar.MostIs t.ts y.bo (te - pd - (t.ff + pq))) e w') := tar.kmost _ pt lt ct t.ts y.bo _ (H3T.out.below (bel_drew (Below.refl _ _) 1)) (tar.wf_mid hbo.1 (by omega)) (tar.wf_mid (by omega) (by omega))
        have HMM : Hid (tar.MayMost y.bo (te - pd - (t.ff + pq))) := ⟨hbo, by omega, by omega⟩
        have qt1 : w6.cell? ⟨w.heap.size, 1, none⟩ = some (.int .i64 t.ff) := H3t.out.cell 1
        go_wp2_with fail
        clear qt1
        refine wp_region_held_drew (S := fun v => Blk v (g) #[.int .i64 y.me, .int .i64 y.rv, .int .i64 y.nx, .int .i64 y.mo, .int .i64 y.bo, .int .i64 y.fr, .slice q n c, .int .i64 0, .int .i64 0, .int .i64 0, .int .i64 0, .int .i64 0, .int .i64 0, .int .i64 0] 81 ∧ Blk v (w.heap.size) #[.slice pt lt ct, .int .i64 t.ff, .int .i64 t.fb, .int .i64 t.db, .int .i64 t.al] 42) (by kernel_rfl) ⟨Blk.drew H3g.out 1, Blk.drew H3t.out 1⟩ (fun hHeld => ?_)
        refine take_at 0 62 (.pointer (some ⟨w.heap.size, 0, none⟩)) _ rfl rfl (by kernel_rfl) (by kernel_rfl) (by kernel_rfl) (fun _ _ _ h => h) (Or.inl ⟨by rfl, fun v hv => by skip; clear hv; go_simp⟩) hHeld ?_
        simp only [Act.put, List.setIfInBounds_toArray, List.set_cons_zero, List.set_cons_succ]
        refine take_at 1 63 (.slice pt lt ct) _ rfl rfl (by kernel_rfl) (by kernel_rfl) (by kernel_rfl) (fun _ _ _ h => h) (Or.inl ⟨by rfl, fun v hv => by have g0 := hv.2.cell 0; clear hv; go_simp⟩) hHeld ?_
        simp only [Act.put, List.setIfInBounds_toArray, List.set_cons_zero, List.set_cons_succ]
        refine take_at 2 64 (.pointer (some ⟨g, 0, none⟩)) _ rfl rfl (by kernel_rfl) (by kernel_rfl) (by kernel_rfl) (fun _ _ _ h => h) (Or.inl ⟨by rfl, fun v hv => by skip; clear hv; go_simp⟩) hHeld ?_
        simp only [Act.put, List.setIfInBounds_toArray, List.set_cons_zero, List.set_cons_succ]
        refine take_at 3 65 (.pointer (some ⟨g, 0, none⟩)) _ rfl rfl (by kernel_rfl) (by kernel_rfl) (by kernel_rfl) (fun _ _ _ h => h) (Or.inl ⟨by rfl, fun v hv => by skip; clear hv; go_simp⟩) hHeld ?_
        simp only [Act.put, List.setIfInBounds_toArray, List.set_cons_zero, List.set_cons_succ]
        refine take_at 4 66 (.pointer (some ⟨g, 0, none⟩)) _ rfl rfl (by kernel_rfl) (by kernel_rfl) (by kernel_rfl) (fun _ _ _ h => h) (Or.inl ⟨by rfl, fun v hv => by skip; clear hv; go_simp⟩) hHeld ?_
        simp only [Act.put, List.setIfInBounds_toArray, List.set_cons_zero, List.set_cons_succ]
        refine take_at 5 67 (.pointer (some ⟨g, 4, none⟩)) _ rfl rfl (by kernel_rfl) (by kernel_rfl) (by kernel_rfl) (fun _ _ _ h => h) (Or.inl ⟨by rfl, fun v hv => by skip; clear hv; go_simp⟩) hHeld ?_
        simp only [Act.put, List.setIfInBounds_toArray, List.set_cons_zero, List.set_cons_succ]
        refine take_at 6 68 (.int .i64 y.bo) _ rfl rfl (by kernel_rfl) (by kernel_rfl) (by kernel_rfl) (fun _ _ _ h => h) (Or.inl ⟨by rfl, fun v hv => by have g0 := hv.1.cell 4; clear hv; go_simp⟩) hHeld ?_
        simp only [Act.put, List.setIfInBounds_toArray, List.set_cons_zero, List.set_cons_succ]
        refine take_at 7 69 (.int .i64 (te - pd - (t.ff + pq))) _ rfl rfl (by kernel_rfl) (by kernel_rfl) (by kernel_rfl) (fun _ _ _ h => h) (Or.inl ⟨by rfl, fun v hv => by skip; clear hv; go_simp⟩) hHeld ?_
        simp only [Act.put, List.setIfInBounds_toArray, List.set_cons_zero, List.set_cons_succ]
        refine wpAnyH_ready (rs := [8]) (by kernel_rfl) (by simp) (AllReadyH.cons rfl (fun K hK => ?_) AllReadyH.nil)
        rw [if_pos (by rfl)]
        refine wp_callOp 70 rfl (by clear hK; go_simp) HMS.out ?_
        rintro e w7 ⟨u, pc, fm, rfl, hi7, hb7⟩
        obtain ⟨rfl, hmo7, hpc⟩ := hi7.got HRH.out HMM.out
        have hu0 := hmo7.1.1
        have hu1 : u ≤ 2097151 := by have := hmo7.1.2; unfold tar.Top at this; omega
        have hu2 : y.bo + u ≤ 10000000 := by have := hmo7.1.2; unfold tar.Top at this; omega
        have hcb := tar.cost_bd HRH.out y.bo (y.bo + u) hbo.1 (by omega) hu2
        rw [← hpc] at hcb
        have hpc1 : pc ≤ (te - pd - (t.ff + pq)) := by rw [hpc]; exact hmo7.2.1
        have hpc0 : 0 ≤ pc := by omega
        have HMO : Hid (tar.MostOf t.ts (rolled x m).bo (rest x t te m) u) := by show tar.MostOf _ _ _ _; rw [← HBR.out, ← HRS.out]; exact hmo7
        have HPC : Hid (pc = tar.cost t.ts (rolled x m).bo ((rolled x m).bo + u)) := by show _ = _; rw [← HBR.out]; exact hpc
        have HONE : Hid (∀ v, tar.MostOf t.ts (rolled x m).bo (rest x t te m) v → v = u) := fun v hv => by
          have hbb : 0 ≤ (rolled x m).bo := by rw [← HBR.out]; exact hbo.1
          exact hv.one HRH.out hbb HMO.out
        clear hmo7 hpc hcb hi7
        have H4g : Hid (Blk w7 g #[.int .i64 y.me, .int .i64 y.rv, .int .i64 y.nx, .int .i64 y.mo, .int .i64 y.bo, .int .i64 y.fr, .slice q n c, .int .i64 0, .int .i64 0, .int .i64 0, .int .i64 0, .int .i64 0, .int .i64 0, .int .i64 0] 81) := (Blk.drew H3g.out 1).next hb7
        have H4t : Hid (Blk w7 (w.heap.size) #[.slice pt lt ct, .int .i64 t.ff, .int .i64 t.fb, .int .i64 t.db, .int .i64 t.al] 42) := Chg.keep (g := g) ((Chg.of (bel_drew (Below.refl _ _) 1)).trans (.of hb7)) H3t.out (by omega)
        have H4T : Hid (Came w7 pt lt ct t.ts) := came_chg H3T.out ((Chg.of (bel_drew (Below.refl _ _) 1)).trans (.of hb7)) HFAR.out
        have H4D : Hid (deb.Fresh w7 (g + 1) q n c y.ds) := fresh_chg H3D.out ((Chg.of (bel_drew (Below.refl _ _) 1)).trans (.of hb7))
        have H4Z : Hid (deb.Fresh w7 (g + 1) pz lz cz z) := fresh_chg H3Z.out ((Chg.of (bel_drew (Below.refl _ _) 1)).trans (.of hb7))
        have H4C : Hid (Chg w w7 g) := H3C.out.trans ((Chg.of (bel_drew (Below.refl _ _) 1)).trans (.of hb7))
        clear H3C H3g H3t H3T H3D H3Z 
        refine ⟨_, rfl, hK.out _ _ ⟨H4g.out, H4t.out⟩ (fun hHeld => ?_)⟩
        clear hK K hb7 HMS
        simp only [Act.put, List.setIfInBounds_toArray, List.set_cons_zero, List.set_cons_succ]
        refine take_at 9 61 (.tuple #[.int .i64 u, .int .i64 pc, .int .i64 0]) _ rfl rfl (by kernel_rfl) (by kernel_rfl) (by kernel_rfl) (fun _ _ _ h => h) (Or.inl ⟨by rfl, fun v hv => by skip; clear hv; go_simp⟩) hHeld ?_
        simp only [Act.put, List.setIfInBounds_toArray, List.set_cons_zero, List.set_cons_succ]
        refine take_at 10 71 (.int .i64 u) _ rfl rfl (by kernel_rfl) (by kernel_rfl) (by kernel_rfl) (fun _ _ _ h => h) (Or.inl ⟨by rfl, fun v hv => by skip; clear hv; go_simp⟩) hHeld ?_
        simp only [Act.put, List.setIfInBounds_toArray, List.set_cons_zero, List.set_cons_succ]
        refine take_at 11 72 (.int .i64 pc) _ rfl rfl (by kernel_rfl) (by kernel_rfl) (by kernel_rfl) (fun _ _ _ h => h) (Or.inl ⟨by rfl, fun v hv => by skip; clear hv; go_simp⟩) hHeld ?_
        simp only [Act.put, List.setIfInBounds_toArray, List.set_cons_zero, List.set_cons_succ]
        refine take_at 12 73 (.int .i64 0) _ rfl rfl (by kernel_rfl) (by kernel_rfl) (by kernel_rfl) (fun _ _ _ h => h) (Or.inl ⟨by rfl, fun v hv => by skip; clear hv; go_simp⟩) hHeld ?_
        simp only [Act.put, List.setIfInBounds_toArray, List.set_cons_zero, List.set_cons_succ]
        refine take_at 13 17 (.int .i64 u) _ rfl rfl (by kernel_rfl) (by kernel_rfl) (by kernel_rfl) (fun _ _ _ h => h) (Or.inl ⟨by rfl, fun v hv => by skip; clear hv; go_simp⟩) hHeld ?_
        simp only [Act.put, List.setIfInBounds_toArray, List.set_cons_zero, List.set_cons_succ]
        refine take_at 14 18 (.int .i64 pc) _ rfl rfl (by kernel_rfl) (by kernel_rfl) (by kernel_rfl) (fun _ _ _ h => h) (Or.inl ⟨by rfl, fun v hv => by skip; clear hv; go_simp⟩) hHeld ?_
        simp only [Act.put, List.setIfInBounds_toArray, List.set_cons_zero, List.set_cons_succ]
        refine take_at 15 19 (.int .i64 0) _ rfl rfl (by kernel_rfl) (by kernel_rfl) (by kernel_rfl) (fun _ _ _ h => h) (Or.inl ⟨by rfl, fun v hv => by skip; clear hv; go_simp⟩) hHeld ?_
        simp only [Act.put, List.setIfInBounds_toArray, List.set_cons_zero, List.set_cons_succ]
        refine wpAnyH_done (by kernel_rfl) ?_ _
        clear hHeld
        by_cases h7 : u = 0
        · have d7 : (u == 0) = true := by simpa using h7
          have HV : Hid (Or0 (SellIs x t te m) y bi0 19) := .inl ⟨by decide, .inr (.inl ⟨HRY.out, fun hh => hh.2.2 (by rw [← h7]; exact HMO.out), rfl, rfl, rfl⟩)⟩
          clear h7
          go_wp2_with fail
          go_ret
          exact ⟨y, bi0, q, n, c, 19, rfl, HV.out, H4g.out, H4D.out, H4C.out⟩
        · have d7 : (u == 0) = false := by simpa using h7
          have HTE : Hid (TenOk x t te m) := ⟨h5, by rw [← HRS.out]; omega, fun hh => h7 (HONE.out 0 hh).symm⟩
          clear h7
          go_wp2_with (first | (refine wp_letS rfl 22 _ _ rfl g 6 rfl pz lz cz rfl (by kernel_rfl) #[.int .i64 y.me, .int .i64 y.rv, .int .i64 y.nx, .int .i64 y.mo, .int .i64 y.bo, .int .i64 y.fr, .slice q n c, .int .i64 0, .int .i64 0, .int .i64 0, .int .i64 0, .int .i64 0, .int .i64 0, .int .i64 0] 81 H4g.out (by simp) ?_) | fail)
          intro W8 hU
          have H5g : Hid (Blk W8 g #[.int .i64 y.me, .int .i64 y.rv, .int .i64 y.nx, .int .i64 y.mo, .int .i64 y.bo, .int .i64 y.fr, .slice pz lz cz, .int .i64 0, .int .i64 0, .int .i64 0, .int .i64 0, .int .i64 0, .int .i64 0, .int .i64 0] 81) := hU.blk
          have H5t : Hid (Blk W8 (w.heap.size) #[.slice pt lt ct, .int .i64 t.ff, .int .i64 t.fb, .int .i64 t.db, .int .i64 t.al] 42) := Chg.keep (g := g) (.upd hU) H4t.out (by omega)
          have H5Z : Hid (deb.Fresh W8 (g + 1) pz lz cz z) := fresh_chg H4Z.out (.upd hU)
          have H5C : Hid (Chg w W8 g) := H4C.out.trans (.upd hU)
          clear H4C H4g H4t H4Z hU d7
          have qg4 : W8.cell? ⟨g, 4, none⟩ = some (.int .i64 y.bo) := H5g.out.cell 4
          have hwb : IntKind.i64.wrap (y.bo + u) = y.bo + u := by rw [IntKind.wrap_i64]; omega
          go_wp2_with (first | (refine wp_let1 rfl 3 _ _ rfl g 4 rfl .i64 (y.bo + u) rfl (by kernel_rfl) #[.int .i64 y.me, .int .i64 y.rv, .int .i64 y.nx, .int .i64 y.mo, .int .i64 y.bo, .int .i64 y.fr, .slice pz lz cz, .int .i64 0, .int .i64 0, .int .i64 0, .int .i64 0, .int .i64 0, .int .i64 0, .int .i64 0] 81 H5g.out (by simp) ?_) | fail)
          intro W9 hU
          have H6g : Hid (Blk W9 g #[.int .i64 y.me, .int .i64 y.rv, .int .i64 y.nx, .int .i64 y.mo, .int .i64 (y.bo + u), .int .i64 y.fr, .slice pz lz cz, .int .i64 0, .int .i64 0, .int .i64 0, .int .i64 0, .int .i64 0, .int .i64 0, .int .i64 0] 81) := hU.blk
          have H6t : Hid (Blk W9 (w.heap.size) #[.slice pt lt ct, .int .i64 t.ff, .int .i64 t.fb, .int .i64 t.db, .int .i64 t.al] 42) := Chg.keep (g := g) (.upd hU) H5t.out (by omega)
          have H6Z : Hid (deb.Fresh W9 (g + 1) pz lz cz z) := fresh_chg H5Z.out (.upd hU)
          have H6C : Hid (Chg w W9 g) := H5C.out.trans (.upd hU)
          clear H5C H5g H5t H5Z hU qg4 hwb
          have hwd : IntKind.i64.wrap ((te - pd - (t.ff + pq)) - pc) = (te - pd - (t.ff + pq)) - pc := by rw [IntKind.wrap_i64]; omega
          have HPUT : Hid (putAll #[.int .i64 y.me, .int .i64 y.rv, .int .i64 y.nx, .int .i64 y.mo, .int .i64 (y.bo + u), .int .i64 y.fr, .slice pz lz cz, .int .i64 0, .int .i64 0, .int .i64 0, .int .i64 0, .int .i64 0, .int .i64 0, .int .i64 0] 7 (#[.int .i64 0, .int .i64 te, .int .i64 pd, .int .i64 (t.ff + pq), .int .i64 pc, .int .i64 ((te - pd - (t.ff + pq)) - pc), .int .i64 u] : Array Value).toList = #[.int .i64 y.me, .int .i64 y.rv, .int .i64 y.nx, .int .i64 y.mo, .int .i64 (y.bo + u), .int .i64 y.fr, .slice pz lz cz, .int .i64 0, .int .i64 te, .int .i64 pd, .int .i64 (t.ff + pq), .int .i64 pc, .int .i64 ((te - pd - (t.ff + pq)) - pc), .int .i64 u]) := by show _ = _; kernel_rfl
          go_wp2_with (first | (refine wp_let rfl 27 _ _ rfl g 7 rfl (.agg #[.int .i64 0, .int .i64 te, .int .i64 pd, .int .i64 (t.ff + pq), .int .i64 pc, .int .i64 ((te - pd - (t.ff + pq)) - pc), .int .i64 u]) rfl #[.int .i64 0, .int .i64 te, .int .i64 pd, .int .i64 (t.ff + pq), .int .i64 pc, .int .i64 ((te - pd - (t.ff + pq)) - pc), .int .i64 u] rfl (by kernel_rfl) (by simp [Value.oneCell']) #[.int .i64 y.me, .int .i64 y.rv, .int .i64 y.nx, .int .i64 y.mo, .int .i64 (y.bo + u), .int .i64 y.fr, .slice pz lz cz, .int .i64 0, .int .i64 0, .int .i64 0, .int .i64 0, .int .i64 0, .int .i64 0, .int .i64 0] 81 H6g.out (by simp) #[.int .i64 y.me, .int .i64 y.rv, .int .i64 y.nx, .int .i64 y.mo, .int .i64 (y.bo + u), .int .i64 y.fr, .slice pz lz cz, .int .i64 0, .int .i64 te, .int .i64 pd, .int .i64 (t.ff + pq), .int .i64 pc, .int .i64 ((te - pd - (t.ff + pq)) - pc), .int .i64 u] HPUT.out ?_) | fail)
          intro WA hU
          have H7g : Hid (Blk WA g #[.int .i64 y.me, .int .i64 y.rv, .int .i64 y.nx, .int .i64 y.mo, .int .i64 (y.bo + u), .int .i64 y.fr, .slice pz lz cz, .int .i64 0, .int .i64 te, .int .i64 pd, .int .i64 (t.ff + pq), .int .i64 pc, .int .i64 ((te - pd - (t.ff + pq)) - pc), .int .i64 u] 81) := hU.blk
          have H7t : Hid (Blk WA (w.heap.size) #[.slice pt lt ct, .int .i64 t.ff, .int .i64 t.fb, .int .i64 t.db, .int .i64 t.al] 42) := Chg.keep (g := g) (.upd hU) H6t.out (by omega)
          have H7Z : Hid (deb.Fresh WA (g + 1) pz lz cz z) := fresh_chg H6Z.out (.upd hU)
          have H7C : Hid (Chg w WA g) := H6C.out.trans (.upd hU)
          clear H6C H6g H6t H6Z hU hwd
          have HSV : Hid (⟨y.me, y.rv, y.nx + 1, y.mo, y.bo + u, y.fr, z⟩ = sold x t te m u) := by
            show _ = _
            unfold sold
            rw [HZV.out, ← HBR.out, HBS.out.1, HBS.out.2.1, HBS.out.2.2.1, HBS.out.2.2.2.1, HBS.out.2.2.2.2]
          have HBV : Hid (⟨y.nx, te, pd, (t.ff + pq), pc, (te - pd - (t.ff + pq)) - pc, u⟩ = bill x t te m u) := by
            show _ = _
            unfold bill
            rw [← HPC.out, ← HRS.out, ← HPD.out, ← HFE.out, HYN.out]
          have HNU : Hid (Calls Try.prog 45 #[.pointer (some ⟨g, 0, none⟩)] WA fun e w' => NumPost WA g ⟨y.me, y.rv, y.nx, y.mo, y.bo + u, y.fr, z⟩ ⟨0, te, pd, (t.ff + pq), pc, (te - pd - (t.ff + pq)) - pc, u⟩ pz lz cz e w') := pnum g ⟨y.me, y.rv, y.nx, y.mo, y.bo + u, y.fr, z⟩ ⟨0, te, pd, (t.ff + pq), pc, (te - pd - (t.ff + pq)) - pc, u⟩ pz lz cz WA H7g.out hyx
          go_wp2_with fail
          refine HNU.out.mono ?_
          rintro e wN ⟨hcN, ⟨hx, rfl, hiN⟩ | ⟨hx, rfl, hiN⟩⟩
          · have HV : Hid (Or0 (SellIs x t te m) ⟨y.me, y.rv, y.nx, y.mo, y.bo + u, y.fr, z⟩ ⟨0, te, pd, (t.ff + pq), pc, (te - pd - (t.ff + pq)) - pc, u⟩ 20) := .inl ⟨by decide, .inr (.inr (.inl ⟨HRY.out, HTE.out, by rw [← HYN.out]; exact hx, rfl, rfl, rfl⟩))⟩
            have HDN := fresh_chg H7Z.out hcN
            have HCN := H7C.out.trans hcN
            clear HNU hx
            go_wp2_with fail
            go_ret
            exact ⟨⟨y.me, y.rv, y.nx, y.mo, y.bo + u, y.fr, z⟩, ⟨0, te, pd, (t.ff + pq), pc, (te - pd - (t.ff + pq)) - pc, u⟩, pz, lz, cz, 20, rfl, HV.out, hiN, HDN, HCN⟩
          · have HV : Hid (Or0 (SellIs x t te m) ⟨y.me, y.rv, y.nx + 1, y.mo, y.bo + u, y.fr, z⟩ ⟨y.nx, te, pd, (t.ff + pq), pc, (te - pd - (t.ff + pq)) - pc, u⟩ 0) := .inr ⟨rfl, .inr (.inr (.inr ⟨HRY.out, HTE.out, by rw [← HYN.out]; exact hx, rfl, u, HMO.out, HSV.out, HBV.out⟩))⟩
            have HDN := fresh_chg H7Z.out hcN
            have HCN := H7C.out.trans hcN
            clear HNU hx
            go_wp2_with fail
            go_ret
            exact ⟨⟨y.me, y.rv, y.nx + 1, y.mo, y.bo + u, y.fr, z⟩, ⟨y.nx, te, pd, (t.ff + pq), pc, (te - pd - (t.ff + pq)) - pc, u⟩, pz, lz, cz, 0, rfl, HV.out, hiN, HDN, HCN⟩
    · rw [decide_eq_false h5] at HIT
      have HV : Hid (Or0 (SellIs x t te m) y bi0 19) := .inl ⟨by decide, .inr (.inl ⟨HRY.out, fun hh => h5 hh.1, rfl, rfl, rfl⟩)⟩
      clear h5
      go_wp2_with fail
      refine (HIT.out _).mono ?_
      rintro e wz ⟨rfl, hwz⟩
      subst wz
      go_wp2_with fail
      go_ret
      exact ⟨y, bi0, q, n, c, 19, rfl, HV.out, H1g.out, H1D.out, H1C.out⟩
  · skip
    have d0 : (f != 0) = true := by simpa using h0
    have HV : Hid (Or0 (SellIs x t te m) y bi0 f) := by
      refine .inl ⟨h0, .inl ⟨?_, rfl, rfl⟩⟩
      rcases hr with ⟨h1, h2, _⟩ | ⟨h1, h2, h3, _⟩ | ⟨_, _, _, h1⟩
      · exact .inr (.inl ⟨HM.out, h1, h2⟩)
      · exact .inr (.inr ⟨HM.out, h1, h2, h3⟩)
      · exact absurd h1 h0
    clear hr h0
    go_wp2_with fail
    go_ret
    exact ⟨y, bi0, q, n, c, f, rfl, HV.out, H1g.out, H1D.out, H1C.out⟩

end Go.Proofs.Ytlolippocnngcab.acc

/- account.Sell. -/
namespace Go.Proofs.Ytlolippocnngcab.acc
open Go.Proofs.Ytlolippocnngcab.tar (Du du0 Came RowD Ld PairT)
open Go.RowKit
set_option maxRecDepth 100000
set_option linter.unusedVariables false
set_option linter.unusedSimpArgs false

set_option maxHeartbeats 1000000 in
theorem psell1 (B0 B1 B2 g : Nat) (x : Ac) (p : Option Addr) (len cap : Nat) (t : Tm) (pt : Option Addr) (lt ct : Nat) (te m : Int) (w : World) (hB0 : Blk w B0 #[.slice pt lt ct, .int .i64 t.ff, .int .i64 t.fb, .int .i64 t.db, .int .i64 t.al] 42) (hB1 : Blk w B1 #[.int .i64 te] 3) (hB2 : Blk w B2 #[.int .i64 m] 3) (hw : Blk w g (wcs x bi0 p len cap) 81) (hd : deb.Fresh w (g + 1) p len cap x.ds) (ha : AMay x) (ht : Came w pt lt ct t.ts) (hwf : wf4 t) (hfar : Far pt lt g) : Calls Try.prog 32 #[.pointer (some ⟨g, 0, none⟩), .pointer (some ⟨B0, 0, none⟩), .pointer (some ⟨B1, 0, none⟩), .pointer (some ⟨B2, 0, none⟩)] w fun e w' => WPost w g (Or0 (SellIs x t te m)) e w' := by
  have HIN : Hid (Calls Try.prog 33 #[.pointer (some ⟨g, 0, none⟩), .agg #[.slice pt lt ct, .int .i64 t.ff, .int .i64 t.fb, .int .i64 t.db, .int .i64 t.al], .int .i64 te, .int .i64 m] w fun e w' => WPost w g (Or0 (SellIs x t te m)) e w') := (psell g x p len cap t pt lt ct te m w hw hd ha ht hwf hfar).mono fun e w' h => h.w (Nat.le_of_lt hw.lt)
  have HK0 : Hid (Blk w B0 #[.slice pt lt ct, .int .i64 t.ff, .int .i64 t.fb, .int .i64 t.db, .int .i64 t.al] 42) := hB0
  have HK1 : Hid (Blk w B1 #[.int .i64 te] 3) := hB1
  have qB1 : w.cell? ⟨B1, 0, none⟩ = some (.int .i64 te) := hB1.cell 0
  have HK2 : Hid (Blk w B2 #[.int .i64 m] 3) := hB2
  have qB2 : w.cell? ⟨B2, 0, none⟩ = some (.int .i64 m) := hB2.cell 0
  clear hw ha hd ht hwf hfar
  go_enter Try.func32, Try.ntmps32
  go_wp2_with (first | (refine wp_whole rfl 42 _ rfl B0 rfl 42 #[.slice pt lt ct, .int .i64 t.ff, .int .i64 t.fb, .int .i64 t.db, .int .i64 t.al] _ HK0.out Try.underlying42 rfl (by kernel_rfl) ?_) | fail)
  refine HIN.out.mono ?_
  rintro e w1 hx
  have HX : Hid (WPost w g (Or0 (SellIs x t te m)) e w1) := hx
  obtain ⟨y, b, q, n, c, f, rfl, _⟩ := hx
  clear HIN
  go_wp2_with fail
  go_ret
  exact HX.out
set_option maxHeartbeats 4000000 in
theorem ksell : KcSell := by
  intro w x p len cap t pt lt ct te m ha ht hte hm
  unfold Ac.v Ac.cs Tm.v
  have H0d : Hid (Blk ((((((w.alloc (.cells #[.int .i64 x.me, .int .i64 x.rv, .int .i64 x.nx, .int .i64 x.mo, .int .i64 x.bo, .int .i64 x.fr, .slice p len cap] 24)).alloc (.cells #[.slice pt lt ct, .int .i64 t.ff, .int .i64 t.fb, .int .i64 t.db, .int .i64 t.al] 42)).alloc (.cells #[.int .i64 te] 3)).alloc (.cells #[.int .i64 m] 3)).alloc (.cells #[.int .i64 0, .int .i64 0, .int .i64 0, .int .i64 0, .int .i64 0, .int .i64 0, .slice none 0 0] 24)).alloc (.cells #[.int .i64 0, .int .i64 0, .int .i64 0, .int .i64 0, .int .i64 0, .int .i64 0, .int .i64 0] 27)) (w.heap.size) #[.int .i64 x.me, .int .i64 x.rv, .int .i64 x.nx, .int .i64 x.mo, .int .i64 x.bo, .int .i64 x.fr, .slice p len cap] 24) := (((((Blk.new w _ _).alloc _).alloc _).alloc _).alloc _).alloc _
  have H0t : Hid (Blk ((((((w.alloc (.cells #[.int .i64 x.me, .int .i64 x.rv, .int .i64 x.nx, .int .i64 x.mo, .int .i64 x.bo, .int .i64 x.fr, .slice p len cap] 24)).alloc (.cells #[.slice pt lt ct, .int .i64 t.ff, .int .i64 t.fb, .int .i64 t.db, .int .i64 t.al] 42)).alloc (.cells #[.int .i64 te] 3)).alloc (.cells #[.int .i64 m] 3)).alloc (.cells #[.int .i64 0, .int .i64 0, .int .i64 0, .int .i64 0, .int .i64 0, .int .i64 0, .slice none 0 0] 24)).alloc (.cells #[.int .i64 0, .int .i64 0, .int .i64 0, .int .i64 0, .int .i64 0, .int .i64 0, .int .i64 0] 27)) (w.heap.size + 1) #[.slice pt lt ct, .int .i64 t.ff, .int .i64 t.fb, .int .i64 t.db, .int .i64 t.al] 42) := ((((Blk.new1 w _ _ _).alloc _).alloc _).alloc _).alloc _
  have H0e : Hid (Blk ((((((w.alloc (.cells #[.int .i64 x.me, .int .i64 x.rv, .int .i64 x.nx, .int .i64 x.mo, .int .i64 x.bo, .int .i64 x.fr, .slice p len cap] 24)).alloc (.cells #[.slice pt lt ct, .int .i64 t.ff, .int .i64 t.fb, .int .i64 t.db, .int .i64 t.al] 42)).alloc (.cells #[.int .i64 te] 3)).alloc (.cells #[.int .i64 m] 3)).alloc (.cells #[.int .i64 0, .int .i64 0, .int .i64 0, .int .i64 0, .int .i64 0, .int .i64 0, .slice none 0 0] 24)).alloc (.cells #[.int .i64 0, .int .i64 0, .int .i64 0, .int .i64 0, .int .i64 0, .int .i64 0, .int .i64 0] 27)) (w.heap.size + 1 + 1) #[.int .i64 te] 3) := (((Blk.new2 w _ _ _ _).alloc _).alloc _).alloc _
  have H0m : Hid (Blk ((((((w.alloc (.cells #[.int .i64 x.me, .int .i64 x.rv, .int .i64 x.nx, .int .i64 x.mo, .int .i64 x.bo, .int .i64 x.fr, .slice p len cap] 24)).alloc (.cells #[.slice pt lt ct, .int .i64 t.ff, .int .i64 t.fb, .int .i64 t.db, .int .i64 t.al] 42)).alloc (.cells #[.int .i64 te] 3)).alloc (.cells #[.int .i64 m] 3)).alloc (.cells #[.int .i64 0, .int .i64 0, .int .i64 0, .int .i64 0, .int .i64 0, .int .i64 0, .slice none 0 0] 24)).alloc (.cells #[.int .i64 0, .int .i64 0, .int .i64 0, .int .i64 0, .int .i64 0, .int .i64 0, .int .i64 0] 27)) (w.heap.size + 1 + 1 + 1) #[.int .i64 m] 3) := ((Blk.new3 w _ _ _ _ _).alloc _).alloc _
  have H0r : Hid (Blk ((((((w.alloc (.cells #[.int .i64 x.me, .int .i64 x.rv, .int .i64 x.nx, .int .i64 x.mo, .int .i64 x.bo, .int .i64 x.fr, .slice p len cap] 24)).alloc (.cells #[.slice pt lt ct, .int .i64 t.ff, .int .i64 t.fb, .int .i64 t.db, .int .i64 t.al] 42)).alloc (.cells #[.int .i64 te] 3)).alloc (.cells #[.int .i64 m] 3)).alloc (.cells #[.int .i64 0, .int .i64 0, .int .i64 0, .int .i64 0, .int .i64 0, .int .i64 0, .slice none 0 0] 24)).alloc (.cells #[.int .i64 0, .int .i64 0, .int .i64 0, .int .i64 0, .int .i64 0, .int .i64 0, .int .i64 0] 27)) (w.heap.size + 1 + 1 + 1 + 1) #[.int .i64 0, .int .i64 0, .int .i64 0, .int .i64 0, .int .i64 0, .int .i64 0, .slice none 0 0] 24) := (blk_new4 w _ _ _ _ _ _).alloc _
  have H0l : Hid (Blk ((((((w.alloc (.cells #[.int .i64 x.me, .int .i64 x.rv, .int .i64 x.nx, .int .i64 x.mo, .int .i64 x.bo, .int .i64 x.fr, .slice p len cap] 24)).alloc (.cells #[.slice pt lt ct, .int .i64 t.ff, .int .i64 t.fb, .int .i64 t.db, .int .i64 t.al] 42)).alloc (.cells #[.int .i64 te] 3)).alloc (.cells #[.int .i64 m] 3)).alloc (.cells #[.int .i64 0, .int .i64 0, .int .i64 0, .int .i64 0, .int .i64 0, .int .i64 0, .slice none 0 0] 24)).alloc (.cells #[.int .i64 0, .int .i64 0, .int .i64 0, .int .i64 0, .int .i64 0, .int .i64 0, .int .i64 0] 27)) (w.heap.size + 1 + 1 + 1 + 1 + 1) #[.int .i64 0, .int .i64 0, .int .i64 0, .int .i64 0, .int .i64 0, .int .i64 0, .int .i64 0] 27) := blk_new5 w _ _ _ _ _ _ _
  have H0B : Hid (Below w.heap.size w ((((((w.alloc (.cells #[.int .i64 x.me, .int .i64 x.rv, .int .i64 x.nx, .int .i64 x.mo, .int .i64 x.bo, .int .i64 x.fr, .slice p len cap] 24)).alloc (.cells #[.slice pt lt ct, .int .i64 t.ff, .int .i64 t.fb, .int .i64 t.db, .int .i64 t.al] 42)).alloc (.cells #[.int .i64 te] 3)).alloc (.cells #[.int .i64 m] 3)).alloc (.cells #[.int .i64 0, .int .i64 0, .int .i64 0, .int .i64 0, .int .i64 0, .int .i64 0, .slice none 0 0] 24)).alloc (.cells #[.int .i64 0, .int .i64 0, .int .i64 0, .int .i64 0, .int .i64 0, .int .i64 0, .int .i64 0] 27))) := ((((((Below.refl w.heap.size w).alloc (by simp) _).alloc (by simp) _).alloc (by simp; omega) _).alloc (by simp; omega) _).alloc (by simp; omega) _).alloc (by simp; omega) _
  have H0R : Hid (Came ((((((w.alloc (.cells #[.int .i64 x.me, .int .i64 x.rv, .int .i64 x.nx, .int .i64 x.mo, .int .i64 x.bo, .int .i64 x.fr, .slice p len cap] 24)).alloc (.cells #[.slice pt lt ct, .int .i64 t.ff, .int .i64 t.fb, .int .i64 t.db, .int .i64 t.al] 42)).alloc (.cells #[.int .i64 te] 3)).alloc (.cells #[.int .i64 m] 3)).alloc (.cells #[.int .i64 0, .int .i64 0, .int .i64 0, .int .i64 0, .int .i64 0, .int .i64 0, .slice none 0 0] 24)).alloc (.cells #[.int .i64 0, .int .i64 0, .int .i64 0, .int .i64 0, .int .i64 0, .int .i64 0, .int .i64 0] 27)) p len cap x.ds) := ha.ds.below H0B.out
  have hs0 : w.heap.size + 1 + 1 + 1 + 1 + 1 < ((((((w.alloc (.cells #[.int .i64 x.me, .int .i64 x.rv, .int .i64 x.nx, .int .i64 x.mo, .int .i64 x.bo, .int .i64 x.fr, .slice p len cap] 24)).alloc (.cells #[.slice pt lt ct, .int .i64 t.ff, .int .i64 t.fb, .int .i64 t.db, .int .i64 t.al] 42)).alloc (.cells #[.int .i64 te] 3)).alloc (.cells #[.int .i64 m] 3)).alloc (.cells #[.int .i64 0, .int .i64 0, .int .i64 0, .int .i64 0, .int .i64 0, .int .i64 0, .slice none 0 0] 24)).alloc (.cells #[.int .i64 0, .int .i64 0, .int .i64 0, .int .i64 0, .int .i64 0, .int .i64 0, .int .i64 0] 27)).heap.size := H0l.out.lt
  generalize hWW : ((((((w.alloc (.cells #[.int .i64 x.me, .int .i64 x.rv, .int .i64 x.nx, .int .i64 x.mo, .int .i64 x.bo, .int .i64 x.fr, .slice p len cap] 24)).alloc (.cells #[.slice pt lt ct, .int .i64 t.ff, .int .i64 t.fb, .int .i64 t.db, .int .i64 t.al] 42)).alloc (.cells #[.int .i64 te] 3)).alloc (.cells #[.int .i64 m] 3)).alloc (.cells #[.int .i64 0, .int .i64 0, .int .i64 0, .int .i64 0, .int .i64 0, .int .i64 0, .slice none 0 0] 24)).alloc (.cells #[.int .i64 0, .int .i64 0, .int .i64 0, .int .i64 0, .int .i64 0, .int .i64 0, .int .i64 0] 27)) = W0 at *
  have HWW : Hid (((((((w.alloc (.cells #[.int .i64 x.me, .int .i64 x.rv, .int .i64 x.nx, .int .i64 x.mo, .int .i64 x.bo, .int .i64 x.fr, .slice p len cap] 24)).alloc (.cells #[.slice pt lt ct, .int .i64 t.ff, .int .i64 t.fb, .int .i64 t.db, .int .i64 t.al] 42)).alloc (.cells #[.int .i64 te] 3)).alloc (.cells #[.int .i64 m] 3)).alloc (.cells #[.int .i64 0, .int .i64 0, .int .i64 0, .int .i64 0, .int .i64 0, .int .i64 0, .slice none 0 0] 24)).alloc (.cells #[.int .i64 0, .int .i64 0, .int .i64 0, .int .i64 0, .int .i64 0, .int .i64 0, .int .i64 0] 27)) = W0) := hWW
  clear hWW
  go_enter Try.func16, Try.ntmps16
  go_upto_region 1 with fail
  rw [HWW.out]
  clear HWW
  have HXt : Hid (∀ W, Below W0.heap.size W0 W → Blk W (w.heap.size + 1) #[.slice pt lt ct, .int .i64 t.ff, .int .i64 t.fb, .int .i64 t.db, .int .i64 t.al] 42) := fun W hW => H0t.out.next hW
  have HXe : Hid (∀ W, Below W0.heap.size W0 W → Blk W (w.heap.size + 1 + 1) #[.int .i64 te] 3) := fun W hW => H0e.out.next hW
  have HXm : Hid (∀ W, Below W0.heap.size W0 W → Blk W (w.heap.size + 1 + 1 + 1) #[.int .i64 m] 3) := fun W hW => H0m.out.next hW
  have HTC : Hid (Came w pt lt ct t.ts) := ht.ts
  have HBW : Hid (Below w.heap.size w W0) := H0B.out
  have hbw : w.heap.size ≤ W0.heap.size := H0B.out.size
  have HWK : Hid (Calls Try.prog 25 #[.agg #[.int .i64 x.me, .int .i64 x.rv, .int .i64 x.nx, .int .i64 x.mo, .int .i64 x.bo, .int .i64 x.fr, .slice p len cap], .func (.func 32) #[] #[.pointer (some ⟨w.heap.size + 1, 0, none⟩), .pointer (some ⟨w.heap.size + 1 + 1, 0, none⟩), .pointer (some ⟨w.heap.size + 1 + 1 + 1, 0, none⟩)]] W0 fun e w' => BPost W0 (SellIs x t te m) e w') := by
    refine pwork 32 #[.pointer (some ⟨w.heap.size + 1, 0, none⟩), .pointer (some ⟨w.heap.size + 1 + 1, 0, none⟩), .pointer (some ⟨w.heap.size + 1 + 1 + 1, 0, none⟩)] (SellIs x t te m) x p len cap W0 H0R.out (fun h => .inl ⟨.inl ⟨h, rfl⟩, rfl, rfl⟩) (fun _ _ => by kernel_rfl) ?_
    intro hm W g p' cap' hB hg hblk hld
    have HFR : deb.Fresh W (g + 1) p' len cap' x.ds := by
      obtain ⟨a0, c0, hv, hfr⟩ := deb.ld_fresh hld hm.1
      injection hv with h1 h2 h3
      rw [h1, h2, h3]; exact hfr
    have hfar : Far pt lt g := fun hn y hy => by have := came_lt HTC.out hn y hy; omega
    exact psell1 _ _ _ g x p' len cap' t pt lt ct te m W (HXt.out W hB) (HXe.out W hB) (HXm.out W hB) hblk HFR hm (HTC.out.below (HBW.out.trans (hB.mono hbw))) ht.wf hfar
  clear ha ht HXt HXe HXm
  go_wp2_with (first
    | (refine wp_whole rfl 24 _ rfl (w.heap.size) rfl 24 #[.int .i64 x.me, .int .i64 x.rv, .int .i64 x.nx, .int .i64 x.mo, .int .i64 x.bo, .int .i64 x.fr, .slice p len cap] _ H0d.out Try.underlying24 rfl (by kernel_rfl) ?_)
    | (refine wp_whole rfl 42 _ rfl (w.heap.size + 1) rfl 42 #[.slice pt lt ct, .int .i64 t.ff, .int .i64 t.fb, .int .i64 t.db, .int .i64 t.al] _ H0t.out Try.underlying42 rfl (by kernel_rfl) ?_)
    | (refine wp_whole rfl 3 _ rfl (w.heap.size + 1 + 1) rfl 3 #[.int .i64 te] _ H0e.out Try.underlying3 rfl (by kernel_rfl) ?_)
    | (refine wp_whole rfl 3 _ rfl (w.heap.size + 1 + 1 + 1) rfl 3 #[.int .i64 m] _ H0m.out Try.underlying3 rfl (by kernel_rfl) ?_)
    | (refine wp_whole rfl 24 _ rfl (w.heap.size + 1 + 1 + 1 + 1) rfl 24 #[.int .i64 0, .int .i64 0, .int .i64 0, .int .i64 0, .int .i64 0, .int .i64 0, .slice none 0 0] _ H0r.out Try.underlying24 rfl (by kernel_rfl) ?_)
    | (refine wp_whole rfl 27 _ rfl (w.heap.size + 1 + 1 + 1 + 1 + 1) rfl 27 #[.int .i64 0, .int .i64 0, .int .i64 0, .int .i64 0, .int .i64 0, .int .i64 0, .int .i64 0] _ H0l.out Try.underlying27 rfl (by kernel_rfl) ?_)
    | fail)
  refine HWK.out.mono ?_
  rintro e w1 ⟨b, l, pr, lr, cr, fz, rfl, hi, hf, hb1⟩
  have H1d : Hid (Blk w1 (w.heap.size) #[.int .i64 x.me, .int .i64 x.rv, .int .i64 x.nx, .int .i64 x.mo, .int .i64 x.bo, .int .i64 x.fr, .slice p len cap] 24) := H0d.out.next hb1
  have H1t : Hid (Blk w1 (w.heap.size + 1) #[.slice pt lt ct, .int .i64 t.ff, .int .i64 t.fb, .int .i64 t.db, .int .i64 t.al] 42) := H0t.out.next hb1
  have H1e : Hid (Blk w1 (w.heap.size + 1 + 1) #[.int .i64 te] 3) := H0e.out.next hb1
  have H1m : Hid (Blk w1 (w.heap.size + 1 + 1 + 1) #[.int .i64 m] 3) := H0m.out.next hb1
  have H1r : Hid (Blk w1 (w.heap.size + 1 + 1 + 1 + 1) #[.int .i64 0, .int .i64 0, .int .i64 0, .int .i64 0, .int .i64 0, .int .i64 0, .slice none 0 0] 24) := H0r.out.next hb1
  have H1l : Hid (Blk w1 (w.heap.size + 1 + 1 + 1 + 1 + 1) #[.int .i64 0, .int .i64 0, .int .i64 0, .int .i64 0, .int .i64 0, .int .i64 0, .int .i64 0] 27) := H0l.out.next hb1
  have H1R : Hid (Came w1 p len cap x.ds) := H0R.out.below hb1
  have H1B : Hid (Below w.heap.size w w1) := H0B.out.trans (hb1.mono H0B.out.size)
  have hsw1 : W0.heap.size ≤ w1.heap.size := hb1.size
  clear hb1 H0d H0t H0e H0m H0r H0l H0R H0B
  unfold Ac.v Ac.cs Bi.v
  clear HWK
  have H2F : Hid (deb.Fresh w1 W0.heap.size pr lr cr b.ds) := hf
  have HUPF : Hid (0 < lr → ∀ y, pr = some y → y.block < w1.heap.size) := came_lt H2F.out.came
  have HV : Hid (SellIs x t te m b l fz) := hi
  clear hf hi
  go_wp2_with (first
    | (refine wp_letAll rfl 24 _ _ rfl (w.heap.size + 1 + 1 + 1 + 1) rfl #[.int .i64 b.me, .int .i64 b.rv, .int .i64 b.nx, .int .i64 b.mo, .int .i64 b.bo, .int .i64 b.fr, .slice pr lr cr] rfl (by kernel_rfl) (by simp [Value.oneCell']) #[.int .i64 0, .int .i64 0, .int .i64 0, .int .i64 0, .int .i64 0, .int .i64 0, .slice none 0 0] 24 H1r.out rfl ?_)
    | (refine wp_whole rfl 24 _ rfl (w.heap.size) rfl 24 #[.int .i64 x.me, .int .i64 x.rv, .int .i64 x.nx, .int .i64 x.mo, .int .i64 x.bo, .int .i64 x.fr, .slice p len cap] _ H1d.out Try.underlying24 rfl (by kernel_rfl) ?_)
    | (refine wp_whole rfl 42 _ rfl (w.heap.size + 1) rfl 42 #[.slice pt lt ct, .int .i64 t.ff, .int .i64 t.fb, .int .i64 t.db, .int .i64 t.al] _ H1t.out Try.underlying42 rfl (by kernel_rfl) ?_)
    | (refine wp_whole rfl 3 _ rfl (w.heap.size + 1 + 1) rfl 3 #[.int .i64 te] _ H1e.out Try.underlying3 rfl (by kernel_rfl) ?_)
    | (refine wp_whole rfl 3 _ rfl (w.heap.size + 1 + 1 + 1) rfl 3 #[.int .i64 m] _ H1m.out Try.underlying3 rfl (by kernel_rfl) ?_)
    | (refine wp_whole rfl 24 _ rfl (w.heap.size + 1 + 1 + 1 + 1) rfl 24 #[.int .i64 0, .int .i64 0, .int .i64 0, .int .i64 0, .int .i64 0, .int .i64 0, .slice none 0 0] _ H1r.out Try.underlying24 rfl (by kernel_rfl) ?_)
    | (refine wp_whole rfl 27 _ rfl (w.heap.size + 1 + 1 + 1 + 1 + 1) rfl 27 #[.int .i64 0, .int .i64 0, .int .i64 0, .int .i64 0, .int .i64 0, .int .i64 0, .int .i64 0] _ H1l.out Try.underlying27 rfl (by kernel_rfl) ?_)
    | fail)
  intro W4 hU
  have H3d : Hid (Blk W4 (w.heap.size) #[.int .i64 x.me, .int .i64 x.rv, .int .i64 x.nx, .int .i64 x.mo, .int .i64 x.bo, .int .i64 x.fr, .slice p len cap] 24) := hU.keep H1d.out (by omega)
  have H3t : Hid (Blk W4 (w.heap.size + 1) #[.slice pt lt ct, .int .i64 t.ff, .int .i64 t.fb, .int .i64 t.db, .int .i64 t.al] 42) := hU.keep H1t.out (by omega)
  have H3e : Hid (Blk W4 (w.heap.size + 1 + 1) #[.int .i64 te] 3) := hU.keep H1e.out (by omega)
  have H3m : Hid (Blk W4 (w.heap.size + 1 + 1 + 1) #[.int .i64 m] 3) := hU.keep H1m.out (by omega)
  have H3r : Hid (Blk W4 (w.heap.size + 1 + 1 + 1 + 1) #[.int .i64 b.me, .int .i64 b.rv, .int .i64 b.nx, .int .i64 b.mo, .int .i64 b.bo, .int .i64 b.fr, .slice pr lr cr] 24) := hU.blk
  have H3l : Hid (Blk W4 (w.heap.size + 1 + 1 + 1 + 1 + 1) #[.int .i64 0, .int .i64 0, .int .i64 0, .int .i64 0, .int .i64 0, .int .i64 0, .int .i64 0] 27) := hU.keep H1l.out (by omega)
  have H3F : Hid (deb.Fresh W4 W0.heap.size pr lr cr b.ds) := fresh_updN H2F.out hU (fun hn y hy => by have f1 := H2F.out.new hn y hy; have f2 := HUPF.out hn y hy; omega)
  have H3B : Hid (Below w.heap.size w W4) := hU.bel _ _ (by omega) H1B.out
  have hsW4 : W4.heap.size = w1.heap.size := hU.size
  clear hU H1d H1t H1e H1m H1r H1l H2F H1B
  go_wp2_with (first
    | (refine wp_letAll rfl 27 _ _ rfl (w.heap.size + 1 + 1 + 1 + 1 + 1) rfl #[.int .i64 l.id, .int .i64 l.te, .int .i64 l.de, .int .i64 l.fe, .int .i64 l.pr, .int .i64 l.ch, .int .i64 l.un] rfl (by kernel_rfl) (by simp [Value.oneCell']) #[.int .i64 0, .int .i64 0, .int .i64 0, .int .i64 0, .int .i64 0, .int .i64 0, .int .i64 0] 27 H3l.out rfl ?_)
    | (refine wp_whole rfl 24 _ rfl (w.heap.size) rfl 24 #[.int .i64 x.me, .int .i64 x.rv, .int .i64 x.nx, .int .i64 x.mo, .int .i64 x.bo, .int .i64 x.fr, .slice p len cap] _ H3d.out Try.underlying24 rfl (by kernel_rfl) ?_)
    | (refine wp_whole rfl 42 _ rfl (w.heap.size + 1) rfl 42 #[.slice pt lt ct, .int .i64 t.ff, .int .i64 t.fb, .int .i64 t.db, .int .i64 t.al] _ H3t.out Try.underlying42 rfl (by kernel_rfl) ?_)
    | (refine wp_whole rfl 3 _ rfl (w.heap.size + 1 + 1) rfl 3 #[.int .i64 te] _ H3e.out Try.underlying3 rfl (by kernel_rfl) ?_)
    | (refine wp_whole rfl 3 _ rfl (w.heap.size + 1 + 1 + 1) rfl 3 #[.int .i64 m] _ H3m.out Try.underlying3 rfl (by kernel_rfl) ?_)
    | (refine wp_whole rfl 24 _ rfl (w.heap.size + 1 + 1 + 1 + 1) rfl 24 #[.int .i64 b.me, .int .i64 b.rv, .int .i64 b.nx, .int .i64 b.mo, .int .i64 b.bo, .int .i64 b.fr, .slice pr lr cr] _ H3r.out Try.underlying24 rfl (by kernel_rfl) ?_)
    | (refine wp_whole rfl 27 _ rfl (w.heap.size + 1 + 1 + 1 + 1 + 1) rfl 27 #[.int .i64 0, .int .i64 0, .int .i64 0, .int .i64 0, .int .i64 0, .int .i64 0, .int .i64 0] _ H3l.out Try.underlying27 rfl (by kernel_rfl) ?_)
    | fail)
  intro W5 hU
  have H4d : Hid (Blk W5 (w.heap.size) #[.int .i64 x.me, .int .i64 x.rv, .int .i64 x.nx, .int .i64 x.mo, .int .i64 x.bo, .int .i64 x.fr, .slice p len cap] 24) := hU.keep H3d.out (by omega)
  have H4t : Hid (Blk W5 (w.heap.size + 1) #[.slice pt lt ct, .int .i64 t.ff, .int .i64 t.fb, .int .i64 t.db, .int .i64 t.al] 42) := hU.keep H3t.out (by omega)
  have H4e : Hid (Blk W5 (w.heap.size + 1 + 1) #[.int .i64 te] 3) := hU.keep H3e.out (by omega)
  have H4m : Hid (Blk W5 (w.heap.size + 1 + 1 + 1) #[.int .i64 m] 3) := hU.keep H3m.out (by omega)
  have H4r : Hid (Blk W5 (w.heap.size + 1 + 1 + 1 + 1) #[.int .i64 b.me, .int .i64 b.rv, .int .i64 b.nx, .int .i64 b.mo, .int .i64 b.bo, .int .i64 b.fr, .slice pr lr cr] 24) := hU.keep H3r.out (by omega)
  have H4l : Hid (Blk W5 (w.heap.size + 1 + 1 + 1 + 1 + 1) #[.int .i64 l.id, .int .i64 l.te, .int .i64 l.de, .int .i64 l.fe, .int .i64 l.pr, .int .i64 l.ch, .int .i64 l.un] 27) := hU.blk
  have H4F : Hid (deb.Fresh W5 W0.heap.size pr lr cr b.ds) := fresh_updN H3F.out hU (fun hn y hy => by have f1 := H3F.out.new hn y hy; have f2 := HUPF.out hn y hy; omega)
  have H4B : Hid (Below w.heap.size w W5) := hU.bel _ _ (by omega) H3B.out
  have hsW5 : W5.heap.size = W4.heap.size := hU.size
  clear hU H3d H3t H3e H3m H3r H3l H3F H3B
  have Rr0 : Hid (W5.cell? ⟨w.heap.size + 1 + 1 + 1 + 1, 0, none⟩ = some (.int .i64 b.me)) := H4r.out.cell 0
  have Rr1 : Hid (W5.cell? ⟨w.heap.size + 1 + 1 + 1 + 1, 1, none⟩ = some (.int .i64 b.rv)) := H4r.out.cell 1
  have Rr2 : Hid (W5.cell? ⟨w.heap.size + 1 + 1 + 1 + 1, 2, none⟩ = some (.int .i64 b.nx)) := H4r.out.cell 2
  have Rr3 : Hid (W5.cell? ⟨w.heap.size + 1 + 1 + 1 + 1, 3, none⟩ = some (.int .i64 b.mo)) := H4r.out.cell 3
  have Rr4 : Hid (W5.cell? ⟨w.heap.size + 1 + 1 + 1 + 1, 4, none⟩ = some (.int .i64 b.bo)) := H4r.out.cell 4
  have Rr5 : Hid (W5.cell? ⟨w.heap.size + 1 + 1 + 1 + 1, 5, none⟩ = some (.int .i64 b.fr)) := H4r.out.cell 5
  have Rr6 : Hid (W5.cell? ⟨w.heap.size + 1 + 1 + 1 + 1, 6, none⟩ = some (.slice pr lr cr)) := H4r.out.cell 6
  have Rl0 : Hid (W5.cell? ⟨w.heap.size + 1 + 1 + 1 + 1 + 1, 0, none⟩ = some (.int .i64 l.id)) := H4l.out.cell 0
  have Rl1 : Hid (W5.cell? ⟨w.heap.size + 1 + 1 + 1 + 1 + 1, 1, none⟩ = some (.int .i64 l.te)) := H4l.out.cell 1
  have Rl2 : Hid (W5.cell? ⟨w.heap.size + 1 + 1 + 1 + 1 + 1, 2, none⟩ = some (.int .i64 l.de)) := H4l.out.cell 2
  have Rl3 : Hid (W5.cell? ⟨w.heap.size + 1 + 1 + 1 + 1 + 1, 3, none⟩ = some (.int .i64 l.fe)) := H4l.out.cell 3
  have Rl4 : Hid (W5.cell? ⟨w.heap.size + 1 + 1 + 1 + 1 + 1, 4, none⟩ = some (.int .i64 l.pr)) := H4l.out.cell 4
  have Rl5 : Hid (W5.cell? ⟨w.heap.size + 1 + 1 + 1 + 1 + 1, 5, none⟩ = some (.int .i64 l.ch)) := H4l.out.cell 5
  have Rl6 : Hid (W5.cell? ⟨w.heap.size + 1 + 1 + 1 + 1 + 1, 6, none⟩ = some (.int .i64 l.un)) := H4l.out.cell 6
  go_wp2_with fail
  exact bodyPost_ret (v := .tuple #[.agg #[.int .i64 b.me, .int .i64 b.rv, .int .i64 b.nx, .int .i64 b.mo, .int .i64 b.bo, .int .i64 b.fr, .slice pr lr cr], .agg #[.int .i64 l.id, .int .i64 l.te, .int .i64 l.de, .int .i64 l.fe, .int .i64 l.pr, .int .i64 l.ch, .int .i64 l.un], .int .i64 fz]) (by simp [results, Try.results16, Rr0.out, Rr1.out, Rr2.out, Rr3.out, Rr4.out, Rr5.out, Rr6.out, Rl0.out, Rl1.out, Rl2.out, Rl3.out, Rl4.out, Rl5.out, Rl6.out, go_sem]) rfl ⟨b, l, pr, lr, cr, fz, rfl, HV.out, H4F.out.low (by omega), H4B.out⟩

end Go.Proofs.Ytlolippocnngcab.acc

/- account.Roll. -/
namespace Go.Proofs.Ytlolippocnngcab.acc
open Go.Proofs.Ytlolippocnngcab.tar (Du du0 Came RowD Ld PairT)
open Go.RowKit
set_option maxRecDepth 100000
set_option linter.unusedVariables false
set_option linter.unusedSimpArgs false

set_option maxHeartbeats 1000000 in
theorem proll1 (B g : Nat) (x : Ac) (p : Option Addr) (len cap : Nat) (m : Int) (w : World) (hB : Blk w B #[.int .i64 m] 3) (hw : Blk w g (wcs x bi0 p len cap) 81) (hd : deb.Fresh w (g + 1) p len cap x.ds) (ha : AMay x) : Calls Try.prog 34 #[.pointer (some ⟨g, 0, none⟩), .pointer (some ⟨B, 0, none⟩)] w fun e w' => WPost w g (Or0 (fun y _ f => RollIs x m y f)) e w' := by
  have HRL : Hid (Calls Try.prog 35 #[.pointer (some ⟨g, 0, none⟩), .int .i64 m] w fun e w' => DPost w g (RollR x m bi0) e w') := proll g x bi0 p len cap m w hw hd ha
  have hgl := hw.lt
  have qB : w.cell? ⟨B, 0, none⟩ = some (.int .i64 m) := hB.cell 0
  have HM : Hid (AMay x) := ha
  clear hB hw hd ha
  go_enter Try.func34, Try.ntmps34
  go_wp2_with fail
  refine HRL.out.mono ?_
  rintro e w1 ⟨y, b, q, n, c, f, rfl, ⟨hr, hb⟩, hi, hf, hc⟩
  have HX : Hid (WPost w g (Or0 (fun y _ f => RollIs x m y f)) (.returned (.int .i64 f)) w1) := by
    refine ⟨y, b, q, n, c, f, rfl, ?_, hi, hf, hc.bel (by omega)⟩
    rcases hr with ⟨h1, h2, _⟩ | ⟨h1, h2, h3⟩
    · exact .inl ⟨h2.ne, .inr (.inl ⟨HM.out, h1, h2, rfl⟩)⟩
    · exact .inr ⟨h3, .inr (.inr ⟨HM.out, h1, h2, rfl⟩)⟩
  clear hr hb hi hf hc HRL qB
  go_wp2_with fail
  go_ret
  exact HX.out
set_option maxHeartbeats 4000000 in
theorem kroll : KcRoll := by
  intro w x p len cap m ha hm
  unfold Ac.v Ac.cs
  have H0d : Hid (Blk (((w.alloc (.cells #[.int .i64 x.me, .int .i64 x.rv, .int .i64 x.nx, .int .i64 x.mo, .int .i64 x.bo, .int .i64 x.fr, .slice p len cap] 24)).alloc (.cells #[.int .i64 m] 3)).alloc (.cells #[.int .i64 0, .int .i64 0, .int .i64 0, .int .i64 0, .int .i64 0, .int .i64 0, .slice none 0 0] 24)) (w.heap.size) #[.int .i64 x.me, .int .i64 x.rv, .int .i64 x.nx, .int .i64 x.mo, .int .i64 x.bo, .int .i64 x.fr, .slice p len cap] 24) := ((Blk.new w _ _).alloc _).alloc _
  have H0m : Hid (Blk (((w.alloc (.cells #[.int .i64 x.me, .int .i64 x.rv, .int .i64 x.nx, .int .i64 x.mo, .int .i64 x.bo, .int .i64 x.fr, .slice p len cap] 24)).alloc (.cells #[.int .i64 m] 3)).alloc (.cells #[.int .i64 0, .int .i64 0, .int .i64 0, .int .i64 0, .int .i64 0, .int .i64 0, .slice none 0 0] 24)) (w.heap.size + 1) #[.int .i64 m] 3) := (Blk.new1 w _ _ _).alloc _
  have H0r : Hid (Blk (((w.alloc (.cells #[.int .i64 x.me, .int .i64 x.rv, .int .i64 x.nx, .int .i64 x.mo, .int .i64 x.bo, .int .i64 x.fr, .slice p len cap] 24)).alloc (.cells #[.int .i64 m] 3)).alloc (.cells #[.int .i64 0, .int .i64 0, .int .i64 0, .int .i64 0, .int .i64 0, .int .i64 0, .slice none 0 0] 24)) (w.heap.size + 1 + 1) #[.int .i64 0, .int .i64 0, .int .i64 0, .int .i64 0, .int .i64 0, .int .i64 0, .slice none 0 0] 24) := Blk.new2 w _ _ _ _
  have H0B : Hid (Below w.heap.size w (((w.alloc (.cells #[.int .i64 x.me, .int .i64 x.rv, .int .i64 x.nx, .int .i64 x.mo, .int .i64 x.bo, .int .i64 x.fr, .slice p len cap] 24)).alloc (.cells #[.int .i64 m] 3)).alloc (.cells #[.int .i64 0, .int .i64 0, .int .i64 0, .int .i64 0, .int .i64 0, .int .i64 0, .slice none 0 0] 24))) := (((Below.refl w.heap.size w).alloc (by simp) _).alloc (by simp) _).alloc (by simp; omega) _
  have H0R : Hid (Came (((w.alloc (.cells #[.int .i64 x.me, .int .i64 x.rv, .int .i64 x.nx, .int .i64 x.mo, .int .i64 x.bo, .int .i64 x.fr, .slice p len cap] 24)).alloc (.cells #[.int .i64 m] 3)).alloc (.cells #[.int .i64 0, .int .i64 0, .int .i64 0, .int .i64 0, .int .i64 0, .int .i64 0, .slice none 0 0] 24)) p len cap x.ds) := ha.ds.below H0B.out
  have hs0 : w.heap.size + 1 + 1 < (((w.alloc (.cells #[.int .i64 x.me, .int .i64 x.rv, .int .i64 x.nx, .int .i64 x.mo, .int .i64 x.bo, .int .i64 x.fr, .slice p len cap] 24)).alloc (.cells #[.int .i64 m] 3)).alloc (.cells #[.int .i64 0, .int .i64 0, .int .i64 0, .int .i64 0, .int .i64 0, .int .i64 0, .slice none 0 0] 24)).heap.size := H0r.out.lt
  generalize hWW : (((w.alloc (.cells #[.int .i64 x.me, .int .i64 x.rv, .int .i64 x.nx, .int .i64 x.mo, .int .i64 x.bo, .int .i64 x.fr, .slice p len cap] 24)).alloc (.cells #[.int .i64 m] 3)).alloc (.cells #[.int .i64 0, .int .i64 0, .int .i64 0, .int .i64 0, .int .i64 0, .int .i64 0, .slice none 0 0] 24)) = W0 at *
  have HWW : Hid ((((w.alloc (.cells #[.int .i64 x.me, .int .i64 x.rv, .int .i64 x.nx, .int .i64 x.mo, .int .i64 x.bo, .int .i64 x.fr, .slice p len cap] 24)).alloc (.cells #[.int .i64 m] 3)).alloc (.cells #[.int .i64 0, .int .i64 0, .int .i64 0, .int .i64 0, .int .i64 0, .int .i64 0, .slice none 0 0] 24)) = W0) := hWW
  clear hWW
  go_enter Try.func17, Try.ntmps17
  go_upto_region 1 with fail
  rw [HWW.out]
  clear HWW
  have HXm : Hid (∀ W, Below W0.heap.size W0 W → Blk W (w.heap.size + 1) #[.int .i64 m] 3) := fun W hW => H0m.out.next hW
  have HWK : Hid (Calls Try.prog 25 #[.agg #[.int .i64 x.me, .int .i64 x.rv, .int .i64 x.nx, .int .i64 x.mo, .int .i64 x.bo, .int .i64 x.fr, .slice p len cap], .func (.func 34) #[] #[.pointer (some ⟨w.heap.size + 1, 0, none⟩)]] W0 fun e w' => BPost W0 (fun y _ f => RollIs x m y f) e w') := by
    refine pwork 34 #[.pointer (some ⟨w.heap.size + 1, 0, none⟩)] (fun y _ f => RollIs x m y f) x p len cap W0 H0R.out (fun h => .inl ⟨h, rfl, rfl⟩) (fun _ _ => by kernel_rfl) ?_
    intro hm W g p' cap' hB hg hblk hld
    have HFR : deb.Fresh W (g + 1) p' len cap' x.ds := by
      obtain ⟨a0, c0, hv, hfr⟩ := deb.ld_fresh hld hm.1
      injection hv with h1 h2 h3
      rw [h1, h2, h3]; exact hfr
    exact proll1 _ g x p' len cap' m W (HXm.out W hB) hblk HFR hm
  clear ha HXm
  go_wp2_with (first
    | (refine wp_whole rfl 24 _ rfl (w.heap.size) rfl 24 #[.int .i64 x.me, .int .i64 x.rv, .int .i64 x.nx, .int .i64 x.mo, .int .i64 x.bo, .int .i64 x.fr, .slice p len cap] _ H0d.out Try.underlying24 rfl (by kernel_rfl) ?_)
    | (refine wp_whole rfl 3 _ rfl (w.heap.size + 1) rfl 3 #[.int .i64 m] _ H0m.out Try.underlying3 rfl (by kernel_rfl) ?_)
    | (refine wp_whole rfl 24 _ rfl (w.heap.size + 1 + 1) rfl 24 #[.int .i64 0, .int .i64 0, .int .i64 0, .int .i64 0, .int .i64 0, .int .i64 0, .slice none 0 0] _ H0r.out Try.underlying24 rfl (by kernel_rfl) ?_)
    | fail)
  refine HWK.out.mono ?_
  rintro e w1 ⟨b, l, pr, lr, cr, fz, rfl, hi, hf, hb1⟩
  have H1d : Hid (Blk w1 (w.heap.size) #[.int .i64 x.me, .int .i64 x.rv, .int .i64 x.nx, .int .i64 x.mo, .int .i64 x.bo, .int .i64 x.fr, .slice p len cap] 24) := H0d.out.next hb1
  have H1m : Hid (Blk w1 (w.heap.size + 1) #[.int .i64 m] 3) := H0m.out.next hb1
  have H1r : Hid (Blk w1 (w.heap.size + 1 + 1) #[.int .i64 0, .int .i64 0, .int .i64 0, .int .i64 0, .int .i64 0, .int .i64 0, .slice none 0 0] 24) := H0r.out.next hb1
  have H1R : Hid (Came w1 p len cap x.ds) := H0R.out.below hb1
  have H1B : Hid (Below w.heap.size w w1) := H0B.out.trans (hb1.mono H0B.out.size)
  have hsw1 : W0.heap.size ≤ w1.heap.size := hb1.size
  clear hb1 H0d H0m H0r H0R H0B
  unfold Ac.v Ac.cs Bi.v
  clear HWK
  have H2F : Hid (deb.Fresh w1 W0.heap.size pr lr cr b.ds) := hf
  have HUPF : Hid (0 < lr → ∀ y, pr = some y → y.block < w1.heap.size) := came_lt H2F.out.came
  have HV : Hid (RollIs x m b fz) := hi
  clear hf hi
  have H3d : Hid (Blk ((w1.alloc (.cells #[.int .i64 b.me, .int .i64 b.rv, .int .i64 b.nx, .int .i64 b.mo, .int .i64 b.bo, .int .i64 b.fr, .slice pr lr cr] 24)).alloc (.cells #[.int .i64 l.id, .int .i64 l.te, .int .i64 l.de, .int .i64 l.fe, .int .i64 l.pr, .int .i64 l.ch, .int .i64 l.un] 27)) (w.heap.size) #[.int .i64 x.me, .int .i64 x.rv, .int .i64 x.nx, .int .i64 x.mo, .int .i64 x.bo, .int .i64 x.fr, .slice p len cap] 24) := (H1d.out.alloc _).alloc _
  have H3m : Hid (Blk ((w1.alloc (.cells #[.int .i64 b.me, .int .i64 b.rv, .int .i64 b.nx, .int .i64 b.mo, .int .i64 b.bo, .int .i64 b.fr, .slice pr lr cr] 24)).alloc (.cells #[.int .i64 l.id, .int .i64 l.te, .int .i64 l.de, .int .i64 l.fe, .int .i64 l.pr, .int .i64 l.ch, .int .i64 l.un] 27)) (w.heap.size + 1) #[.int .i64 m] 3) := (H1m.out.alloc _).alloc _
  have H3r : Hid (Blk ((w1.alloc (.cells #[.int .i64 b.me, .int .i64 b.rv, .int .i64 b.nx, .int .i64 b.mo, .int .i64 b.bo, .int .i64 b.fr, .slice pr lr cr] 24)).alloc (.cells #[.int .i64 l.id, .int .i64 l.te, .int .i64 l.de, .int .i64 l.fe, .int .i64 l.pr, .int .i64 l.ch, .int .i64 l.un] 27)) (w.heap.size + 1 + 1) #[.int .i64 0, .int .i64 0, .int .i64 0, .int .i64 0, .int .i64 0, .int .i64 0, .slice none 0 0] 24) := (H1r.out.alloc _).alloc _
  have H3F : Hid (deb.Fresh ((w1.alloc (.cells #[.int .i64 b.me, .int .i64 b.rv, .int .i64 b.nx, .int .i64 b.mo, .int .i64 b.bo, .int .i64 b.fr, .slice pr lr cr] 24)).alloc (.cells #[.int .i64 l.id, .int .i64 l.te, .int .i64 l.de, .int .i64 l.fe, .int .i64 l.pr, .int .i64 l.ch, .int .i64 l.un] 27)) W0.heap.size pr lr cr b.ds) := H2F.out.below (((Below.refl w1.heap.size w1).alloc (by simp) _).alloc (by simp) _)
  have H3n : Hid (Blk ((w1.alloc (.cells #[.int .i64 b.me, .int .i64 b.rv, .int .i64 b.nx, .int .i64 b.mo, .int .i64 b.bo, .int .i64 b.fr, .slice pr lr cr] 24)).alloc (.cells #[.int .i64 l.id, .int .i64 l.te, .int .i64 l.de, .int .i64 l.fe, .int .i64 l.pr, .int .i64 l.ch, .int .i64 l.un] 27)) w1.heap.size #[.int .i64 b.me, .int .i64 b.rv, .int .i64 b.nx, .int .i64 b.mo, .int .i64 b.bo, .int .i64 b.fr, .slice pr lr cr] 24) := (Blk.new w1 _ _).alloc _
  have H3c : Hid (Blk ((w1.alloc (.cells #[.int .i64 b.me, .int .i64 b.rv, .int .i64 b.nx, .int .i64 b.mo, .int .i64 b.bo, .int .i64 b.fr, .slice pr lr cr] 24)).alloc (.cells #[.int .i64 l.id, .int .i64 l.te, .int .i64 l.de, .int .i64 l.fe, .int .i64 l.pr, .int .i64 l.ch, .int .i64 l.un] 27)) (w1.heap.size + 1) #[.int .i64 l.id, .int .i64 l.te, .int .i64 l.de, .int .i64 l.fe, .int .i64 l.pr, .int .i64 l.ch, .int .i64 l.un] 27) := Blk.new1 w1 _ _ _
  have H3B : Hid (Below w.heap.size w ((w1.alloc (.cells #[.int .i64 b.me, .int .i64 b.rv, .int .i64 b.nx, .int .i64 b.mo, .int .i64 b.bo, .int .i64 b.fr, .slice pr lr cr] 24)).alloc (.cells #[.int .i64 l.id, .int .i64 l.te, .int .i64 l.de, .int .i64 l.fe, .int .i64 l.pr, .int .i64 l.ch, .int .i64 l.un] 27))) := (H1B.out.alloc H1B.out.size _).alloc (Nat.le_trans H1B.out.size (by simp)) _
  have hsW4 : w1.heap.size + 1 < ((w1.alloc (.cells #[.int .i64 b.me, .int .i64 b.rv, .int .i64 b.nx, .int .i64 b.mo, .int .i64 b.bo, .int .i64 b.fr, .slice pr lr cr] 24)).alloc (.cells #[.int .i64 l.id, .int .i64 l.te, .int .i64 l.de, .int .i64 l.fe, .int .i64 l.pr, .int .i64 l.ch, .int .i64 l.un] 27)).heap.size := (Blk.new1 w1 _ #[.int .i64 l.id, .int .i64 l.te, .int .i64 l.de, .int .i64 l.fe, .int .i64 l.pr, .int .i64 l.ch, .int .i64 l.un] 27).lt
  clear H1d H1m H1r H2F H1B
  go_upto_region 2 with fail
  generalize ((w1.alloc (.cells #[.int .i64 b.me, .int .i64 b.rv, .int .i64 b.nx, .int .i64 b.mo, .int .i64 b.bo, .int .i64 b.fr, .slice pr lr cr] 24)).alloc (.cells #[.int .i64 l.id, .int .i64 l.te, .int .i64 l.de, .int .i64 l.fe, .int .i64 l.pr, .int .i64 l.ch, .int .i64 l.un] 27)) = W4 at *
  go_wp2_with (first
    | (refine wp_letAll rfl 24 _ _ rfl (w.heap.size + 1 + 1) rfl #[.int .i64 b.me, .int .i64 b.rv, .int .i64 b.nx, .int .i64 b.mo, .int .i64 b.bo, .int .i64 b.fr, .slice pr lr cr] rfl (by kernel_rfl) (by simp [Value.oneCell']) #[.int .i64 0, .int .i64 0, .int .i64 0, .int .i64 0, .int .i64 0, .int .i64 0, .slice none 0 0] 24 H3r.out rfl ?_)
    | (refine wp_whole rfl 24 _ rfl (w.heap.size) rfl 24 #[.int .i64 x.me, .int .i64 x.rv, .int .i64 x.nx, .int .i64 x.mo, .int .i64 x.bo, .int .i64 x.fr, .slice p len cap] _ H3d.out Try.underlying24 rfl (by kernel_rfl) ?_)
    | (refine wp_whole rfl 3 _ rfl (w.heap.size + 1) rfl 3 #[.int .i64 m] _ H3m.out Try.underlying3 rfl (by kernel_rfl) ?_)
    | (refine wp_whole rfl 24 _ rfl (w.heap.size + 1 + 1) rfl 24 #[.int .i64 0, .int .i64 0, .int .i64 0, .int .i64 0, .int .i64 0, .int .i64 0, .slice none 0 0] _ H3r.out Try.underlying24 rfl (by kernel_rfl) ?_)
    | (refine wp_whole rfl 24 _ rfl (w1.heap.size) rfl 24 #[.int .i64 b.me, .int .i64 b.rv, .int .i64 b.nx, .int .i64 b.mo, .int .i64 b.bo, .int .i64 b.fr, .slice pr lr cr] _ H3n.out Try.underlying24 rfl (by kernel_rfl) ?_)
    | (refine wp_whole rfl 27 _ rfl (w1.heap.size + 1) rfl 27 #[.int .i64 l.id, .int .i64 l.te, .int .i64 l.de, .int .i64 l.fe, .int .i64 l.pr, .int .i64 l.ch, .int .i64 l.un] _ H3c.out Try.underlying27 rfl (by kernel_rfl) ?_)
    | fail)
  intro W5 hU
  have H4d : Hid (Blk W5 (w.heap.size) #[.int .i64 x.me, .int .i64 x.rv, .int .i64 x.nx, .int .i64 x.mo, .int .i64 x.bo, .int .i64 x.fr, .slice p len cap] 24) := hU.keep H3d.out (by omega)
  have H4m : Hid (Blk W5 (w.heap.size + 1) #[.int .i64 m] 3) := hU.keep H3m.out (by omega)
  have H4r : Hid (Blk W5 (w.heap.size + 1 + 1) #[.int .i64 b.me, .int .i64 b.rv, .int .i64 b.nx, .int .i64 b.mo, .int .i64 b.bo, .int .i64 b.fr, .slice pr lr cr] 24) := hU.blk
  have H4n : Hid (Blk W5 (w1.heap.size) #[.int .i64 b.me, .int .i64 b.rv, .int .i64 b.nx, .int .i64 b.mo, .int .i64 b.bo, .int .i64 b.fr, .slice pr lr cr] 24) := hU.keep H3n.out (by omega)
  have H4c : Hid (Blk W5 (w1.heap.size + 1) #[.int .i64 l.id, .int .i64 l.te, .int .i64 l.de, .int .i64 l.fe, .int .i64 l.pr, .int .i64 l.ch, .int .i64 l.un] 27) := hU.keep H3c.out (by omega)
  have H4F : Hid (deb.Fresh W5 W0.heap.size pr lr cr b.ds) := fresh_updN H3F.out hU (fun hn y hy => by have f1 := H3F.out.new hn y hy; have f2 := HUPF.out hn y hy; omega)
  have H4B : Hid (Below w.heap.size w W5) := hU.bel _ _ (by omega) H3B.out
  have hsW5 : W5.heap.size = W4.heap.size := hU.size
  clear hU H3d H3m H3r H3n H3c H3F H3B
  have Rr0 : Hid (W5.cell? ⟨w.heap.size + 1 + 1, 0, none⟩ = some (.int .i64 b.me)) := H4r.out.cell 0
  have Rr1 : Hid (W5.cell? ⟨w.heap.size + 1 + 1, 1, none⟩ = some (.int .i64 b.rv)) := H4r.out.cell 1
  have Rr2 : Hid (W5.cell? ⟨w.heap.size + 1 + 1, 2, none⟩ = some (.int .i64 b.nx)) := H4r.out.cell 2
  have Rr3 : Hid (W5.cell? ⟨w.heap.size + 1 + 1, 3, none⟩ = some (.int .i64 b.mo)) := H4r.out.cell 3
  have Rr4 : Hid (W5.cell? ⟨w.heap.size + 1 + 1, 4, none⟩ = some (.int .i64 b.bo)) := H4r.out.cell 4
  have Rr5 : Hid (W5.cell? ⟨w.heap.size + 1 + 1, 5, none⟩ = some (.int .i64 b.fr)) := H4r.out.cell 5
  have Rr6 : Hid (W5.cell? ⟨w.heap.size + 1 + 1, 6, none⟩ = some (.slice pr lr cr)) := H4r.out.cell 6
  go_wp2_with fail
  exact bodyPost_ret (v := .tuple #[.agg #[.int .i64 b.me, .int .i64 b.rv, .int .i64 b.nx, .int .i64 b.mo, .int .i64 b.bo, .int .i64 b.fr, .slice pr lr cr], .int .i64 fz]) (by simp [results, Try.results17, Rr0.out, Rr1.out, Rr2.out, Rr3.out, Rr4.out, Rr5.out, Rr6.out, go_sem]) rfl ⟨b, pr, lr, cr, fz, rfl, HV.out, H4F.out.low (by omega), H4B.out⟩

end Go.Proofs.Ytlolippocnngcab.acc

/- May so many units be asked for, in the program. -/
namespace Go.Proofs.Ytlolippocnngcab.tar
open Go.RowKit
set_option maxRecDepth 100000
set_option linter.unusedVariables false
set_option linter.unusedSimpArgs false

set_option maxHeartbeats 2000000 in
theorem pmay (a : Option Addr) (len cap : Nat) (ls : List Du) (x n : Int) (w : World) (hr : Came w a len cap ls) : Calls Try.prog 38 #[.slice a len cap, .int .i64 x, .int .i64 n] w fun e w' => ErrPost w (MayIs ls x n) e w' := by
  have HIX : Hid (∀ W, Calls Try.prog 54 #[.int .i64 0, .int .i64 10000000, .int .i64 x] W fun e w' => e = .returned (.bool (decide (0 ≤ x ∧ x ≤ 10000000))) ∧ w' = W) := fun W => pwithin 0 10000000 x W
  have HIN : Hid (∀ W, Calls Try.prog 54 #[.int .i64 0, .int .i64 2097151, .int .i64 n] W fun e w' => e = .returned (.bool (decide (0 ≤ n ∧ n ≤ 2097151))) ∧ w' = W) := fun W => pwithin 0 2097151 n W
  have HFA : Hid (Calls Try.prog 53 #[.slice a len cap] w fun e w' => ErrPost w (FaultIs ls) e w') := kcheck w a len cap ls hr
  clear hr
  go_enter Try.func38, Try.ntmps38
  go_wp2_with fail
  refine HFA.out.mono ?_
  rintro e w1 ⟨f, rfl, hf, hb⟩
  have HB : Hid (Below w.heap.size w w1) := hb
  have HF : Hid (FaultIs ls f) := hf
  clear hb HFA
  by_cases h0 : f = 0
  · subst h0
    have HR : Hid (Right ls) := hf.ok.1 rfl
    clear hf
    by_cases hx : 0 ≤ x ∧ x ≤ 10000000
    · rw [decide_eq_true hx] at HIX
      obtain ⟨hx0, hx1⟩ := hx
      by_cases hn : 0 ≤ n ∧ n ≤ 2097151
      · rw [decide_eq_true hn] at HIN
        obtain ⟨hn0, hn1⟩ := hn
        by_cases hs : x + n ≤ 10000000
        · have HV : Hid (MayIs ls x n 0) := .inr (.inr ⟨HR.out, ⟨⟨hx0, hx1⟩, ⟨hn0, hn1⟩, hs⟩, rfl⟩)
          have hd : decide (10000000 < x + n) = false := decide_eq_false (by omega)
          go_wp2_with fail
          refine (HIX.out _).mono ?_
          rintro e w2 ⟨rfl, hw2⟩
          subst hw2
          go_wp2_with fail
          refine (HIN.out _).mono ?_
          rintro e w2 ⟨rfl, hw2⟩
          subst hw2
          go_wp2_with fail
          go_ret
          exact ⟨_, rfl, HV.out, HB.out⟩
        · have HV : Hid (MayIs ls x n 2) := .inr (.inl ⟨HR.out, fun h => hs h.2.2, rfl⟩)
          have hd : decide (10000000 < x + n) = true := decide_eq_true (by omega)
          clear hs
          go_wp2_with fail
          refine (HIX.out _).mono ?_
          rintro e w2 ⟨rfl, hw2⟩
          subst hw2
          go_wp2_with fail
          refine (HIN.out _).mono ?_
          rintro e w2 ⟨rfl, hw2⟩
          subst hw2
          go_wp2_with fail
          go_ret
          exact ⟨_, rfl, HV.out, HB.out⟩
      · rw [decide_eq_false hn] at HIN
        have HV : Hid (MayIs ls x n 2) := .inr (.inl ⟨HR.out, fun h => hn h.2.1, rfl⟩)
        clear hn
        go_wp2_with fail
        refine (HIX.out _).mono ?_
        rintro e w2 ⟨rfl, hw2⟩
        subst hw2
        go_wp2_with fail
        refine (HIN.out _).mono ?_
        rintro e w2 ⟨rfl, hw2⟩
        subst hw2
        go_wp2_with fail
        all_goals first
          | (rename_i q1 q2; exact absurd q1 (by simp [undef]))
          | (go_ret; exact ⟨_, rfl, HV.out, HB.out⟩)
    · rw [decide_eq_false hx] at HIX
      have HV : Hid (MayIs ls x n 2) := .inr (.inl ⟨HR.out, fun h => hx h.1, rfl⟩)
      clear hx
      go_wp2_with fail
      refine (HIX.out _).mono ?_
      rintro e w2 ⟨rfl, hw2⟩
      subst hw2
      go_wp2_with fail
      all_goals first
        | (rename_i q1 q2; exact absurd q1 (by simp [undef]))
        | (go_ret; exact ⟨_, rfl, HV.out, HB.out⟩)
  · have hne : (f != 0) = true := by simpa using h0
    have HV : Hid (MayIs ls x n f) := .inl ⟨fun h => h0 (hf.ok.2 h), hf⟩
    clear hf h0
    go_wp2_with fail
    go_ret
    exact ⟨_, rfl, HV.out, HB.out⟩

end Go.Proofs.Ytlolippocnngcab.tar

/- What units cost, in the program. -/
namespace Go.Proofs.Ytlolippocnngcab.tar
open Go.RowKit Go.Shelf
set_option maxRecDepth 100000
set_option linter.unusedVariables false
set_option linter.unusedSimpArgs false
attribute [local go_sem] Oper.semAt_some

theorem sumC_bd (l : List Tr) (h : ∀ t ∈ l, LineOk t) : 0 ≤ sumC l ∧ sumC l ≤ (l.length : Int) * 1000000000000 := by
  induction l with
  | nil => exact ⟨Int.le_refl _, Int.le_refl _⟩
  | cons t l ih =>
    have h1 := ih fun x hx => h x (List.mem_cons_of_mem _ hx)
    obtain ⟨a1, a2, a3, a4, a5⟩ := h t List.mem_cons_self
    have h2 := prod_bd (show 0 ≤ t.a by omega) a2 a3 a4
    rw [← a5] at h2
    have e : ((t :: l).length : Int) = (l.length : Int) + 1 := by simp
    rw [e, Int.add_mul]
    exact ⟨by show 0 ≤ t.c + sumC l; omega, by show t.c + sumC l ≤ _; omega⟩

set_option maxHeartbeats 4000000 in
theorem pprice_in (F : Fence) (m : Nat) (hm : 6 ≤ m) (hF : F.fn 20) (hFl : F.fn 39) (hF1 : F.fn 55) (hFu : F.fn 38) (hro : F.round = none) (w : World) (a : Option Addr) (len cap : Nat) (ls : List Du) (x n : Int) (hc : Came w a len cap ls)
    (HMY : Hid (CallsIn F (m - 1) Try.prog 38 #[.slice a len cap, .int .i64 x, .int .i64 n] w fun e w' => ErrPost w (MayIs ls x n) e w')) :
    CallsIn F m Try.prog 20 #[.slice a len cap, .int .i64 x, .int .i64 n] w fun e w' => TwoPost w (PriceIs ls x n) e w' := by
  have h1 : 1 ≤ m := by omega
  have HRW := hc.row
  have HLEN : Hid (ls.length = len) := hc.row.1
  clear hc
  refine callsIn_of_wp_marks Try.func20 rfl hF ?_ hro
  simp only [Try.ntmps20, List.size_toArray, List.length_cons, List.length_nil, Nat.reduceAdd, Nat.reduceSub, Array.replicate_succ, Array.replicate_zero, List.push_toArray, List.append_toArray, List.nil_append, List.cons_append]
  gi_wp2_with fail
  refine HMY.out.mono ?_
  rintro e w1 ⟨f, rfl, hf, hb⟩
  have HB : Hid (Below w.heap.size w w1) := hb
  have HF : Hid (MayIs ls x n f) := hf
  clear HMY
  by_cases h0 : f = 0
  · subst h0
    obtain ⟨hR, ⟨⟨hx0, hx1⟩, ⟨hn0, hn1⟩, hxn⟩⟩ := hf.ok.1 rfl
    have hpos : 0 < len := by have := hR.1.1; have := HLEN.out; omega
    obtain ⟨b, off, rfl, hbl, hcl⟩ := HRW.at hpos
    have HC : Hid (∀ i, i < len → w.cell? ⟨b, off + i * 2, none⟩ = some (.int .i64 (ls.getD i du0).a) ∧ w.cell? ⟨b, off + i * 2 + 1, none⟩ = some (.int .i64 (ls.getD i du0).b)) := hcl
    have HR : Hid (Right ls) := hR
    have hl8 : len ≤ 8 := by have := hR.1.2; have := HLEN.out; omega
    clear hf hb hcl HRW hR
    gi_wp2_with (gi_at_call 39; refine (lines_in F (m - 1) hFl hro _ _ _ _ _ _).mono ?_; rintro e w' ⟨rfl, rfl⟩)
    have HSZ : Hid (w.heap.size ≤ w1.heap.size) := HB.out.size
    have bP := Boxed.new w1 3 (.int .i64 0)
    have hL := lnd_of (w := w) (w1 := w1.alloc (.cells #[.int .i64 0] 3)) w.heap.size (w1.heap.size + 1) b off len cap HR.out HLEN.out ⟨hx0, hx1⟩ ⟨hn0, hxn⟩ (by simp) hbl (by simp; have := HSZ.out; omega) (HB.out.alloc HSZ.out _) HC.out
    have bP2 := boxes_boxed bP (.slice (some ⟨b, off, none⟩) len cap) x n
    have hB2 : Below w1.heap.size w1 (boxes (w1.alloc (.cells #[.int .i64 0] 3)) (.slice (some ⟨b, off, none⟩) len cap) x n) := boxes_bel ((Below.refl _ w1).alloc (Nat.le_refl _) _) (by simp) _ _ _
    have hsz := boxes_size (w1.alloc (.cells #[.int .i64 0] 3)) (.slice (some ⟨b, off, none⟩) len cap) x n
    rw [World.size_alloc] at hsz
    generalize boxes (w1.alloc (.cells #[.int .i64 0] 3)) (.slice (some ⟨b, off, none⟩) len cap) x n = W0 at *
    generalize hP0 : w1.heap.size = P0 at *
    have HNW : Hid (w.heap.size ≤ P0) := HSZ.out
    clear bP
    refine wpIn_rangeFunc_ownH hro h1 (gf := 55) (lb := #[.pointer (some ⟨P0 + 1 + 1, 0, none⟩), .pointer (some ⟨P0 + 1, 0, none⟩), .pointer (some ⟨P0 + 1 + 1 + 1, 0, none⟩)]) rfl hF1 (enters_of Try.func55 (by kernel_rfl) rfl)
      (lines_stops F (m - 1) hF1 hro (by omega) w.heap.size (P0 + 1) b off len cap ls x n W0 hL) Kq.trans (kq_b hL.hn (by omega)) (Below.refl _ _) (fun _ => rfl)
      (fun pre W => Boxed W P0 3 (.int .i64 (sumC (lns pre))) ∧ Below P0 w1 W ∧ W0.heap.size ≤ W.heap.size)
      (fun _ _ _ => False)
      (OwnFrom.and (Own.from (boxed_own _ _ _) _) (OwnFrom.and (ownFrom_below (by omega) (by omega)) (fun _ _ _ _ hs hg _ => Nat.le_trans hs hg.size)))
      (fun _ _ _ _ _ hs _ _ => hs)
      ⟨bP2, hB2, Nat.le_refl _⟩
      (fun t a' W => ∃ Bx, P0 + 4 ≤ Bx ∧ Blk W Bx #[.int .i64 t.1.a, .int .i64 t.1.b, .int .i64 t.1.c] 77 ∧ a' = { tmps := #[.slice (some ⟨b, off, none⟩) len cap, .int .i64 x, .int .i64 n, undef, undef, undef, .int .i64 0, .int .i64 0, .int .i64 0, .pointer (some ⟨P0, 0, none⟩), .pointer (some ⟨Bx, 0, none⟩), .slice (some ⟨b, off, none⟩) len cap, .int .i64 x, .int .i64 n, .int .i64 0, .int .i64 0, .bool false, undef, .slice (some ⟨b, off, none⟩) len cap, .int .i64 x, .int .i64 n, .func (.func 55) #[] #[.pointer (some ⟨P0 + 1 + 1, 0, none⟩), .pointer (some ⟨P0 + 1, 0, none⟩), .pointer (some ⟨P0 + 1 + 1 + 1, 0, none⟩)], .agg #[.int .i64 t.1.a, .int .i64 t.1.b, .int .i64 t.1.c], undef, undef, undef, undef, undef], defers := [] })
      (fun t a' _ X Y row hs hg hr => by obtain ⟨Bx, h1, h2, h3⟩ := hs; exact ⟨Bx, h1, blk_own Bx 77 (fun (_ : Unit) => #[.int .i64 t.1.a, .int .i64 t.1.b, .int .i64 t.1.c]) () X Y row h2 hg (fun r e => (hr r e).2), h3⟩)
      ?assign ?body ?done ?stop
    case assign =>
      rintro l pre t W K ⟨bS, hBS, hSW⟩ hK
      simp only [encL]
      gi_wp2
      exact hK _ _ ((KeepsOthers.alloc _ _).from _) ((Kq.refl _ _ _ W).alloc _ (by have := HNW.out; omega) (by omega)) ⟨bS.alloc _, hBS.alloc (by omega) _, by simp; omega⟩ ⟨W.heap.size, by omega, Blk.new W _ _, rfl⟩
    case body =>
      rintro l pre t a' W hl ⟨r, hr⟩ ⟨bS, hBS, hSW⟩ ⟨Bx, hBx, bX, rfl⟩ hlt
      have h2 := sumC_bd (lns pre) (lns_ok pre)
      have h3 := lns_len pre
      have h4 := prod_bd (show 0 ≤ t.1.a by have := t.2.1; omega) t.2.2.1 t.2.2.2.1 t.2.2.2.2.1
      have h5 := t.2.2.2.2.2
      have HN : Hid (sumC (lns (pre ++ [t])) = sumC (lns pre) + t.1.c) := by show _ = _; rw [lns_app, sumC_app]; show sumC (lns pre) + (t.1.c + 0) = _; omega
      have cS := bS.cell
      have fS := bS.frozen
      have cX : W.cell? ⟨Bx, 2, none⟩ = some (.int .i64 t.1.c) := bX.cell 2
      have hc0 : 0 ≤ t.1.c := by omega
      have hc1 : t.1.c ≤ 1000000000000 := by omega
      have hs0 : 0 ≤ sumC (lns pre) := h2.1
      have hs1 : sumC (lns pre) ≤ 8000000000000 := by omega
      clear h2 h3 h4 h5
      generalize t.1.a = ta at *
      generalize t.1.b = tb at *
      generalize t.1.c = tc at *
      generalize sumC (lns pre) = s at *
      gi_wp2
      exact ⟨(KeepsOthers.setCell _ _ _).from _, (Kq.refl _ _ _ W).set P0 0 _ HNW.out (.inl (by omega)), by rw [HN.out]; exact bS.set _, hBS.setCell (p := ⟨P0, 0, none⟩) (Nat.le_refl _) _, by simp [World.setCell]; omega⟩
    case done =>
      rintro D ys W hD hys ⟨bS, hBS, hSW⟩ hK
      have cS := bS.cell
      have HBZ : Hid (Below w.heap.size w (W.putObj D (.deferred none))) := (HB.out.trans (hBS.mono HNW.out)).trans (belowK_b (w := w) (Nat.le_refl _) W D _ _ (by have := HNW.out; omega) hK rfl rfl)
      have HV : Hid (sumC (lns ys) = cost ls x (x + n)) := by
        show _ = _
        rw [hys, (bill_sums ls x (x + n) len).2]; unfold cost; rw [HLEN.out]
      clear hys hBS bS
      generalize sumC (lns ys) = s at *
      gi_wp2
      refine ⟨by simp, .inl ⟨_, _, rfl, run_takeDeferred hK, ?_⟩⟩
      exact ⟨_, results_tmp2 rfl _ _ _, s, 0, rfl, ⟨HF.out, .inl ⟨rfl, HV.out⟩⟩, HBZ.out⟩
    case stop =>
      rintro D c pre W _ _ h _
      exact h.elim
  · have hne : (f != 0) = true := by simpa using h0
    have HN : Hid (f ≠ 0) := h0
    clear hf h0 hb HRW
    gi_wp2_with fail
    exact ⟨_, results_tmp2 rfl _ _ _, 0, f, rfl, ⟨HF.out, .inr ⟨HN.out, rfl⟩⟩, HB.out⟩

theorem kprice : KtPrice := fun w a len cap ls x n hc _ _ => (callsIn_wide (n := 6)).1 (pprice_in Fence.wide 6 (by omega) trivial trivial trivial trivial rfl w a len cap ls x n hc (callsIn_wide.2 (pmay a len cap ls x n w hc)))

end Go.Proofs.Ytlolippocnngcab.tar

/- Raw numbers of an account that came in. -/
namespace Go.Proofs.Ytlolippocnngcab.acc
open Go.ChangeShapes Go.WideShapes Go.ChangeAt Go.RowKit Go.Deep
set_option maxRecDepth 100000
set_option linter.unusedVariables false

theorem open_going {H : Type} {enc : TypeId × Value → H} {W : World} {r : Reach} {b0 b1 : Nat} {held : Bool} {v : Value} {d : DataW H} {ps : List MemPlace}
    (hval : Value.okWide Try.prog W r b0 35 v) (h : DataW.Trod enc Try.prog W b1 (fun _ => true) held 35 v d ps) (hs : ∀ n ∈ d.weights Try.prog 35, n ≤ reachBytes) :
    ∃ (x : Ac) (p : Option Addr) (len cap : Nat), v = x.v p len cap ∧ ACame W x p len cap := by
  have hu := Try.underlying35
  have hc : Try.prog.cellsOf 35 = 7 := by kernel_rfl
  have ci : Try.prog.cellsOf 3 = 1 := by kernel_rfl
  have csl : Try.prog.cellsOf 33 = 1 := by kernel_rfl
  obtain ⟨cs, rfl, hsz⟩ := okWide_struct hu hval
  rw [hc] at hsz
  obtain ⟨c0, c1, c2, c3, c4, c5, c6, rfl⟩ : ∃ c0 c1 c2 c3 c4 c5 c6, cs = #[c0, c1, c2, c3, c4, c5, c6] := by
    cases cs with
    | mk l => match l, hsz with
      | [c0, c1, c2, c3, c4, c5, c6], _ => exact ⟨c0, c1, c2, c3, c4, c5, c6, rfl⟩
  obtain ⟨fuel, hf⟩ := h
  obtain ⟨xs, n, hx, hd, _, hlen, hg⟩ := DataW.trod_struct hu hf
  match xs, hlen with
  | [y0, y1, y2, y3, y4, y5, y6], _ =>
    have g0 := hg 0 _ rfl
    have g1 := hg 1 _ rfl
    have g2 := hg 2 _ rfl
    have g3 := hg 3 _ rfl
    have g4 := hg 4 _ rfl
    have g5 := hg 5 _ rfl
    have g6 := hg 6 _ rfl
    simp [Value.cells, ci, csl] at g0 g1 g2 g3 g4 g5 g6
    obtain ⟨x0, e0, -, w0⟩ := DataW.trod_int Try.underlying3 g0
    obtain ⟨x1, e1, -, w1⟩ := DataW.trod_int Try.underlying3 g1
    obtain ⟨x2, e2, -, w2⟩ := DataW.trod_int Try.underlying3 g2
    obtain ⟨x3, e3, -, w3⟩ := DataW.trod_int Try.underlying3 g3
    obtain ⟨x4, e4, -, w4⟩ := DataW.trod_int Try.underlying3 g4
    obtain ⟨x5, e5, -, w5⟩ := DataW.trod_int Try.underlying3 g5
    simp at e0 e1 e2 e3 e4 e5
    subst e0 e1 e2 e3 e4 e5
    rcases Deep.open_slice_pairs Try.underlying33 Try.underlying83 (by kernel_rfl) rfl rfl (by kernel_rfl) (by kernel_rfl) g6 with ⟨hcs, _⟩ | ⟨x, l, c, mm, fu, V0, V1, D0, D1, P0, P1, hcs, _, hl, hm, hmm, hy, hall⟩
    · simp at hcs
      subst hcs
      exact ⟨⟨x0, x1, x2, x3, x4, x5, []⟩, none, 0, 0, rfl, ⟨tar.RowD.nil _ _, (fun _ => rfl), Nat.le_refl _, by omega, (fun x hx => by cases hx)⟩, ⟨w0, w1, w2, w3, w4, w5⟩⟩
    · simp at hcs
      subst hcs
      simp only [if_true] at hmm
      subst hmm
      have hr := tar.rowD_of (len := l) (w := W) (a := x) (m := mm) (by omega) (fun j hj => by
        obtain ⟨k0, k1, t0, t1⟩ := hall j hj
        obtain ⟨z0, hv0, _, hw0⟩ := DataW.trod_int Try.underlying3 t0
        obtain ⟨z1, hv1, _, hw1⟩ := DataW.trod_int Try.underlying3 t1
        simp only [List.cons.injEq, and_true] at hv0 hv1
        rw [hv0] at k0
        rw [hv1] at k1
        exact ⟨z0, z1, k0, k1, hw0, hw1⟩)
      obtain ⟨zs, r1, r2⟩ := hr
      subst hy
      obtain ⟨hd1, _⟩ := Prod.mk.inj hd
      subst hd1
      have h1 := hs ((l + (mm - l)) * Try.prog.bytesOf 83) (by simp [DataW.weights, hu, DataW.weightsEach, Try.underlying33])
      rw [show Try.prog.bytesOf 83 = 16 from by kernel_rfl] at h1
      simp only [reachBytes] at h1
      exact ⟨⟨x0, x1, x2, x3, x4, x5, zs⟩, some x, l, mm, rfl, ⟨r1, (fun h => by cases h), hl, by omega, r2⟩, ⟨w0, w1, w2, w3, w4, w5⟩⟩

end Go.Proofs.Ytlolippocnngcab.acc

/- Raw numbers of terms that came in. -/
namespace Go.Proofs.Ytlolippocnngcab.acc
open Go.ChangeShapes Go.WideShapes Go.ChangeAt Go.RowKit Go.Deep
set_option maxRecDepth 100000
set_option linter.unusedVariables false

theorem open_deal {H : Type} {enc : TypeId × Value → H} {W : World} {r : Reach} {b0 b1 : Nat} {held : Bool} {v : Value} {d : DataW H} {ps : List MemPlace}
    (hval : Value.okWide Try.prog W r b0 38 v) (h : DataW.Trod enc Try.prog W b1 (fun _ => true) held 38 v d ps) (hs : ∀ n ∈ d.weights Try.prog 38, n ≤ reachBytes) :
    ∃ (x : Tm) (p : Option Addr) (len cap : Nat), v = x.v p len cap ∧ TCame W x p len cap := by
  have hu := Try.underlying38
  have hc : Try.prog.cellsOf 38 = 5 := by kernel_rfl
  have ci : Try.prog.cellsOf 3 = 1 := by kernel_rfl
  have csl : Try.prog.cellsOf 36 = 1 := by kernel_rfl
  obtain ⟨cs, rfl, hsz⟩ := okWide_struct hu hval
  rw [hc] at hsz
  obtain ⟨c0, c1, c2, c3, c4, rfl⟩ : ∃ c0 c1 c2 c3 c4, cs = #[c0, c1, c2, c3, c4] := by
    cases cs with
    | mk l => match l, hsz with
      | [c0, c1, c2, c3, c4], _ => exact ⟨c0, c1, c2, c3, c4, rfl⟩
  obtain ⟨fuel, hf⟩ := h
  obtain ⟨xs, n, hx, hd, _, hlen, hg⟩ := DataW.trod_struct hu hf
  match xs, hlen with
  | [y0, y1, y2, y3, y4], _ =>
    have g0 := hg 0 _ rfl
    have g1 := hg 1 _ rfl
    have g2 := hg 2 _ rfl
    have g3 := hg 3 _ rfl
    have g4 := hg 4 _ rfl
    simp [Value.cells, ci, csl] at g0 g1 g2 g3 g4
    obtain ⟨x1, e1, -, w1⟩ := DataW.trod_int Try.underlying3 g1
    obtain ⟨x2, e2, -, w2⟩ := DataW.trod_int Try.underlying3 g2
    obtain ⟨x3, e3, -, w3⟩ := DataW.trod_int Try.underlying3 g3
    obtain ⟨x4, e4, -, w4⟩ := DataW.trod_int Try.underlying3 g4
    simp at e1 e2 e3 e4
    subst e1 e2 e3 e4
    rcases Deep.open_slice_pairs Try.underlying36 Try.underlying85 (by kernel_rfl) rfl rfl (by kernel_rfl) (by kernel_rfl) g0 with ⟨hcs, _⟩ | ⟨x, l, c, mm, fu, V0, V1, D0, D1, P0, P1, hcs, _, hl, hm, hmm, hy, hall⟩
    · simp at hcs
      subst hcs
      exact ⟨⟨[], x1, x2, x3, x4⟩, none, 0, 0, rfl, ⟨tar.RowD.nil _ _, (fun _ => rfl), Nat.le_refl _, by omega, (fun x hx => by cases hx)⟩, ⟨w1, w2, w3, w4⟩⟩
    · simp at hcs
      subst hcs
      simp only [if_true] at hmm
      subst hmm
      have hr := tar.rowD_of (len := l) (w := W) (a := x) (m := mm) (by omega) (fun j hj => by
        obtain ⟨k0, k1, t0, t1⟩ := hall j hj
        obtain ⟨z0, hv0, _, hw0⟩ := DataW.trod_int Try.underlying3 t0
        obtain ⟨z1, hv1, _, hw1⟩ := DataW.trod_int Try.underlying3 t1
        simp only [List.cons.injEq, and_true] at hv0 hv1
        rw [hv0] at k0
        rw [hv1] at k1
        exact ⟨z0, z1, k0, k1, hw0, hw1⟩)
      obtain ⟨zs, r1, r2⟩ := hr
      subst hy
      obtain ⟨hd1, _⟩ := Prod.mk.inj hd
      subst hd1
      have h1 := hs ((l + (mm - l)) * Try.prog.bytesOf 85) (by simp [DataW.weights, hu, DataW.weightsEach, Try.underlying36])
      rw [show Try.prog.bytesOf 85 = 16 from by kernel_rfl] at h1
      simp only [reachBytes] at h1
      exact ⟨⟨zs, x1, x2, x3, x4⟩, some x, l, mm, rfl, ⟨r1, (fun h => by cases h), hl, by omega, r2⟩, ⟨w1, w2, w3, w4⟩⟩

end Go.Proofs.Ytlolippocnngcab.acc
