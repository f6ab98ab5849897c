/- Debts that grow, as the document has it. -/
import Derived.Test.YtfhlokjpdkmdjaaSh
import Derived.Test.YtfhlokjpdkmdjaaDbFa
import Derived.Test.YtfhlokjpdkmdjaaDbK
import Derived.Test.YtfhlokjpdkmdjaaLet
import Derived.OwnWalk
namespace Go.Proofs.Ytfhlokjpdkmdjaa.deb
open Go.Proofs.Ytfhlokjpdkmdjaa.tar (Du du0 Came RowD Ld ErrPost TwoPost PairT GaveD)
open Go.RowKit
set_option maxRecDepth 100000
set_option linter.unusedVariables false
set_option linter.unusedSimpArgs false

theorem pick_debt (w : World) (b off : Nat) (x y : Int) : True := trivial
set_option maxHeartbeats 4000000 in
theorem raged (x b : Int) (m : Nat) (w : World) (hx : 0 ≤ x ∧ x ≤ 1000000000) (hb : 0 ≤ b ∧ b ≤ 10000) (hm : m ≤ 2400) : Calls Try.prog 92 #[.agg #[.int .i64 x, .int .i64 b], .int .i64 (m : Int)] w fun e w' => e = .returned (.agg #[.int .i64 (growN b m x), .int .i64 b]) ∧ Below w.heap.size w w' := by
  obtain ⟨hx0, hx1⟩ := hx
  obtain ⟨hb0, hb1⟩ := hb
  have H0d : Hid (Blk ((w.alloc (.cells #[.int .i64 x, .int .i64 b] 25)).alloc (.cells #[.int .i64 0, .int .i64 0] 25)) (w.heap.size) #[.int .i64 x, .int .i64 b] 25) := (Blk.new w _ _).alloc _
  have H0r : Hid (Blk ((w.alloc (.cells #[.int .i64 x, .int .i64 b] 25)).alloc (.cells #[.int .i64 0, .int .i64 0] 25)) (w.heap.size + 1) #[.int .i64 0, .int .i64 0] 25) := Blk.new1 w _ _ _
  have H0B : Hid (Below w.heap.size w ((w.alloc (.cells #[.int .i64 x, .int .i64 b] 25)).alloc (.cells #[.int .i64 0, .int .i64 0] 25))) := ((Below.refl w.heap.size w).alloc (by simp) _).alloc (by simp) _
  go_enter Try.func92, Try.ntmps92
  go_wp2_with fail
  go_loopw [5] (fun z wr => ∃ k : Nat, k ≤ m ∧ z = .int .i64 (k : Int) ∧ Blk wr w.heap.size #[.int .i64 (growN b k x), .int .i64 b] 25 ∧ Blk wr (w.heap.size + 1) #[.int .i64 0, .int .i64 0] 25 ∧ Below w.heap.size w wr) (fun z _ => m - (intOf z).toNat)
  case atStart => exact ⟨0, Nat.zero_le _, rfl, H0d.out, H0r.out, H0B.out⟩
  case round =>
    obtain ⟨k, hk, rfl, h1, h2, h3⟩ := hrel
    have H1 : Hid (Blk wr w.heap.size #[.int .i64 (growN b k x), .int .i64 b] 25) := h1
    have H2 : Hid (Blk wr (w.heap.size + 1) #[.int .i64 0, .int .i64 0] 25) := h2
    have H3 : Hid (Below w.heap.size w wr) := h3
    clear h1 h2 h3 H0d H0r H0B
    have hg := growN_bd hb0 hb1 hx0 hx1 k
    by_cases hlt : k < m
    · have hdl : decide ((k : Int) < (m : Int)) = true := by simp; omega
      have HG : Hid (growN b (k + 1) x = grow b (growN b k x)) := rfl
      have g0 : 0 ≤ growN b k x := by omega
      have g1 := hg.2
      generalize growN b k x = u at *
      have hpr := prod_le u b 1000000000 10000 g0 g1 hb0 hb1
      have hwp : IntKind.i64.wrap (u * b) = u * b := by rw [IntKind.wrap_i64]; omega
      have hq : Int.tdiv (u * b) 10000 = u * b / 10000 := Int.tdiv_eq_ediv_of_nonneg hpr.1
      have hy0 : 0 ≤ u * b / 10000 := by omega
      have hy1 : u * b / 10000 ≤ 1000000000 := by omega
      have HGE : Hid (grow b u = min 1000000000 (u + u * b / 10000)) := rfl
      generalize u * b / 10000 = y at *
      have c0 : wr.cell? ⟨w.heap.size, 0, none⟩ = some (.int .i64 u) := H1.out.cell 0
      have c1 : wr.cell? ⟨w.heap.size, 1, none⟩ = some (.int .i64 b) := H1.out.cell 1
      clear hg hpr
      go_wp2_with (first | (refine wp_let1 rfl 3 _ _ rfl (w.heap.size) 0 rfl .i64 (u + y) rfl (by kernel_rfl) #[.int .i64 u, .int .i64 b] 25 H1.out (by simp) ?_) | fail)
      intro W1 hU
      have HU1 : Hid (Blk W1 w.heap.size #[.int .i64 (u + y), .int .i64 b] 25) := hU.blk
      have HU2 := shK hU H2 (by omega)
      have HU3 := shV hU H3 (by omega)
      have d0 : W1.cell? ⟨w.heap.size, 0, none⟩ = some (.int .i64 (u + y)) := HU1.out.cell 0
      clear hU c0 c1 H1 H2 H3
      by_cases hgt : 1000000000 < u + y
      · have hdg : decide (1000000000 < u + y) = true := decide_eq_true hgt
        have HGV : Hid (growN b (k + 1) x = 1000000000) := by show _ = _; rw [HG.out, HGE.out]; omega
        go_wp2_with (first | (refine wp_let1 rfl 3 _ _ rfl (w.heap.size) 0 rfl .i64 1000000000 rfl (by kernel_rfl) #[.int .i64 (u + y), .int .i64 b] 25 HU1.out (by simp) ?_) | fail)
        intro W2 hV
        have HV1 : Hid (Blk W2 w.heap.size #[.int .i64 1000000000, .int .i64 b] 25) := hV.blk
        have HV2 := shK hV HU2 (by omega)
        have HV3 := shV hV HU3 (by omega)
        clear hV d0 HU1 HU2 HU3 hgt
        go_wp2_with fail
        go_roundw
        case rel => exact ⟨k + 1, by omega, by go_num, by rw [HGV.out]; exact HV1.out, HV2.out, HV3.out⟩
        case measure => simp [intOf]; omega
      · have hdg : decide (1000000000 < u + y) = false := decide_eq_false hgt
        have HGV : Hid (growN b (k + 1) x = u + y) := by show _ = _; rw [HG.out, HGE.out]; omega
        clear hgt
        go_wp2_with fail
        go_roundw
        case rel => exact ⟨k + 1, by omega, by go_num, by rw [HGV.out]; exact HU1.out, HU2.out, HU3.out⟩
        case measure => simp [intOf]; omega
    · obtain rfl : k = m := by omega
      have hdl : decide ((k : Int) < (k : Int)) = false := by simp
      generalize hgg : growN b k x = u at *
      have HGG : Hid (growN b k x = u) := hgg
      clear hgg hg
      go_wp2_with (first
        | (refine wp_whole rfl 25 _ rfl _ rfl 25 _ _ H1.out Try.underlying25 rfl (by kernel_rfl) ?_)
        | (refine wp_letAll rfl 25 _ _ rfl _ rfl _ rfl (by kernel_rfl) (by simp [Value.oneCell']) _ 25 H2.out rfl ?_)
        | fail)
      intro WF hU
      have H9r : Hid (Blk WF (w.heap.size + 1) #[.int .i64 u, .int .i64 b] 25) := hU.blk
      have H9B := shV hU H3 (by omega)
      clear hU H1 H2 H3
      have Rr0 : Hid (WF.cell? ⟨w.heap.size + 1, 0, none⟩ = some (.int .i64 u)) := H9r.out.cell 0
      have Rr1 : Hid (WF.cell? ⟨w.heap.size + 1, 1, none⟩ = some (.int .i64 b)) := H9r.out.cell 1
      go_wp2_with fail
      exact bodyPost_ret (v := .agg #[.int .i64 u, .int .i64 b]) (by simp [results, Try.results92, Rr0.out, Rr1.out, go_sem]) rfl ⟨by rw [HGG.out], H9B.out⟩
set_option maxHeartbeats 4000000 in
theorem rages (a : Option Addr) (len cap : Nat) (ls : List Du) (mo : Int) (w : World) (hr : RowD w a len ls) (hl : len ≤ maxLen) : Calls Try.prog 82 #[.slice a len cap, .int .i64 mo] w fun e w' => AgePost w ls mo e w' := by
  have HFA : Hid (Calls Try.prog 81 #[.slice a len cap] w fun e w' => ∃ f, e = .returned (.int .i64 f) ∧ FaultIs ls f ∧ w' = w) := rfault a len cap ls w hr hl
  have HIM : Hid (∀ W, Calls Try.prog 47 #[.int .i64 mo, .int .i64 0, .int .i64 2400] W fun e w' => e = .returned (.bool (decide (0 ≤ mo ∧ mo ≤ 2400))) ∧ w' = W) := fun W => cal.cin mo 0 2400 W
  have hlen := hr.1
  go_enter Try.func82, Try.ntmps82
  go_wp2_with fail
  refine HFA.out.mono ?_
  rintro e w1 ⟨f, rfl, hf, hw1⟩
  subst hw1
  have HF : Hid (FaultIs ls f) := hf
  by_cases h0 : f = 0
  · subst h0
    have hm := hf.ok.1 rfl
    have HM : Hid (Mays ls) := hm
    have HLEN : Hid (ls.length = len) := hlen
    have hl8 : len ≤ 8 := by have := hm.1; omega
    have HROW : Hid (RowD w1 a len ls) := hr
    clear hf hm hr hl HFA hlen HF
    by_cases hmm : 0 ≤ mo ∧ mo ≤ 2400
    · rw [decide_eq_true hmm] at HIM
      have HMO : Hid (0 ≤ mo ∧ mo ≤ 2400) := hmm
      obtain ⟨m, rfl⟩ := Int.eq_ofNat_of_zero_le hmm.1
      have hm2 : m ≤ 2400 := by omega
      have HMT : Hid ((m : Int).toNat = m) := by show _ = _; omega
      clear hmm
      go_wp2_with fail
      refine (HIM.out _).mono ?_
      rintro e w2 ⟨rfl, hw2⟩
      subst hw2
      clear HIM
      go_wp2_with fail
      go_loopw [7, 8] (fun u z wr => ∃ (k : Nat) (V : Value), k ≤ len ∧ z = .int .i64 (k : Int) ∧ V = u ∧ Ld 25 wr w2.heap.size V (ageAll (ls.take k) m) ∧ Below w2.heap.size w2 wr) (fun _ z _ => len - (intOf z).toNat)
      case atStart => exact ⟨0, _, Nat.zero_le _, rfl, rfl, tar.Ld.zero _ _ _, Below.refl _ _⟩
      case round =>
        obtain ⟨k, V, hk, rfl, hV, hu, hb⟩ := hrel
        subst hV
        have HBW0 : Hid (Below w2.heap.size w2 wr) := hb
        have HU0 : Hid (Ld 25 wr w2.heap.size V (ageAll (ls.take k) m)) := hu
        by_cases hlt : k < len
        · have hdl : decide ((k : Int) < (len : Int)) = true := by simp; omega
          have hkl : k < ls.length := by rw [HLEN.out]; exact hlt
          obtain ⟨b, off, rfl, hbl, hc⟩ := HROW.out.at (by omega)
          have c0 : wr.cell? ⟨b, off + k * 2, none⟩ = some (.int .i64 (ls.getD k du0).a) := (hb.cell (p := ⟨b, off + k * 2, none⟩) hbl).trans (hc k hlt).1
          have c1 : wr.cell? ⟨b, off + k * 2 + 1, none⟩ = some (.int .i64 (ls.getD k du0).b) := (hb.cell (p := ⟨b, off + k * 2 + 1, none⟩) hbl).trans (hc k hlt).2
          have ho := HM.out.2 k hkl
          have HAG : Hid (∀ W, Calls Try.prog 92 #[.agg #[.int .i64 (ls.getD k du0).a, .int .i64 (ls.getD k du0).b], .int .i64 (m : Int)] W fun e w' => e = .returned (.agg #[.int .i64 (growN (ls.getD k du0).b m (ls.getD k du0).a), .int .i64 (ls.getD k du0).b]) ∧ Below W.heap.size W w') := fun W => raged _ _ m W ho.1 ho.2 hm2
          have HZ2 : Hid (ageAll (ls.take (k + 1)) m = ageAll (ls.take k) m ++ [⟨growN (ls.getD k du0).b m (ls.getD k du0).a, (ls.getD k du0).b⟩]) := ageAll_take ls m k hkl
          have hzl : (ageAll (ls.take k) m).length ≤ 1000000 := by rw [ageAll_len, List.length_take]; omega
          clear hc hb hu ho hkl
          generalize ageAll (ls.take k) m = Z at *
          generalize growN (ls.getD k du0).b m (ls.getD k du0).a = gx at *
          generalize (ls.getD k du0).a = x at *
          generalize (ls.getD k du0).b = y at *
          go_wp2_with fail
          refine (HAG.out _).mono ?_
          rintro e w4 ⟨rfl, hb4⟩
          have HBW4 := shB HBW0 hb4
          have HU4 : Hid (Ld 25 w4 w2.heap.size V Z) := HU0.out.next hb4
          have HBW : Hid (Below w2.heap.size w2 (w4.alloc (.cells #[.int .i64 gx, .int .i64 y] 25))) := HBW4.out.alloc HBW4.out.size _
          have HU : Hid (Ld 25 (w4.alloc (.cells #[.int .i64 gx, .int .i64 y] 25)) w2.heap.size V Z) := HU4.out.alloc _
          clear hb4 c0 c1 HAG HBW0 HU0
          have HBA : Hid (Below w2.heap.size w2 ((w4.alloc (.cells #[.int .i64 gx, .int .i64 y] 25)).alloc (.cells #[.int .i64 gx, .int .i64 y] 25))) := HBW.out.alloc HBW.out.size _
          have HZA : Hid (Ld 25 ((w4.alloc (.cells #[.int .i64 gx, .int .i64 y] 25)).alloc (.cells #[.int .i64 gx, .int .i64 y] 25)) w2.heap.size V Z) := HU.out.alloc _
          have HCA : Hid (((w4.alloc (.cells #[.int .i64 gx, .int .i64 y] 25)).alloc (.cells #[.int .i64 gx, .int .i64 y] 25)).cell? ⟨w4.heap.size + 1, 0, none⟩ = some (.int .i64 gx) ∧ ((w4.alloc (.cells #[.int .i64 gx, .int .i64 y] 25)).alloc (.cells #[.int .i64 gx, .int .i64 y] 25)).cell? ⟨w4.heap.size + 1, 1, none⟩ = some (.int .i64 y)) := ⟨(Blk.new1 w4 _ _ _).cell 0, (Blk.new1 w4 _ _ _).cell 1⟩
          go_wp2_with (first
            | (at_builtin; refine tar.wp_pair debtT rfl _ _ rfl w2.heap.size (w4.heap.size + 1) V Z ⟨gx, y⟩ rfl rfl HZA.out HCA.out hzl HBA.out.size ?_)
            | fail)
          intro v3 w3 h3 hg3
          have HB3 : Hid (Below w2.heap.size w2 w3) := tar.own_bel HZA.out hg3 HBA.out (Nat.le_refl _) HBA.out.size
          have H3 : Hid (Ld 25 w3 w2.heap.size v3 (Z ++ [⟨gx, y⟩])) := h3
          clear h3 hg3 HZA HCA HBA HU HBW HBW4 HU4
          go_wp2_with fail
          go_roundw
          case rel => exact ⟨k + 1, v3, by omega, by go_num, by first | rfl | trivial, by rw [HZ2.out]; exact H3.out, HB3.out⟩
          case measure => simp [intOf]; omega
        · obtain rfl : k = len := by omega
          have hdl : decide ((k : Int) < (k : Int)) = false := by simp
          have htk : ls.take k = ls := List.take_of_length_le (by rw [HLEN.out]; exact Nat.le_refl _)
          rw [htk] at hu
          obtain ⟨a3, cap3, hv3, hcm⟩ := ld_fresh hu (ageAll_mays HM.out m)
          subst hv3
          have HCM : Hid (Fresh wr w2.heap.size a3 (ageAll ls m).length cap3 (ageAll ls m)) := hcm
          have HAI : Hid (AgeIs ls (m : Int) (ageAll ls m) 0) := .inr (.inr ⟨HM.out, HMO.out, rfl, by rw [HMT.out]⟩)
          clear hb hu hcm htk HU0
          generalize (ageAll ls m).length = len3 at *
          generalize ageAll ls m = Z at *
          go_wp2_with fail
          go_ret2
          exact ⟨a3, len3, cap3, Z, 0, rfl, HAI.out, HCM.out, HBW0.out⟩
    · rw [decide_eq_false hmm] at HIM
      have HMO : Hid (¬ (0 ≤ mo ∧ mo ≤ 2400)) := hmm
      clear hmm
      go_wp2_with fail
      refine (HIM.out _).mono ?_
      rintro e w2 ⟨rfl, hw2⟩
      subst hw2
      go_wp2_with fail
      go_ret2
      exact ⟨none, 0, 0, [], 2, rfl, .inr (.inl ⟨HM.out, HMO.out, rfl, rfl⟩), fresh_nil _ _, Below.refl _ _⟩
  · have hne : (f != 0) = true := by simpa using h0
    have HN : Hid (¬ Mays ls) := fun h => h0 (hf.ok.2 h)
    clear hf h0 hr hl HFA HIM
    go_wp2_with fail
    go_ret2
    exact ⟨none, 0, 0, [], f, rfl, .inl ⟨HN.out, HF.out, rfl⟩, fresh_nil _ _, Below.refl _ _⟩

end Go.Proofs.Ytfhlokjpdkmdjaa.deb
