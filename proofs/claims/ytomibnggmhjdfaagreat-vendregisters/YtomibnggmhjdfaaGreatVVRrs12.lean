import Derived.Test.YtomibnggmhjdfaaGreatVVRrs10
set_option linter.unusedVariables false
set_option linter.unusedSimpArgs false
namespace Go.Proofs.YtomibnggmhjdfaaGreat
namespace deb
open tar (Du du0 Came RowD Ld ErrPost TwoPost PairT GaveD)
open Go.RowKit
set_option maxRecDepth 100000
set_option maxHeartbeats 4000000 in
theorem raged (x b : Int) (m : Nat) (w : World) (hx : 0 ≤ x ∧ x ≤ 1000000000) (hb : 0 ≤ b ∧ b ≤ 10000) (hm : m ≤ 2400) : Calls Tryz.prog 105 #[.agg #[.int .i64 x, .int .i64 b], .int .i64 (m : Int)] w fun e w' => e = .returned (.agg #[.int .i64 (growN b m x), .int .i64 b]) ∧ Below w.heap.size w w' := by
 obtain ⟨hx0, hx1⟩ := hx
 obtain ⟨hb0, hb1⟩ := hb
 have H0d : Hid (Blk ((w.alloc (.cells #[.int .i64 x, .int .i64 b] 43)).alloc (.cells #[.int .i64 0, .int .i64 0] 43)) (w.heap.size) #[.int .i64 x, .int .i64 b] 43) := (Blk.new w _ _).alloc _
 have H0r : Hid (Blk ((w.alloc (.cells #[.int .i64 x, .int .i64 b] 43)).alloc (.cells #[.int .i64 0, .int .i64 0] 43)) (w.heap.size + 1) #[.int .i64 0, .int .i64 0] 43) := Blk.new1 w _ _ _
 have H0B : Hid (Below w.heap.size w ((w.alloc (.cells #[.int .i64 x, .int .i64 b] 43)).alloc (.cells #[.int .i64 0, .int .i64 0] 43))) := ((Below.refl w.heap.size w).alloc (by simp) _).alloc (by simp) _
 go_enter Tryz.func105, Tryz.ntmps105
 go_wp2_with fail
 go_loopw [5] (fun z wr => ∃ k : Nat, k ≤ m ∧ z = .int .i64 (k : Int) ∧ Blk wr w.heap.size #[.int .i64 (growN b k x), .int .i64 b] 43 ∧ Blk wr (w.heap.size + 1) #[.int .i64 0, .int .i64 0] 43 ∧ Below w.heap.size w wr) (fun z _ => m - (intOf z).toNat)
 case atStart => exact ⟨0, Nat.zero_le _, rfl, H0d.out, H0r.out, H0B.out⟩
 case round =>
  obtain ⟨k, hk, rfl, h1, h2, h3⟩ := hrel
  have H1 : Hid (Blk wr w.heap.size #[.int .i64 (growN b k x), .int .i64 b] 43) := h1
  have H2 : Hid (Blk wr (w.heap.size + 1) #[.int .i64 0, .int .i64 0] 43) := h2
  have H3 : Hid (Below w.heap.size w wr) := h3
  clear h1 h2 h3 H0d H0r H0B
  have hg := growN_bd hb0 hb1 hx0 hx1 k
  by_cases hlt : k < m
  ·have hdl : decide ((k : Int) < (m : Int)) = true := by simp; omega
   have HG : Hid (growN b (k + 1) x = grow b (growN b k x)) := rfl
   have g0 : 0 ≤ growN b k x := by omega
   have g1 := hg.2
   generalize growN b k x = u at *
   have hpr := prod_le u b 1000000000 10000 g0 g1 hb0 hb1
   have hwp : IntKind.i64.wrap (u * b) = u * b := by rw [IntKind.wrap_i64]; omega
   have hq : Int.tdiv (u * b) 10000 = u * b / 10000 := Int.tdiv_eq_ediv_of_nonneg hpr.1
   have hy0 : 0 ≤ u * b / 10000 := by omega
   have hy1 : u * b / 10000 ≤ 1000000000 := by omega
   have HGE : Hid (grow b u = min 1000000000 (u + u * b / 10000)) := rfl
   generalize u * b / 10000 = y at *
   have c0 : wr.cell? ⟨w.heap.size, 0, none⟩ = some (.int .i64 u) := H1.out.cell 0
   have c1 : wr.cell? ⟨w.heap.size, 1, none⟩ = some (.int .i64 b) := H1.out.cell 1
   clear hg hpr
   go_wp2_with (first | (refine wp_let1 rfl 3 _ _ rfl (w.heap.size) 0 rfl .i64 (u + y) rfl (by kernel_rfl) #[.int .i64 u, .int .i64 b] 43 H1.out (by simp) ?_) | fail)
   intro W1 hU
   have HU1 : Hid (Blk W1 w.heap.size #[.int .i64 (u + y), .int .i64 b] 43) := hU.blk
   have HU2 := shK hU H2 (by omega)
   have HU3 := shV hU H3 (by omega)
   have d0 : W1.cell? ⟨w.heap.size, 0, none⟩ = some (.int .i64 (u + y)) := HU1.out.cell 0
   clear hU c0 c1 H1 H2 H3
   by_cases hgt : 1000000000 < u + y
   ·have hdg : decide (1000000000 < u + y) = true := decide_eq_true hgt
    have HGV : Hid (growN b (k + 1) x = 1000000000) := by show _ = _; rw [HG.out, HGE.out]; omega
    go_wp2_with (first | (refine wp_let1 rfl 3 _ _ rfl (w.heap.size) 0 rfl .i64 1000000000 rfl (by kernel_rfl) #[.int .i64 (u + y), .int .i64 b] 43 HU1.out (by simp) ?_) | fail)
    intro W2 hV
    have HV1 : Hid (Blk W2 w.heap.size #[.int .i64 1000000000, .int .i64 b] 43) := hV.blk
    have HV2 := shK hV HU2 (by omega)
    have HV3 := shV hV HU3 (by omega)
    clear hV d0 HU1 HU2 HU3 hgt
    go_wp2_with fail
    go_roundw
    case rel => exact ⟨k + 1, by omega, by go_num, by rw [HGV.out]; exact HV1.out, HV2.out, HV3.out⟩
    case measure => simp [intOf]; omega
   ·have hdg : decide (1000000000 < u + y) = false := decide_eq_false hgt
    have HGV : Hid (growN b (k + 1) x = u + y) := by show _ = _; rw [HG.out, HGE.out]; omega
    clear hgt
    go_wp2_with fail
    go_roundw
    case rel => exact ⟨k + 1, by omega, by go_num, by rw [HGV.out]; exact HU1.out, HU2.out, HU3.out⟩
    case measure => simp [intOf]; omega
  ·obtain rfl : k = m := by omega
   have hdl : decide ((k : Int) < (k : Int)) = false := by simp
   generalize hgg : growN b k x = u at *
   have HGG : Hid (growN b k x = u) := hgg
   clear hgg hg
   go_wp2_with (first
    | (refine zqw rfl rfl rfl H1 zqu43 ?_)
    | (refine zql rfl rfl rfl rfl zqu43 (by simp [Value.oneCell']) H2 rfl ?_)
    | fail)
   intro WF hU
   have H9r : Hid (Blk WF (w.heap.size + 1) #[.int .i64 u, .int .i64 b] 43) := hU.blk
   have H9B := shV hU H3 (by omega)
   clear hU H1 H2 H3
   have Rr0 : Hid (WF.cell? ⟨w.heap.size + 1, 0, none⟩ = some (.int .i64 u)) := H9r.out.cell 0
   have Rr1 : Hid (WF.cell? ⟨w.heap.size + 1, 1, none⟩ = some (.int .i64 b)) := H9r.out.cell 1
   go_wp2_with fail
   exact bodyPost_ret (v := .agg #[.int .i64 u, .int .i64 b]) (by simp [results, Tryz.results105, Rr0.out, Rr1.out, go_sem]) rfl ⟨by rw [HGG.out], H9B.out⟩
set_option maxHeartbeats 4000000 in
theorem rages (a : Option Addr) (len cap : Nat) (ls : List Du) (mo : Int) (w : World) (hr : RowD w a len ls) (hl : len ≤ maxLen) : Calls Tryz.prog 93 #[.slice a len cap, .int .i64 mo] w fun e w' => AgePost w ls mo e w' := by
 have HFA : Hid (Calls Tryz.prog 70 #[.slice a len cap] w fun e w' => ∃ f, e = .returned (.int .i64 f) ∧ FaultIs ls f ∧ w' = w) := rfault a len cap ls w hr hl
 have HIM : Hid (∀ W, Calls Tryz.prog 25 #[.int .i64 mo, .int .i64 0, .int .i64 2400] W fun e w' => e = .returned (.bool (decide (0 ≤ mo ∧ mo ≤ 2400))) ∧ w' = W) := fun W => cal.cin mo 0 2400 W
 have hlen := hr.1
 go_enter Tryz.func93, Tryz.ntmps93
 go_wp2_with fail
 refine HFA.out.mono ?_
 rintro e w1 ⟨f, rfl, hf, hw1⟩
 subst hw1
 have HF : Hid (FaultIs ls f) := hf
 by_cases h0 : f = 0
 ·subst h0
  have hm := hf.ok.1 rfl
  have HM : Hid (Mays ls) := hm
  have HLEN : Hid (ls.length = len) := hlen
  have hl8 : len ≤ 8 := by have := hm.1; omega
  have HROW : Hid (RowD w1 a len ls) := hr
  clear hf hm hr hl HFA hlen HF
  by_cases hmm : 0 ≤ mo ∧ mo ≤ 2400
  ·rw [decide_eq_true hmm] at HIM
   have HMO : Hid (0 ≤ mo ∧ mo ≤ 2400) := hmm
   obtain ⟨m, rfl⟩ := Int.eq_ofNat_of_zero_le hmm.1
   have hm2 : m ≤ 2400 := by omega
   have HMT : Hid ((m : Int).toNat = m) := by show _ = _; omega
   clear hmm
   go_wp2_with fail
   refine (HIM.out _).mono ?_
   rintro e w2 ⟨rfl, hw2⟩
   subst hw2
   clear HIM
   go_wp2_with fail
   go_loopw [7, 8] (fun u z wr => ∃ (k : Nat) (V : Value), k ≤ len ∧ z = .int .i64 (k : Int) ∧ V = u ∧ Ld 43 wr w2.heap.size V (ageAll (ls.take k) m) ∧ Below w2.heap.size w2 wr) (fun _ z _ => len - (intOf z).toNat)
   case atStart => exact ⟨0, _, Nat.zero_le _, rfl, rfl, tar.Ld.zero _ _ _, Below.refl _ _⟩
   case round =>
    obtain ⟨k, V, hk, rfl, hV, hu, hb⟩ := hrel
    subst hV
    have HBW0 : Hid (Below w2.heap.size w2 wr) := hb
    have HU0 : Hid (Ld 43 wr w2.heap.size V (ageAll (ls.take k) m)) := hu
    by_cases hlt : k < len
    ·have hdl : decide ((k : Int) < (len : Int)) = true := by simp; omega
     have hkl : k < ls.length := by rw [HLEN.out]; exact hlt
     obtain ⟨b, off, rfl, hbl, hc⟩ := HROW.out.at (by omega)
     have c0 : wr.cell? ⟨b, off + k * 2, none⟩ = some (.int .i64 (ls.getD k du0).a) := (hb.cell (p := ⟨b, off + k * 2, none⟩) hbl).trans (hc k hlt).1
     have c1 : wr.cell? ⟨b, off + k * 2 + 1, none⟩ = some (.int .i64 (ls.getD k du0).b) := (hb.cell (p := ⟨b, off + k * 2 + 1, none⟩) hbl).trans (hc k hlt).2
     have ho := HM.out.2 k hkl
     have HAG : Hid (∀ W, Calls Tryz.prog 105 #[.agg #[.int .i64 (ls.getD k du0).a, .int .i64 (ls.getD k du0).b], .int .i64 (m : Int)] W fun e w' => e = .returned (.agg #[.int .i64 (growN (ls.getD k du0).b m (ls.getD k du0).a), .int .i64 (ls.getD k du0).b]) ∧ Below W.heap.size W w') := fun W => raged _ _ m W ho.1 ho.2 hm2
     have HZ2 : Hid (ageAll (ls.take (k + 1)) m = ageAll (ls.take k) m ++ [⟨growN (ls.getD k du0).b m (ls.getD k du0).a, (ls.getD k du0).b⟩]) := ageAll_take ls m k hkl
     have hzl : (ageAll (ls.take k) m).length ≤ 1000000 := by rw [ageAll_len, List.length_take]; omega
     clear hc hb hu ho hkl
     generalize ageAll (ls.take k) m = Z at *
     generalize growN (ls.getD k du0).b m (ls.getD k du0).a = gx at *
     generalize (ls.getD k du0).a = x at *
     generalize (ls.getD k du0).b = y at *
     go_wp2_with fail
     refine (HAG.out _).mono ?_
     rintro e w4 ⟨rfl, hb4⟩
     have HBW4 := shB HBW0 hb4
     have HU4 : Hid (Ld 43 w4 w2.heap.size V Z) := HU0.out.next hb4
     have HBW : Hid (Below w2.heap.size w2 (w4.alloc (.cells #[.int .i64 gx, .int .i64 y] 43))) := HBW4.out.alloc HBW4.out.size _
     have HU : Hid (Ld 43 (w4.alloc (.cells #[.int .i64 gx, .int .i64 y] 43)) w2.heap.size V Z) := HU4.out.alloc _
     clear hb4 c0 c1 HAG HBW0 HU0
     have HBA : Hid (Below w2.heap.size w2 ((w4.alloc (.cells #[.int .i64 gx, .int .i64 y] 43)).alloc (.cells #[.int .i64 gx, .int .i64 y] 43))) := HBW.out.alloc HBW.out.size _
     have HZA : Hid (Ld 43 ((w4.alloc (.cells #[.int .i64 gx, .int .i64 y] 43)).alloc (.cells #[.int .i64 gx, .int .i64 y] 43)) w2.heap.size V Z) := HU.out.alloc _
     have HCA : Hid (((w4.alloc (.cells #[.int .i64 gx, .int .i64 y] 43)).alloc (.cells #[.int .i64 gx, .int .i64 y] 43)).cell? ⟨w4.heap.size + 1, 0, none⟩ = some (.int .i64 gx) ∧ ((w4.alloc (.cells #[.int .i64 gx, .int .i64 y] 43)).alloc (.cells #[.int .i64 gx, .int .i64 y] 43)).cell? ⟨w4.heap.size + 1, 1, none⟩ = some (.int .i64 y)) := ⟨(Blk.new1 w4 _ _ _).cell 0, (Blk.new1 w4 _ _ _).cell 1⟩
     go_wp2_with (first
      | (at_builtin; refine tar.wp_pair debtT rfl _ _ rfl w2.heap.size (w4.heap.size + 1) V Z ⟨gx, y⟩ rfl rfl HZA.out HCA.out hzl HBA.out.size ?_)
      | fail)
     intro v3 w3 h3 hg3
     have HB3 : Hid (Below w2.heap.size w2 w3) := tar.own_bel HZA.out hg3 HBA.out (Nat.le_refl _) HBA.out.size
     have H3 : Hid (Ld 43 w3 w2.heap.size v3 (Z ++ [⟨gx, y⟩])) := h3
     clear h3 hg3 HZA HCA HBA HU HBW HBW4 HU4
     go_wp2_with fail
     go_roundw
     case rel => exact ⟨k + 1, v3, by omega, by go_num, by first | rfl | trivial, by rw [HZ2.out]; exact H3.out, HB3.out⟩
     case measure => simp [intOf]; omega
    ·obtain rfl : k = len := by omega
     have hdl : decide ((k : Int) < (k : Int)) = false := by simp
     have htk : ls.take k = ls := List.take_of_length_le (by rw [HLEN.out]; exact Nat.le_refl _)
     rw [htk] at hu
     obtain ⟨a3, cap3, hv3, hcm⟩ := ld_fresh hu (ageAll_mays HM.out m)
     subst hv3
     have HCM : Hid (Fresh wr w2.heap.size a3 (ageAll ls m).length cap3 (ageAll ls m)) := hcm
     have HAI : Hid (AgeIs ls (m : Int) (ageAll ls m) 0) := .inr (.inr ⟨HM.out, HMO.out, rfl, by rw [HMT.out]⟩)
     clear hb hu hcm htk HU0
     generalize (ageAll ls m).length = len3 at *
     generalize ageAll ls m = Z at *
     go_wp2_with fail
     go_ret2
     exact ⟨a3, len3, cap3, Z, 0, rfl, HAI.out, HCM.out, HBW0.out⟩
  ·rw [decide_eq_false hmm] at HIM
   have HMO : Hid (¬ (0 ≤ mo ∧ mo ≤ 2400)) := hmm
   clear hmm
   go_wp2_with fail
   refine (HIM.out _).mono ?_
   rintro e w2 ⟨rfl, hw2⟩
   subst hw2
   go_wp2_with fail
   go_ret2
   exact ⟨none, 0, 0, [], 2, rfl, .inr (.inl ⟨HM.out, HMO.out, rfl, rfl⟩), fresh_nil _ _, Below.refl _ _⟩
 ·have hne : (f != 0) = true := by simpa using h0
  have HN : Hid (¬ Mays ls) := fun h => h0 (hf.ok.2 h)
  clear hf h0 hr hl HFA HIM
  go_wp2_with fail
  go_ret2
  exact ⟨none, 0, 0, [], f, rfl, .inl ⟨HN.out, HF.out, rfl⟩, fresh_nil _ _, Below.refl _ _⟩
end deb
namespace acc
open tar (Du du0 Came RowD Ld PairT)
open Go.RowKit
set_option maxRecDepth 100000
set_option maxHeartbeats 8000000 in
theorem rrolled (x : Ac) (p : Option Addr) (len cap : Nat) (m : Int) (w : World) (h : RowD w p len x.ds) (hl : len ≤ maxLen) : Calls Tryz.prog 80 #[.agg #[.int .i64 x.me, .int .i64 x.rv, .int .i64 x.nx, .int .i64 x.mo, .int .i64 x.bo, .int .i64 x.fr, .slice p len cap], .int .i64 m] w fun e w' => APost w (RollIs x m) e w' := by
 have H0d : Hid (Blk ((w.alloc (.cells #[.int .i64 x.me, .int .i64 x.rv, .int .i64 x.nx, .int .i64 x.mo, .int .i64 x.bo, .int .i64 x.fr, .slice p len cap] 59)).alloc (.cells #[.int .i64 0, .int .i64 0, .int .i64 0, .int .i64 0, .int .i64 0, .int .i64 0, .slice none 0 0] 59)) w.heap.size #[.int .i64 x.me, .int .i64 x.rv, .int .i64 x.nx, .int .i64 x.mo, .int .i64 x.bo, .int .i64 x.fr, .slice p len cap] 59) := (Blk.new w _ _).alloc _
 have H0r : Hid (Blk ((w.alloc (.cells #[.int .i64 x.me, .int .i64 x.rv, .int .i64 x.nx, .int .i64 x.mo, .int .i64 x.bo, .int .i64 x.fr, .slice p len cap] 59)).alloc (.cells #[.int .i64 0, .int .i64 0, .int .i64 0, .int .i64 0, .int .i64 0, .int .i64 0, .slice none 0 0] 59)) (w.heap.size + 1) #[.int .i64 0, .int .i64 0, .int .i64 0, .int .i64 0, .int .i64 0, .int .i64 0, .slice none 0 0] 59) := Blk.new1 w _ _ _
 have H0B : Hid (Below w.heap.size w ((w.alloc (.cells #[.int .i64 x.me, .int .i64 x.rv, .int .i64 x.nx, .int .i64 x.mo, .int .i64 x.bo, .int .i64 x.fr, .slice p len cap] 59)).alloc (.cells #[.int .i64 0, .int .i64 0, .int .i64 0, .int .i64 0, .int .i64 0, .int .i64 0, .slice none 0 0] 59))) := ((Below.refl w.heap.size w).alloc (by simp) _).alloc (by simp) _
 have HROW : Hid (RowD ((w.alloc (.cells #[.int .i64 x.me, .int .i64 x.rv, .int .i64 x.nx, .int .i64 x.mo, .int .i64 x.bo, .int .i64 x.fr, .slice p len cap] 59)).alloc (.cells #[.int .i64 0, .int .i64 0, .int .i64 0, .int .i64 0, .int .i64 0, .int .i64 0, .slice none 0 0] 59)) p len x.ds) := h.below H0B.out
 have hs1 : w.heap.size + 1 < ((w.alloc (.cells #[.int .i64 x.me, .int .i64 x.rv, .int .i64 x.nx, .int .i64 x.mo, .int .i64 x.bo, .int .i64 x.fr, .slice p len cap] 59)).alloc (.cells #[.int .i64 0, .int .i64 0, .int .i64 0, .int .i64 0, .int .i64 0, .int .i64 0, .slice none 0 0] 59)).heap.size := H0r.out.lt
 have HIM : Hid (∀ W, Calls Tryz.prog 25 #[.int .i64 m, .int .i64 0, .int .i64 2399] W fun e w' => e = .returned (.bool (decide (0 ≤ m ∧ m ≤ 2399))) ∧ w' = W) := fun W => cal.cin m 0 2399 W
 by_cases hm : AMay x
 ·have hmo := hm.2.2.2.2.1
  have hdm := hm.1
  have HAM : Hid (Calls Tryz.prog 47 #[.agg #[.int .i64 x.me, .int .i64 x.rv, .int .i64 x.nx, .int .i64 x.mo, .int .i64 x.bo, .int .i64 x.fr, .slice p len cap]] ((w.alloc (.cells #[.int .i64 x.me, .int .i64 x.rv, .int .i64 x.nx, .int .i64 x.mo, .int .i64 x.bo, .int .i64 x.fr, .slice p len cap] 59)).alloc (.cells #[.int .i64 0, .int .i64 0, .int .i64 0, .int .i64 0, .int .i64 0, .int .i64 0, .slice none 0 0] 59)) fun e w' => e = .returned (.bool true) ∧ Below ((w.alloc (.cells #[.int .i64 x.me, .int .i64 x.rv, .int .i64 x.nx, .int .i64 x.mo, .int .i64 x.bo, .int .i64 x.fr, .slice p len cap] 59)).alloc (.cells #[.int .i64 0, .int .i64 0, .int .i64 0, .int .i64 0, .int .i64 0, .int .i64 0, .slice none 0 0] 59)).heap.size ((w.alloc (.cells #[.int .i64 x.me, .int .i64 x.rv, .int .i64 x.nx, .int .i64 x.mo, .int .i64 x.bo, .int .i64 x.fr, .slice p len cap] 59)).alloc (.cells #[.int .i64 0, .int .i64 0, .int .i64 0, .int .i64 0, .int .i64 0, .int .i64 0, .slice none 0 0] 59)) w') := ramay x p len cap _ HROW.out hl hm
  have HM : Hid (AMay x) := hm
  clear h hm
  generalize hWW : ((w.alloc (.cells #[.int .i64 x.me, .int .i64 x.rv, .int .i64 x.nx, .int .i64 x.mo, .int .i64 x.bo, .int .i64 x.fr, .slice p len cap] 59)).alloc (.cells #[.int .i64 0, .int .i64 0, .int .i64 0, .int .i64 0, .int .i64 0, .int .i64 0, .slice none 0 0] 59)) = W2 at *
  have HWW : Hid (((w.alloc (.cells #[.int .i64 x.me, .int .i64 x.rv, .int .i64 x.nx, .int .i64 x.mo, .int .i64 x.bo, .int .i64 x.fr, .slice p len cap] 59)).alloc (.cells #[.int .i64 0, .int .i64 0, .int .i64 0, .int .i64 0, .int .i64 0, .int .i64 0, .slice none 0 0] 59)) = W2) := hWW
  clear hWW
  go_enter Tryz.func80, Tryz.ntmps80
  go_upto_region 1 with fail
  rw [HWW.out]
  clear HWW
  go_wp2_with (first | (refine zqw rfl rfl rfl H0d zqu59 ?_) | fail)
  refine HAM.out.mono ?_
  rintro e w1 ⟨rfl, hb1⟩
  have H1d : Hid (Blk w1 w.heap.size #[.int .i64 x.me, .int .i64 x.rv, .int .i64 x.nx, .int .i64 x.mo, .int .i64 x.bo, .int .i64 x.fr, .slice p len cap] 59) := H0d.out.below hb1 (by omega)
  have H1r : Hid (Blk w1 (w.heap.size + 1) #[.int .i64 0, .int .i64 0, .int .i64 0, .int .i64 0, .int .i64 0, .int .i64 0, .slice none 0 0] 59) := H0r.out.below hb1 (by omega)
  have H1B := shB H0B hb1
  have H1R : Hid (RowD w1 p len x.ds) := HROW.out.below hb1
  have hs2 : w.heap.size + 1 < w1.heap.size := Nat.lt_of_lt_of_le hs1 hb1.size
  clear hb1 HAM HROW H0d H0r H0B hs1
  by_cases h1 : 0 ≤ m ∧ m ≤ 2399
  ·rw [decide_eq_true h1] at HIM
   go_wp2_with fail
   refine (HIM.out _).mono ?_
   rintro e w2 ⟨rfl, hw2⟩
   subst hw2
   clear HIM
   have c3 : w2.cell? ⟨w.heap.size, 3, none⟩ = some (.int .i64 x.mo) := H1d.out.cell 3
   have c6 : w2.cell? ⟨w.heap.size, 6, none⟩ = some (.slice p len cap) := H1d.out.cell 6
   by_cases h2 : m < x.mo
   ·have hd2 : decide (m < x.mo) = true := decide_eq_true h2
    have HER : Hid (RollIs x m ac0 23) := .inr (.inl ⟨HM.out, fun hh => by have := hh.2; omega, .inr ⟨h1, h2, rfl⟩, rfl⟩)
    clear h1 h2 hmo hdm
    go_wp2_with (first | (refine zql rfl rfl rfl rfl zqu59 (by simp [Value.oneCell']) H1r rfl ?_) | fail)
    intro WF hU
    have H9r : Hid (Blk WF (w.heap.size + 1) #[.int .i64 0, .int .i64 0, .int .i64 0, .int .i64 0, .int .i64 0, .int .i64 0, .slice none 0 0] 59) := hU.blk
    have H9B := shV hU H1B (by omega)
    clear hU
    obtain ⟨Rr0, Rr1, Rr2, Rr3, Rr4, Rr5, Rr6⟩ := shc7 H9r
    go_wp2_with fail
    exact bodyPost_ret (v := .tuple #[.agg #[.int .i64 0, .int .i64 0, .int .i64 0, .int .i64 0, .int .i64 0, .int .i64 0, .slice none 0 0], .int .i64 23]) (by simp [results, Tryz.results80, Rr0.out, Rr1.out, Rr2.out, Rr3.out, Rr4.out, Rr5.out, Rr6.out, go_sem]) rfl ⟨ac0, none, 0, 0, _, rfl, HER.out, deb.fresh_nil _ _, H9B.out⟩
   ·have hd2 : decide (m < x.mo) = false := decide_eq_false h2
    have HCP : Hid (Calls Tryz.prog 48 #[.agg #[.int .i64 x.me, .int .i64 x.rv, .int .i64 x.nx, .int .i64 x.mo, .int .i64 x.bo, .int .i64 x.fr, .slice p len cap]] w2 fun e w' => ∃ p' cap', e = .returned (Ac.v x p' len cap') ∧ deb.Fresh w' w2.heap.size p' len cap' x.ds ∧ Below w2.heap.size w2 w') := rcopy x p len cap w2 H1R.out hdm
    have HRM : Hid (RMay x m) := ⟨h1, by omega⟩
    go_wp2_with (first | (refine zqw rfl rfl rfl H1d zqu59 ?_) | fail)
    refine HCP.out.mono ?_
    rintro e w3 ⟨p3, cap3, rfl, hf3, hb3⟩
    unfold Ac.v Ac.cs
    have H3d := shN H1d hb3
    have H3r := shN H1r hb3
    have H3B := shB H1B hb3
    have H3R : Hid (RowD w3 p len x.ds) := H1R.out.below hb3
    have H3F : Hid (deb.Fresh w3 w2.heap.size p3 len cap3 x.ds) := hf3
    have hs3 : w2.heap.size ≤ w3.heap.size := hb3.size
    have hs4 : w3.heap.size < (w3.alloc (.cells #[.int .i64 x.me, .int .i64 x.rv, .int .i64 x.nx, .int .i64 x.mo, .int .i64 x.bo, .int .i64 x.fr, .slice p3 len cap3] 59)).heap.size := (Blk.new w3 #[.int .i64 x.me, .int .i64 x.rv, .int .i64 x.nx, .int .i64 x.mo, .int .i64 x.bo, .int .i64 x.fr, .slice p3 len cap3] 59).lt
    have H4o : Hid (Blk (w3.alloc (.cells #[.int .i64 x.me, .int .i64 x.rv, .int .i64 x.nx, .int .i64 x.mo, .int .i64 x.bo, .int .i64 x.fr, .slice p3 len cap3] 59)) w3.heap.size #[.int .i64 x.me, .int .i64 x.rv, .int .i64 x.nx, .int .i64 x.mo, .int .i64 x.bo, .int .i64 x.fr, .slice p3 len cap3] 59) := Blk.new w3 _ _
    have H4d : Hid (Blk (w3.alloc (.cells #[.int .i64 x.me, .int .i64 x.rv, .int .i64 x.nx, .int .i64 x.mo, .int .i64 x.bo, .int .i64 x.fr, .slice p3 len cap3] 59)) w.heap.size #[.int .i64 x.me, .int .i64 x.rv, .int .i64 x.nx, .int .i64 x.mo, .int .i64 x.bo, .int .i64 x.fr, .slice p len cap] 59) := H3d.out.alloc _
    have H4r : Hid (Blk (w3.alloc (.cells #[.int .i64 x.me, .int .i64 x.rv, .int .i64 x.nx, .int .i64 x.mo, .int .i64 x.bo, .int .i64 x.fr, .slice p3 len cap3] 59)) (w.heap.size + 1) #[.int .i64 0, .int .i64 0, .int .i64 0, .int .i64 0, .int .i64 0, .int .i64 0, .slice none 0 0] 59) := H3r.out.alloc _
    have H4B : Hid (Below w.heap.size w (w3.alloc (.cells #[.int .i64 x.me, .int .i64 x.rv, .int .i64 x.nx, .int .i64 x.mo, .int .i64 x.bo, .int .i64 x.fr, .slice p3 len cap3] 59))) := H3B.out.alloc H3B.out.size _
    have H4R : Hid (RowD (w3.alloc (.cells #[.int .i64 x.me, .int .i64 x.rv, .int .i64 x.nx, .int .i64 x.mo, .int .i64 x.bo, .int .i64 x.fr, .slice p3 len cap3] 59)) p len x.ds) := H3R.out.below ((Below.refl w3.heap.size w3).alloc (Nat.le_refl _) _)
    have H4F : Hid (deb.Fresh (w3.alloc (.cells #[.int .i64 x.me, .int .i64 x.rv, .int .i64 x.nx, .int .i64 x.mo, .int .i64 x.bo, .int .i64 x.fr, .slice p3 len cap3] 59)) w2.heap.size p3 len cap3 x.ds) := H3F.out.below ((Below.refl w3.heap.size w3).alloc (Nat.le_refl _) _)
    clear hf3 hb3 HCP H3d H3r H3B H3R H3F H1d H1r H1B H1R c3 c6
    by_cases h3 : m = x.mo
    ·have hd3 : (m == x.mo) = true := by simpa using h3
     have HRL : Hid (RollIs x m x 0) := .inr (.inr ⟨HM.out, HRM.out, by unfold rolled; rw [if_pos h3], rfl⟩)
     have c3 : (w3.alloc (.cells #[.int .i64 x.me, .int .i64 x.rv, .int .i64 x.nx, .int .i64 x.mo, .int .i64 x.bo, .int .i64 x.fr, .slice p3 len cap3] 59)).cell? ⟨w.heap.size, 3, none⟩ = some (.int .i64 x.mo) := H4d.out.cell 3
     clear h3 h1 h2 hmo hdm
     go_upto_region 8 with fail
     generalize (w3.alloc (.cells #[.int .i64 x.me, .int .i64 x.rv, .int .i64 x.nx, .int .i64 x.mo, .int .i64 x.bo, .int .i64 x.fr, .slice p3 len cap3] 59)) = W4 at *
     go_wp2_with (first | (refine zqw rfl rfl rfl H4o zqu59 ?_) | (refine zql rfl rfl rfl rfl zqu59 (by simp [Value.oneCell']) H4r rfl ?_) | fail)
     intro WF hU
     have H9r : Hid (Blk WF (w.heap.size + 1) #[.int .i64 x.me, .int .i64 x.rv, .int .i64 x.nx, .int .i64 x.mo, .int .i64 x.bo, .int .i64 x.fr, .slice p3 len cap3] 59) := hU.blk
     have H9B := shV hU H4B (by omega)
     have H9F : Hid (deb.Fresh WF w.heap.size p3 len cap3 x.ds) := (fresh_upd H4F.out hU (by omega)).low (by omega)
     clear hU
     have Rr0 : Hid (WF.cell? ⟨w.heap.size + 1, 0, none⟩ = some (.int .i64 x.me)) := H9r.out.cell 0
     have Rr1 : Hid (WF.cell? ⟨w.heap.size + 1, 1, none⟩ = some (.int .i64 x.rv)) := H9r.out.cell 1
     have Rr2 : Hid (WF.cell? ⟨w.heap.size + 1, 2, none⟩ = some (.int .i64 x.nx)) := H9r.out.cell 2
     have Rr3 : Hid (WF.cell? ⟨w.heap.size + 1, 3, none⟩ = some (.int .i64 x.mo)) := H9r.out.cell 3
     have Rr4 : Hid (WF.cell? ⟨w.heap.size + 1, 4, none⟩ = some (.int .i64 x.bo)) := H9r.out.cell 4
     have Rr5 : Hid (WF.cell? ⟨w.heap.size + 1, 5, none⟩ = some (.int .i64 x.fr)) := H9r.out.cell 5
     have Rr6 : Hid (WF.cell? ⟨w.heap.size + 1, 6, none⟩ = some (.slice p3 len cap3)) := H9r.out.cell 6
     go_wp2_with fail
     exact bodyPost_ret (v := .tuple #[.agg #[.int .i64 x.me, .int .i64 x.rv, .int .i64 x.nx, .int .i64 x.mo, .int .i64 x.bo, .int .i64 x.fr, .slice p3 len cap3], .int .i64 0]) (by simp [results, Tryz.results80, Rr0.out, Rr1.out, Rr2.out, Rr3.out, Rr4.out, Rr5.out, Rr6.out, go_sem]) rfl ⟨x, p3, len, cap3, _, rfl, HRL.out, H9F.out, H9B.out⟩
    ·have hd3 : (m == x.mo) = false := by simpa using h3
     have hmt : ((m - x.mo).toNat : Int) = m - x.mo := by omega
     have HRL : Hid (rolled x m = ⟨x.me, x.rv, x.nx, m, 0, x.fr, deb.ageAll x.ds (m - x.mo).toNat⟩) := by show _ = _; unfold rolled; rw [if_neg h3]
     have HAG : Hid (Calls Tryz.prog 93 #[.slice p len cap, .int .i64 (m - x.mo)] (w3.alloc (.cells #[.int .i64 x.me, .int .i64 x.rv, .int .i64 x.nx, .int .i64 x.mo, .int .i64 x.bo, .int .i64 x.fr, .slice p3 len cap3] 59)) fun e w' => deb.AgePost (w3.alloc (.cells #[.int .i64 x.me, .int .i64 x.rv, .int .i64 x.nx, .int .i64 x.mo, .int .i64 x.bo, .int .i64 x.fr, .slice p3 len cap3] 59)) x.ds (m - x.mo) e w') := deb.rages p len cap x.ds (m - x.mo) _ H4R.out hl
     have hmr : 0 ≤ m - x.mo ∧ m - x.mo ≤ 2400 := by omega
     have HDM : Hid (deb.Mays x.ds) := hdm
     have HMR : Hid (0 ≤ m - x.mo ∧ m - x.mo ≤ 2400) := hmr
     have c3 : (w3.alloc (.cells #[.int .i64 x.me, .int .i64 x.rv, .int .i64 x.nx, .int .i64 x.mo, .int .i64 x.bo, .int .i64 x.fr, .slice p3 len cap3] 59)).cell? ⟨w.heap.size, 3, none⟩ = some (.int .i64 x.mo) := H4d.out.cell 3
     have c6 : (w3.alloc (.cells #[.int .i64 x.me, .int .i64 x.rv, .int .i64 x.nx, .int .i64 x.mo, .int .i64 x.bo, .int .i64 x.fr, .slice p3 len cap3] 59)).cell? ⟨w.heap.size, 6, none⟩ = some (.slice p len cap) := H4d.out.cell 6
     clear h3 hdm hmr hmt
     go_upto_region 8 with fail
     generalize (w3.alloc (.cells #[.int .i64 x.me, .int .i64 x.rv, .int .i64 x.nx, .int .i64 x.mo, .int .i64 x.bo, .int .i64 x.fr, .slice p3 len cap3] 59)) = W4 at *
     go_wp2_with fail
     refine HAG.out.mono ?_
     rintro e w5 ⟨p5, n5, c5, z5, f5, rfl, hi5, hf5, hb5⟩
     obtain ⟨rfl, rfl⟩ := hi5.got HDM.out HMR.out
     have H5o := shN H4o hb5
     have H5r := shN H4r hb5
     have H5B := shB H4B hb5
     have H5F : Hid (deb.Fresh w5 W4.heap.size p5 n5 c5 (deb.ageAll x.ds (m - x.mo).toNat)) := hf5
     clear hi5 hf5 hb5 HAG H4o H4d H4r H4B H4R H4F c3 c6
     go_wp2_with (first | (refine wp_letS rfl 57 _ _ rfl (w3.heap.size) 6 rfl p5 n5 c5 rfl (by kernel_rfl) #[.int .i64 x.me, .int .i64 x.rv, .int .i64 x.nx, .int .i64 x.mo, .int .i64 x.bo, .int .i64 x.fr, .slice p3 len cap3] 59 H5o.out (by simp) ?_) | fail)
     intro W6 hU
     have H6o : Hid (Blk W6 w3.heap.size #[.int .i64 x.me, .int .i64 x.rv, .int .i64 x.nx, .int .i64 x.mo, .int .i64 x.bo, .int .i64 x.fr, .slice p5 n5 c5] 59) := hU.blk
     have H6r := shK hU H5r (by omega)
     have H6B := shV hU H5B (by omega)
     have H6F : Hid (deb.Fresh W6 W4.heap.size p5 n5 c5 (deb.ageAll x.ds (m - x.mo).toNat)) := fresh_upd H5F.out hU (by omega)
     clear hU H5o H5r H5B H5F
     go_wp2_with (first | (refine wp_let1 rfl 3 _ _ rfl (w3.heap.size) 3 rfl .i64 m rfl (by kernel_rfl) #[.int .i64 x.me, .int .i64 x.rv, .int .i64 x.nx, .int .i64 x.mo, .int .i64 x.bo, .int .i64 x.fr, .slice p5 n5 c5] 59 H6o.out (by simp) ?_) | fail)
     intro W7 hU
     have H7o : Hid (Blk W7 w3.heap.size #[.int .i64 x.me, .int .i64 x.rv, .int .i64 x.nx, .int .i64 m, .int .i64 x.bo, .int .i64 x.fr, .slice p5 n5 c5] 59) := hU.blk
     have H7r := shK hU H6r (by omega)
     have H7B := shV hU H6B (by omega)
     have H7F : Hid (deb.Fresh W7 W4.heap.size p5 n5 c5 (deb.ageAll x.ds (m - x.mo).toNat)) := fresh_upd H6F.out hU (by omega)
     clear hU H6o H6r H6B H6F
     go_wp2_with (first | (refine wp_let1 rfl 3 _ _ rfl (w3.heap.size) 4 rfl .i64 0 rfl (by kernel_rfl) #[.int .i64 x.me, .int .i64 x.rv, .int .i64 x.nx, .int .i64 m, .int .i64 x.bo, .int .i64 x.fr, .slice p5 n5 c5] 59 H7o.out (by simp) ?_) | fail)
     intro W8 hU
     have H8o : Hid (Blk W8 w3.heap.size #[.int .i64 x.me, .int .i64 x.rv, .int .i64 x.nx, .int .i64 m, .int .i64 0, .int .i64 x.fr, .slice p5 n5 c5] 59) := hU.blk
     have H8r := shK hU H7r (by omega)
     have H8B := shV hU H7B (by omega)
     have H8F : Hid (deb.Fresh W8 W4.heap.size p5 n5 c5 (deb.ageAll x.ds (m - x.mo).toNat)) := fresh_upd H7F.out hU (by omega)
     clear hU H7o H7r H7B H7F
     go_wp2_with (first | (refine zqw rfl rfl rfl H8o zqu59 ?_) | (refine zql rfl rfl rfl rfl zqu59 (by simp [Value.oneCell']) H8r rfl ?_) | fail)
     intro WF hU
     have H9r : Hid (Blk WF (w.heap.size + 1) #[.int .i64 x.me, .int .i64 x.rv, .int .i64 x.nx, .int .i64 m, .int .i64 0, .int .i64 x.fr, .slice p5 n5 c5] 59) := hU.blk
     have H9B := shV hU H8B (by omega)
     have H9F : Hid (deb.Fresh WF w.heap.size p5 n5 c5 (deb.ageAll x.ds (m - x.mo).toNat)) := (fresh_upd H8F.out hU (by omega)).low (by omega)
     clear hU
     have Rr0 : Hid (WF.cell? ⟨w.heap.size + 1, 0, none⟩ = some (.int .i64 x.me)) := H9r.out.cell 0
     have Rr1 : Hid (WF.cell? ⟨w.heap.size + 1, 1, none⟩ = some (.int .i64 x.rv)) := H9r.out.cell 1
     have Rr2 : Hid (WF.cell? ⟨w.heap.size + 1, 2, none⟩ = some (.int .i64 x.nx)) := H9r.out.cell 2
     have Rr3 : Hid (WF.cell? ⟨w.heap.size + 1, 3, none⟩ = some (.int .i64 m)) := H9r.out.cell 3
     have Rr4 : Hid (WF.cell? ⟨w.heap.size + 1, 4, none⟩ = some (.int .i64 0)) := H9r.out.cell 4
     have Rr5 : Hid (WF.cell? ⟨w.heap.size + 1, 5, none⟩ = some (.int .i64 x.fr)) := H9r.out.cell 5
     have Rr6 : Hid (WF.cell? ⟨w.heap.size + 1, 6, none⟩ = some (.slice p5 n5 c5)) := H9r.out.cell 6
     go_wp2_with fail
     exact bodyPost_ret (v := .tuple #[.agg #[.int .i64 x.me, .int .i64 x.rv, .int .i64 x.nx, .int .i64 m, .int .i64 0, .int .i64 x.fr, .slice p5 n5 c5], .int .i64 0]) (by simp [results, Tryz.results80, Rr0.out, Rr1.out, Rr2.out, Rr3.out, Rr4.out, Rr5.out, Rr6.out, go_sem]) rfl ⟨⟨x.me, x.rv, x.nx, m, 0, x.fr, deb.ageAll x.ds (m - x.mo).toNat⟩, p5, n5, c5, _, rfl, .inr (.inr ⟨HM.out, HRM.out, HRL.out.symm, rfl⟩), H9F.out, H9B.out⟩
  ·rw [decide_eq_false h1] at HIM
   have HER : Hid (RollIs x m ac0 2) := .inr (.inl ⟨HM.out, fun hh => h1 hh.1, .inl ⟨h1, rfl⟩, rfl⟩)
   clear h1 hmo hdm
   go_wp2_with fail
   refine (HIM.out _).mono ?_
   rintro e w2 ⟨rfl, hw2⟩
   subst hw2
   go_wp2_with (first | (refine zql rfl rfl rfl rfl zqu59 (by simp [Value.oneCell']) H1r rfl ?_) | fail)
   intro WF hU
   have H9r : Hid (Blk WF (w.heap.size + 1) #[.int .i64 0, .int .i64 0, .int .i64 0, .int .i64 0, .int .i64 0, .int .i64 0, .slice none 0 0] 59) := hU.blk
   have H9B := shV hU H1B (by omega)
   clear hU
   obtain ⟨Rr0, Rr1, Rr2, Rr3, Rr4, Rr5, Rr6⟩ := shc7 H9r
   go_wp2_with fail
   exact bodyPost_ret (v := .tuple #[.agg #[.int .i64 0, .int .i64 0, .int .i64 0, .int .i64 0, .int .i64 0, .int .i64 0, .slice none 0 0], .int .i64 2]) (by simp [results, Tryz.results80, Rr0.out, Rr1.out, Rr2.out, Rr3.out, Rr4.out, Rr5.out, Rr6.out, go_sem]) rfl ⟨ac0, none, 0, 0, _, rfl, HER.out, deb.fresh_nil _ _, H9B.out⟩
 ·skip
  have HAM : Hid (Calls Tryz.prog 47 #[.agg #[.int .i64 x.me, .int .i64 x.rv, .int .i64 x.nx, .int .i64 x.mo, .int .i64 x.bo, .int .i64 x.fr, .slice p len cap]] ((w.alloc (.cells #[.int .i64 x.me, .int .i64 x.rv, .int .i64 x.nx, .int .i64 x.mo, .int .i64 x.bo, .int .i64 x.fr, .slice p len cap] 59)).alloc (.cells #[.int .i64 0, .int .i64 0, .int .i64 0, .int .i64 0, .int .i64 0, .int .i64 0, .slice none 0 0] 59)) fun e w' => e = .returned (.bool false) ∧ Below ((w.alloc (.cells #[.int .i64 x.me, .int .i64 x.rv, .int .i64 x.nx, .int .i64 x.mo, .int .i64 x.bo, .int .i64 x.fr, .slice p len cap] 59)).alloc (.cells #[.int .i64 0, .int .i64 0, .int .i64 0, .int .i64 0, .int .i64 0, .int .i64 0, .slice none 0 0] 59)).heap.size ((w.alloc (.cells #[.int .i64 x.me, .int .i64 x.rv, .int .i64 x.nx, .int .i64 x.mo, .int .i64 x.bo, .int .i64 x.fr, .slice p len cap] 59)).alloc (.cells #[.int .i64 0, .int .i64 0, .int .i64 0, .int .i64 0, .int .i64 0, .int .i64 0, .slice none 0 0] 59)) w') := ranot x p len cap _ HROW.out hl hm
  have HM : Hid (¬ AMay x) := hm
  clear h hm
  generalize hWW : ((w.alloc (.cells #[.int .i64 x.me, .int .i64 x.rv, .int .i64 x.nx, .int .i64 x.mo, .int .i64 x.bo, .int .i64 x.fr, .slice p len cap] 59)).alloc (.cells #[.int .i64 0, .int .i64 0, .int .i64 0, .int .i64 0, .int .i64 0, .int .i64 0, .slice none 0 0] 59)) = W2 at *
  have HWW : Hid (((w.alloc (.cells #[.int .i64 x.me, .int .i64 x.rv, .int .i64 x.nx, .int .i64 x.mo, .int .i64 x.bo, .int .i64 x.fr, .slice p len cap] 59)).alloc (.cells #[.int .i64 0, .int .i64 0, .int .i64 0, .int .i64 0, .int .i64 0, .int .i64 0, .slice none 0 0] 59)) = W2) := hWW
  clear hWW
  go_enter Tryz.func80, Tryz.ntmps80
  go_upto_region 1 with fail
  rw [HWW.out]
  clear HWW
  go_wp2_with (first | (refine zqw rfl rfl rfl H0d zqu59 ?_) | fail)
  refine HAM.out.mono ?_
  rintro e w1 ⟨rfl, hb1⟩
  have H1d : Hid (Blk w1 w.heap.size #[.int .i64 x.me, .int .i64 x.rv, .int .i64 x.nx, .int .i64 x.mo, .int .i64 x.bo, .int .i64 x.fr, .slice p len cap] 59) := H0d.out.below hb1 (by omega)
  have H1r : Hid (Blk w1 (w.heap.size + 1) #[.int .i64 0, .int .i64 0, .int .i64 0, .int .i64 0, .int .i64 0, .int .i64 0, .slice none 0 0] 59) := H0r.out.below hb1 (by omega)
  have H1B := shB H0B hb1
  have H1R : Hid (RowD w1 p len x.ds) := HROW.out.below hb1
  have hs2 : w.heap.size + 1 < w1.heap.size := Nat.lt_of_lt_of_le hs1 hb1.size
  clear hb1 HAM HROW H0d H0r H0B hs1
  go_wp2_with (first | (refine zql rfl rfl rfl rfl zqu59 (by simp [Value.oneCell']) H1r rfl ?_) | fail)
  intro WF hU
  have H9r : Hid (Blk WF (w.heap.size + 1) #[.int .i64 0, .int .i64 0, .int .i64 0, .int .i64 0, .int .i64 0, .int .i64 0, .slice none 0 0] 59) := hU.blk
  have H9B := shV hU H1B (by omega)
  clear hU
  obtain ⟨Rr0, Rr1, Rr2, Rr3, Rr4, Rr5, Rr6⟩ := shc7 H9r
  go_wp2_with fail
  exact bodyPost_ret (v := .tuple #[.agg #[.int .i64 0, .int .i64 0, .int .i64 0, .int .i64 0, .int .i64 0, .int .i64 0, .slice none 0 0], .int .i64 5]) (by simp [results, Tryz.results80, Rr0.out, Rr1.out, Rr2.out, Rr3.out, Rr4.out, Rr5.out, Rr6.out, go_sem]) rfl ⟨ac0, none, 0, 0, _, rfl, .inl ⟨HM.out, rfl, rfl⟩, deb.fresh_nil _ _, H9B.out⟩
end acc
end Go.Proofs.YtomibnggmhjdfaaGreat
