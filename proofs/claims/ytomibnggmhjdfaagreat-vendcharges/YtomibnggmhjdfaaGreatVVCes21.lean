import Derived.Test.YtomibnggmhjdfaaGreatVVCes7
import Derived.Test.YtomibnggmhjdfaaGreatVVCes8
import Derived.Test.YtomibnggmhjdfaaGreatVVCes9
import Derived.Test.YtomibnggmhjdfaaGreatVVCes13
set_option linter.unusedVariables false
set_option linter.unusedSimpArgs false
namespace Go.Proofs.YtomibnggmhjdfaaGreat
namespace deb
open tar (Du du0 Came RowD Ld ErrPost TwoPost PairT GaveD)
open Go.RowKit
set_option maxRecDepth 100000
set_option maxHeartbeats 4000000 in
theorem rrec (a : Option Addr) (len cap : Nat) (ls : List Du) (t bp : Int) (w : World) (hr : RowD w a len ls) (hl : len ≤ maxLen) : Calls Tryz.prog 81 #[.slice a len cap, .int .i64 t, .int .i64 bp] w fun e w' => RecPost w ls t bp e w' := by
 have HFA : Hid (Calls Tryz.prog 70 #[.slice a len cap] w fun e w' => ∃ f, e = .returned (.int .i64 f) ∧ FaultIs ls f ∧ w' = w) := rfault a len cap ls w hr hl
 have HSH : Hid (∀ W, Calls Tryz.prog 94 #[.int .i64 t, .int .i64 bp] W fun e w' => ∃ s f, e = .returned (.tuple #[.int .i64 s, .int .i64 f]) ∧ ShareIs t bp s f ∧ w' = W) := fun W => rshare t bp W
 have hlen := hr.1
 go_enter Tryz.func81, Tryz.ntmps81
 go_wp2_with fail
 refine HFA.out.mono ?_
 rintro e w1 ⟨f, rfl, hf, hw1⟩
 subst hw1
 have HF : Hid (FaultIs ls f) := hf
 by_cases h0 : f = 0
 ·subst h0
  have hm := hf.ok.1 rfl
  have HM : Hid (Mays ls) := hm
  have HLEN : Hid (ls.length = len) := hlen
  have hl8 : len ≤ 8 := by have := hm.1; omega
  have HROW : Hid (RowD w1 a len ls) := hr
  clear hf hm hr hl HFA hlen HF
  go_wp2_with fail
  refine (HSH.out _).mono ?_
  rintro e w2 ⟨s, g, rfl, hs, hw2⟩
  subst hw2
  rcases hs with ⟨ht, hse, hg⟩ | ⟨ht, hse, hg⟩
  ·have HT : Hid (TMay t bp) := ht
   have hsb := share_bd ht
   rw [← hse] at hsb
   have HSE : Hid (s = t * bp / 10000) := hse
   subst hg
   clear ht hse HSH
   go_wp2_with fail
   go_loopw [11, 12, 13] (fun u v x wr => ∃ (k : Nat) (V : Value), k ≤ len ∧ x = .int .i64 (k : Int) ∧ v = .int .i64 (sumK ls k) ∧ V = u ∧ Ld 43 wr w2.heap.size V (recK ls s k) ∧ Below w2.heap.size w2 wr) (fun _ _ x _ => len - (intOf x).toNat)
   case atStart => exact ⟨0, _, Nat.zero_le _, rfl, rfl, rfl, tar.Ld.zero _ _ _, Below.refl _ _⟩
   case round =>
    obtain ⟨k, V, hk, rfl, rfl, hV, hu, hb⟩ := hrel
    subst hV
    have HBW : Hid (Below w2.heap.size w2 wr) := hb
    have HU : Hid (Ld 43 wr w2.heap.size V (recK ls s k)) := hu
    have hsk := sumK_bd HM.out k (by rw [HLEN.out]; exact hk)
    by_cases hlt : k < len
    ·have hdl : decide ((k : Int) < (len : Int)) = true := by simp; omega
     obtain ⟨b, off, rfl, hbl, hc⟩ := HROW.out.at (by omega)
     have c0 : wr.cell? ⟨b, off + k * 2, none⟩ = some (.int .i64 (ls.getD k du0).a) := (hb.cell (p := ⟨b, off + k * 2, none⟩) hbl).trans (hc k hlt).1
     have c1 : wr.cell? ⟨b, off + k * 2 + 1, none⟩ = some (.int .i64 (ls.getD k du0).b) := (hb.cell (p := ⟨b, off + k * 2 + 1, none⟩) hbl).trans (hc k hlt).2
     have ho := HM.out.2 k (by rw [HLEN.out]; exact hlt)
     have ho1 := ho.1.1
     have ho2 := ho.1.2
     have HN : Hid (sumK ls k + (ls.getD k du0).a = sumK ls (k + 1)) := (sumK_next ls k).symm
     have HY : Hid (0 < left (ls.getD k du0).a (sumK ls k + (ls.getD k du0).a) s → recK ls s (k + 1) = recK ls s k ++ [⟨left (ls.getD k du0).a (sumK ls k + (ls.getD k du0).a) s, (ls.getD k du0).b⟩]) := recK_yes ls s k
     have HZ : Hid (¬ 0 < left (ls.getD k du0).a (sumK ls k + (ls.getD k du0).a) s → recK ls s (k + 1) = recK ls s k) := recK_no ls s k
     have hzl : (recK ls s k).length ≤ 1000000 := by have := recK_len ls s k; omega
     clear hc hb hu ho
     generalize recK ls s k = Z at *
     generalize sumK ls k = q at *
     generalize (ls.getD k du0).a = x at *
     generalize (ls.getD k du0).b = y at *
     by_cases hgt : x < q + x - s
     ·have hd1 : decide (x < q + x - s) = true := decide_eq_true hgt
      have hle : left x (q + x) s = x := by unfold left; omega
      rw [hle] at HY HZ
      clear hgt hle
      by_cases hpos : 0 < x
      ·have hd2 : decide (0 < x) = true := decide_eq_true hpos
       have HZ2 : Hid (recK ls s (k + 1) = Z ++ [⟨x, y⟩]) := HY.out hpos
       clear HY HZ hpos
       have HBA : Hid (Below w2.heap.size w2 (wr.alloc (.cells #[.int .i64 x, .int .i64 y] 43))) := HBW.out.alloc HBW.out.size _
       have HZA : Hid (Ld 43 (wr.alloc (.cells #[.int .i64 x, .int .i64 y] 43)) w2.heap.size V Z) := HU.out.alloc _
       have HCA : Hid ((wr.alloc (.cells #[.int .i64 x, .int .i64 y] 43)).cell? ⟨wr.heap.size, 0, none⟩ = some (.int .i64 x) ∧ (wr.alloc (.cells #[.int .i64 x, .int .i64 y] 43)).cell? ⟨wr.heap.size, 1, none⟩ = some (.int .i64 y)) := ⟨(Blk.new wr _ _).cell 0, (Blk.new wr _ _).cell 1⟩
       go_wp2_with (first
        | (at_builtin; refine tar.wp_pair debtT rfl _ _ rfl w2.heap.size (wr.heap.size) V Z ⟨x, y⟩ rfl rfl HZA.out HCA.out hzl HBA.out.size ?_)
        | fail)
       intro v3 w3 h3 hg3
       have HB3 : Hid (Below w2.heap.size w2 w3) := tar.own_bel HZA.out hg3 HBA.out (Nat.le_refl _) HBA.out.size
       have H3 : Hid (Ld 43 w3 w2.heap.size v3 (Z ++ [⟨x, y⟩])) := h3
       clear h3 hg3 HZA HCA HBA HU c0 c1
       go_wp2_with fail
       go_roundw
       case rel => exact ⟨k + 1, v3, by omega, by go_num, by rw [← HN.out], by first | rfl | trivial, by rw [HZ2.out]; exact H3.out, HB3.out⟩
       case measure => simp [intOf]; omega
      ·have hd2 : decide (0 < x) = false := decide_eq_false hpos
       have HZ2 : Hid (recK ls s (k + 1) = Z) := HZ.out hpos
       clear HY HZ hpos
       go_wp2_with fail
       go_roundw
       case rel => exact ⟨k + 1, V, by omega, by go_num, by rw [← HN.out], by first | rfl | trivial, by rw [HZ2.out]; exact HU.out, HBW.out⟩
       case measure => simp [intOf]; omega
     ·have hd1 : decide (x < q + x - s) = false := decide_eq_false hgt
      have hle : left x (q + x) s = q + x - s := by unfold left; omega
      rw [hle] at HY HZ
      clear hgt hle
      by_cases hpos : 0 < q + x - s
      ·have hd2 : decide (0 < q + x - s) = true := decide_eq_true hpos
       have hd3 : decide (s < q + x) = true := decide_eq_true (by omega)
       have HZ2 : Hid (recK ls s (k + 1) = Z ++ [⟨q + x - s, y⟩]) := HY.out hpos
       clear HY HZ hpos
       have HBA : Hid (Below w2.heap.size w2 (wr.alloc (.cells #[.int .i64 (q + x - s), .int .i64 y] 43))) := HBW.out.alloc HBW.out.size _
       have HZA : Hid (Ld 43 (wr.alloc (.cells #[.int .i64 (q + x - s), .int .i64 y] 43)) w2.heap.size V Z) := HU.out.alloc _
       have HCA : Hid ((wr.alloc (.cells #[.int .i64 (q + x - s), .int .i64 y] 43)).cell? ⟨wr.heap.size, 0, none⟩ = some (.int .i64 (q + x - s)) ∧ (wr.alloc (.cells #[.int .i64 (q + x - s), .int .i64 y] 43)).cell? ⟨wr.heap.size, 1, none⟩ = some (.int .i64 y)) := ⟨(Blk.new wr _ _).cell 0, (Blk.new wr _ _).cell 1⟩
       go_wp2_with (first
        | (at_builtin; refine tar.wp_pair debtT rfl _ _ rfl w2.heap.size (wr.heap.size) V Z ⟨(q + x - s), y⟩ rfl rfl HZA.out HCA.out hzl HBA.out.size ?_)
        | fail)
       intro v3 w3 h3 hg3
       have HB3 : Hid (Below w2.heap.size w2 w3) := tar.own_bel HZA.out hg3 HBA.out (Nat.le_refl _) HBA.out.size
       have H3 : Hid (Ld 43 w3 w2.heap.size v3 (Z ++ [⟨(q + x - s), y⟩])) := h3
       clear h3 hg3 HZA HCA HBA HU c0 c1
       go_wp2_with fail
       go_roundw
       case rel => exact ⟨k + 1, v3, by omega, by go_num, by rw [← HN.out], by first | rfl | trivial, by rw [HZ2.out]; exact H3.out, HB3.out⟩
       case measure => simp [intOf]; omega
      ·have hd2 : decide (0 < q + x - s) = false := decide_eq_false hpos
       have hd3 : decide (s < q + x) = false := decide_eq_false (by omega)
       have HZ2 : Hid (recK ls s (k + 1) = Z) := HZ.out hpos
       clear HY HZ hpos
       go_wp2_with fail
       go_roundw
       case rel => exact ⟨k + 1, V, by omega, by go_num, by rw [← HN.out], by first | rfl | trivial, by rw [HZ2.out]; exact HU.out, HBW.out⟩
       case measure => simp [intOf]; omega
    ·obtain rfl : k = len := by omega
     have hdl : decide ((k : Int) < (k : Int)) = false := by simp
     have HV : Hid (sumK ls k = sumD ls) := by have := sumK_all ls; rw [HLEN.out] at this; exact this
     have HRE : Hid (recK ls s k = recK ls (t * bp / 10000) ls.length) := by show _ = _; rw [HLEN.out, HSE.out]
     have hmz : Mays (recK ls s k) := ⟨Nat.le_trans (recK_len ls s k) hl8, fits_mem fun d hd => (recK_ok HM.out s k (by rw [HLEN.out]; exact Nat.le_refl _) d hd).1⟩
     obtain ⟨a3, cap3, hv3, hcm⟩ := ld_fresh hu hmz
     subst hv3
     have HCM : Hid (Fresh wr w2.heap.size a3 (recK ls s k).length cap3 (recK ls s k)) := hcm
     clear hb hu hmz hcm HU
     generalize (recK ls s k).length = len3 at *
     generalize recK ls s k = Z at *
     generalize sumK ls k = q at *
     by_cases hpay : s < q
     ·have hd3 : decide (s < q) = true := decide_eq_true hpay
      have HP : Hid (s = min (t * bp / 10000) (sumD ls)) := by show _ = _; rw [← HSE.out, ← HV.out]; omega
      clear hpay
      go_wp2_with fail
      go_ret3
      exact ⟨a3, len3, cap3, Z, s, 0, rfl, .inr (.inr ⟨HM.out, HT.out, rfl, HRE.out, HP.out⟩), HCM.out, HBW.out⟩
     ·have hd3 : decide (s < q) = false := decide_eq_false hpay
      have HP : Hid (q = min (t * bp / 10000) (sumD ls)) := by show _ = _; rw [← HSE.out, ← HV.out]; omega
      clear hpay
      go_wp2_with fail
      go_ret3
      exact ⟨a3, len3, cap3, Z, q, 0, rfl, .inr (.inr ⟨HM.out, HT.out, rfl, HRE.out, HP.out⟩), HCM.out, HBW.out⟩
  ·subst hse hg
   have HT : Hid (¬ TMay t bp) := ht
   clear ht HSH
   go_wp2_with fail
   go_ret3
   exact ⟨none, 0, 0, [], 0, 2, rfl, .inr (.inl ⟨HM.out, HT.out, rfl, rfl, rfl⟩), fresh_nil _ _, Below.refl _ _⟩
 ·have hne : (f != 0) = true := by simpa using h0
  have HN : Hid (¬ Mays ls) := fun h => h0 (hf.ok.2 h)
  clear hf h0 hr hl HFA HSH
  go_wp2_with fail
  go_ret3
  exact ⟨none, 0, 0, [], 0, f, rfl, .inl ⟨HN.out, HF.out, rfl, rfl⟩, fresh_nil _ _, Below.refl _ _⟩
end deb
namespace tar
open Go.RowKit
set_option maxRecDepth 100000
set_option maxHeartbeats 4000000 in
theorem rmost (a : Option Addr) (len cap : Nat) (ls : List Du) (x m : Int) (w : World) (hr : RowD w a len ls) (hl : len ≤ maxLen) : Calls Tryz.prog 83 #[.slice a len cap, .int .i64 x, .int .i64 m] w fun e w' => ThreePost w (MostIs ls x m) e w' := by
 have HMY : Hid (Calls Tryz.prog 95 #[.slice a len cap, .int .i64 x, .int .i64 0] w fun e w' => ErrPost w (MayIs ls x 0) e w') := rmay a len cap ls x 0 w hr hl
 have HIM : Hid (∀ W, Calls Tryz.prog 25 #[.int .i64 m, .int .i64 0, .int .i64 1000000000000] W fun e w' => e = .returned (.bool (decide (0 ≤ m ∧ m ≤ 1000000000000))) ∧ w' = W) := fun W => cal.cin m 0 1000000000000 W
 go_enter Tryz.func83, Tryz.ntmps83
 go_wp2_with fail
 refine HMY.out.mono ?_
 rintro e w1 ⟨f, rfl, hf, hb⟩
 have HB : Hid (Below w.heap.size w w1) := hb
 by_cases h0 : f = 0
 ·subst h0
  have hm := hf.ok.1 rfl
  have hx0 := hm.2.1.1
  have hx1 := hm.2.1.2
  have HR : Hid (Right ls) := hm.1
  have HCO : Hid (∀ (u : Nat) W, Below w1.heap.size w1 W → x + (u : Int) ≤ 10000000 → Calls Tryz.prog 96 #[.slice a len cap, .int .i64 x, .int .i64 (x + (u : Int))] W fun e w' => ValPost W (cost ls x (x + (u : Int))) e w') := fun u W hW hu => rcost a len cap ls x (x + (u : Int)) W ((hr.below hb).below hW) hm.1 hx0 (by omega) hu
  clear hf hb hr hl HMY
  by_cases hmm : 0 ≤ m ∧ m ≤ 1000000000000
  ·rw [decide_eq_true hmm] at HIM
   have HMM : Hid (MayMost x m) := ⟨⟨hx0, hx1⟩, hmm⟩
   obtain ⟨hm0, hm1⟩ := hmm
   obtain ⟨T, hT⟩ : ∃ T : Nat, Top x = (T : Int) := ⟨(Top x).toNat, by unfold Top; omega⟩
   have HT : Hid (Top x = (T : Int)) := hT
   have hT1 : (T : Int) = 2097151 ∨ (T : Int) = 10000000 - x := by unfold Top at hT; omega
   have hT2 : x + (T : Int) ≤ 10000000 := by unfold Top at hT; omega
   have hT3 : (T : Int) ≤ 2097151 := by unfold Top at hT; omega
   have HZ : Hid (cost ls x (x + ((0 : Nat) : Int)) ≤ m) := by show _ ≤ _; rw [show x + ((0 : Nat) : Int) = x by omega, cost_self HR.out]; exact hm0
   clear hm
   go_wp2_with fail
   refine (HIM.out _).mono ?_
   rintro e w2 ⟨rfl, hw2⟩
   subst hw2
   clear HIM
   by_cases hd : 10000000 - x < 2097151
   ·have hdd : decide (10000000 - x < 2097151) = true := decide_eq_true hd
    have HTE : Hid (10000000 - x = (T : Int)) := by show _ = _; unfold Top at hT; omega
    clear hT hT1
    go_wp2_with fail
    go_loopw [10, 11] (fun u v wr => ∃ l h : Nat, l ≤ h ∧ h ≤ T ∧ u = .int .i64 (l : Int) ∧ v = .int .i64 (h : Int) ∧ cost ls x (x + (l : Int)) ≤ m ∧ (h = T ∨ m < cost ls x (x + ((h : Int) + 1))) ∧ Below w2.heap.size w2 wr) (fun u v _ => (intOf v).toNat - (intOf u).toNat)
    case atStart => exact ⟨0, T, Nat.zero_le _, Nat.le_refl _, rfl, by rw [← HTE.out], HZ.out, .inl rfl, Below.refl _ _⟩
    case round =>
     obtain ⟨l, h, hlh, hh, rfl, rfl, hc1, hc2, hbw⟩ := hrel
     have HC1 : Hid (cost ls x (x + (l : Int)) ≤ m) := hc1
     have HC2 : Hid (h = T ∨ m < cost ls x (x + ((h : Int) + 1))) := hc2
     have HBW : Hid (Below w2.heap.size w2 wr) := hbw
     clear hc1 hc2 hbw
     by_cases hlt : l < h
     ·have hdl : decide ((l : Int) < (h : Int)) = true := by simp; omega
      have hq : Int.tdiv ((l : Int) + (h : Int) + 1) 2 = (((l + h + 1) / 2 : Nat) : Int) := by rw [Int.tdiv_eq_ediv_of_nonneg (by omega)]; omega
      have hm1 : l < (l + h + 1) / 2 := by omega
      have hm2 : (l + h + 1) / 2 ≤ h := by omega
      generalize (l + h + 1) / 2 = d at *
      have HCD : Hid (Calls Tryz.prog 96 #[.slice a len cap, .int .i64 x, .int .i64 (x + (d : Int))] wr fun e w' => ValPost wr (cost ls x (x + (d : Int))) e w') := HCO.out d wr HBW.out (by omega)
      by_cases hle : cost ls x (x + (d : Int)) ≤ m
      ·have HLE : Hid (cost ls x (x + (d : Int)) ≤ m) := hle
       have hdc : decide (cost ls x (x + (d : Int)) ≤ m) = true := decide_eq_true hle
       clear hle
       generalize hce : cost ls x (x + (d : Int)) = c at *
       have HCE : Hid (cost ls x (x + (d : Int)) = c) := hce
       clear hce
       go_wp2_with fail
       refine HCD.out.mono ?_
       rintro e w3 ⟨rfl, hb3⟩
       have HB3 := shB HBW hb3
       clear hb3 HCD
       go_wp2_with fail
       go_roundw
       case rel => exact ⟨d, h, hm2, hh, rfl, rfl, by rw [HCE.out]; exact HLE.out, HC2.out, HB3.out⟩
       case measure => simp only [intOf]; omega
      ·have HLE : Hid (m < cost ls x (x + (((d - 1 : Nat) : Int) + 1))) := by show _ < _; rw [show (((d - 1 : Nat) : Int) + 1) = (d : Int) by omega]; omega
       have hdc : decide (cost ls x (x + (d : Int)) ≤ m) = false := decide_eq_false hle
       have hds : (d : Int) - 1 = ((d - 1 : Nat) : Int) := by omega
       clear hle
       have hd1 : l ≤ d - 1 := by omega
       have hd2 : d - 1 ≤ T := by omega
       have hd3 : d - 1 < h := by omega
       generalize d - 1 = d1 at *
       generalize cost ls x (x + (d : Int)) = c at *
       go_wp2_with fail
       refine HCD.out.mono ?_
       rintro e w3 ⟨rfl, hb3⟩
       have HB3 := shB HBW hb3
       clear hb3 HCD
       go_wp2_with fail
       go_roundw
       case rel => exact ⟨l, d1, hd1, hd2, rfl, by first | rfl | (rw [hds]) | go_num, HC1.out, .inr HLE.out, HB3.out⟩
       case measure => simp only [intOf]; omega
     ·obtain rfl : l = h := by omega
      have hdl : decide ((l : Int) < (l : Int)) = false := by simp
      have HCD : Hid (Calls Tryz.prog 96 #[.slice a len cap, .int .i64 x, .int .i64 (x + (l : Int))] wr fun e w' => ValPost wr (cost ls x (x + (l : Int))) e w') := HCO.out l wr HBW.out (by omega)
      have HV : Hid (MostIs ls x m (l : Int) (cost ls x (x + (l : Int))) 0) := .inr (.inr ⟨HR.out, HMM.out, rfl, ⟨⟨by omega, by rw [HT.out]; omega⟩, HC1.out, by rcases HC2.out with h9 | h9; exact .inl (by rw [HT.out]; omega); exact .inr h9⟩, rfl⟩)
      clear HC1 HC2
      generalize cost ls x (x + (l : Int)) = c at *
      go_wp2_with fail
      refine HCD.out.mono ?_
      rintro e w3 ⟨rfl, hb3⟩
      have HB3 : Hid (Below w.heap.size w w3) := HB.out.trans ((HBW.out.trans (hb3.mono HBW.out.size)).mono HB.out.size)
      clear hb3 HCD
      go_wp2_with fail
      go_ret3
      exact ⟨_, _, _, rfl, HV.out, HB3.out⟩
   ·have hdd : decide (10000000 - x < 2097151) = false := decide_eq_false hd
    have HTE : Hid (2097151 = (T : Int)) := by show _ = _; unfold Top at hT; omega
    clear hT hT1
    go_wp2_with fail
    go_loopw [10, 11] (fun u v wr => ∃ l h : Nat, l ≤ h ∧ h ≤ T ∧ u = .int .i64 (l : Int) ∧ v = .int .i64 (h : Int) ∧ cost ls x (x + (l : Int)) ≤ m ∧ (h = T ∨ m < cost ls x (x + ((h : Int) + 1))) ∧ Below w2.heap.size w2 wr) (fun u v _ => (intOf v).toNat - (intOf u).toNat)
    case atStart => exact ⟨0, T, Nat.zero_le _, Nat.le_refl _, rfl, by rw [← HTE.out], HZ.out, .inl rfl, Below.refl _ _⟩
    case round =>
     obtain ⟨l, h, hlh, hh, rfl, rfl, hc1, hc2, hbw⟩ := hrel
     have HC1 : Hid (cost ls x (x + (l : Int)) ≤ m) := hc1
     have HC2 : Hid (h = T ∨ m < cost ls x (x + ((h : Int) + 1))) := hc2
     have HBW : Hid (Below w2.heap.size w2 wr) := hbw
     clear hc1 hc2 hbw
     by_cases hlt : l < h
     ·have hdl : decide ((l : Int) < (h : Int)) = true := by simp; omega
      have hq : Int.tdiv ((l : Int) + (h : Int) + 1) 2 = (((l + h + 1) / 2 : Nat) : Int) := by rw [Int.tdiv_eq_ediv_of_nonneg (by omega)]; omega
      have hm1 : l < (l + h + 1) / 2 := by omega
      have hm2 : (l + h + 1) / 2 ≤ h := by omega
      generalize (l + h + 1) / 2 = d at *
      have HCD : Hid (Calls Tryz.prog 96 #[.slice a len cap, .int .i64 x, .int .i64 (x + (d : Int))] wr fun e w' => ValPost wr (cost ls x (x + (d : Int))) e w') := HCO.out d wr HBW.out (by omega)
      by_cases hle : cost ls x (x + (d : Int)) ≤ m
      ·have HLE : Hid (cost ls x (x + (d : Int)) ≤ m) := hle
       have hdc : decide (cost ls x (x + (d : Int)) ≤ m) = true := decide_eq_true hle
       clear hle
       generalize hce : cost ls x (x + (d : Int)) = c at *
       have HCE : Hid (cost ls x (x + (d : Int)) = c) := hce
       clear hce
       go_wp2_with fail
       refine HCD.out.mono ?_
       rintro e w3 ⟨rfl, hb3⟩
       have HB3 := shB HBW hb3
       clear hb3 HCD
       go_wp2_with fail
       go_roundw
       case rel => exact ⟨d, h, hm2, hh, rfl, rfl, by rw [HCE.out]; exact HLE.out, HC2.out, HB3.out⟩
       case measure => simp only [intOf]; omega
      ·have HLE : Hid (m < cost ls x (x + (((d - 1 : Nat) : Int) + 1))) := by show _ < _; rw [show (((d - 1 : Nat) : Int) + 1) = (d : Int) by omega]; omega
       have hdc : decide (cost ls x (x + (d : Int)) ≤ m) = false := decide_eq_false hle
       have hds : (d : Int) - 1 = ((d - 1 : Nat) : Int) := by omega
       clear hle
       have hd1 : l ≤ d - 1 := by omega
       have hd2 : d - 1 ≤ T := by omega
       have hd3 : d - 1 < h := by omega
       generalize d - 1 = d1 at *
       generalize cost ls x (x + (d : Int)) = c at *
       go_wp2_with fail
       refine HCD.out.mono ?_
       rintro e w3 ⟨rfl, hb3⟩
       have HB3 := shB HBW hb3
       clear hb3 HCD
       go_wp2_with fail
       go_roundw
       case rel => exact ⟨l, d1, hd1, hd2, rfl, by first | rfl | (rw [hds]) | go_num, HC1.out, .inr HLE.out, HB3.out⟩
       case measure => simp only [intOf]; omega
     ·obtain rfl : l = h := by omega
      have hdl : decide ((l : Int) < (l : Int)) = false := by simp
      have HCD : Hid (Calls Tryz.prog 96 #[.slice a len cap, .int .i64 x, .int .i64 (x + (l : Int))] wr fun e w' => ValPost wr (cost ls x (x + (l : Int))) e w') := HCO.out l wr HBW.out (by omega)
      have HV : Hid (MostIs ls x m (l : Int) (cost ls x (x + (l : Int))) 0) := .inr (.inr ⟨HR.out, HMM.out, rfl, ⟨⟨by omega, by rw [HT.out]; omega⟩, HC1.out, by rcases HC2.out with h9 | h9; exact .inl (by rw [HT.out]; omega); exact .inr h9⟩, rfl⟩)
      clear HC1 HC2
      generalize cost ls x (x + (l : Int)) = c at *
      go_wp2_with fail
      refine HCD.out.mono ?_
      rintro e w3 ⟨rfl, hb3⟩
      have HB3 : Hid (Below w.heap.size w w3) := HB.out.trans ((HBW.out.trans (hb3.mono HBW.out.size)).mono HB.out.size)
      clear hb3 HCD
      go_wp2_with fail
      go_ret3
      exact ⟨_, _, _, rfl, HV.out, HB3.out⟩
  ·rw [decide_eq_false hmm] at HIM
   have HV : Hid (MostIs ls x m 0 0 2) := .inr (.inl ⟨HR.out, fun h => hmm h.2, rfl, rfl, rfl⟩)
   clear hmm hm
   go_wp2_with fail
   refine (HIM.out _).mono ?_
   rintro e w2 ⟨rfl, hw2⟩
   subst hw2
   go_wp2_with fail
   go_ret3
   exact ⟨_, _, _, rfl, HV.out, HB.out⟩
 ·have hne : (f != 0) = true := by simpa using h0
  have HV : Hid (MostIs ls x m 0 0 f) := by
   rcases hf with ⟨p, q⟩ | ⟨p, q, r⟩ | ⟨p, q, r⟩
   ·exact .inl ⟨p, q, rfl, rfl⟩
   ·exact .inr (.inl ⟨p, fun h => q ⟨h.1, ⟨by decide, by decide⟩, by have := h.1.2; omega⟩, r, rfl, rfl⟩)
   ·exact absurd r h0
  clear hf h0 hb hr hl HMY
  go_wp2_with fail
  go_ret3
  exact ⟨_, _, _, rfl, HV.out, HB.out⟩
end tar
namespace acc
open tar (Du du0 Came RowD Ld PairT)
open Go.RowKit
set_option maxRecDepth 100000
def RollR (x : Ac) (m : Int) (b0 : Bi) (y : Ac) (b : Bi) (f : Int) : Prop := ((¬ RMay x m ∧ RErr x m f ∧ y = x) ∨ (RMay x m ∧ y = rolled x m ∧ f = 0)) ∧ b = b0
set_option maxHeartbeats 4000000 in
theorem proll (g : Nat) (x : Ac) (b : Bi) (p : Option Addr) (len cap : Nat) (m : Int) (w : World) (hw : Blk w g (wcs x b p len cap) 121) (hd : deb.Fresh w (g + 1) p len cap x.ds) (ha : AMay x) : Calls Tryz.prog 118 #[.pointer (some ⟨g, 0, none⟩), .int .i64 m] w fun e w' => DPost w g (RollR x m b) e w' := by
 have hgl := hw.lt
 have hmo := ha.2.2.2.2.1
 have HMA : Hid (deb.Mays x.ds) := ha.1
 obtain ⟨me, rv, nx, mo, bo, fr, ds⟩ := x
 obtain ⟨id, te, de, fe, pr, ch, un⟩ := b
 simp only [] at hmo
 have HI : Hid (Blk w g #[.int .i64 me, .int .i64 rv, .int .i64 nx, .int .i64 mo, .int .i64 bo, .int .i64 fr, .slice p len cap, .int .i64 id, .int .i64 te, .int .i64 de, .int .i64 fe, .int .i64 pr, .int .i64 ch, .int .i64 un] 121) := hw
 have HD : Hid (deb.Fresh w (g + 1) p len cap ds) := hd
 have HIM : Hid (∀ W, Calls Tryz.prog 69 #[.int .i64 0, .int .i64 2399, .int .i64 m] W fun e w' => e = .returned (.bool (decide (0 ≤ m ∧ m ≤ 2399))) ∧ w' = W) := fun W => awithin 0 2399 m W
 have q3 : w.cell? ⟨g, 3, none⟩ = some (.int .i64 mo) := HI.out.cell 3
 clear hw hd ha
 by_cases h1 : 0 ≤ m ∧ m ≤ 2399
 ·rw [decide_eq_true h1] at HIM
  by_cases h2 : m < mo
  ·have d2 : decide (m < mo) = true := decide_eq_true h2
   have HV : Hid (RollR ⟨me, rv, nx, mo, bo, fr, ds⟩ m ⟨id, te, de, fe, pr, ch, un⟩ ⟨me, rv, nx, mo, bo, fr, ds⟩ ⟨id, te, de, fe, pr, ch, un⟩ 23) := ⟨.inl ⟨fun hh => by have : mo ≤ m := hh.2; omega, .inr ⟨h1, h2, rfl⟩, rfl⟩, rfl⟩
   clear h1 h2 hmo
   go_enter Tryz.func118, Tryz.ntmps118
   go_wp2_with fail
   refine (HIM.out _).mono ?_
   rintro e w2 ⟨rfl, hw2⟩
   subst w2
   go_wp2_with fail
   go_ret
   exact ⟨_, _, p, len, cap, 23, rfl, HV.out, HI.out, HD.out, Chg.refl _ _⟩
  ·have d2 : decide (m < mo) = false := decide_eq_false h2
   have HRM : Hid (RMay ⟨me, rv, nx, mo, bo, fr, ds⟩ m) := ⟨h1, by show mo ≤ m; omega⟩
   by_cases h3 : mo < m
   ·have d3 : decide (mo < m) = true := decide_eq_true h3
    have hwr : IntKind.i64.wrap (m - mo) = m - mo := by rw [IntKind.wrap_i64]; omega
    have HAG : Hid (Calls Tryz.prog 122 #[.slice p len cap, .int .i64 (m - mo)] w.drew fun e w' => deb.AgePost w.drew ds (m - mo) e w') := deb.kage _ p len cap ds (m - mo) (fresh_drew HD.out).came (tar.wf_mid (by omega) (by omega))
    have HMR : Hid (0 ≤ m - mo ∧ m - mo ≤ 2400) := ⟨by omega, by omega⟩
    have HNE : Hid (¬ m = mo) := by show ¬ _ = _; omega
    clear h1 h2 h3
    go_enter Tryz.func118, Tryz.ntmps118
    go_wp2_with fail
    refine (HIM.out _).mono ?_
    rintro e w2 ⟨rfl, hw2⟩
    subst w2
    go_wp2_with fail
    clear HIM d2 d3 q3
    have q6 : w.drew.cell? ⟨g, 6, none⟩ = some (.slice p len cap) := HI.out.cell 6
    refine wp_region_held_drew (S := fun v => v.cell? ⟨g, 3, none⟩ = some (.int .i64 mo)) (by kernel_rfl) (show w.drew.cell? _ = _ from HI.out.cell 3) (fun hHeld => ?_)
    refine zqs 0 26 (.pointer (some ⟨g, 0, none⟩)) rfl rfl (by kernel_rfl) (fun _ _ _ h => h) rfl (fun v hv => by clear hv; go_simp) hHeld ?_
    simp only [Act.put, zqa, zqb, zqc]
    refine zqs 1 27 (.pointer (some ⟨g, 0, none⟩)) rfl rfl (by kernel_rfl) (fun _ _ _ h => h) rfl (fun v hv => by clear hv; go_simp) hHeld ?_
    simp only [Act.put, zqa, zqb, zqc]
    refine zqs 2 28 (.pointer (some ⟨g, 0, none⟩)) rfl rfl (by kernel_rfl) (fun _ _ _ h => h) rfl (fun v hv => by clear hv; go_simp) hHeld ?_
    simp only [Act.put, zqa, zqb, zqc]
    refine zqs 3 29 (.pointer (some ⟨g, 0, none⟩)) rfl rfl (by kernel_rfl) (fun _ _ _ h => h) rfl (fun v hv => by clear hv; go_simp) hHeld ?_
    simp only [Act.put, zqa, zqb, zqc]
    refine zqs 4 30 (.pointer (some ⟨g, 6, none⟩)) rfl rfl (by kernel_rfl) (fun _ _ _ h => h) rfl (fun v hv => by clear hv; go_simp) hHeld ?_
    simp only [Act.put, zqa, zqb, zqc]
    refine zqs 6 32 (.int .i64 m) rfl rfl (by kernel_rfl) (fun _ _ _ h => h) rfl (fun v hv => by clear hv; go_simp) hHeld ?_
    simp only [Act.put, zqa, zqb, zqc]
    refine zqs 7 33 (.pointer (some ⟨g, 0, none⟩)) rfl rfl (by kernel_rfl) (fun _ _ _ h => h) rfl (fun v hv => by clear hv; go_simp) hHeld ?_
    simp only [Act.put, zqa, zqb, zqc]
    refine zqs 8 34 (.pointer (some ⟨g, 0, none⟩)) rfl rfl (by kernel_rfl) (fun _ _ _ h => h) rfl (fun v hv => by clear hv; go_simp) hHeld ?_
    simp only [Act.put, zqa, zqb, zqc]
    refine zqs 9 35 (.pointer (some ⟨g, 0, none⟩)) rfl rfl (by kernel_rfl) (fun _ _ _ h => h) rfl (fun v hv => by clear hv; go_simp) hHeld ?_
    simp only [Act.put, zqa, zqb, zqc]
    refine zqs 10 36 (.pointer (some ⟨g, 3, none⟩)) rfl rfl (by kernel_rfl) (fun _ _ _ h => h) rfl (fun v hv => by clear hv; go_simp) hHeld ?_
    simp only [Act.put, zqa, zqb, zqc]
    refine zqt 11 37 (.int .i64 mo) rfl rfl (by kernel_rfl) (fun _ _ _ h => h) (Or.inl ⟨by rfl, fun v hv => by have g0 := hv; clear hv; go_simp⟩) hHeld ?_
    simp only [Act.put, zqa, zqb, zqc]
    refine zqs 12 38 (.int .i64 (m - mo)) rfl rfl (by kernel_rfl) (fun _ _ _ h => h) rfl (fun v hv => by clear hv; go_simp) hHeld ?_
    simp only [Act.put, zqa, zqb, zqc]
    refine zqo 5 (by kernel_rfl) rfl (fun K hK => ?_)
    rw [if_pos (by rfl)]
    refine wp_runOp (v := .slice p len cap) (w' := w.drew) 31 rfl (by clear hK; go_simp) ?_
    refine hK.out _ _ (show w.drew.cell? _ = _ from HI.out.cell 3) (fun hHeld => ?_)
    clear hK K q6
    simp only [Act.put, zqa, zqb, zqc]
    refine zqo 13 (by kernel_rfl) rfl (fun K hK => ?_)
    rw [if_pos (by rfl)]
    refine wp_callOp 39 rfl (by clear hK; go_simp) HAG.out ?_
    rintro e w1 ⟨q, n, c, z, f, rfl, hz, hf, hb1⟩
    obtain ⟨rfl, hz2⟩ := hz.got HMA.out HMR.out
    have HI1 : Hid (Blk w1 g #[.int .i64 me, .int .i64 rv, .int .i64 nx, .int .i64 mo, .int .i64 bo, .int .i64 fr, .slice p len cap, .int .i64 id, .int .i64 te, .int .i64 de, .int .i64 fe, .int .i64 pr, .int .i64 ch, .int .i64 un] 121) := (Blk.drew HI.out 1).next hb1
    have HC1 : Hid (Chg w w1 g) := (Chg.of (bel_drew (Below.refl _ _) 1)).trans (.of hb1)
    have HF1 : Hid (deb.Fresh w1 (g + 1) q n c z) := hf.low (by show g + 1 ≤ w.heap.size; omega)
    have HZ : Hid (z = deb.ageAll ds (m - mo).toNat) := hz2
    refine ⟨_, rfl, hK.out _ _ (HI1.out.cell 3) (fun hHeld => ?_)⟩
    clear hK K hz hf hb1 hz2 HAG HI HD
    simp only [Act.put, zqa, zqb, zqc]
    refine zqs 14 25 (.tuple #[.slice q n c, .int .i64 0]) rfl rfl (by kernel_rfl) (fun _ _ _ h => h) rfl (fun v hv => by clear hv; go_simp) hHeld ?_
    simp only [Act.put, zqa, zqb, zqc]
    refine zqs 15 40 (.slice q n c) rfl rfl (by kernel_rfl) (fun _ _ _ h => h) rfl (fun v hv => by clear hv; go_simp) hHeld ?_
    simp only [Act.put, zqa, zqb, zqc]
    refine zqs 16 41 (.int .i64 0) rfl rfl (by kernel_rfl) (fun _ _ _ h => h) rfl (fun v hv => by clear hv; go_simp) hHeld ?_
    simp only [Act.put, zqa, zqb, zqc]
    refine zqs 17 42 (.pointer (some ⟨g, 0, none⟩)) rfl rfl (by kernel_rfl) (fun _ _ _ h => h) rfl (fun v hv => by clear hv; go_simp) hHeld ?_
    simp only [Act.put, zqa, zqb, zqc]
    refine zqs 18 43 (.pointer (some ⟨g, 0, none⟩)) rfl rfl (by kernel_rfl) (fun _ _ _ h => h) rfl (fun v hv => by clear hv; go_simp) hHeld ?_
    simp only [Act.put, zqa, zqb, zqc]
    refine zqs 19 44 (.pointer (some ⟨g, 6, none⟩)) rfl rfl (by kernel_rfl) (fun _ _ _ h => h) rfl (fun v hv => by clear hv; go_simp) hHeld ?_
    simp only [Act.put, zqa, zqb, zqc]
    refine zqo 20 (by kernel_rfl) rfl (fun K hK => ?_)
    rw [if_pos (by rfl)]
    refine wp_letOp1 57 _ _ rfl g 6 rfl (.slice q n c) rfl rfl (by kernel_rfl) rfl #[.int .i64 me, .int .i64 rv, .int .i64 nx, .int .i64 mo, .int .i64 bo, .int .i64 fr, .slice p len cap, .int .i64 id, .int .i64 te, .int .i64 de, .int .i64 fe, .int .i64 pr, .int .i64 ch, .int .i64 un] 121 HI1.out (by simp) rfl ?_
    intro W2 hU
    have HI2 : Hid (Blk W2 g #[.int .i64 me, .int .i64 rv, .int .i64 nx, .int .i64 mo, .int .i64 bo, .int .i64 fr, .slice q n c, .int .i64 id, .int .i64 te, .int .i64 de, .int .i64 fe, .int .i64 pr, .int .i64 ch, .int .i64 un] 121) := hU.blk
    have HC2 : Hid (Chg w W2 g) := HC1.out.trans (.upd hU)
    have HF2 : Hid (deb.Fresh W2 (g + 1) q n c z) := fresh_chg HF1.out (.upd hU)
    clear hU HF1 HC1
    refine hK.out _ _ (HI2.out.cell 3) (fun hHeld => ?_)
    clear hK K HI1
    refine wpAnyH_done (by kernel_rfl) ?_ _
    clear hHeld
    go_wp2_with (first | (refine wp_let1 rfl 3 _ _ rfl g 3 rfl .i64 m rfl (by kernel_rfl) #[.int .i64 me, .int .i64 rv, .int .i64 nx, .int .i64 mo, .int .i64 bo, .int .i64 fr, .slice q n c, .int .i64 id, .int .i64 te, .int .i64 de, .int .i64 fe, .int .i64 pr, .int .i64 ch, .int .i64 un] 121 HI2.out (by simp) ?_) | fail)
    intro W3 hU
    have HI3 : Hid (Blk W3 g #[.int .i64 me, .int .i64 rv, .int .i64 nx, .int .i64 m, .int .i64 bo, .int .i64 fr, .slice q n c, .int .i64 id, .int .i64 te, .int .i64 de, .int .i64 fe, .int .i64 pr, .int .i64 ch, .int .i64 un] 121) := hU.blk
    have HC3 : Hid (Chg w W3 g) := HC2.out.trans (.upd hU)
    have HF3 : Hid (deb.Fresh W3 (g + 1) q n c z) := fresh_chg HF2.out (.upd hU)
    clear hU HF2 HC2 HI2
    go_wp2_with (first | (refine wp_let1 rfl 3 _ _ rfl g 4 rfl .i64 0 rfl (by kernel_rfl) #[.int .i64 me, .int .i64 rv, .int .i64 nx, .int .i64 m, .int .i64 bo, .int .i64 fr, .slice q n c, .int .i64 id, .int .i64 te, .int .i64 de, .int .i64 fe, .int .i64 pr, .int .i64 ch, .int .i64 un] 121 HI3.out (by simp) ?_) | fail)
    intro W4 hU
    have HI4 : Hid (Blk W4 g #[.int .i64 me, .int .i64 rv, .int .i64 nx, .int .i64 m, .int .i64 0, .int .i64 fr, .slice q n c, .int .i64 id, .int .i64 te, .int .i64 de, .int .i64 fe, .int .i64 pr, .int .i64 ch, .int .i64 un] 121) := hU.blk
    have HC4 : Hid (Chg w W4 g) := HC3.out.trans (.upd hU)
    have HF4 : Hid (deb.Fresh W4 (g + 1) q n c z) := fresh_chg HF3.out (.upd hU)
    have HV : Hid (RollR ⟨me, rv, nx, mo, bo, fr, ds⟩ m ⟨id, te, de, fe, pr, ch, un⟩ ⟨me, rv, nx, m, 0, fr, z⟩ ⟨id, te, de, fe, pr, ch, un⟩ 0) := ⟨.inr ⟨HRM.out, by unfold rolled; rw [if_neg HNE.out, HZ.out], rfl⟩, rfl⟩
    clear hU HF3 HC3 HI3
    go_wp2_with fail
    go_ret
    exact ⟨⟨me, rv, nx, m, 0, fr, z⟩, _, q, n, c, 0, rfl, HV.out, HI4.out, HF4.out, HC4.out⟩
   ·have d3 : decide (mo < m) = false := decide_eq_false h3
    have HV : Hid (RollR ⟨me, rv, nx, mo, bo, fr, ds⟩ m ⟨id, te, de, fe, pr, ch, un⟩ ⟨me, rv, nx, mo, bo, fr, ds⟩ ⟨id, te, de, fe, pr, ch, un⟩ 0) := ⟨.inr ⟨HRM.out, by unfold rolled; rw [if_pos (by show m = mo; omega)], rfl⟩, rfl⟩
    clear h1 h2 h3 hmo
    go_enter Tryz.func118, Tryz.ntmps118
    go_wp2_with fail
    refine (HIM.out _).mono ?_
    rintro e w2 ⟨rfl, hw2⟩
    subst w2
    go_wp2_with fail
    go_ret
    exact ⟨_, _, p, len, cap, 0, rfl, HV.out, HI.out, HD.out, Chg.refl _ _⟩
 ·rw [decide_eq_false h1] at HIM
  have HV : Hid (RollR ⟨me, rv, nx, mo, bo, fr, ds⟩ m ⟨id, te, de, fe, pr, ch, un⟩ ⟨me, rv, nx, mo, bo, fr, ds⟩ ⟨id, te, de, fe, pr, ch, un⟩ 2) := ⟨.inl ⟨fun hh => h1 hh.1, .inl ⟨h1, rfl⟩, rfl⟩, rfl⟩
  clear h1 hmo q3
  go_enter Tryz.func118, Tryz.ntmps118
  go_wp2_with fail
  refine (HIM.out _).mono ?_
  rintro e w2 ⟨rfl, hw2⟩
  subst w2
  go_wp2_with fail
  go_ret
  exact ⟨_, _, p, len, cap, 2, rfl, HV.out, HI.out, HD.out, Chg.refl _ _⟩
set_option maxHeartbeats 4000000 in
theorem kcheck : KcCheck := by
 intro w t pt lt ct hc
 have h := hc.ts
 unfold Tm.v
 have HI0 : Hid (∀ W, Calls Tryz.prog 69 #[.int .i64 0, .int .i64 100000, .int .i64 t.ff] W fun e w' => e = .returned (.bool (decide (0 ≤ t.ff ∧ t.ff ≤ 100000))) ∧ w' = W) := fun W => awithin 0 100000 t.ff W
 have HI1 : Hid (∀ W, Calls Tryz.prog 69 #[.int .i64 0, .int .i64 10000, .int .i64 t.fb] W fun e w' => e = .returned (.bool (decide (0 ≤ t.fb ∧ t.fb ≤ 10000))) ∧ w' = W) := fun W => awithin 0 10000 t.fb W
 have HI2 : Hid (∀ W, Calls Tryz.prog 69 #[.int .i64 0, .int .i64 10000, .int .i64 t.db] W fun e w' => e = .returned (.bool (decide (0 ≤ t.db ∧ t.db ≤ 10000))) ∧ w' = W) := fun W => awithin 0 10000 t.db W
 have HI3 : Hid (∀ W, Calls Tryz.prog 69 #[.int .i64 0, .int .i64 2097151, .int .i64 t.al] W fun e w' => e = .returned (.bool (decide (0 ≤ t.al ∧ t.al ≤ 2097151))) ∧ w' = W) := fun W => awithin 0 2097151 t.al W
 obtain ⟨WW, HWW, HBK, HBA, -⟩ := sh1 w #[.slice pt lt ct, .int .i64 t.ff, .int .i64 t.fb, .int .i64 t.db, .int .i64 t.al] 24
 have HTO : Hid (Calls Tryz.prog 75 #[.slice pt lt ct] WW fun e w' => tar.ErrPost WW (tar.FaultIs t.ts) e w') := tar.kcheck _ pt lt ct t.ts (h.below HBA.out)
 have c0 : WW.cell? ⟨w.heap.size, 0, none⟩ = some (.slice pt lt ct) := HBK.out.cell 0
 clear h hc
 go_enter Tryz.func51, Tryz.ntmps51
 go_upto_region 1 with fail
 rw [HWW.out]
 clear HWW
 go_wp2_with fail
 refine HTO.out.mono ?_
 rintro e w1 ⟨f, rfl, hf, hb1⟩
 have HB1 := shB HBA hb1
 have HK1 := shN HBK hb1
 have HF : Hid (tar.FaultIs t.ts f) := hf
 clear hf hb1 HTO HBA HBK c0
 obtain ⟨c0, c1, c2, c3, c4⟩ := scl5 HK1
 by_cases h0 : f = 0
 ·have HR : Hid (tar.Right t.ts) := HF.out.ok.1 h0
  subst h0
  by_cases g0 : 0 ≤ t.ff ∧ t.ff ≤ 100000
  ·rw [decide_eq_true g0] at HI0
   go_wp2_with fail
   refine (HI0.out _).mono ?_
   rintro e w2 ⟨rfl, hw2⟩
   subst w2
   by_cases g1 : 0 ≤ t.fb ∧ t.fb ≤ 10000
   ·rw [decide_eq_true g1] at HI1
    go_wp2_with fail
    refine (HI1.out _).mono ?_
    rintro e w2 ⟨rfl, hw2⟩
    subst w2
    by_cases g2 : 0 ≤ t.db ∧ t.db ≤ 10000
    ·rw [decide_eq_true g2] at HI2
     go_wp2_with fail
     refine (HI2.out _).mono ?_
     rintro e w2 ⟨rfl, hw2⟩
     subst w2
     by_cases g3 : 0 ≤ t.al ∧ t.al ≤ 2097151
     ·rw [decide_eq_true g3] at HI3
      go_wp2_with fail
      refine (HI3.out _).mono ?_
      rintro e w2 ⟨rfl, hw2⟩
      subst w2
      have HV : Hid (TFault t 0) := .inr (.inr ⟨⟨HR.out, g0, g1, g2, g3⟩, rfl⟩)
      clear g0 g1 g2 g3
      go_wp2_with fail
      go_ret
      exact ⟨0, rfl, HV.out, HB1.out⟩
     ·rw [decide_eq_false g3] at HI3
      have HV : Hid (TFault t 2) := .inr (.inl ⟨HR.out, fun h => g3 h.2.2.2, rfl⟩)
      clear g3
      go_wp2_with fail
      refine (HI3.out _).mono ?_
      rintro e w2 ⟨rfl, hw2⟩
      subst w2
      go_wp2_with fail
      all_goals first
       | (rename_i q1 q2; exact absurd q1 (by simp [undef]))
       | (go_ret; exact ⟨2, rfl, HV.out, HB1.out⟩)
    ·rw [decide_eq_false g2] at HI2
     have HV : Hid (TFault t 2) := .inr (.inl ⟨HR.out, fun h => g2 h.2.2.1, rfl⟩)
     clear g2
     go_wp2_with fail
     refine (HI2.out _).mono ?_
     rintro e w2 ⟨rfl, hw2⟩
     subst w2
     go_wp2_with fail
     all_goals first
      | (rename_i q1 q2; exact absurd q1 (by simp [undef]))
      | (go_ret; exact ⟨2, rfl, HV.out, HB1.out⟩)
   ·rw [decide_eq_false g1] at HI1
    have HV : Hid (TFault t 2) := .inr (.inl ⟨HR.out, fun h => g1 h.2.1, rfl⟩)
    clear g1
    go_wp2_with fail
    refine (HI1.out _).mono ?_
    rintro e w2 ⟨rfl, hw2⟩
    subst w2
    go_wp2_with fail
    all_goals first
     | (rename_i q1 q2; exact absurd q1 (by simp [undef]))
     | (go_ret; exact ⟨2, rfl, HV.out, HB1.out⟩)
  ·rw [decide_eq_false g0] at HI0
   have HV : Hid (TFault t 2) := .inr (.inl ⟨HR.out, fun h => g0 h.1, rfl⟩)
   clear g0
   go_wp2_with fail
   refine (HI0.out _).mono ?_
   rintro e w2 ⟨rfl, hw2⟩
   subst w2
   go_wp2_with fail
   all_goals first
    | (rename_i q1 q2; exact absurd q1 (by simp [undef]))
    | (go_ret; exact ⟨2, rfl, HV.out, HB1.out⟩)
 ·have d0 : (f != 0) = true := by simpa using h0
  have HV : Hid (TFault t f) := .inl ⟨fun h => h0 (HF.out.ok.2 h), HF.out⟩
  clear h0
  go_wp2_with fail
  go_ret
  exact ⟨f, rfl, HV.out, HB1.out⟩
def BeginR (x : Ac) (t : Tm) (m : Int) (b0 : Bi) (y : Ac) (b : Bi) (f : Int) : Prop := ((¬ TRight t ∧ TFault t f ∧ y = x) ∨ (TRight t ∧ ¬ RMay x m ∧ RErr x m f ∧ y = x) ∨ (TRight t ∧ RMay x m ∧ y = rolled x m ∧ f = 0)) ∧ b = b0
set_option maxHeartbeats 2000000 in
theorem pbegin (g : Nat) (x : Ac) (p : Option Addr) (len cap : Nat) (t : Tm) (pt : Option Addr) (lt ct : Nat) (b : Bi) (m : Int) (w : World) (hw : Blk w g (wcs x b p len cap) 121) (hd : deb.Fresh w (g + 1) p len cap x.ds) (ha : AMay x) (ht : Came w pt lt ct t.ts) (hwf : wf4 t) (hfar : Far pt lt g) : Calls Tryz.prog 113 #[.pointer (some ⟨g, 0, none⟩), .agg #[.slice pt lt ct, .int .i64 t.ff, .int .i64 t.fb, .int .i64 t.db, .int .i64 t.al], .int .i64 m] w fun e w' => DPost w g (BeginR x t m b) e w' := by
 have hgl := hw.lt
 have HCK : Hid (∀ W, Below w.heap.size w W → Calls Tryz.prog 51 #[.agg #[.slice pt lt ct, .int .i64 t.ff, .int .i64 t.fb, .int .i64 t.db, .int .i64 t.al]] W fun e w' => tar.ErrPost W (TFault t) e w') := fun W hW => kcheck W t pt lt ct ⟨ht.below hW, hwf⟩
 have HRL : Hid (∀ W, Blk W g (wcs x b p len cap) 121 → deb.Fresh W (g + 1) p len cap x.ds → Calls Tryz.prog 118 #[.pointer (some ⟨g, 0, none⟩), .int .i64 m] W fun e w' => DPost W g (RollR x m b) e w') := fun W h1 h2 => proll g x b p len cap m W h1 h2 ha
 have H0B : Hid (Below w.heap.size w (w.alloc (.cells #[.slice pt lt ct, .int .i64 t.ff, .int .i64 t.fb, .int .i64 t.db, .int .i64 t.al] 24))) := (Below.refl w.heap.size w).alloc (by simp) _
 have H0t : Hid (Blk (w.alloc (.cells #[.slice pt lt ct, .int .i64 t.ff, .int .i64 t.fb, .int .i64 t.db, .int .i64 t.al] 24)) w.heap.size #[.slice pt lt ct, .int .i64 t.ff, .int .i64 t.fb, .int .i64 t.db, .int .i64 t.al] 24) := Blk.new w _ _
 have H0g : Hid (Blk (w.alloc (.cells #[.slice pt lt ct, .int .i64 t.ff, .int .i64 t.fb, .int .i64 t.db, .int .i64 t.al] 24)) g (wcs x b p len cap) 121) := hw.alloc _
 have H0D : Hid (deb.Fresh (w.alloc (.cells #[.slice pt lt ct, .int .i64 t.ff, .int .i64 t.fb, .int .i64 t.db, .int .i64 t.al] 24)) (g + 1) p len cap x.ds) := hd.below H0B.out
 clear hw hd ha ht hwf hfar
 generalize hWW : (w.alloc (.cells #[.slice pt lt ct, .int .i64 t.ff, .int .i64 t.fb, .int .i64 t.db, .int .i64 t.al] 24)) = W0 at *
 have HWW : Hid ((w.alloc (.cells #[.slice pt lt ct, .int .i64 t.ff, .int .i64 t.fb, .int .i64 t.db, .int .i64 t.al] 24)) = W0) := hWW
 clear hWW
 go_enter Tryz.func113, Tryz.ntmps113
 go_upto_region 1 with fail
 rw [HWW.out]
 clear HWW
 go_wp2_with (first
  | (refine zqw rfl rfl rfl H0t zqu24 ?_)
  | fail)
 refine (HCK.out _ H0B.out).mono ?_
 rintro e w1 ⟨f, rfl, hf, hb1⟩
 have H1g := shN H0g hb1
 have H1D : Hid (deb.Fresh w1 (g + 1) p len cap x.ds) := H0D.out.below hb1
 have H1C : Hid (Chg w w1 g) := .of (bel_step H0B.out hb1)
 have HF : Hid (TFault t f) := hf
 clear hf hb1 H0B H0t H0g H0D HCK
 by_cases h0 : f = 0
 ·subst h0
  have HT : Hid (TRight t) := HF.out.ok.1 rfl
  go_wp2_with fail
  refine (HRL.out _ H1g.out H1D.out).mono ?_
  rintro e w2 ⟨y, b2, q, n, c, f, rfl, ⟨hr, hb⟩, hi, hfr, hc⟩
  have HX : Hid (DPost w g (BeginR x t m b) (.returned (.int .i64 f)) w2) := by
   refine ⟨y, b2, q, n, c, f, rfl, ⟨?_, hb⟩, hi, hfr, H1C.out.trans hc⟩
   rcases hr with ⟨h1, h2, h3⟩ | ⟨h1, h2, h3⟩
   ·exact .inr (.inl ⟨HT.out, h1, h2, h3⟩)
   ·exact .inr (.inr ⟨HT.out, h1, h2, h3⟩)
  clear hr hb hi hfr hc HRL
  go_wp2_with fail
  go_ret
  exact HX.out
 ·have d0 : (f != 0) = true := by simpa using h0
  have HX : Hid (DPost w g (BeginR x t m b) (.returned (.int .i64 f)) w1) := ⟨x, b, p, len, cap, f, rfl, ⟨.inl ⟨fun h => h0 (HF.out.ok.2 h), HF.out, rfl⟩, rfl⟩, H1g.out, H1D.out, H1C.out⟩
  clear h0 HRL HF
  go_wp2_with fail
  go_ret
  exact HX.out
end acc
end Go.Proofs.YtomibnggmhjdfaaGreat
