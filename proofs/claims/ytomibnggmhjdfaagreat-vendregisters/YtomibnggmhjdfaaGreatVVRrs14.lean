import Derived.Test.YtomibnggmhjdfaaGreatVVRrs13
set_option linter.unusedVariables false
set_option linter.unusedSimpArgs false
namespace Go.Proofs.YtomibnggmhjdfaaGreat
namespace deb
open tar (Du du0 Came RowD Ld ErrPost TwoPost PairT GaveD)
open Go.RowKit
set_option maxRecDepth 100000
set_option maxHeartbeats 4000000 in
theorem rrec (a : Option Addr) (len cap : Nat) (ls : List Du) (t bp : Int) (w : World) (hr : RowD w a len ls) (hl : len ≤ maxLen) : Calls Tryz.prog 81 #[.slice a len cap, .int .i64 t, .int .i64 bp] w fun e w' => RecPost w ls t bp e w' := by
 have HFA : Hid (Calls Tryz.prog 70 #[.slice a len cap] w fun e w' => ∃ f, e = .returned (.int .i64 f) ∧ FaultIs ls f ∧ w' = w) := rfault a len cap ls w hr hl
 have HSH : Hid (∀ W, Calls Tryz.prog 94 #[.int .i64 t, .int .i64 bp] W fun e w' => ∃ s f, e = .returned (.tuple #[.int .i64 s, .int .i64 f]) ∧ ShareIs t bp s f ∧ w' = W) := fun W => rshare t bp W
 have hlen := hr.1
 go_enter Tryz.func81, Tryz.ntmps81
 go_wp2_with fail
 refine HFA.out.mono ?_
 rintro e w1 ⟨f, rfl, hf, hw1⟩
 subst hw1
 have HF : Hid (FaultIs ls f) := hf
 by_cases h0 : f = 0
 ·subst h0
  have hm := hf.ok.1 rfl
  have HM : Hid (Mays ls) := hm
  have HLEN : Hid (ls.length = len) := hlen
  have hl8 : len ≤ 8 := by have := hm.1; omega
  have HROW : Hid (RowD w1 a len ls) := hr
  clear hf hm hr hl HFA hlen HF
  go_wp2_with fail
  refine (HSH.out _).mono ?_
  rintro e w2 ⟨s, g, rfl, hs, hw2⟩
  subst hw2
  rcases hs with ⟨ht, hse, hg⟩ | ⟨ht, hse, hg⟩
  ·have HT : Hid (TMay t bp) := ht
   have hsb := share_bd ht
   rw [← hse] at hsb
   have HSE : Hid (s = t * bp / 10000) := hse
   subst hg
   clear ht hse HSH
   go_wp2_with fail
   go_loopw [11, 12, 13] (fun u v x wr => ∃ (k : Nat) (V : Value), k ≤ len ∧ x = .int .i64 (k : Int) ∧ v = .int .i64 (sumK ls k) ∧ V = u ∧ Ld 43 wr w2.heap.size V (recK ls s k) ∧ Below w2.heap.size w2 wr) (fun _ _ x _ => len - (intOf x).toNat)
   case atStart => exact ⟨0, _, Nat.zero_le _, rfl, rfl, rfl, tar.Ld.zero _ _ _, Below.refl _ _⟩
   case round =>
    obtain ⟨k, V, hk, rfl, rfl, hV, hu, hb⟩ := hrel
    subst hV
    have HBW : Hid (Below w2.heap.size w2 wr) := hb
    have HU : Hid (Ld 43 wr w2.heap.size V (recK ls s k)) := hu
    have hsk := sumK_bd HM.out k (by rw [HLEN.out]; exact hk)
    by_cases hlt : k < len
    ·have hdl : decide ((k : Int) < (len : Int)) = true := by simp; omega
     obtain ⟨b, off, rfl, hbl, hc⟩ := HROW.out.at (by omega)
     have c0 : wr.cell? ⟨b, off + k * 2, none⟩ = some (.int .i64 (ls.getD k du0).a) := (hb.cell (p := ⟨b, off + k * 2, none⟩) hbl).trans (hc k hlt).1
     have c1 : wr.cell? ⟨b, off + k * 2 + 1, none⟩ = some (.int .i64 (ls.getD k du0).b) := (hb.cell (p := ⟨b, off + k * 2 + 1, none⟩) hbl).trans (hc k hlt).2
     have ho := HM.out.2 k (by rw [HLEN.out]; exact hlt)
     have ho1 := ho.1.1
     have ho2 := ho.1.2
     have HN : Hid (sumK ls k + (ls.getD k du0).a = sumK ls (k + 1)) := (sumK_next ls k).symm
     have HY : Hid (0 < left (ls.getD k du0).a (sumK ls k + (ls.getD k du0).a) s → recK ls s (k + 1) = recK ls s k ++ [⟨left (ls.getD k du0).a (sumK ls k + (ls.getD k du0).a) s, (ls.getD k du0).b⟩]) := recK_yes ls s k
     have HZ : Hid (¬ 0 < left (ls.getD k du0).a (sumK ls k + (ls.getD k du0).a) s → recK ls s (k + 1) = recK ls s k) := recK_no ls s k
     have hzl : (recK ls s k).length ≤ 1000000 := by have := recK_len ls s k; omega
     clear hc hb hu ho
     generalize recK ls s k = Z at *
     generalize sumK ls k = q at *
     generalize (ls.getD k du0).a = x at *
     generalize (ls.getD k du0).b = y at *
     by_cases hgt : x < q + x - s
     ·have hd1 : decide (x < q + x - s) = true := decide_eq_true hgt
      have hle : left x (q + x) s = x := by unfold left; omega
      rw [hle] at HY HZ
      clear hgt hle
      by_cases hpos : 0 < x
      ·have hd2 : decide (0 < x) = true := decide_eq_true hpos
       have HZ2 : Hid (recK ls s (k + 1) = Z ++ [⟨x, y⟩]) := HY.out hpos
       clear HY HZ hpos
       have HBA : Hid (Below w2.heap.size w2 (wr.alloc (.cells #[.int .i64 x, .int .i64 y] 43))) := HBW.out.alloc HBW.out.size _
       have HZA : Hid (Ld 43 (wr.alloc (.cells #[.int .i64 x, .int .i64 y] 43)) w2.heap.size V Z) := HU.out.alloc _
       have HCA : Hid ((wr.alloc (.cells #[.int .i64 x, .int .i64 y] 43)).cell? ⟨wr.heap.size, 0, none⟩ = some (.int .i64 x) ∧ (wr.alloc (.cells #[.int .i64 x, .int .i64 y] 43)).cell? ⟨wr.heap.size, 1, none⟩ = some (.int .i64 y)) := ⟨(Blk.new wr _ _).cell 0, (Blk.new wr _ _).cell 1⟩
       go_wp2_with (first
        | (at_builtin; refine tar.wp_pair debtT rfl _ _ rfl w2.heap.size (wr.heap.size) V Z ⟨x, y⟩ rfl rfl HZA.out HCA.out hzl HBA.out.size ?_)
        | fail)
       intro v3 w3 h3 hg3
       have HB3 : Hid (Below w2.heap.size w2 w3) := tar.own_bel HZA.out hg3 HBA.out (Nat.le_refl _) HBA.out.size
       have H3 : Hid (Ld 43 w3 w2.heap.size v3 (Z ++ [⟨x, y⟩])) := h3
       clear h3 hg3 HZA HCA HBA HU c0 c1
       go_wp2_with fail
       go_roundw
       case rel => exact ⟨k + 1, v3, by omega, by go_num, by rw [← HN.out], by first | rfl | trivial, by rw [HZ2.out]; exact H3.out, HB3.out⟩
       case measure => simp [intOf]; omega
      ·have hd2 : decide (0 < x) = false := decide_eq_false hpos
       have HZ2 : Hid (recK ls s (k + 1) = Z) := HZ.out hpos
       clear HY HZ hpos
       go_wp2_with fail
       go_roundw
       case rel => exact ⟨k + 1, V, by omega, by go_num, by rw [← HN.out], by first | rfl | trivial, by rw [HZ2.out]; exact HU.out, HBW.out⟩
       case measure => simp [intOf]; omega
     ·have hd1 : decide (x < q + x - s) = false := decide_eq_false hgt
      have hle : left x (q + x) s = q + x - s := by unfold left; omega
      rw [hle] at HY HZ
      clear hgt hle
      by_cases hpos : 0 < q + x - s
      ·have hd2 : decide (0 < q + x - s) = true := decide_eq_true hpos
       have hd3 : decide (s < q + x) = true := decide_eq_true (by omega)
       have HZ2 : Hid (recK ls s (k + 1) = Z ++ [⟨q + x - s, y⟩]) := HY.out hpos
       clear HY HZ hpos
       have HBA : Hid (Below w2.heap.size w2 (wr.alloc (.cells #[.int .i64 (q + x - s), .int .i64 y] 43))) := HBW.out.alloc HBW.out.size _
       have HZA : Hid (Ld 43 (wr.alloc (.cells #[.int .i64 (q + x - s), .int .i64 y] 43)) w2.heap.size V Z) := HU.out.alloc _
       have HCA : Hid ((wr.alloc (.cells #[.int .i64 (q + x - s), .int .i64 y] 43)).cell? ⟨wr.heap.size, 0, none⟩ = some (.int .i64 (q + x - s)) ∧ (wr.alloc (.cells #[.int .i64 (q + x - s), .int .i64 y] 43)).cell? ⟨wr.heap.size, 1, none⟩ = some (.int .i64 y)) := ⟨(Blk.new wr _ _).cell 0, (Blk.new wr _ _).cell 1⟩
       go_wp2_with (first
        | (at_builtin; refine tar.wp_pair debtT rfl _ _ rfl w2.heap.size (wr.heap.size) V Z ⟨(q + x - s), y⟩ rfl rfl HZA.out HCA.out hzl HBA.out.size ?_)
        | fail)
       intro v3 w3 h3 hg3
       have HB3 : Hid (Below w2.heap.size w2 w3) := tar.own_bel HZA.out hg3 HBA.out (Nat.le_refl _) HBA.out.size
       have H3 : Hid (Ld 43 w3 w2.heap.size v3 (Z ++ [⟨(q + x - s), y⟩])) := h3
       clear h3 hg3 HZA HCA HBA HU c0 c1
       go_wp2_with fail
       go_roundw
       case rel => exact ⟨k + 1, v3, by omega, by go_num, by rw [← HN.out], by first | rfl | trivial, by rw [HZ2.out]; exact H3.out, HB3.out⟩
       case measure => simp [intOf]; omega
      ·have hd2 : decide (0 < q + x - s) = false := decide_eq_false hpos
       have hd3 : decide (s < q + x) = false := decide_eq_false (by omega)
       have HZ2 : Hid (recK ls s (k + 1) = Z) := HZ.out hpos
       clear HY HZ hpos
       go_wp2_with fail
       go_roundw
       case rel => exact ⟨k + 1, V, by omega, by go_num, by rw [← HN.out], by first | rfl | trivial, by rw [HZ2.out]; exact HU.out, HBW.out⟩
       case measure => simp [intOf]; omega
    ·obtain rfl : k = len := by omega
     have hdl : decide ((k : Int) < (k : Int)) = false := by simp
     have HV : Hid (sumK ls k = sumD ls) := by have := sumK_all ls; rw [HLEN.out] at this; exact this
     have HRE : Hid (recK ls s k = recK ls (t * bp / 10000) ls.length) := by show _ = _; rw [HLEN.out, HSE.out]
     have hmz : Mays (recK ls s k) := ⟨Nat.le_trans (recK_len ls s k) hl8, fits_mem fun d hd => (recK_ok HM.out s k (by rw [HLEN.out]; exact Nat.le_refl _) d hd).1⟩
     obtain ⟨a3, cap3, hv3, hcm⟩ := ld_fresh hu hmz
     subst hv3
     have HCM : Hid (Fresh wr w2.heap.size a3 (recK ls s k).length cap3 (recK ls s k)) := hcm
     clear hb hu hmz hcm HU
     generalize (recK ls s k).length = len3 at *
     generalize recK ls s k = Z at *
     generalize sumK ls k = q at *
     by_cases hpay : s < q
     ·have hd3 : decide (s < q) = true := decide_eq_true hpay
      have HP : Hid (s = min (t * bp / 10000) (sumD ls)) := by show _ = _; rw [← HSE.out, ← HV.out]; omega
      clear hpay
      go_wp2_with fail
      go_ret3
      exact ⟨a3, len3, cap3, Z, s, 0, rfl, .inr (.inr ⟨HM.out, HT.out, rfl, HRE.out, HP.out⟩), HCM.out, HBW.out⟩
     ·have hd3 : decide (s < q) = false := decide_eq_false hpay
      have HP : Hid (q = min (t * bp / 10000) (sumD ls)) := by show _ = _; rw [← HSE.out, ← HV.out]; omega
      clear hpay
      go_wp2_with fail
      go_ret3
      exact ⟨a3, len3, cap3, Z, q, 0, rfl, .inr (.inr ⟨HM.out, HT.out, rfl, HRE.out, HP.out⟩), HCM.out, HBW.out⟩
  ·subst hse hg
   have HT : Hid (¬ TMay t bp) := ht
   clear ht HSH
   go_wp2_with fail
   go_ret3
   exact ⟨none, 0, 0, [], 0, 2, rfl, .inr (.inl ⟨HM.out, HT.out, rfl, rfl, rfl⟩), fresh_nil _ _, Below.refl _ _⟩
 ·have hne : (f != 0) = true := by simpa using h0
  have HN : Hid (¬ Mays ls) := fun h => h0 (hf.ok.2 h)
  clear hf h0 hr hl HFA HSH
  go_wp2_with fail
  go_ret3
  exact ⟨none, 0, 0, [], 0, f, rfl, .inl ⟨HN.out, HF.out, rfl, rfl⟩, fresh_nil _ _, Below.refl _ _⟩
end deb
namespace tar
open Go.RowKit
set_option maxRecDepth 100000
set_option maxHeartbeats 2000000 in
theorem rmay (a : Option Addr) (len cap : Nat) (ls : List Du) (x n : Int) (w : World) (hr : RowD w a len ls) (hl : len ≤ maxLen) : Calls Tryz.prog 95 #[.slice a len cap, .int .i64 x, .int .i64 n] w fun e w' => ErrPost w (MayIs ls x n) e w' := by
 have HIX : Hid (∀ W, Calls Tryz.prog 25 #[.int .i64 x, .int .i64 0, .int .i64 10000000] W fun e w' => e = .returned (.bool (decide (0 ≤ x ∧ x ≤ 10000000))) ∧ w' = W) := fun W => cal.cin x 0 10000000 W
 have HIN : Hid (∀ W, Calls Tryz.prog 25 #[.int .i64 n, .int .i64 0, .int .i64 2097151] W fun e w' => e = .returned (.bool (decide (0 ≤ n ∧ n ≤ 2097151))) ∧ w' = W) := fun W => cal.cin n 0 2097151 W
 have HFA : Hid (Calls Tryz.prog 56 #[.slice a len cap] w fun e w' => ErrPost w (FaultIs ls) e w') := rfault a len cap ls w hr hl
 clear hr hl
 go_enter Tryz.func95, Tryz.ntmps95
 go_wp2_with fail
 refine HFA.out.mono ?_
 rintro e w1 ⟨f, rfl, hf, hb⟩
 have HB : Hid (Below w.heap.size w w1) := hb
 have HF : Hid (FaultIs ls f) := hf
 clear hb HFA
 by_cases h0 : f = 0
 ·subst h0
  have HR : Hid (Right ls) := hf.ok.1 rfl
  clear hf
  by_cases hx : 0 ≤ x ∧ x ≤ 10000000
  ·rw [decide_eq_true hx] at HIX
   obtain ⟨hx0, hx1⟩ := hx
   by_cases hn : 0 ≤ n ∧ n ≤ 2097151
   ·rw [decide_eq_true hn] at HIN
    obtain ⟨hn0, hn1⟩ := hn
    by_cases hs : x + n ≤ 10000000
    ·have HV : Hid (MayIs ls x n 0) := .inr (.inr ⟨HR.out, ⟨⟨hx0, hx1⟩, ⟨hn0, hn1⟩, hs⟩, rfl⟩)
     have hd : decide (10000000 < x + n) = false := decide_eq_false (by omega)
     go_wp2_with fail
     refine (HIX.out _).mono ?_
     rintro e w2 ⟨rfl, hw2⟩
     subst hw2
     go_wp2_with fail
     refine (HIN.out _).mono ?_
     rintro e w2 ⟨rfl, hw2⟩
     subst hw2
     go_wp2_with fail
     go_ret
     exact ⟨_, rfl, HV.out, HB.out⟩
    ·have HV : Hid (MayIs ls x n 2) := .inr (.inl ⟨HR.out, fun h => hs h.2.2, rfl⟩)
     have hd : decide (10000000 < x + n) = true := decide_eq_true (by omega)
     clear hs
     go_wp2_with fail
     refine (HIX.out _).mono ?_
     rintro e w2 ⟨rfl, hw2⟩
     subst hw2
     go_wp2_with fail
     refine (HIN.out _).mono ?_
     rintro e w2 ⟨rfl, hw2⟩
     subst hw2
     go_wp2_with fail
     go_ret
     exact ⟨_, rfl, HV.out, HB.out⟩
   ·rw [decide_eq_false hn] at HIN
    have HV : Hid (MayIs ls x n 2) := .inr (.inl ⟨HR.out, fun h => hn h.2.1, rfl⟩)
    clear hn
    go_wp2_with fail
    refine (HIX.out _).mono ?_
    rintro e w2 ⟨rfl, hw2⟩
    subst hw2
    go_wp2_with fail
    refine (HIN.out _).mono ?_
    rintro e w2 ⟨rfl, hw2⟩
    subst hw2
    go_wp2_with fail
    all_goals first
     | (rename_i q1 q2; exact absurd q1 (by simp [undef]))
     | (go_ret; exact ⟨_, rfl, HV.out, HB.out⟩)
  ·rw [decide_eq_false hx] at HIX
   have HV : Hid (MayIs ls x n 2) := .inr (.inl ⟨HR.out, fun h => hx h.1, rfl⟩)
   clear hx
   go_wp2_with fail
   refine (HIX.out _).mono ?_
   rintro e w2 ⟨rfl, hw2⟩
   subst hw2
   go_wp2_with fail
   all_goals first
    | (rename_i q1 q2; exact absurd q1 (by simp [undef]))
    | (go_ret; exact ⟨_, rfl, HV.out, HB.out⟩)
 ·have hne : (f != 0) = true := by simpa using h0
  have HV : Hid (MayIs ls x n f) := .inl ⟨fun h => h0 (hf.ok.2 h), hf⟩
  clear hf h0
  go_wp2_with fail
  go_ret
  exact ⟨_, rfl, HV.out, HB.out⟩
theorem roverlap (lo hi x y : Int) (w : World) (h0 : 0 ≤ lo ∧ lo ≤ 10000000) (h1 : 0 ≤ hi ∧ hi ≤ 10000000) (h2 : 0 ≤ x ∧ x ≤ 10000000) (h3 : 0 ≤ y ∧ y ≤ 10000000) : Calls Tryz.prog 106 #[.int .i64 lo, .int .i64 hi, .int .i64 x, .int .i64 y] w fun e w' => e = .returned (.int .i64 (ov lo hi x y)) ∧ w' = w := by
 obtain ⟨a0, a1⟩ := h0
 obtain ⟨b0, b1⟩ := h1
 obtain ⟨c0, c1⟩ := h2
 obtain ⟨d0, d1⟩ := h3
 have HV : Hid (∀ z, (max lo x ≤ min hi y → z = min hi y - max lo x) → (min hi y < max lo x → z = 0) → z = ov lo hi x y) := fun z e1 e2 => by
  unfold ov
  by_cases h : max lo x ≤ min hi y
  ·have := e1 h; omega
  ·have := e2 (by omega); omega
 by_cases p : lo < x
 ·have q : decide (lo < x) = true := decide_eq_true p
  by_cases p2 : y < hi
  ·have q2 : decide (y < hi) = true := decide_eq_true p2
   by_cases p3 : y < x
   ·have q3 : decide (y < x) = true := decide_eq_true p3
    have HZ : Hid ((0 : Int) = ov lo hi x y) := HV.out 0 (fun h => by omega) (fun _ => rfl)
    go_enter Tryz.func106, Tryz.ntmps106
    go_wp2_with fail
    go_ret
    exact ⟨by rw [← HZ.out]; rfl, rfl⟩
   ·have q3 : decide (y < x) = false := decide_eq_false p3
    have HZ : Hid (y - x = ov lo hi x y) := HV.out _ (fun h => by omega) (fun h => by omega)
    go_enter Tryz.func106, Tryz.ntmps106
    go_wp2_with fail
    go_ret
    exact ⟨by rw [← HZ.out]; rfl, rfl⟩
  ·have q2 : decide (y < hi) = false := decide_eq_false p2
   by_cases p3 : hi < x
   ·have q3 : decide (hi < x) = true := decide_eq_true p3
    have HZ : Hid ((0 : Int) = ov lo hi x y) := HV.out 0 (fun h => by omega) (fun _ => rfl)
    go_enter Tryz.func106, Tryz.ntmps106
    go_wp2_with fail
    go_ret
    exact ⟨by rw [← HZ.out]; rfl, rfl⟩
   ·have q3 : decide (hi < x) = false := decide_eq_false p3
    have HZ : Hid (hi - x = ov lo hi x y) := HV.out _ (fun h => by omega) (fun h => by omega)
    go_enter Tryz.func106, Tryz.ntmps106
    go_wp2_with fail
    go_ret
    exact ⟨by rw [← HZ.out]; rfl, rfl⟩
 ·have q : decide (lo < x) = false := decide_eq_false p
  by_cases p2 : y < hi
  ·have q2 : decide (y < hi) = true := decide_eq_true p2
   by_cases p3 : y < lo
   ·have q3 : decide (y < lo) = true := decide_eq_true p3
    have HZ : Hid ((0 : Int) = ov lo hi x y) := HV.out 0 (fun h => by omega) (fun _ => rfl)
    go_enter Tryz.func106, Tryz.ntmps106
    go_wp2_with fail
    go_ret
    exact ⟨by rw [← HZ.out]; rfl, rfl⟩
   ·have q3 : decide (y < lo) = false := decide_eq_false p3
    have HZ : Hid (y - lo = ov lo hi x y) := HV.out _ (fun h => by omega) (fun h => by omega)
    go_enter Tryz.func106, Tryz.ntmps106
    go_wp2_with fail
    go_ret
    exact ⟨by rw [← HZ.out]; rfl, rfl⟩
  ·have q2 : decide (y < hi) = false := decide_eq_false p2
   by_cases p3 : hi < lo
   ·have q3 : decide (hi < lo) = true := decide_eq_true p3
    have HZ : Hid ((0 : Int) = ov lo hi x y) := HV.out 0 (fun h => by omega) (fun _ => rfl)
    go_enter Tryz.func106, Tryz.ntmps106
    go_wp2_with fail
    go_ret
    exact ⟨by rw [← HZ.out]; rfl, rfl⟩
   ·have q3 : decide (hi < lo) = false := decide_eq_false p3
    have HZ : Hid (hi - lo = ov lo hi x y) := HV.out _ (fun h => by omega) (fun h => by omega)
    go_enter Tryz.func106, Tryz.ntmps106
    go_wp2_with fail
    go_ret
    exact ⟨by rw [← HZ.out]; rfl, rfl⟩
set_option maxHeartbeats 2000000 in
theorem rcost (a : Option Addr) (n cap : Nat) (ls : List Du) (x y : Int) (w : World) (hr : RowD w a n ls) (hR : Right ls) (hx : 0 ≤ x) (hxy : x ≤ y) (hy : y ≤ 10000000) : Calls Tryz.prog 96 #[.slice a n cap, .int .i64 x, .int .i64 y] w fun e w' => ValPost w (cost ls x y) e w' := by
 have hlen := hr.1
 have hn1 : 1 ≤ n := by have := hR.1.1; omega
 have hn8 : n ≤ 8 := by have := hR.1.2; omega
 obtain ⟨b, off, rfl, hbl, hc⟩ := hr.at hn1
 have HC : Hid (∀ i, i < n → w.cell? ⟨b, off + i * 2, none⟩ = some (.int .i64 (ls.getD i du0).a) ∧ w.cell? ⟨b, off + i * 2 + 1, none⟩ = some (.int .i64 (ls.getD i du0).b)) := hc
 have HLEN : Hid (ls.length = n) := hlen
 have HR : Hid (Right ls) := hR
 have HX : Hid (0 ≤ x ∧ x ≤ y ∧ y ≤ 10000000) := ⟨hx, hxy, hy⟩
 clear hc hr hlen hR
 go_enter Tryz.func96, Tryz.ntmps96
 go_wp2_with fail
 go_loopw [7, 8, 9] (fun u v z wr => ∃ k : Nat, k ≤ n ∧ z = .int .i64 (k : Int) ∧ u = .int .i64 (costK ls x y k) ∧ v = .int .i64 (low ls k) ∧ Below w.heap.size w wr) (fun _ _ z _ => n - (intOf z).toNat)
 case atStart => exact ⟨0, Nat.zero_le _, rfl, rfl, rfl, Below.refl _ _⟩
 case round =>
  obtain ⟨k, hk, rfl, rfl, rfl, hb⟩ := hrel
  by_cases hlt : k < n
  ·have hdl : decide ((k : Int) < (n : Int)) = true := by simp; omega
   have hkl : k < ls.length := by rw [HLEN.out]; exact hlt
   have c0 : wr.cell? ⟨b, off + k * 2, none⟩ = some (.int .i64 (ls.getD k du0).a) := (hb.cell (p := ⟨b, off + k * 2, none⟩) hbl).trans (HC.out k hlt).1
   have c1 : wr.cell? ⟨b, off + k * 2 + 1, none⟩ = some (.int .i64 (ls.getD k du0).b) := (hb.cell (p := ⟨b, off + k * 2 + 1, none⟩) hbl).trans (HC.out k hlt).2
   have HB : Hid (Below w.heap.size w wr) := hb
   have hp := HR.out.price k hkl
   have hu := HR.out.upto k hkl
   have hl0 := HR.out.low_pos k (by omega)
   have hl1 : low ls k ≤ 10000000 := by have := low_mono HR.out k ls.length (by omega) (Nat.le_refl _); rw [HR.out.low_end] at this; exact this
   have HOV : Hid (∀ W, Calls Tryz.prog 106 #[.int .i64 (low ls k), .int .i64 (ls.getD k du0).a, .int .i64 x, .int .i64 y] W fun e w' => e = .returned (.int .i64 (ov (low ls k) (ls.getD k du0).a x y)) ∧ w' = W) := fun W => roverlap _ _ x y W ⟨hl0, hl1⟩ ⟨by omega, by omega⟩ ⟨by omega, by omega⟩ ⟨by omega, by omega⟩
   have hc0 := costK_pos HR.out x y k (by omega)
   have hc1 := costK_le HR.out x y HX.out.1 HX.out.2.1 HX.out.2.2 k (by omega)
   have hpb := prod_bd (ov_pos (low ls k) (ls.getD k du0).a x y) (ov_le _ _ x y hl0 hu.2) hp.1 hp.2
   have HN : Hid (costK ls x y k + ov (low ls k) (ls.getD k du0).a x y * (ls.getD k du0).b = costK ls x y (k + 1)) := (costK_next ls x y k).symm
   have HL : Hid ((ls.getD k du0).a = low ls (k + 1)) := (low_next ls k).symm
   clear hb
   generalize costK ls x y k = cc at *
   generalize low ls k = lo at *
   generalize ov lo (ls.getD k du0).a x y = o at *
   generalize (ls.getD k du0).a = u at *
   generalize (ls.getD k du0).b = p at *
   have hw1 : IntKind.i64.wrap (o * p) = o * p := by rw [IntKind.wrap_i64]; omega
   have hw2 : IntKind.i64.wrap (cc + o * p) = cc + o * p := by rw [IntKind.wrap_i64]; omega
   go_wp2_with fail
   go_quiet (exact (HOV.out _).mono fun _ _ h => ⟨h.1, _, h.2⟩)
   have d1 : (wr.drewN nq).cell? ⟨b, off + k * 2, none⟩ = some (.int .i64 u) := c0
   have HBN : Hid (Below w.heap.size w (wr.drewN nq)) := bel_drewN HB.out nq
   go_wp2_with fail
   go_roundw
   case rel => exact ⟨k + 1, by omega, by go_num, by rw [← HN.out], by rw [← HL.out], HBN.out⟩
   case measure => simp [intOf]; omega
  ·obtain rfl : k = n := by omega
   have hdl : decide ((k : Int) < (k : Int)) = false := by simp
   have HV : Hid (costK ls x y k = cost ls x y) := by show _ = _; unfold cost; rw [HLEN.out]
   have HB : Hid (Below w.heap.size w wr) := hb
   clear hb
   generalize hcc : costK ls x y k = cc at *
   go_wp2_with fail
   go_ret
   exact ⟨by rw [← HV.out]; rfl, HB.out⟩
set_option maxHeartbeats 4000000 in
theorem rmost (a : Option Addr) (len cap : Nat) (ls : List Du) (x m : Int) (w : World) (hr : RowD w a len ls) (hl : len ≤ maxLen) : Calls Tryz.prog 83 #[.slice a len cap, .int .i64 x, .int .i64 m] w fun e w' => ThreePost w (MostIs ls x m) e w' := by
 have HMY : Hid (Calls Tryz.prog 95 #[.slice a len cap, .int .i64 x, .int .i64 0] w fun e w' => ErrPost w (MayIs ls x 0) e w') := rmay a len cap ls x 0 w hr hl
 have HIM : Hid (∀ W, Calls Tryz.prog 25 #[.int .i64 m, .int .i64 0, .int .i64 1000000000000] W fun e w' => e = .returned (.bool (decide (0 ≤ m ∧ m ≤ 1000000000000))) ∧ w' = W) := fun W => cal.cin m 0 1000000000000 W
 go_enter Tryz.func83, Tryz.ntmps83
 go_wp2_with fail
 refine HMY.out.mono ?_
 rintro e w1 ⟨f, rfl, hf, hb⟩
 have HB : Hid (Below w.heap.size w w1) := hb
 by_cases h0 : f = 0
 ·subst h0
  have hm := hf.ok.1 rfl
  have hx0 := hm.2.1.1
  have hx1 := hm.2.1.2
  have HR : Hid (Right ls) := hm.1
  have HCO : Hid (∀ (u : Nat) W, Below w1.heap.size w1 W → x + (u : Int) ≤ 10000000 → Calls Tryz.prog 96 #[.slice a len cap, .int .i64 x, .int .i64 (x + (u : Int))] W fun e w' => ValPost W (cost ls x (x + (u : Int))) e w') := fun u W hW hu => rcost a len cap ls x (x + (u : Int)) W ((hr.below hb).below hW) hm.1 hx0 (by omega) hu
  clear hf hb hr hl HMY
  by_cases hmm : 0 ≤ m ∧ m ≤ 1000000000000
  ·rw [decide_eq_true hmm] at HIM
   have HMM : Hid (MayMost x m) := ⟨⟨hx0, hx1⟩, hmm⟩
   obtain ⟨hm0, hm1⟩ := hmm
   obtain ⟨T, hT⟩ : ∃ T : Nat, Top x = (T : Int) := ⟨(Top x).toNat, by unfold Top; omega⟩
   have HT : Hid (Top x = (T : Int)) := hT
   have hT1 : (T : Int) = 2097151 ∨ (T : Int) = 10000000 - x := by unfold Top at hT; omega
   have hT2 : x + (T : Int) ≤ 10000000 := by unfold Top at hT; omega
   have hT3 : (T : Int) ≤ 2097151 := by unfold Top at hT; omega
   have HZ : Hid (cost ls x (x + ((0 : Nat) : Int)) ≤ m) := by show _ ≤ _; rw [show x + ((0 : Nat) : Int) = x by omega, cost_self HR.out]; exact hm0
   clear hm
   go_wp2_with fail
   refine (HIM.out _).mono ?_
   rintro e w2 ⟨rfl, hw2⟩
   subst hw2
   clear HIM
   by_cases hd : 10000000 - x < 2097151
   ·have hdd : decide (10000000 - x < 2097151) = true := decide_eq_true hd
    have HTE : Hid (10000000 - x = (T : Int)) := by show _ = _; unfold Top at hT; omega
    clear hT hT1
    go_wp2_with fail
    go_loopw [10, 11] (fun u v wr => ∃ l h : Nat, l ≤ h ∧ h ≤ T ∧ u = .int .i64 (l : Int) ∧ v = .int .i64 (h : Int) ∧ cost ls x (x + (l : Int)) ≤ m ∧ (h = T ∨ m < cost ls x (x + ((h : Int) + 1))) ∧ Below w2.heap.size w2 wr) (fun u v _ => (intOf v).toNat - (intOf u).toNat)
    case atStart => exact ⟨0, T, Nat.zero_le _, Nat.le_refl _, rfl, by rw [← HTE.out], HZ.out, .inl rfl, Below.refl _ _⟩
    case round =>
     obtain ⟨l, h, hlh, hh, rfl, rfl, hc1, hc2, hbw⟩ := hrel
     have HC1 : Hid (cost ls x (x + (l : Int)) ≤ m) := hc1
     have HC2 : Hid (h = T ∨ m < cost ls x (x + ((h : Int) + 1))) := hc2
     have HBW : Hid (Below w2.heap.size w2 wr) := hbw
     clear hc1 hc2 hbw
     by_cases hlt : l < h
     ·have hdl : decide ((l : Int) < (h : Int)) = true := by simp; omega
      have hq : Int.tdiv ((l : Int) + (h : Int) + 1) 2 = (((l + h + 1) / 2 : Nat) : Int) := by rw [Int.tdiv_eq_ediv_of_nonneg (by omega)]; omega
      have hm1 : l < (l + h + 1) / 2 := by omega
      have hm2 : (l + h + 1) / 2 ≤ h := by omega
      generalize (l + h + 1) / 2 = d at *
      have HCD : Hid (Calls Tryz.prog 96 #[.slice a len cap, .int .i64 x, .int .i64 (x + (d : Int))] wr fun e w' => ValPost wr (cost ls x (x + (d : Int))) e w') := HCO.out d wr HBW.out (by omega)
      by_cases hle : cost ls x (x + (d : Int)) ≤ m
      ·have HLE : Hid (cost ls x (x + (d : Int)) ≤ m) := hle
       have hdc : decide (cost ls x (x + (d : Int)) ≤ m) = true := decide_eq_true hle
       clear hle
       generalize hce : cost ls x (x + (d : Int)) = c at *
       have HCE : Hid (cost ls x (x + (d : Int)) = c) := hce
       clear hce
       go_wp2_with fail
       refine HCD.out.mono ?_
       rintro e w3 ⟨rfl, hb3⟩
       have HB3 := shB HBW hb3
       clear hb3 HCD
       go_wp2_with fail
       go_roundw
       case rel => exact ⟨d, h, hm2, hh, rfl, rfl, by rw [HCE.out]; exact HLE.out, HC2.out, HB3.out⟩
       case measure => simp only [intOf]; omega
      ·have HLE : Hid (m < cost ls x (x + (((d - 1 : Nat) : Int) + 1))) := by show _ < _; rw [show (((d - 1 : Nat) : Int) + 1) = (d : Int) by omega]; omega
       have hdc : decide (cost ls x (x + (d : Int)) ≤ m) = false := decide_eq_false hle
       have hds : (d : Int) - 1 = ((d - 1 : Nat) : Int) := by omega
       clear hle
       have hd1 : l ≤ d - 1 := by omega
       have hd2 : d - 1 ≤ T := by omega
       have hd3 : d - 1 < h := by omega
       generalize d - 1 = d1 at *
       generalize cost ls x (x + (d : Int)) = c at *
       go_wp2_with fail
       refine HCD.out.mono ?_
       rintro e w3 ⟨rfl, hb3⟩
       have HB3 := shB HBW hb3
       clear hb3 HCD
       go_wp2_with fail
       go_roundw
       case rel => exact ⟨l, d1, hd1, hd2, rfl, by first | rfl | (rw [hds]) | go_num, HC1.out, .inr HLE.out, HB3.out⟩
       case measure => simp only [intOf]; omega
     ·obtain rfl : l = h := by omega
      have hdl : decide ((l : Int) < (l : Int)) = false := by simp
      have HCD : Hid (Calls Tryz.prog 96 #[.slice a len cap, .int .i64 x, .int .i64 (x + (l : Int))] wr fun e w' => ValPost wr (cost ls x (x + (l : Int))) e w') := HCO.out l wr HBW.out (by omega)
      have HV : Hid (MostIs ls x m (l : Int) (cost ls x (x + (l : Int))) 0) := .inr (.inr ⟨HR.out, HMM.out, rfl, ⟨⟨by omega, by rw [HT.out]; omega⟩, HC1.out, by rcases HC2.out with h9 | h9; exact .inl (by rw [HT.out]; omega); exact .inr h9⟩, rfl⟩)
      clear HC1 HC2
      generalize cost ls x (x + (l : Int)) = c at *
      go_wp2_with fail
      refine HCD.out.mono ?_
      rintro e w3 ⟨rfl, hb3⟩
      have HB3 : Hid (Below w.heap.size w w3) := HB.out.trans ((HBW.out.trans (hb3.mono HBW.out.size)).mono HB.out.size)
      clear hb3 HCD
      go_wp2_with fail
      go_ret3
      exact ⟨_, _, _, rfl, HV.out, HB3.out⟩
   ·have hdd : decide (10000000 - x < 2097151) = false := decide_eq_false hd
    have HTE : Hid (2097151 = (T : Int)) := by show _ = _; unfold Top at hT; omega
    clear hT hT1
    go_wp2_with fail
    go_loopw [10, 11] (fun u v wr => ∃ l h : Nat, l ≤ h ∧ h ≤ T ∧ u = .int .i64 (l : Int) ∧ v = .int .i64 (h : Int) ∧ cost ls x (x + (l : Int)) ≤ m ∧ (h = T ∨ m < cost ls x (x + ((h : Int) + 1))) ∧ Below w2.heap.size w2 wr) (fun u v _ => (intOf v).toNat - (intOf u).toNat)
    case atStart => exact ⟨0, T, Nat.zero_le _, Nat.le_refl _, rfl, by rw [← HTE.out], HZ.out, .inl rfl, Below.refl _ _⟩
    case round =>
     obtain ⟨l, h, hlh, hh, rfl, rfl, hc1, hc2, hbw⟩ := hrel
     have HC1 : Hid (cost ls x (x + (l : Int)) ≤ m) := hc1
     have HC2 : Hid (h = T ∨ m < cost ls x (x + ((h : Int) + 1))) := hc2
     have HBW : Hid (Below w2.heap.size w2 wr) := hbw
     clear hc1 hc2 hbw
     by_cases hlt : l < h
     ·have hdl : decide ((l : Int) < (h : Int)) = true := by simp; omega
      have hq : Int.tdiv ((l : Int) + (h : Int) + 1) 2 = (((l + h + 1) / 2 : Nat) : Int) := by rw [Int.tdiv_eq_ediv_of_nonneg (by omega)]; omega
      have hm1 : l < (l + h + 1) / 2 := by omega
      have hm2 : (l + h + 1) / 2 ≤ h := by omega
      generalize (l + h + 1) / 2 = d at *
      have HCD : Hid (Calls Tryz.prog 96 #[.slice a len cap, .int .i64 x, .int .i64 (x + (d : Int))] wr fun e w' => ValPost wr (cost ls x (x + (d : Int))) e w') := HCO.out d wr HBW.out (by omega)
      by_cases hle : cost ls x (x + (d : Int)) ≤ m
      ·have HLE : Hid (cost ls x (x + (d : Int)) ≤ m) := hle
       have hdc : decide (cost ls x (x + (d : Int)) ≤ m) = true := decide_eq_true hle
       clear hle
       generalize hce : cost ls x (x + (d : Int)) = c at *
       have HCE : Hid (cost ls x (x + (d : Int)) = c) := hce
       clear hce
       go_wp2_with fail
       refine HCD.out.mono ?_
       rintro e w3 ⟨rfl, hb3⟩
       have HB3 := shB HBW hb3
       clear hb3 HCD
       go_wp2_with fail
       go_roundw
       case rel => exact ⟨d, h, hm2, hh, rfl, rfl, by rw [HCE.out]; exact HLE.out, HC2.out, HB3.out⟩
       case measure => simp only [intOf]; omega
      ·have HLE : Hid (m < cost ls x (x + (((d - 1 : Nat) : Int) + 1))) := by show _ < _; rw [show (((d - 1 : Nat) : Int) + 1) = (d : Int) by omega]; omega
       have hdc : decide (cost ls x (x + (d : Int)) ≤ m) = false := decide_eq_false hle
       have hds : (d : Int) - 1 = ((d - 1 : Nat) : Int) := by omega
       clear hle
       have hd1 : l ≤ d - 1 := by omega
       have hd2 : d - 1 ≤ T := by omega
       have hd3 : d - 1 < h := by omega
       generalize d - 1 = d1 at *
       generalize cost ls x (x + (d : Int)) = c at *
       go_wp2_with fail
       refine HCD.out.mono ?_
       rintro e w3 ⟨rfl, hb3⟩
       have HB3 := shB HBW hb3
       clear hb3 HCD
       go_wp2_with fail
       go_roundw
       case rel => exact ⟨l, d1, hd1, hd2, rfl, by first | rfl | (rw [hds]) | go_num, HC1.out, .inr HLE.out, HB3.out⟩
       case measure => simp only [intOf]; omega
     ·obtain rfl : l = h := by omega
      have hdl : decide ((l : Int) < (l : Int)) = false := by simp
      have HCD : Hid (Calls Tryz.prog 96 #[.slice a len cap, .int .i64 x, .int .i64 (x + (l : Int))] wr fun e w' => ValPost wr (cost ls x (x + (l : Int))) e w') := HCO.out l wr HBW.out (by omega)
      have HV : Hid (MostIs ls x m (l : Int) (cost ls x (x + (l : Int))) 0) := .inr (.inr ⟨HR.out, HMM.out, rfl, ⟨⟨by omega, by rw [HT.out]; omega⟩, HC1.out, by rcases HC2.out with h9 | h9; exact .inl (by rw [HT.out]; omega); exact .inr h9⟩, rfl⟩)
      clear HC1 HC2
      generalize cost ls x (x + (l : Int)) = c at *
      go_wp2_with fail
      refine HCD.out.mono ?_
      rintro e w3 ⟨rfl, hb3⟩
      have HB3 : Hid (Below w.heap.size w w3) := HB.out.trans ((HBW.out.trans (hb3.mono HBW.out.size)).mono HB.out.size)
      clear hb3 HCD
      go_wp2_with fail
      go_ret3
      exact ⟨_, _, _, rfl, HV.out, HB3.out⟩
  ·rw [decide_eq_false hmm] at HIM
   have HV : Hid (MostIs ls x m 0 0 2) := .inr (.inl ⟨HR.out, fun h => hmm h.2, rfl, rfl, rfl⟩)
   clear hmm hm
   go_wp2_with fail
   refine (HIM.out _).mono ?_
   rintro e w2 ⟨rfl, hw2⟩
   subst hw2
   go_wp2_with fail
   go_ret3
   exact ⟨_, _, _, rfl, HV.out, HB.out⟩
 ·have hne : (f != 0) = true := by simpa using h0
  have HV : Hid (MostIs ls x m 0 0 f) := by
   rcases hf with ⟨p, q⟩ | ⟨p, q, r⟩ | ⟨p, q, r⟩
   ·exact .inl ⟨p, q, rfl, rfl⟩
   ·exact .inr (.inl ⟨p, fun h => q ⟨h.1, ⟨by decide, by decide⟩, by have := h.1.2; omega⟩, r, rfl, rfl⟩)
   ·exact absurd r h0
  clear hf h0 hb hr hl HMY
  go_wp2_with fail
  go_ret3
  exact ⟨_, _, _, rfl, HV.out, HB.out⟩
end tar
end Go.Proofs.YtomibnggmhjdfaaGreat
