/- What is recovered, as the document has it. -/
import Derived.Test.YtfhlokjpdkmdjaaDbFa
import Derived.Test.YtfhlokjpdkmdjaaDbSh
import Derived.OwnWalk
namespace Go.Proofs.Ytfhlokjpdkmdjaa.deb
open Go.Proofs.Ytfhlokjpdkmdjaa.tar (Du du0 Came RowD Ld ErrPost TwoPost PairT GaveD)
open Go.RowKit
set_option maxRecDepth 100000
set_option linter.unusedVariables false
set_option linter.unusedSimpArgs false

set_option maxHeartbeats 4000000 in
theorem rrec (a : Option Addr) (len cap : Nat) (ls : List Du) (t bp : Int) (w : World) (hr : RowD w a len ls) (hl : len ≤ maxLen) : Calls Try.prog 71 #[.slice a len cap, .int .i64 t, .int .i64 bp] w fun e w' => RecPost w ls t bp e w' := by
  have HFA : Hid (Calls Try.prog 81 #[.slice a len cap] w fun e w' => ∃ f, e = .returned (.int .i64 f) ∧ FaultIs ls f ∧ w' = w) := rfault a len cap ls w hr hl
  have HSH : Hid (∀ W, Calls Try.prog 83 #[.int .i64 t, .int .i64 bp] W fun e w' => ∃ s f, e = .returned (.tuple #[.int .i64 s, .int .i64 f]) ∧ ShareIs t bp s f ∧ w' = W) := fun W => rshare t bp W
  have hlen := hr.1
  go_enter Try.func71, Try.ntmps71
  go_wp2_with fail
  refine HFA.out.mono ?_
  rintro e w1 ⟨f, rfl, hf, hw1⟩
  subst hw1
  have HF : Hid (FaultIs ls f) := hf
  by_cases h0 : f = 0
  · subst h0
    have hm := hf.ok.1 rfl
    have HM : Hid (Mays ls) := hm
    have HLEN : Hid (ls.length = len) := hlen
    have hl8 : len ≤ 8 := by have := hm.1; omega
    have HROW : Hid (RowD w1 a len ls) := hr
    clear hf hm hr hl HFA hlen HF
    go_wp2_with fail
    refine (HSH.out _).mono ?_
    rintro e w2 ⟨s, g, rfl, hs, hw2⟩
    subst hw2
    rcases hs with ⟨ht, hse, hg⟩ | ⟨ht, hse, hg⟩
    · have HT : Hid (TMay t bp) := ht
      have hsb := share_bd ht
      rw [← hse] at hsb
      have HSE : Hid (s = t * bp / 10000) := hse
      subst hg
      clear ht hse HSH
      go_wp2_with fail
      go_loopw [11, 12, 13] (fun u v x wr => ∃ (k : Nat) (V : Value), k ≤ len ∧ x = .int .i64 (k : Int) ∧ v = .int .i64 (sumK ls k) ∧ V = u ∧ Ld 25 wr w2.heap.size V (recK ls s k) ∧ Below w2.heap.size w2 wr) (fun _ _ x _ => len - (intOf x).toNat)
      case atStart => exact ⟨0, _, Nat.zero_le _, rfl, rfl, rfl, tar.Ld.zero _ _ _, Below.refl _ _⟩
      case round =>
        obtain ⟨k, V, hk, rfl, rfl, hV, hu, hb⟩ := hrel
        subst hV
        have HBW : Hid (Below w2.heap.size w2 wr) := hb
        have HU : Hid (Ld 25 wr w2.heap.size V (recK ls s k)) := hu
        have hsk := sumK_bd HM.out k (by rw [HLEN.out]; exact hk)
        by_cases hlt : k < len
        · have hdl : decide ((k : Int) < (len : Int)) = true := by simp; omega
          obtain ⟨b, off, rfl, hbl, hc⟩ := HROW.out.at (by omega)
          have c0 : wr.cell? ⟨b, off + k * 2, none⟩ = some (.int .i64 (ls.getD k du0).a) := (hb.cell (p := ⟨b, off + k * 2, none⟩) hbl).trans (hc k hlt).1
          have c1 : wr.cell? ⟨b, off + k * 2 + 1, none⟩ = some (.int .i64 (ls.getD k du0).b) := (hb.cell (p := ⟨b, off + k * 2 + 1, none⟩) hbl).trans (hc k hlt).2
          have ho := HM.out.2 k (by rw [HLEN.out]; exact hlt)
          have ho1 := ho.1.1
          have ho2 := ho.1.2
          have HN : Hid (sumK ls k + (ls.getD k du0).a = sumK ls (k + 1)) := (sumK_next ls k).symm
          have HY : Hid (0 < left (ls.getD k du0).a (sumK ls k + (ls.getD k du0).a) s → recK ls s (k + 1) = recK ls s k ++ [⟨left (ls.getD k du0).a (sumK ls k + (ls.getD k du0).a) s, (ls.getD k du0).b⟩]) := recK_yes ls s k
          have HZ : Hid (¬ 0 < left (ls.getD k du0).a (sumK ls k + (ls.getD k du0).a) s → recK ls s (k + 1) = recK ls s k) := recK_no ls s k
          have hzl : (recK ls s k).length ≤ 1000000 := by have := recK_len ls s k; omega
          clear hc hb hu ho
          generalize recK ls s k = Z at *
          generalize sumK ls k = q at *
          generalize (ls.getD k du0).a = x at *
          generalize (ls.getD k du0).b = y at *
          by_cases hgt : x < q + x - s
          · have hd1 : decide (x < q + x - s) = true := decide_eq_true hgt
            have hle : left x (q + x) s = x := by unfold left; omega
            rw [hle] at HY HZ
            clear hgt hle
            by_cases hpos : 0 < x
            · have hd2 : decide (0 < x) = true := decide_eq_true hpos
              have HZ2 : Hid (recK ls s (k + 1) = Z ++ [⟨x, y⟩]) := HY.out hpos
              clear HY HZ hpos
              have HBA : Hid (Below w2.heap.size w2 (wr.alloc (.cells #[.int .i64 x, .int .i64 y] 25))) := HBW.out.alloc HBW.out.size _
              have HZA : Hid (Ld 25 (wr.alloc (.cells #[.int .i64 x, .int .i64 y] 25)) w2.heap.size V Z) := HU.out.alloc _
              have HCA : Hid ((wr.alloc (.cells #[.int .i64 x, .int .i64 y] 25)).cell? ⟨wr.heap.size, 0, none⟩ = some (.int .i64 x) ∧ (wr.alloc (.cells #[.int .i64 x, .int .i64 y] 25)).cell? ⟨wr.heap.size, 1, none⟩ = some (.int .i64 y)) := ⟨(Blk.new wr _ _).cell 0, (Blk.new wr _ _).cell 1⟩
              go_wp2_with (first
                | (at_builtin; refine tar.wp_pair debtT rfl _ _ rfl w2.heap.size (wr.heap.size) V Z ⟨x, y⟩ rfl rfl HZA.out HCA.out hzl HBA.out.size ?_)
                | fail)
              intro v3 w3 h3 hg3
              have HB3 : Hid (Below w2.heap.size w2 w3) := tar.own_bel HZA.out hg3 HBA.out (Nat.le_refl _) HBA.out.size
              have H3 : Hid (Ld 25 w3 w2.heap.size v3 (Z ++ [⟨x, y⟩])) := h3
              clear h3 hg3 HZA HCA HBA HU c0 c1
              go_wp2_with fail
              go_roundw
              case rel => exact ⟨k + 1, v3, by omega, by go_num, by rw [← HN.out], by first | rfl | trivial, by rw [HZ2.out]; exact H3.out, HB3.out⟩
              case measure => simp [intOf]; omega
            · have hd2 : decide (0 < x) = false := decide_eq_false hpos
              have HZ2 : Hid (recK ls s (k + 1) = Z) := HZ.out hpos
              clear HY HZ hpos
              go_wp2_with fail
              go_roundw
              case rel => exact ⟨k + 1, V, by omega, by go_num, by rw [← HN.out], by first | rfl | trivial, by rw [HZ2.out]; exact HU.out, HBW.out⟩
              case measure => simp [intOf]; omega
          · have hd1 : decide (x < q + x - s) = false := decide_eq_false hgt
            have hle : left x (q + x) s = q + x - s := by unfold left; omega
            rw [hle] at HY HZ
            clear hgt hle
            by_cases hpos : 0 < q + x - s
            · have hd2 : decide (0 < q + x - s) = true := decide_eq_true hpos
              have hd3 : decide (s < q + x) = true := decide_eq_true (by omega)
              have HZ2 : Hid (recK ls s (k + 1) = Z ++ [⟨q + x - s, y⟩]) := HY.out hpos
              clear HY HZ hpos
              have HBA : Hid (Below w2.heap.size w2 (wr.alloc (.cells #[.int .i64 (q + x - s), .int .i64 y] 25))) := HBW.out.alloc HBW.out.size _
              have HZA : Hid (Ld 25 (wr.alloc (.cells #[.int .i64 (q + x - s), .int .i64 y] 25)) w2.heap.size V Z) := HU.out.alloc _
              have HCA : Hid ((wr.alloc (.cells #[.int .i64 (q + x - s), .int .i64 y] 25)).cell? ⟨wr.heap.size, 0, none⟩ = some (.int .i64 (q + x - s)) ∧ (wr.alloc (.cells #[.int .i64 (q + x - s), .int .i64 y] 25)).cell? ⟨wr.heap.size, 1, none⟩ = some (.int .i64 y)) := ⟨(Blk.new wr _ _).cell 0, (Blk.new wr _ _).cell 1⟩
              go_wp2_with (first
                | (at_builtin; refine tar.wp_pair debtT rfl _ _ rfl w2.heap.size (wr.heap.size) V Z ⟨(q + x - s), y⟩ rfl rfl HZA.out HCA.out hzl HBA.out.size ?_)
                | fail)
              intro v3 w3 h3 hg3
              have HB3 : Hid (Below w2.heap.size w2 w3) := tar.own_bel HZA.out hg3 HBA.out (Nat.le_refl _) HBA.out.size
              have H3 : Hid (Ld 25 w3 w2.heap.size v3 (Z ++ [⟨(q + x - s), y⟩])) := h3
              clear h3 hg3 HZA HCA HBA HU c0 c1
              go_wp2_with fail
              go_roundw
              case rel => exact ⟨k + 1, v3, by omega, by go_num, by rw [← HN.out], by first | rfl | trivial, by rw [HZ2.out]; exact H3.out, HB3.out⟩
              case measure => simp [intOf]; omega
            · have hd2 : decide (0 < q + x - s) = false := decide_eq_false hpos
              have hd3 : decide (s < q + x) = false := decide_eq_false (by omega)
              have HZ2 : Hid (recK ls s (k + 1) = Z) := HZ.out hpos
              clear HY HZ hpos
              go_wp2_with fail
              go_roundw
              case rel => exact ⟨k + 1, V, by omega, by go_num, by rw [← HN.out], by first | rfl | trivial, by rw [HZ2.out]; exact HU.out, HBW.out⟩
              case measure => simp [intOf]; omega
        · obtain rfl : k = len := by omega
          have hdl : decide ((k : Int) < (k : Int)) = false := by simp
          have HV : Hid (sumK ls k = sumD ls) := by have := sumK_all ls; rw [HLEN.out] at this; exact this
          have HRE : Hid (recK ls s k = recK ls (t * bp / 10000) ls.length) := by show _ = _; rw [HLEN.out, HSE.out]
          have hmz : Mays (recK ls s k) := ⟨Nat.le_trans (recK_len ls s k) hl8, fits_mem fun d hd => (recK_ok HM.out s k (by rw [HLEN.out]; exact Nat.le_refl _) d hd).1⟩
          obtain ⟨a3, cap3, hv3, hcm⟩ := ld_fresh hu hmz
          subst hv3
          have HCM : Hid (Fresh wr w2.heap.size a3 (recK ls s k).length cap3 (recK ls s k)) := hcm
          clear hb hu hmz hcm HU
          generalize (recK ls s k).length = len3 at *
          generalize recK ls s k = Z at *
          generalize sumK ls k = q at *
          by_cases hpay : s < q
          · have hd3 : decide (s < q) = true := decide_eq_true hpay
            have HP : Hid (s = min (t * bp / 10000) (sumD ls)) := by show _ = _; rw [← HSE.out, ← HV.out]; omega
            clear hpay
            go_wp2_with fail
            go_ret3
            exact ⟨a3, len3, cap3, Z, s, 0, rfl, .inr (.inr ⟨HM.out, HT.out, rfl, HRE.out, HP.out⟩), HCM.out, HBW.out⟩
          · have hd3 : decide (s < q) = false := decide_eq_false hpay
            have HP : Hid (q = min (t * bp / 10000) (sumD ls)) := by show _ = _; rw [← HSE.out, ← HV.out]; omega
            clear hpay
            go_wp2_with fail
            go_ret3
            exact ⟨a3, len3, cap3, Z, q, 0, rfl, .inr (.inr ⟨HM.out, HT.out, rfl, HRE.out, HP.out⟩), HCM.out, HBW.out⟩
    · subst hse hg
      have HT : Hid (¬ TMay t bp) := ht
      clear ht HSH
      go_wp2_with fail
      go_ret3
      exact ⟨none, 0, 0, [], 0, 2, rfl, .inr (.inl ⟨HM.out, HT.out, rfl, rfl, rfl⟩), fresh_nil _ _, Below.refl _ _⟩
  · have hne : (f != 0) = true := by simpa using h0
    have HN : Hid (¬ Mays ls) := fun h => h0 (hf.ok.2 h)
    clear hf h0 hr hl HFA HSH
    go_wp2_with fail
    go_ret3
    exact ⟨none, 0, 0, [], 0, f, rfl, .inl ⟨HN.out, HF.out, rfl, rfl⟩, fresh_nil _ _, Below.refl _ _⟩

end Go.Proofs.Ytfhlokjpdkmdjaa.deb
