/- debt.Recover. -/
import Derived.Test.YtodnlecccgiogabKdR
import Derived.Test.YtodnlecccgiogabDpS
import Derived.Test.YtodnlecccgiogabDbK
import Derived.Test.YtodnlecccgiogabTfMin
import Derived.Test.YtodnlecccgiogabLet
import Derived.OwnWalk
namespace Go.Proofs.Ytodnlecccgiogab.deb
open Go.Proofs.Ytodnlecccgiogab.tar (Du du0 Came RowD Ld ErrPost TwoPost PairT GaveD)
open Go.RowKit
set_option maxRecDepth 100000
set_option linter.unusedVariables false
set_option linter.unusedSimpArgs false

set_option maxHeartbeats 4000000 in
theorem krec : KdRec := by
  intro w a len cap ls t bp hcame ht0 hb0
  have hr := hcame.row
  have HSH : Hid (Calls Try.prog 16 #[.slice a len cap, .int .i64 t, .int .i64 bp] w fun e w' => SharePost ls t bp w e w') := pshare a len cap ls t bp w hr hcame.most
  have HROW0 : Hid (RowD w a len ls) := hr
  clear hcame hr ht0 hb0
  go_enter Try.func12, Try.ntmps12
  go_wp2_with fail
  refine HSH.out.mono ?_
  rintro e w1 ⟨s, f, rfl, hf, hb1⟩
  have HB1 : Hid (Below w.heap.size w w1) := hb1
  clear hb1 HSH
  rcases hf with ⟨hm, hf, rfl⟩ | ⟨hm, ⟨ht, hse, hg⟩ | ⟨ht, rfl, rfl⟩⟩
  · have hne : (f != 0) = true := by simpa using fun h => hm (hf.ok.1 h)
    have HN : Hid (¬ Mays ls) := hm
    have HF : Hid (FaultIs ls f) := hf
    clear hf hm
    go_wp2_with fail
    go_ret3
    exact ⟨none, 0, 0, [], 0, f, rfl, .inl ⟨HN.out, HF.out, rfl, rfl⟩, fresh_nil _ _, HB1.out⟩
  · subst hg
    have HT : Hid (TMay t bp) := ht
    have hsb := share_bd ht
    rw [← hse] at hsb
    have HSE : Hid (s = t * bp / 10000) := hse
    have HM : Hid (Mays ls) := hm
    have HROW : Hid (RowD w1 a len ls) := HROW0.out.below HB1.out
    have HLEN : Hid (ls.length = len) := HROW.out.1
    have hl8 : len ≤ 8 := by have := hm.1; have := HLEN.out; omega
    clear ht hse hm HROW0
    go_wp2_with fail
    go_loopw [11, 12, 29] (fun u v x wr => ∃ (k : Nat) (V : Value), k ≤ len ∧ x = .int .i64 (k : Int) ∧ v = .int .i64 (max 0 (s - sumK ls k)) ∧ V = u ∧ Ld 31 wr w1.heap.size V (recK ls s k) ∧ Below w1.heap.size w1 wr) (fun _ _ x _ => len - (intOf x).toNat)
    case atStart => exact ⟨0, _, Nat.zero_le _, rfl, by show _ = Value.int .i64 (max 0 (s - 0)); rw [show max 0 (s - 0) = s by omega], rfl, tar.Ld.zero _ _ _, Below.refl _ _⟩
    case round =>
      obtain ⟨k, V, hk, rfl, rfl, hV, hu, hb⟩ := hrel
      subst hV
      have HBW : Hid (Below w1.heap.size w1 wr) := hb
      have HU : Hid (Ld 31 wr w1.heap.size V (recK ls s k)) := hu
      have hsk := sumK_bd HM.out k (by rw [HLEN.out]; exact hk)
      by_cases hlt : k < len
      · have hdl : decide ((k : Int) < (len : Int)) = true := by simp; omega
        obtain ⟨b, off, rfl, hbl, hc⟩ := HROW.out.at (by omega)
        have c0 : wr.cell? ⟨b, off + k * 2, none⟩ = some (.int .i64 (ls.getD k du0).a) := (hb.cell (p := ⟨b, off + k * 2, none⟩) hbl).trans (hc k hlt).1
        have c1 : wr.cell? ⟨b, off + k * 2 + 1, none⟩ = some (.int .i64 (ls.getD k du0).b) := (hb.cell (p := ⟨b, off + k * 2 + 1, none⟩) hbl).trans (hc k hlt).2
        have ho := HM.out.2 k (by rw [HLEN.out]; exact hlt)
        have ho1 := ho.1.1
        have ho2 := ho.1.2
        have HN : Hid (sumK ls k + (ls.getD k du0).a = sumK ls (k + 1)) := (sumK_next ls k).symm
        have HY : Hid (0 < left (ls.getD k du0).a (sumK ls k + (ls.getD k du0).a) s → recK ls s (k + 1) = recK ls s k ++ [⟨left (ls.getD k du0).a (sumK ls k + (ls.getD k du0).a) s, (ls.getD k du0).b⟩]) := recK_yes ls s k
        have HZ : Hid (¬ 0 < left (ls.getD k du0).a (sumK ls k + (ls.getD k du0).a) s → recK ls s (k + 1) = recK ls s k) := recK_no ls s k
        have hzl : (recK ls s k).length ≤ 1000000 := by have := recK_len ls s k; omega
        clear hc hb hu ho
        generalize recK ls s k = Z at *
        generalize hq1 : sumK ls k = q at *
        generalize (ls.getD k du0).a = x at *
        generalize (ls.getD k du0).b = y at *
        have HBX : Hid (Blk (wr.alloc (.cells #[.int .i64 x, .int .i64 y] 31)) wr.heap.size #[.int .i64 x, .int .i64 y] 31) := Blk.new wr _ _
        generalize hR : max 0 (s - q) = R at *
        have hR0 : 0 ≤ R := by omega
        have hR1 : R ≤ 100000000 := by omega
        have hmin := tar.run_min R x _ rfl
        generalize hp : min R x = p at *
        have hp0 : 0 ≤ p := by omega
        have hp1 : p ≤ x := by omega
        have hp2 : p ≤ R := by omega
        by_cases hpos : 0 < x - p
        ·
          have HRN : Hid (R - p = max 0 (s - sumK ls (k + 1))) := by show _ = _; rw [← HN.out]; omega
          have hd2 : decide (0 < x - p) = true := decide_eq_true hpos
          have hle : left x (q + x) s = x - p := by unfold left; omega
          rw [hle] at HY
          have HZ2 : Hid (recK ls s (k + 1) = Z ++ [⟨x - p, y⟩]) := HY.out hpos
          clear HY HZ hle
          clear hq1 hR hp hsk HN
          go_wp2_with (first
            | (refine wp_let1 rfl 3 _ _ rfl (wr.heap.size) 0 rfl .i64 (x - p) rfl (by kernel_rfl) #[.int .i64 x, .int .i64 y] 31 HBX.out (by simp) ?_)
            | fail)
          intro W1 hU1
          have HX1 : Hid (Blk W1 wr.heap.size #[.int .i64 (x - p), .int .i64 y] 31) := hU1.blk
          have hbw : Below wr.heap.size wr W1 := hU1.bel _ _ (Nat.le_refl _) ((Below.refl _ _).alloc (Nat.le_refl _) _)
          have HBW1 : Hid (Below w1.heap.size w1 W1) := HBW.out.trans (hbw.mono HBW.out.size)
          have HU1 : Hid (Ld 31 W1 w1.heap.size V Z) := HU.out.next hbw
          have d0 : W1.cell? ⟨wr.heap.size, 0, none⟩ = some (.int .i64 (x - p)) := HX1.out.cell 0
          have d1 : W1.cell? ⟨wr.heap.size, 1, none⟩ = some (.int .i64 y) := HX1.out.cell 1
          clear hU1 hbw HBX HBW HU c0 c1
          have HBA : Hid (Below w1.heap.size w1 (W1.alloc (.cells #[.int .i64 (x - p), .int .i64 y] 31))) := HBW1.out.alloc HBW1.out.size _
          have HZA : Hid (Ld 31 (W1.alloc (.cells #[.int .i64 (x - p), .int .i64 y] 31)) w1.heap.size V Z) := HU1.out.alloc _
          have HCA : Hid ((W1.alloc (.cells #[.int .i64 (x - p), .int .i64 y] 31)).cell? ⟨W1.heap.size, 0, none⟩ = some (.int .i64 (x - p)) ∧ (W1.alloc (.cells #[.int .i64 (x - p), .int .i64 y] 31)).cell? ⟨W1.heap.size, 1, none⟩ = some (.int .i64 y)) := ⟨(Blk.new W1 _ _).cell 0, (Blk.new W1 _ _).cell 1⟩
          go_wp2_with (first
            | (at_builtin; refine tar.wp_pair debtT rfl _ _ rfl w1.heap.size (W1.heap.size) V Z ⟨x - p, y⟩ rfl rfl HZA.out HCA.out hzl HBA.out.size ?_)
            | fail)
          intro v3 w3 h3 hg3
          have HB3 : Hid (Below w1.heap.size w1 w3) := tar.own_bel HZA.out hg3 HBA.out (Nat.le_refl _) HBA.out.size
          have H3 : Hid (Ld 31 w3 w1.heap.size v3 (Z ++ [⟨x - p, y⟩])) := h3
          clear h3 hg3 HZA HCA HBA HU1 d0 d1
          go_wp2_with fail
          go_roundw
          case rel => exact ⟨k + 1, v3, by omega, by go_num, by rw [← HRN.out], by first | rfl | trivial, by rw [HZ2.out]; exact H3.out, HB3.out⟩
          case measure => simp [intOf]; omega
        ·
          have HRN : Hid (R - p = max 0 (s - sumK ls (k + 1))) := by show _ = _; rw [← HN.out]; omega
          have hd2 : decide (0 < x - p) = false := decide_eq_false hpos
          have hle : ¬ 0 < left x (q + x) s := by unfold left; omega
          have HZ2 : Hid (recK ls s (k + 1) = Z) := HZ.out hle
          clear HY HZ hle
          clear hq1 hR hp hsk HN
          go_wp2_with (first
            | (refine wp_let1 rfl 3 _ _ rfl (wr.heap.size) 0 rfl .i64 (x - p) rfl (by kernel_rfl) #[.int .i64 x, .int .i64 y] 31 HBX.out (by simp) ?_)
            | fail)
          intro W1 hU1
          have HX1 : Hid (Blk W1 wr.heap.size #[.int .i64 (x - p), .int .i64 y] 31) := hU1.blk
          have hbw : Below wr.heap.size wr W1 := hU1.bel _ _ (Nat.le_refl _) ((Below.refl _ _).alloc (Nat.le_refl _) _)
          have HBW1 : Hid (Below w1.heap.size w1 W1) := HBW.out.trans (hbw.mono HBW.out.size)
          have HU1 : Hid (Ld 31 W1 w1.heap.size V Z) := HU.out.next hbw
          have d0 : W1.cell? ⟨wr.heap.size, 0, none⟩ = some (.int .i64 (x - p)) := HX1.out.cell 0
          have d1 : W1.cell? ⟨wr.heap.size, 1, none⟩ = some (.int .i64 y) := HX1.out.cell 1
          clear hU1 hbw HBX HBW HU c0 c1
          go_wp2_with fail
          go_roundw
          case rel => exact ⟨k + 1, V, by omega, by go_num, by rw [← HRN.out], by first | rfl | trivial, by rw [HZ2.out]; exact HU1.out, HBW1.out⟩
          case measure => simp [intOf]; omega
      · obtain rfl : k = len := by omega
        have hdl : decide ((k : Int) < (k : Int)) = false := by simp
        have HV : Hid (sumK ls k = sumD ls) := by have := sumK_all ls; rw [HLEN.out] at this; exact this
        have HRE : Hid (recK ls s k = recK ls (t * bp / 10000) ls.length) := by show _ = _; rw [HLEN.out, HSE.out]
        have hmz : Mays (recK ls s k) := ⟨Nat.le_trans (recK_len ls s k) hl8, fits_mem fun d hd => (recK_ok HM.out s k (by rw [HLEN.out]; exact Nat.le_refl _) d hd).1⟩
        obtain ⟨a3, cap3, hv3, hcm⟩ := ld_fresh hu hmz
        subst hv3
        have HCM : Hid (Fresh wr w.heap.size a3 (recK ls s k).length cap3 (recK ls s k)) := hcm.low HB1.out.size
        have HB9 : Hid (Below w.heap.size w wr) := HB1.out.trans (HBW.out.mono HB1.out.size)
        have HP : Hid (s - max 0 (s - sumK ls k) = min (t * bp / 10000) (sumD ls)) := by show _ = _; rw [← HSE.out, ← HV.out]; omega
        clear hb hu hmz hcm HU
        generalize (recK ls s k).length = len3 at *
        generalize recK ls s k = Z at *
        generalize hq : max 0 (s - sumK ls k) = q at *
        have hq0 : 0 ≤ q := by omega
        have hq1 : q ≤ s := by omega
        clear hq hsk
        go_wp2_with fail
        go_ret3
        exact ⟨a3, len3, cap3, Z, s - q, 0, rfl, .inr (.inr ⟨HM.out, HT.out, rfl, HRE.out, HP.out⟩), HCM.out, HB9.out⟩
  · have HM : Hid (Mays ls) := hm
    have HT : Hid (¬ TMay t bp) := ht
    clear ht hm
    go_wp2_with fail
    go_ret3
    exact ⟨none, 0, 0, [], 0, 2, rfl, .inr (.inl ⟨HM.out, HT.out, rfl, rfl, rfl⟩), fresh_nil _ _, HB1.out⟩

end Go.Proofs.Ytodnlecccgiogab.deb
