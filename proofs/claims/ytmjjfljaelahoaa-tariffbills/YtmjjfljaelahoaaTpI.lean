/- The lines, one by one, in the program. -/
import Derived.RangeFuncNested
import Derived.RangeFuncBound
import Derived.RangeFuncCalls
import Derived.RangeFuncLeaves
import Derived.Shelf.Abstract
import Derived.Shelf.RegionOpen
import Derived.WalkKit
import Derived.OwnWalkIn
import Derived.TacticsInMore
import Derived.LoopNIn
import Derived.LoopIn
import Derived.Test.YtmjjfljaelahoaaTpIn
import Derived.Test.YtmjjfljaelahoaaTfMin
namespace Go.Proofs.Ytmjjfljaelahoaa.tar
open Go.RowKit Go.Shelf
set_option maxRecDepth 100000
set_option linter.unusedVariables false
set_option linter.unusedSimpArgs false
attribute [local go_sem] Oper.semAt_some

theorem boxed_same {W W' : World} {B : Nat} {t : TypeId} {v : Value} (h : Boxed W B t v) (e : W'.heap[B]? = W.heap[B]?) : Boxed W' B t v := e.trans h

set_option maxHeartbeats 2000000 in
theorem lines1_in (F : Fence) (n : Nat) (hF : F.fn 30) (hro : F.round = none) (hn : 1 ≤ n) (l Bf Bt Bu n₀ lo hi b off len cap B0 : Nat) (ls : List Du) (x u : Int) (J Jx : List Ln → World → Prop)
    (hR : Right ls) (hlen : ls.length = len) (hx : 0 ≤ x ∧ x ≤ 10000000) (hu : 0 ≤ u ∧ x + u ≤ 10000000) (hJ : AbidesFrom B0 J)
    (hY : ∀ pre t W, J pre W → pre.length < len → YieldAt F (n - 1) Try.prog l (encL t) W fun e W' =>
      (e = .returned (.bool true) ∧ J (pre ++ [t]) W' ∧ Kq n₀ lo hi W W') ∨ (e = .returned (.bool false) ∧ Jx (pre ++ [t]) W'))
    (W : World) (hf : Boxed W Bf 3 (.int .i64 x)) (ht : Boxed W Bt 22 (.slice (some ⟨b, off, none⟩) len cap)) (hun : Boxed W Bu 3 (.int .i64 u)) (h1 : lo ≤ Bf ∧ Bf < hi) (h2 : lo ≤ Bu ∧ Bu < hi) (hb : b < n₀) (hnW : n₀ ≤ W.heap.size)
    (hc : ∀ i, i < len → W.cell? ⟨b, off + i * 2, none⟩ = some (.int .i64 (ls.getD i du0).a) ∧ W.cell? ⟨b, off + i * 2 + 1, none⟩ = some (.int .i64 (ls.getD i du0).b)) (h0 : J [] W) :
    CallsIn F n Try.prog 30 #[.func (.yield l) #[] #[], .pointer (some ⟨Bf, 0, none⟩), .pointer (some ⟨Bt, 0, none⟩), .pointer (some ⟨Bu, 0, none⟩)] W fun e W' => (∃ v, e = .returned v) ∧
      ((∃ ys, lns ys = billK ls x (x + u) len ∧ J ys W') ∨ (∃ pre, lns pre <+: billK ls x (x + u) len ∧ Jx pre W')) := by
  have HR : Hid (Right ls) := hR
  have HY : Hid (∀ pre t W, J pre W → pre.length < len → YieldAt F (n - 1) Try.prog l (encL t) W fun e W' =>
      (e = .returned (.bool true) ∧ J (pre ++ [t]) W' ∧ Kq n₀ lo hi W W') ∨ (e = .returned (.bool false) ∧ Jx (pre ++ [t]) W')) := hY
  have HJ : Hid (AbidesFrom B0 J) := hJ
  have HC : Hid (∀ i, i < len → W.cell? ⟨b, off + i * 2, none⟩ = some (.int .i64 (ls.getD i du0).a) ∧ W.cell? ⟨b, off + i * 2 + 1, none⟩ = some (.int .i64 (ls.getD i du0).b)) := hc
  have HLEN : Hid (ls.length = len) := hlen
  have hl8 : len ≤ 8 := by have := hR.1.2; omega
  have ct := ht.cell
  have cf := hf.cell
  obtain ⟨hx0, hx1⟩ := hx
  obtain ⟨hu0, hu1⟩ := hu
  have HX : Hid (0 ≤ x ∧ x ≤ x + u ∧ x + u ≤ 10000000) := ⟨hx0, by omega, hu1⟩
  clear hR hY hJ hc hlen
  refine callsIn_of_wp Try.func30 rfl hF ?_ hro
  simp only [Try.ntmps30, List.size_toArray, List.length_cons, List.length_nil, Nat.reduceAdd, Nat.reduceSub, Array.replicate_succ, Array.replicate_zero, List.push_toArray, List.append_toArray, List.nil_append, List.cons_append]
  gi_wp2
  gi_loopw [5, 12] (fun r i wr => ∃ (k : Nat) (pre : List Ln), k ≤ len ∧ i = .int .i64 (k : Int) ∧ r = .int .i64 (x + manyK ls x (x + u) k) ∧ lns pre = billK ls x (x + u) k ∧ J pre wr ∧ Boxed wr Bf 3 (.int .i64 x) ∧ Boxed wr Bu 3 (.int .i64 u) ∧ Below n₀ W wr) (fun _ i _ => len - (intOf i).toNat)
  case atStart => exact ⟨0, [], Nat.zero_le _, rfl, by show _ = Value.int .i64 (x + 0); rw [Int.add_zero], rfl, h0, hf, hun, Below.refl _ _⟩
  case round =>
    obtain ⟨k, pre, hk, rfl, rfl, hpre, hj, hbf, hbu, hbl⟩ := hrel
    have HPRE : Hid (lns pre = billK ls x (x + u) k) := hpre
    have HJP : Hid (J pre wr) := hj
    have HBF : Hid (Boxed wr Bf 3 (.int .i64 x)) := hbf
    have HBU : Hid (Boxed wr Bu 3 (.int .i64 u)) := hbu
    have HBL : Hid (Below n₀ W wr) := hbl
    clear hpre hj hf hun ht ct cf
    by_cases hlt : k < len
    · have hdl : decide ((k : Int) < (len : Int)) = true := by simp; omega
      have c0 : wr.cell? ⟨b, off + k * 2, none⟩ = some (.int .i64 (ls.getD k du0).a) := (hbl.cell (p := ⟨b, off + k * 2, none⟩) hb).trans (HC.out k hlt).1
      have c1 : wr.cell? ⟨b, off + k * 2 + 1, none⟩ = some (.int .i64 (ls.getD k du0).b) := (hbl.cell (p := ⟨b, off + k * 2 + 1, none⟩) hb).trans (HC.out k hlt).2
      have hkl : k < ls.length := by rw [HLEN.out]; exact hlt
      have hpr := HR.out.price k hkl
      have hup := HR.out.upto k hkl
      have hmb := many_bd HR.out x (x + u) hx0 (by omega) k (by omega)
      have hmin := run_min (ls.getD k du0).a (x + u) _ rfl
      have hpl : pre.length < len := by
        have e1 := lns_len pre
        have e2 := bill_len ls x (x + u) k
        rw [HPRE.out] at e1
        omega
      have HBA : Hid (∀ o, Below n₀ W (wr.alloc o)) := fun o => hbl.alloc (Nat.le_trans hnW hbl.size) o
      have cf : ∀ o, (wr.alloc o).cell? ⟨Bf, 0, none⟩ = some (.int .i64 x) := fun o => (hbf.alloc o).cell
      have cu : ∀ o, (wr.alloc o).cell? ⟨Bu, 0, none⟩ = some (.int .i64 u) := fun o => (hbu.alloc o).cell
      have HFA : Hid (∀ o, Boxed (wr.alloc o) Bf 3 (.int .i64 x)) := fun o => hbf.alloc o
      have HUA : Hid (∀ o, Boxed (wr.alloc o) Bu 3 (.int .i64 u)) := fun o => hbu.alloc o
      have HJA : Hid (∀ o, J pre (wr.alloc o)) := fun o => HJ.out pre wr _ none HJP.out (World.grownBy_alloc wr o none) (fun r e => by cases e)
      clear hbf hbu hbl
      by_cases hp : 0 < min (ls.getD k du0).a (x + u) - (x + manyK ls x (x + u) k)
      · have ho := nxt_yes HR.out x (x + u) hx0 (by omega) k hkl hp
        have hp2 := hp
        rw [ho] at hp2
        have hok := line_ok HR.out x (x + u) k hkl hp2
        have HN : Hid (billK ls x (x + u) (k + 1) = billK ls x (x + u) k ++ [⟨ov (low ls k) (ls.getD k du0).a x (x + u), (ls.getD k du0).b, ov (low ls k) (ls.getD k du0).a x (x + u) * (ls.getD k du0).b⟩]) := billK_yes ls x (x + u) k hp2
        have HM : Hid (manyK ls x (x + u) (k + 1) = manyK ls x (x + u) k + ov (low ls k) (ls.getD k du0).a x (x + u)) := many_next ls x (x + u) k
        have hm2 := many_bd HR.out x (x + u) hx0 (by omega) (k + 1) (by omega)
        rw [HM.out] at hm2
        have hle := ov_le (low ls k) (ls.getD k du0).a x (x + u) (HR.out.low_pos k (by omega)) hup.2
        have hpb := prod_bd (Int.le_of_lt hp2) hle hpr.1 hpr.2
        generalize ov (low ls k) (ls.getD k du0).a x (x + u) = o at *
        generalize manyK ls x (x + u) k = mk at *
        generalize (ls.getD k du0).a = up at *
        generalize (ls.getD k du0).b = p at *
        generalize min up (x + u) = m at *
        have hm : m - (x + mk) = o := ho
        have hdo : decide (o ≤ 0) = false := by simp; omega
        have HQ : Hid (∀ C, YieldAt F (n - 1) Try.prog l (encL ⟨⟨o, p, o * p⟩, hok⟩) (wr.alloc C) fun e W' =>
          (e = .returned (.bool true) ∧ J (pre ++ [⟨⟨o, p, o * p⟩, hok⟩]) W' ∧ Kq n₀ lo hi (wr.alloc C) W') ∨ (e = .returned (.bool false) ∧ Jx (pre ++ [⟨⟨o, p, o * p⟩, hok⟩]) W')) := fun C => HY.out pre ⟨⟨o, p, o * p⟩, hok⟩ _ (HJA.out C) hpl
        obtain ⟨fn, tmps, assign, body, hy, hRd⟩ := HQ.out (.cells #[.int .i64 up, .int .i64 p] 42)
        have HNX : Hid (lns (pre ++ [⟨⟨o, p, o * p⟩, hok⟩]) = billK ls x (x + u) (k + 1)) := by
          show _ = _
          rw [lns_app, HPRE.out, HN.out]; rfl
        have hpb0 := hpb.1
        have hpb1 := hpb.2
        have hxm0 : 0 ≤ x + mk := by omega
        have hxm1 : x + mk ≤ 10000000 := by omega
        have hm0 : 0 ≤ m := by omega
        have hm1 : m ≤ 20000000 := by omega
        have hs1 : x + mk + o ≤ 10000000 := by omega
        have ho0 : 0 ≤ o := by omega
        simp only [encL] at hy
        clear ho hp HQ hmb hm2 hpb hpr hup
        gi_wp2
        refine hRd.mono ?_
        rintro e W3 (⟨rfl, hJ3, hk3⟩ | ⟨rfl, hJx3⟩)
        · have HB3 : Hid (Below n₀ W W3) := (HBA.out _).trans hk3.1
          have HF3 : Hid (Boxed W3 Bf 3 (.int .i64 x)) := boxed_same (HFA.out _) (hk3.2 Bf h1.1 h1.2)
          have HU3 : Hid (Boxed W3 Bu 3 (.int .i64 u)) := boxed_same (HUA.out _) (hk3.2 Bu h2.1 h2.2)
          have HJ3 : Hid (J (pre ++ [⟨⟨o, p, o * p⟩, hok⟩]) W3) := hJ3
          clear hk3 hJ3
          gi_wp2
          go_roundw
          case rel => exact ⟨k + 1, pre ++ [⟨⟨o, p, o * p⟩, hok⟩], by omega, by go_num, by rw [HM.out, Int.add_assoc], HNX.out, HJ3.out, HF3.out, HU3.out, HB3.out⟩
          case measure => simp [intOf]; omega
        · have HJX : Hid (Jx (pre ++ [⟨⟨o, p, o * p⟩, hok⟩]) W3) := hJx3
          clear hJx3
          gi_wp2
          refine bodyPost_ret (results_none rfl _ _ _) rfl ?_
          exact ⟨⟨_, rfl⟩, .inr ⟨pre ++ [⟨⟨o, p, o * p⟩, hok⟩], by rw [HNX.out]; exact bill_prefix ls x (x + u) (k + 1) len (by omega), HJX.out⟩⟩
      · have ho := nxt_no HR.out x (x + u) hx0 (by omega) k hkl hp
        have hmz : 0 ≤ min (ls.getD k du0).a (x + u) := by omega
        have HN : Hid (billK ls x (x + u) (k + 1) = billK ls x (x + u) k) := billK_no ls x (x + u) k (by omega)
        have HM : Hid (manyK ls x (x + u) (k + 1) = manyK ls x (x + u) k) := by show _ = _; rw [many_next, ho, Int.add_zero]
        generalize manyK ls x (x + u) k = mk at *
        generalize (ls.getD k du0).a = up at *
        generalize (ls.getD k du0).b = p at *
        generalize min up (x + u) = m at *
        have hxm0 : 0 ≤ x + mk := by omega
        have hxm1 : x + mk ≤ 10000000 := by omega
        have hdo : decide (m - (x + mk) ≤ 0) = true := by simp; omega
        have hm0 : 0 ≤ m := hmz
        have hm1 : m ≤ 20000000 := by omega
        clear ho hp hmb hpr hup
        gi_wp2
        go_roundw
        case rel => exact ⟨k + 1, pre, by omega, by go_num, by rw [HM.out], by rw [HN.out]; exact HPRE.out, HJA.out _, HFA.out _, HUA.out _, HBA.out _⟩
        case measure => simp [intOf]; omega
    · obtain rfl : k = len := by omega
      have hdl : decide ((k : Int) < (k : Int)) = false := by simp
      clear hbf hbu hbl
      gi_wp2
      go_end0
      exact ⟨⟨_, rfl⟩, .inl ⟨pre, HPRE.out, HJP.out⟩⟩

end Go.Proofs.Ytmjjfljaelahoaa.tar
