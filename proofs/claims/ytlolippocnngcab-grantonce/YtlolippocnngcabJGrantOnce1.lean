import Derived.Test.YtlolippocnngcabDbD
import Derived.WalkKit
import Derived.Below
import Derived.Test.YtlolippocnngcabProg
import Derived.Test.YtlolippocnngcabDpC
import Derived.Test.YtlolippocnngcabApI
import Derived.Test.YtlolippocnngcabBlk
import Derived.Deep.DeepCutAuto
import Derived.Test.YtlolippocnngcabApN
import Derived.Test.YtlolippocnngcabOpAt
import Derived.Test.YtlolippocnngcabDbK
import Derived.Laws.AppendOwnNone
import Derived.Test.YtlolippocnngcabApH
import Derived.Test.YtlolippocnngcabKcG
import Derived.Test.YtlolippocnngcabRows
import Derived.Test.YtlolippocnngcabAcD
import Derived.ProofKit
import Derived.OpenShut
import Derived.SizedLaws
import Derived.ChangeSame
import Derived.Lib.SmallJoins
import Derived.Deep.SlicePairs

/- What is owed in all, in the program. -/
namespace Go.Proofs.Ytlolippocnngcab.deb
open Go.Proofs.Ytlolippocnngcab.tar (Du du0 Came RowD Ld ErrPost TwoPost PairT GaveD)
open Go.RowKit
set_option maxRecDepth 100000
set_option linter.unusedVariables false
set_option linter.unusedSimpArgs false

set_option maxHeartbeats 2000000 in
theorem powed (a : Option Addr) (len cap : Nat) (ls : List Du) (w : World) (hr : RowD w a len ls) (hm : Mays ls) : Calls Try.prog 41 #[.slice a len cap] w fun e w' => e = .returned (.int .i64 (sumD ls)) ∧ Below w.heap.size w w' := by
  have HLEN : Hid (ls.length = len) := hr.1
  have HM : Hid (Mays ls) := hm
  have hl8 : len ≤ 8 := by have := hm.1; have := hr.1; omega
  have HROW : Hid (RowD w a len ls) := hr
  clear hm hr
  go_enter Try.func41, Try.ntmps41
  go_wp2_with fail
  go_loopw [3, 8] (fun v x wr => ∃ k : Nat, k ≤ len ∧ x = .int .i64 (k : Int) ∧ v = .int .i64 (sumK ls k) ∧ Below w.heap.size w wr) (fun _ x _ => len - (intOf x).toNat)
  case atStart => exact ⟨0, Nat.zero_le _, rfl, rfl, Below.refl _ _⟩
  case round =>
    obtain ⟨k, hk, rfl, rfl, hb⟩ := hrel
    have hsb := sumK_bd HM.out k (by rw [HLEN.out]; exact hk)
    have HB : Hid (Below w.heap.size w wr) := hb
    by_cases hlt : k < len
    · have hdl : decide ((k : Int) < (len : Int)) = true := by simp; omega
      obtain ⟨b, off, rfl, hbl, hc⟩ := HROW.out.at (by omega)
      have c0 : wr.cell? ⟨b, off + k * 2, none⟩ = some (.int .i64 (ls.getD k du0).a) := (hb.cell (p := ⟨b, off + k * 2, none⟩) hbl).trans (hc k hlt).1
      have c1 : wr.cell? ⟨b, off + k * 2 + 1, none⟩ = some (.int .i64 (ls.getD k du0).b) := (hb.cell (p := ⟨b, off + k * 2 + 1, none⟩) hbl).trans (hc k hlt).2
      have HBA : Hid (∀ o, Below w.heap.size w (wr.alloc o)) := fun o => hb.alloc hb.size o
      have ho := (HM.out.2 k (by rw [HLEN.out]; exact hlt)).1
      have HN : Hid (sumK ls k + (ls.getD k du0).a = sumK ls (k + 1)) := (sumK_next ls k).symm
      clear hc hb
      generalize sumK ls k = s at *
      generalize (ls.getD k du0).a = x at *
      generalize (ls.getD k du0).b = y at *
      go_wp2_with fail
      go_roundw
      case rel => exact ⟨k + 1, by omega, by go_num, by rw [← HN.out], HBA.out _⟩
      case measure => simp [intOf]; omega
    · obtain rfl : k = len := by omega
      have hdl : decide ((k : Int) < (k : Int)) = false := by simp
      have HV : Hid (sumK ls k = sumD ls) := by have := sumK_all ls; rw [HLEN.out] at this; exact this
      generalize sumK ls k = s at *
      clear hb
      go_wp2_with fail
      go_ret
      exact ⟨congrArg (fun z => Ending.returned (Value.int .i64 z)) HV.out, HB.out⟩

end Go.Proofs.Ytlolippocnngcab.deb

/- debt.Total: what is asked of it. -/
namespace Go.Proofs.Ytlolippocnngcab.deb
open Go.Proofs.Ytlolippocnngcab.tar (Du du0 Came TwoPost)
open Go.RowKit

def KdTotal : Prop := ∀ (W : World) (a : Option Addr) (len cap : Nat) (ls : List Du), Came W a len cap ls → Calls Try.prog 21 #[.slice a len cap] W fun e w' => TwoPost W (OwedIs ls) e w'

end Go.Proofs.Ytlolippocnngcab.deb

/- debt.Total. -/
namespace Go.Proofs.Ytlolippocnngcab.deb
open Go.Proofs.Ytlolippocnngcab.tar (Du du0 Came RowD Ld ErrPost TwoPost PairT GaveD)
open Go.RowKit
set_option maxRecDepth 100000
set_option linter.unusedVariables false
set_option linter.unusedSimpArgs false

set_option maxHeartbeats 2000000 in
theorem ktotal : KdTotal := by
  intro w a len cap ls hcame
  have hr := hcame.row
  have HFA : Hid (Calls Try.prog 40 #[.slice a len cap] w fun e w' => ∃ f, e = .returned (.int .i64 f) ∧ FaultIs ls f ∧ Below w.heap.size w w') := pcheck a len cap ls w hr hcame.most
  have HOW : Hid (Mays ls → ∀ W, Below w.heap.size w W → Calls Try.prog 41 #[.slice a len cap] W fun e w' => e = .returned (.int .i64 (sumD ls)) ∧ Below W.heap.size W w') := fun hm W hW => powed a len cap ls W (hr.below hW) hm
  clear hcame hr
  go_enter Try.func21, Try.ntmps21
  go_wp2_with fail
  refine HFA.out.mono ?_
  rintro e w1 ⟨f, rfl, hf, hb1⟩
  have HB1 : Hid (Below w.heap.size w w1) := hb1
  have HF : Hid (FaultIs ls f) := hf
  clear hb1 HFA
  by_cases h0 : f = 0
  · subst h0
    have hm := hf.ok.1 rfl
    have HO2 : Hid (Calls Try.prog 41 #[.slice a len cap] w1 fun e w' => e = .returned (.int .i64 (sumD ls)) ∧ Below w1.heap.size w1 w') := HOW.out hm w1 HB1.out
    clear hf hm HOW
    go_wp2_with fail
    refine HO2.out.mono ?_
    rintro e w2 ⟨rfl, hb2⟩
    have HB2 : Hid (Below w.heap.size w w2) := HB1.out.trans (hb2.mono HB1.out.size)
    clear hb2 HO2
    go_wp2_with fail
    go_ret2
    exact ⟨_, _, rfl, ⟨HF.out, .inl ⟨rfl, rfl⟩⟩, HB2.out⟩
  · have hne : (f != 0) = true := by simpa using h0
    have HN : Hid (f ≠ 0) := h0
    clear hf h0 HOW
    go_wp2_with fail
    go_ret2
    exact ⟨_, _, rfl, ⟨HF.out, .inr ⟨HN.out, rfl⟩⟩, HB1.out⟩

end Go.Proofs.Ytlolippocnngcab.deb

/- May an account be, in the program. -/
namespace Go.Proofs.Ytlolippocnngcab.acc
open Go.Proofs.Ytlolippocnngcab.tar (Du du0 Came RowD Ld PairT)
open Go.RowKit
set_option maxRecDepth 100000
set_option linter.unusedVariables false
set_option linter.unusedSimpArgs false

def MayPost (w : World) (x : Ac) (e : Ending) (w' : World) : Prop := ∃ r, e = .returned (.bool r) ∧ (r = true ↔ AMay x) ∧ Below w.heap.size w w'
set_option maxHeartbeats 4000000 in
theorem pmay (x : Ac) (p : Option Addr) (len cap : Nat) (w : World) (h : Came w p len cap x.ds) : Calls Try.prog 44 #[.agg #[.int .i64 x.me, .int .i64 x.rv, .int .i64 x.nx, .int .i64 x.mo, .int .i64 x.bo, .int .i64 x.fr, .slice p len cap]] w fun e w' => MayPost w x e w' := by
  have HI0 : Hid (∀ W, Calls Try.prog 49 #[.int .i64 0, .int .i64 49, .int .i64 x.me] W fun e w' => e = .returned (.bool (decide (0 ≤ x.me ∧ x.me ≤ 49))) ∧ w' = W) := fun W => awithin 0 49 x.me W
  have HI1 : Hid (∀ W, Calls Try.prog 49 #[.int .i64 0, .int .i64 15, .int .i64 x.rv] W fun e w' => e = .returned (.bool (decide (0 ≤ x.rv ∧ x.rv ≤ 15))) ∧ w' = W) := fun W => awithin 0 15 x.rv W
  have HI2 : Hid (∀ W, Calls Try.prog 49 #[.int .i64 1, .int .i64 1048576, .int .i64 x.nx] W fun e w' => e = .returned (.bool (decide (1 ≤ x.nx ∧ x.nx ≤ 1048576))) ∧ w' = W) := fun W => awithin 1 1048576 x.nx W
  have HI3 : Hid (∀ W, Calls Try.prog 49 #[.int .i64 0, .int .i64 2399, .int .i64 x.mo] W fun e w' => e = .returned (.bool (decide (0 ≤ x.mo ∧ x.mo ≤ 2399))) ∧ w' = W) := fun W => awithin 0 2399 x.mo W
  have HI4 : Hid (∀ W, Calls Try.prog 49 #[.int .i64 0, .int .i64 10000000, .int .i64 x.bo] W fun e w' => e = .returned (.bool (decide (0 ≤ x.bo ∧ x.bo ≤ 10000000))) ∧ w' = W) := fun W => awithin 0 10000000 x.bo W
  have HI5 : Hid (∀ W, Calls Try.prog 49 #[.int .i64 (-1), .int .i64 x.mo, .int .i64 x.fr] W fun e w' => e = .returned (.bool (decide (-1 ≤ x.fr ∧ x.fr ≤ x.mo))) ∧ w' = W) := fun W => awithin (-1) x.mo x.fr W
  have HBA : Hid (Below w.heap.size w (w.alloc (.cells #[.int .i64 x.me, .int .i64 x.rv, .int .i64 x.nx, .int .i64 x.mo, .int .i64 x.bo, .int .i64 x.fr, .slice p len cap] 24))) := (Below.refl w.heap.size w).alloc (by simp) _
  have HTO : Hid (Calls Try.prog 21 #[.slice p len cap] (w.alloc (.cells #[.int .i64 x.me, .int .i64 x.rv, .int .i64 x.nx, .int .i64 x.mo, .int .i64 x.bo, .int .i64 x.fr, .slice p len cap] 24)) fun e w' => tar.TwoPost (w.alloc (.cells #[.int .i64 x.me, .int .i64 x.rv, .int .i64 x.nx, .int .i64 x.mo, .int .i64 x.bo, .int .i64 x.fr, .slice p len cap] 24)) (deb.OwedIs x.ds) e w') := deb.ktotal _ p len cap x.ds (h.below HBA.out)
  have HBK : Hid (Blk (w.alloc (.cells #[.int .i64 x.me, .int .i64 x.rv, .int .i64 x.nx, .int .i64 x.mo, .int .i64 x.bo, .int .i64 x.fr, .slice p len cap] 24)) w.heap.size #[.int .i64 x.me, .int .i64 x.rv, .int .i64 x.nx, .int .i64 x.mo, .int .i64 x.bo, .int .i64 x.fr, .slice p len cap] 24) := Blk.new w _ _
  have c6 : (w.alloc (.cells #[.int .i64 x.me, .int .i64 x.rv, .int .i64 x.nx, .int .i64 x.mo, .int .i64 x.bo, .int .i64 x.fr, .slice p len cap] 24)).cell? ⟨w.heap.size, 6, none⟩ = some (.slice p len cap) := HBK.out.cell 6
  clear h
  generalize hWW : (w.alloc (.cells #[.int .i64 x.me, .int .i64 x.rv, .int .i64 x.nx, .int .i64 x.mo, .int .i64 x.bo, .int .i64 x.fr, .slice p len cap] 24)) = WW at *
  have HWW : Hid ((w.alloc (.cells #[.int .i64 x.me, .int .i64 x.rv, .int .i64 x.nx, .int .i64 x.mo, .int .i64 x.bo, .int .i64 x.fr, .slice p len cap] 24)) = WW) := hWW
  clear hWW
  go_enter Try.func44, Try.ntmps44
  go_upto_region 1 with fail
  rw [HWW.out]
  clear HWW
  go_wp2_with fail
  refine HTO.out.mono ?_
  rintro e w1 ⟨tt, f, rfl, hf, hb1⟩
  have HB1 : Hid (Below w.heap.size w w1) := HBA.out.trans (hb1.mono HBA.out.size)
  have HK1 : Hid (Blk w1 w.heap.size #[.int .i64 x.me, .int .i64 x.rv, .int .i64 x.nx, .int .i64 x.mo, .int .i64 x.bo, .int .i64 x.fr, .slice p len cap] 24) := HBK.out.next hb1
  have HF : Hid (f = 0 ↔ deb.Mays x.ds) := hf.1.ok
  clear hf hb1 HTO HBA HBK c6
  have c0 : w1.cell? ⟨w.heap.size, 0, none⟩ = some (.int .i64 x.me) := HK1.out.cell 0
  have c1 : w1.cell? ⟨w.heap.size, 1, none⟩ = some (.int .i64 x.rv) := HK1.out.cell 1
  have c2 : w1.cell? ⟨w.heap.size, 2, none⟩ = some (.int .i64 x.nx) := HK1.out.cell 2
  have c3 : w1.cell? ⟨w.heap.size, 3, none⟩ = some (.int .i64 x.mo) := HK1.out.cell 3
  have c4 : w1.cell? ⟨w.heap.size, 4, none⟩ = some (.int .i64 x.bo) := HK1.out.cell 4
  have c5 : w1.cell? ⟨w.heap.size, 5, none⟩ = some (.int .i64 x.fr) := HK1.out.cell 5
  have c6 : w1.cell? ⟨w.heap.size, 6, none⟩ = some (.slice p len cap) := HK1.out.cell 6
  by_cases h0 : f = 0
  · have HM : Hid (deb.Mays x.ds) := HF.out.1 h0
    subst h0
    by_cases g0 : 0 ≤ x.me ∧ x.me ≤ 49
    · rw [decide_eq_true g0] at HI0
      go_wp2_with fail
      refine (HI0.out _).mono ?_
      rintro e w2 ⟨rfl, hw2⟩
      subst w2
      by_cases g1 : 0 ≤ x.rv ∧ x.rv ≤ 15
      · rw [decide_eq_true g1] at HI1
        go_wp2_with fail
        refine (HI1.out _).mono ?_
        rintro e w2 ⟨rfl, hw2⟩
        subst w2
        by_cases g2 : 1 ≤ x.nx ∧ x.nx ≤ 1048576
        · rw [decide_eq_true g2] at HI2
          go_wp2_with fail
          refine (HI2.out _).mono ?_
          rintro e w2 ⟨rfl, hw2⟩
          subst w2
          by_cases g3 : 0 ≤ x.mo ∧ x.mo ≤ 2399
          · rw [decide_eq_true g3] at HI3
            go_wp2_with fail
            refine (HI3.out _).mono ?_
            rintro e w2 ⟨rfl, hw2⟩
            subst w2
            by_cases g4 : 0 ≤ x.bo ∧ x.bo ≤ 10000000
            · rw [decide_eq_true g4] at HI4
              go_wp2_with fail
              refine (HI4.out _).mono ?_
              rintro e w2 ⟨rfl, hw2⟩
              subst w2
              by_cases g5 : -1 ≤ x.fr ∧ x.fr ≤ x.mo
              · rw [decide_eq_true g5] at HI5
                go_wp2_with fail
                refine (HI5.out _).mono ?_
                rintro e w2 ⟨rfl, hw2⟩
                subst w2
                have HY : Hid (AMay x) := ⟨HM.out, g0, g1, g2, g3, g4, g5⟩
                go_wp2_with fail
                go_ret
                exact ⟨true, rfl, ⟨fun _ => HY.out, fun _ => rfl⟩, HB1.out⟩
              · rw [decide_eq_false g5] at HI5
                have HN : Hid (¬ AMay x) := fun h => g5 h.2.2.2.2.2.2
                clear g5
                go_wp2_with fail
                refine (HI5.out _).mono ?_
                rintro e w2 ⟨rfl, hw2⟩
                subst w2
                go_wp2_with fail
                all_goals first
                  | (rename_i q1 q2; exact absurd q1 (by simp [undef]))
                  | (go_ret; exact ⟨false, rfl, ⟨fun h => absurd h (by decide), fun h => absurd h HN.out⟩, HB1.out⟩)
            · rw [decide_eq_false g4] at HI4
              have HN : Hid (¬ AMay x) := fun h => g4 h.2.2.2.2.2.1
              clear g4
              go_wp2_with fail
              refine (HI4.out _).mono ?_
              rintro e w2 ⟨rfl, hw2⟩
              subst w2
              go_wp2_with fail
              all_goals first
                | (rename_i q1 q2; exact absurd q1 (by simp [undef]))
                | (go_ret; exact ⟨false, rfl, ⟨fun h => absurd h (by decide), fun h => absurd h HN.out⟩, HB1.out⟩)
          · rw [decide_eq_false g3] at HI3
            have HN : Hid (¬ AMay x) := fun h => g3 h.2.2.2.2.1
            clear g3
            go_wp2_with fail
            refine (HI3.out _).mono ?_
            rintro e w2 ⟨rfl, hw2⟩
            subst w2
            go_wp2_with fail
            all_goals first
              | (rename_i q1 q2; exact absurd q1 (by simp [undef]))
              | (go_ret; exact ⟨false, rfl, ⟨fun h => absurd h (by decide), fun h => absurd h HN.out⟩, HB1.out⟩)
        · rw [decide_eq_false g2] at HI2
          have HN : Hid (¬ AMay x) := fun h => g2 h.2.2.2.1
          clear g2
          go_wp2_with fail
          refine (HI2.out _).mono ?_
          rintro e w2 ⟨rfl, hw2⟩
          subst w2
          go_wp2_with fail
          all_goals first
            | (rename_i q1 q2; exact absurd q1 (by simp [undef]))
            | (go_ret; exact ⟨false, rfl, ⟨fun h => absurd h (by decide), fun h => absurd h HN.out⟩, HB1.out⟩)
      · rw [decide_eq_false g1] at HI1
        have HN : Hid (¬ AMay x) := fun h => g1 h.2.2.1
        clear g1
        go_wp2_with fail
        refine (HI1.out _).mono ?_
        rintro e w2 ⟨rfl, hw2⟩
        subst w2
        go_wp2_with fail
        all_goals first
          | (rename_i q1 q2; exact absurd q1 (by simp [undef]))
          | (go_ret; exact ⟨false, rfl, ⟨fun h => absurd h (by decide), fun h => absurd h HN.out⟩, HB1.out⟩)
    · rw [decide_eq_false g0] at HI0
      have HN : Hid (¬ AMay x) := fun h => g0 h.2.1
      clear g0
      go_wp2_with fail
      refine (HI0.out _).mono ?_
      rintro e w2 ⟨rfl, hw2⟩
      subst w2
      go_wp2_with fail
      all_goals first
        | (rename_i q1 q2; exact absurd q1 (by simp [undef]))
        | (go_ret; exact ⟨false, rfl, ⟨fun h => absurd h (by decide), fun h => absurd h HN.out⟩, HB1.out⟩)
  · have d0 : (f == 0) = false := by simpa using h0
    have HN : Hid (¬ AMay x) := fun h => h0 (HF.out.2 h.1)
    clear h0
    go_wp2_with fail
    all_goals first
      | (rename_i q1 q2; exact absurd q1 (by simp [undef]))
      | (go_ret; exact ⟨false, rfl, ⟨fun h => absurd h (by decide), fun h => absurd h HN.out⟩, HB1.out⟩)

end Go.Proofs.Ytlolippocnngcab.acc

/- An account is worked at. -/
namespace Go.Proofs.Ytlolippocnngcab.acc
open Go.Proofs.Ytlolippocnngcab.tar (Du du0 Came RowD Ld PairT)
open Go.RowKit
set_option maxRecDepth 100000
set_option linter.unusedVariables false
set_option linter.unusedSimpArgs false

/-- A copy of pairs: append(nil, l...), of whatever came in. -/
theorem wp_copyD {P : Program} {T S : TypeId} (hP : PairT P T S) {w : World} {ops : Array Oper} {rest : List Oper} {o : Oper} {a : Act} {Q : Exit → Act → World → Prop} (hgd : o.guard = none) (s x : Operand)
    (ho : o.op = .call { callee := .builtin .append, args := #[s, x], argTypes := #[S, S] })
    (base : Nat) (p : Option Addr) (len cap : Nat) (zs : List Du) (hs : a.eval s = .slice none 0 0) (hx : a.eval x = .slice p len cap) (hc : Came w p len cap zs) (hbase : base ≤ w.heap.size)
    (h : ∀ v' w', Ld T w' base v' zs → w.grownBy w' none → wpList P ops Q rest (a.put o.dst v') w') : wpList P ops Q (o :: rest) a w := by
  cases p with
  | some A => exact tar.wp_pairs hP hgd s x ho base A len cap zs hs hx hc.row hc.bytes hbase h
  | none =>
    have h0 := hc.nil rfl
    have h1 : len = 0 := by have := hc.room; omega
    have h2 : zs = [] := List.eq_nil_of_length_eq_zero (by have := hc.row.1; omega)
    subst h0 h1 h2
    have hu := hP.under
    have hi0 := hP.info
    cases hq : P.info? T with
    | none => rw [hq] at hi0; cases hi0
    | some i =>
      refine wpList_append_own_none hgd s x S ho base T i 2 hu hq (.slice none 0 0) 0 [] hs (World.ownsRow_nil _ _ _ _) hx ?_
      exact h _ _ (tar.Ld.zero _ _ _) ⟨rfl, rfl, rfl, Nat.le_refl _, fun _ _ _ => rfl⟩
set_option maxHeartbeats 4000000 in
theorem pwork (F : Nat) (caps : Array Value) (Is : Ac → Bi → Int → Prop) (x : Ac) (p : Option Addr) (len cap : Nat) (w : World) (hc : Came w p len cap x.ds) (h5 : ¬ AMay x → Is ac0 bi0 5) (hK : ∀ args w, (callFunc F args).run Try.prog w = .ok (.enter F args) w)
    (hf : AMay x → ∀ (W : World) (g : Nat) (p' : Option Addr) (cap' : Nat), Below w.heap.size w W → w.heap.size ≤ g → Blk W g (wcs x bi0 p' len cap') 81 → Ld 70 W (g + 1) (.slice p' len cap') x.ds → Calls Try.prog F (#[.pointer (some ⟨g, 0, none⟩)] ++ caps) W fun e w' => WPost W g (Or0 Is) e w') :
    Calls Try.prog 25 #[.agg #[.int .i64 x.me, .int .i64 x.rv, .int .i64 x.nx, .int .i64 x.mo, .int .i64 x.bo, .int .i64 x.fr, .slice p len cap], .func (.func F) #[] caps] w fun e w' => BPost w Is e w' := by
  have HFU : Hid (AMay x → ∀ (W : World) (g : Nat) (p' : Option Addr) (cap' : Nat), Below w.heap.size w W → w.heap.size ≤ g → Blk W g (wcs x bi0 p' len cap') 81 → Ld 70 W (g + 1) (.slice p' len cap') x.ds → Calls Try.prog F (#[.pointer (some ⟨g, 0, none⟩)] ++ caps) W fun e w' => WPost W g (Or0 Is) e w') := hf
  have HLEN : Hid (x.ds.length = len) := hc.row.1
  have H5 : Hid (¬ AMay x → Is ac0 bi0 5) := h5
  clear hf h5
  have H0d : Hid (Blk (((w.alloc (.cells #[.int .i64 x.me, .int .i64 x.rv, .int .i64 x.nx, .int .i64 x.mo, .int .i64 x.bo, .int .i64 x.fr, .slice p len cap] 24)).alloc (.cells #[.int .i64 0, .int .i64 0, .int .i64 0, .int .i64 0, .int .i64 0, .int .i64 0, .slice none 0 0] 24)).alloc (.cells #[.int .i64 0, .int .i64 0, .int .i64 0, .int .i64 0, .int .i64 0, .int .i64 0, .int .i64 0] 27)) (w.heap.size) #[.int .i64 x.me, .int .i64 x.rv, .int .i64 x.nx, .int .i64 x.mo, .int .i64 x.bo, .int .i64 x.fr, .slice p len cap] 24) := ((Blk.new w _ _).alloc _).alloc _
  have H0r : Hid (Blk (((w.alloc (.cells #[.int .i64 x.me, .int .i64 x.rv, .int .i64 x.nx, .int .i64 x.mo, .int .i64 x.bo, .int .i64 x.fr, .slice p len cap] 24)).alloc (.cells #[.int .i64 0, .int .i64 0, .int .i64 0, .int .i64 0, .int .i64 0, .int .i64 0, .slice none 0 0] 24)).alloc (.cells #[.int .i64 0, .int .i64 0, .int .i64 0, .int .i64 0, .int .i64 0, .int .i64 0, .int .i64 0] 27)) (w.heap.size + 1) #[.int .i64 0, .int .i64 0, .int .i64 0, .int .i64 0, .int .i64 0, .int .i64 0, .slice none 0 0] 24) := (Blk.new1 w _ _ _).alloc _
  have H0l : Hid (Blk (((w.alloc (.cells #[.int .i64 x.me, .int .i64 x.rv, .int .i64 x.nx, .int .i64 x.mo, .int .i64 x.bo, .int .i64 x.fr, .slice p len cap] 24)).alloc (.cells #[.int .i64 0, .int .i64 0, .int .i64 0, .int .i64 0, .int .i64 0, .int .i64 0, .slice none 0 0] 24)).alloc (.cells #[.int .i64 0, .int .i64 0, .int .i64 0, .int .i64 0, .int .i64 0, .int .i64 0, .int .i64 0] 27)) (w.heap.size + 1 + 1) #[.int .i64 0, .int .i64 0, .int .i64 0, .int .i64 0, .int .i64 0, .int .i64 0, .int .i64 0] 27) := Blk.new2 w _ _ _ _
  have H0B : Hid (Below w.heap.size w (((w.alloc (.cells #[.int .i64 x.me, .int .i64 x.rv, .int .i64 x.nx, .int .i64 x.mo, .int .i64 x.bo, .int .i64 x.fr, .slice p len cap] 24)).alloc (.cells #[.int .i64 0, .int .i64 0, .int .i64 0, .int .i64 0, .int .i64 0, .int .i64 0, .slice none 0 0] 24)).alloc (.cells #[.int .i64 0, .int .i64 0, .int .i64 0, .int .i64 0, .int .i64 0, .int .i64 0, .int .i64 0] 27))) := (((Below.refl w.heap.size w).alloc (by simp) _).alloc (by simp) _).alloc (by simp; omega) _
  have H0R : Hid (Came (((w.alloc (.cells #[.int .i64 x.me, .int .i64 x.rv, .int .i64 x.nx, .int .i64 x.mo, .int .i64 x.bo, .int .i64 x.fr, .slice p len cap] 24)).alloc (.cells #[.int .i64 0, .int .i64 0, .int .i64 0, .int .i64 0, .int .i64 0, .int .i64 0, .slice none 0 0] 24)).alloc (.cells #[.int .i64 0, .int .i64 0, .int .i64 0, .int .i64 0, .int .i64 0, .int .i64 0, .int .i64 0] 27)) p len cap x.ds) := hc.below H0B.out
  have hs0 : w.heap.size + 1 + 1 < (((w.alloc (.cells #[.int .i64 x.me, .int .i64 x.rv, .int .i64 x.nx, .int .i64 x.mo, .int .i64 x.bo, .int .i64 x.fr, .slice p len cap] 24)).alloc (.cells #[.int .i64 0, .int .i64 0, .int .i64 0, .int .i64 0, .int .i64 0, .int .i64 0, .slice none 0 0] 24)).alloc (.cells #[.int .i64 0, .int .i64 0, .int .i64 0, .int .i64 0, .int .i64 0, .int .i64 0, .int .i64 0] 27)).heap.size := H0l.out.lt
  generalize hWW : (((w.alloc (.cells #[.int .i64 x.me, .int .i64 x.rv, .int .i64 x.nx, .int .i64 x.mo, .int .i64 x.bo, .int .i64 x.fr, .slice p len cap] 24)).alloc (.cells #[.int .i64 0, .int .i64 0, .int .i64 0, .int .i64 0, .int .i64 0, .int .i64 0, .slice none 0 0] 24)).alloc (.cells #[.int .i64 0, .int .i64 0, .int .i64 0, .int .i64 0, .int .i64 0, .int .i64 0, .int .i64 0] 27)) = W0 at *
  have HWW : Hid ((((w.alloc (.cells #[.int .i64 x.me, .int .i64 x.rv, .int .i64 x.nx, .int .i64 x.mo, .int .i64 x.bo, .int .i64 x.fr, .slice p len cap] 24)).alloc (.cells #[.int .i64 0, .int .i64 0, .int .i64 0, .int .i64 0, .int .i64 0, .int .i64 0, .slice none 0 0] 24)).alloc (.cells #[.int .i64 0, .int .i64 0, .int .i64 0, .int .i64 0, .int .i64 0, .int .i64 0, .int .i64 0] 27)) = W0) := hWW
  clear hWW
  go_enter Try.func25, Try.ntmps25
  go_upto_region 1 with fail
  rw [HWW.out]
  clear HWW
  clear hc
  have HPM : Hid (Calls Try.prog 44 #[.agg #[.int .i64 x.me, .int .i64 x.rv, .int .i64 x.nx, .int .i64 x.mo, .int .i64 x.bo, .int .i64 x.fr, .slice p len cap]] W0 fun e w' => MayPost W0 x e w') := pmay x p len cap W0 H0R.out
  go_wp2_with (first
    | (refine wp_whole rfl 24 _ rfl (w.heap.size) rfl 24 #[.int .i64 x.me, .int .i64 x.rv, .int .i64 x.nx, .int .i64 x.mo, .int .i64 x.bo, .int .i64 x.fr, .slice p len cap] _ H0d.out Try.underlying24 rfl (by kernel_rfl) ?_)
    | (refine wp_whole rfl 24 _ rfl (w.heap.size + 1) rfl 24 #[.int .i64 0, .int .i64 0, .int .i64 0, .int .i64 0, .int .i64 0, .int .i64 0, .slice none 0 0] _ H0r.out Try.underlying24 rfl (by kernel_rfl) ?_)
    | (refine wp_whole rfl 27 _ rfl (w.heap.size + 1 + 1) rfl 27 #[.int .i64 0, .int .i64 0, .int .i64 0, .int .i64 0, .int .i64 0, .int .i64 0, .int .i64 0] _ H0l.out Try.underlying27 rfl (by kernel_rfl) ?_)
    | fail)
  refine HPM.out.mono ?_
  rintro e w1 ⟨r, rfl, hr, hb1⟩
  have H1d : Hid (Blk w1 (w.heap.size) #[.int .i64 x.me, .int .i64 x.rv, .int .i64 x.nx, .int .i64 x.mo, .int .i64 x.bo, .int .i64 x.fr, .slice p len cap] 24) := H0d.out.next hb1
  have H1r : Hid (Blk w1 (w.heap.size + 1) #[.int .i64 0, .int .i64 0, .int .i64 0, .int .i64 0, .int .i64 0, .int .i64 0, .slice none 0 0] 24) := H0r.out.next hb1
  have H1l : Hid (Blk w1 (w.heap.size + 1 + 1) #[.int .i64 0, .int .i64 0, .int .i64 0, .int .i64 0, .int .i64 0, .int .i64 0, .int .i64 0] 27) := H0l.out.next hb1
  have H1R : Hid (Came w1 p len cap x.ds) := H0R.out.below hb1
  have H1B : Hid (Below w.heap.size w w1) := H0B.out.trans (hb1.mono H0B.out.size)
  have hsw1 : W0.heap.size ≤ w1.heap.size := hb1.size
  clear hb1 H0d H0r H0l H0R H0B
  clear HPM
  cases r with
  | false =>
    have HV : Hid (Is ac0 bi0 5) := H5.out fun h => Bool.noConfusion (hr.2 h)
    clear hr H5 HFU hK
    go_wp2_with (first
      | (refine wp_letAll rfl 24 _ _ rfl (w.heap.size + 1) rfl #[.int .i64 0, .int .i64 0, .int .i64 0, .int .i64 0, .int .i64 0, .int .i64 0, .slice none 0 0] rfl (by kernel_rfl) (by simp [Value.oneCell']) #[.int .i64 0, .int .i64 0, .int .i64 0, .int .i64 0, .int .i64 0, .int .i64 0, .slice none 0 0] 24 H1r.out rfl ?_)
      | (refine wp_whole rfl 24 _ rfl (w.heap.size) rfl 24 #[.int .i64 x.me, .int .i64 x.rv, .int .i64 x.nx, .int .i64 x.mo, .int .i64 x.bo, .int .i64 x.fr, .slice p len cap] _ H1d.out Try.underlying24 rfl (by kernel_rfl) ?_)
      | (refine wp_whole rfl 24 _ rfl (w.heap.size + 1) rfl 24 #[.int .i64 0, .int .i64 0, .int .i64 0, .int .i64 0, .int .i64 0, .int .i64 0, .slice none 0 0] _ H1r.out Try.underlying24 rfl (by kernel_rfl) ?_)
      | (refine wp_whole rfl 27 _ rfl (w.heap.size + 1 + 1) rfl 27 #[.int .i64 0, .int .i64 0, .int .i64 0, .int .i64 0, .int .i64 0, .int .i64 0, .int .i64 0] _ H1l.out Try.underlying27 rfl (by kernel_rfl) ?_)
      | fail)
    intro w1a hU
    have H2d : Hid (Blk w1a (w.heap.size) #[.int .i64 x.me, .int .i64 x.rv, .int .i64 x.nx, .int .i64 x.mo, .int .i64 x.bo, .int .i64 x.fr, .slice p len cap] 24) := hU.keep H1d.out (by omega)
    have H2r : Hid (Blk w1a (w.heap.size + 1) #[.int .i64 0, .int .i64 0, .int .i64 0, .int .i64 0, .int .i64 0, .int .i64 0, .slice none 0 0] 24) := hU.blk
    have H2l : Hid (Blk w1a (w.heap.size + 1 + 1) #[.int .i64 0, .int .i64 0, .int .i64 0, .int .i64 0, .int .i64 0, .int .i64 0, .int .i64 0] 27) := hU.keep H1l.out (by omega)
    have H2B : Hid (Below w.heap.size w w1a) := hU.bel _ _ (by omega) H1B.out
    have hsw1a : w1a.heap.size = w1.heap.size := hU.size
    clear hU H1d H1r H1l H1R H1B
    go_wp2_with (first
      | (refine wp_letAll rfl 27 _ _ rfl (w.heap.size + 1 + 1) rfl #[.int .i64 0, .int .i64 0, .int .i64 0, .int .i64 0, .int .i64 0, .int .i64 0, .int .i64 0] rfl (by kernel_rfl) (by simp [Value.oneCell']) #[.int .i64 0, .int .i64 0, .int .i64 0, .int .i64 0, .int .i64 0, .int .i64 0, .int .i64 0] 27 H2l.out rfl ?_)
      | (refine wp_whole rfl 24 _ rfl (w.heap.size) rfl 24 #[.int .i64 x.me, .int .i64 x.rv, .int .i64 x.nx, .int .i64 x.mo, .int .i64 x.bo, .int .i64 x.fr, .slice p len cap] _ H2d.out Try.underlying24 rfl (by kernel_rfl) ?_)
      | (refine wp_whole rfl 24 _ rfl (w.heap.size + 1) rfl 24 #[.int .i64 0, .int .i64 0, .int .i64 0, .int .i64 0, .int .i64 0, .int .i64 0, .slice none 0 0] _ H2r.out Try.underlying24 rfl (by kernel_rfl) ?_)
      | (refine wp_whole rfl 27 _ rfl (w.heap.size + 1 + 1) rfl 27 #[.int .i64 0, .int .i64 0, .int .i64 0, .int .i64 0, .int .i64 0, .int .i64 0, .int .i64 0] _ H2l.out Try.underlying27 rfl (by kernel_rfl) ?_)
      | fail)
    intro w1ab hU
    have H3d : Hid (Blk w1ab (w.heap.size) #[.int .i64 x.me, .int .i64 x.rv, .int .i64 x.nx, .int .i64 x.mo, .int .i64 x.bo, .int .i64 x.fr, .slice p len cap] 24) := hU.keep H2d.out (by omega)
    have H3r : Hid (Blk w1ab (w.heap.size + 1) #[.int .i64 0, .int .i64 0, .int .i64 0, .int .i64 0, .int .i64 0, .int .i64 0, .slice none 0 0] 24) := hU.keep H2r.out (by omega)
    have H3l : Hid (Blk w1ab (w.heap.size + 1 + 1) #[.int .i64 0, .int .i64 0, .int .i64 0, .int .i64 0, .int .i64 0, .int .i64 0, .int .i64 0] 27) := hU.blk
    have H3B : Hid (Below w.heap.size w w1ab) := hU.bel _ _ (by omega) H2B.out
    have hsw1ab : w1ab.heap.size = w1a.heap.size := hU.size
    clear hU H2d H2r H2l H2B
    have Rr0 : Hid (w1ab.cell? ⟨w.heap.size + 1, 0, none⟩ = some (.int .i64 0)) := H3r.out.cell 0
    have Rr1 : Hid (w1ab.cell? ⟨w.heap.size + 1, 1, none⟩ = some (.int .i64 0)) := H3r.out.cell 1
    have Rr2 : Hid (w1ab.cell? ⟨w.heap.size + 1, 2, none⟩ = some (.int .i64 0)) := H3r.out.cell 2
    have Rr3 : Hid (w1ab.cell? ⟨w.heap.size + 1, 3, none⟩ = some (.int .i64 0)) := H3r.out.cell 3
    have Rr4 : Hid (w1ab.cell? ⟨w.heap.size + 1, 4, none⟩ = some (.int .i64 0)) := H3r.out.cell 4
    have Rr5 : Hid (w1ab.cell? ⟨w.heap.size + 1, 5, none⟩ = some (.int .i64 0)) := H3r.out.cell 5
    have Rr6 : Hid (w1ab.cell? ⟨w.heap.size + 1, 6, none⟩ = some (.slice none 0 0)) := H3r.out.cell 6
    have Rl0 : Hid (w1ab.cell? ⟨w.heap.size + 1 + 1, 0, none⟩ = some (.int .i64 0)) := H3l.out.cell 0
    have Rl1 : Hid (w1ab.cell? ⟨w.heap.size + 1 + 1, 1, none⟩ = some (.int .i64 0)) := H3l.out.cell 1
    have Rl2 : Hid (w1ab.cell? ⟨w.heap.size + 1 + 1, 2, none⟩ = some (.int .i64 0)) := H3l.out.cell 2
    have Rl3 : Hid (w1ab.cell? ⟨w.heap.size + 1 + 1, 3, none⟩ = some (.int .i64 0)) := H3l.out.cell 3
    have Rl4 : Hid (w1ab.cell? ⟨w.heap.size + 1 + 1, 4, none⟩ = some (.int .i64 0)) := H3l.out.cell 4
    have Rl5 : Hid (w1ab.cell? ⟨w.heap.size + 1 + 1, 5, none⟩ = some (.int .i64 0)) := H3l.out.cell 5
    have Rl6 : Hid (w1ab.cell? ⟨w.heap.size + 1 + 1, 6, none⟩ = some (.int .i64 0)) := H3l.out.cell 6
    go_wp2_with fail
    exact bodyPost_ret (v := .tuple #[.agg #[.int .i64 0, .int .i64 0, .int .i64 0, .int .i64 0, .int .i64 0, .int .i64 0, .slice none 0 0], .agg #[.int .i64 0, .int .i64 0, .int .i64 0, .int .i64 0, .int .i64 0, .int .i64 0, .int .i64 0], .int .i64 5]) (by simp [results, Try.results25, Rr0.out, Rr1.out, Rr2.out, Rr3.out, Rr4.out, Rr5.out, Rr6.out, Rl0.out, Rl1.out, Rl2.out, Rl3.out, Rl4.out, Rl5.out, Rl6.out, go_sem]) rfl ⟨ac0, bi0, none, 0, 0, _, rfl, HV.out, deb.fresh_nil _ _, H3B.out⟩
  | true =>
    have HM : Hid (AMay x) := hr.1 rfl
    clear hr H5
    have HSV : Hid (Blk w1 (w.heap.size) #[.int .i64 x.me, .int .i64 x.rv, .int .i64 x.nx, .int .i64 x.mo, .int .i64 x.bo, .int .i64 x.fr, .slice p len cap] 24) := H1d.out
    have H2d : Hid (Blk (w1.alloc (.cells #[.int .i64 x.me, .int .i64 x.rv, .int .i64 x.nx, .int .i64 x.mo, .int .i64 x.bo, .int .i64 x.fr, .slice p len cap, .int .i64 0, .int .i64 0, .int .i64 0, .int .i64 0, .int .i64 0, .int .i64 0, .int .i64 0] 81)) (w.heap.size) #[.int .i64 x.me, .int .i64 x.rv, .int .i64 x.nx, .int .i64 x.mo, .int .i64 x.bo, .int .i64 x.fr, .slice p len cap] 24) := H1d.out.alloc _
    have H2r : Hid (Blk (w1.alloc (.cells #[.int .i64 x.me, .int .i64 x.rv, .int .i64 x.nx, .int .i64 x.mo, .int .i64 x.bo, .int .i64 x.fr, .slice p len cap, .int .i64 0, .int .i64 0, .int .i64 0, .int .i64 0, .int .i64 0, .int .i64 0, .int .i64 0] 81)) (w.heap.size + 1) #[.int .i64 0, .int .i64 0, .int .i64 0, .int .i64 0, .int .i64 0, .int .i64 0, .slice none 0 0] 24) := H1r.out.alloc _
    have H2l : Hid (Blk (w1.alloc (.cells #[.int .i64 x.me, .int .i64 x.rv, .int .i64 x.nx, .int .i64 x.mo, .int .i64 x.bo, .int .i64 x.fr, .slice p len cap, .int .i64 0, .int .i64 0, .int .i64 0, .int .i64 0, .int .i64 0, .int .i64 0, .int .i64 0] 81)) (w.heap.size + 1 + 1) #[.int .i64 0, .int .i64 0, .int .i64 0, .int .i64 0, .int .i64 0, .int .i64 0, .int .i64 0] 27) := H1l.out.alloc _
    have H2R : Hid (Came (w1.alloc (.cells #[.int .i64 x.me, .int .i64 x.rv, .int .i64 x.nx, .int .i64 x.mo, .int .i64 x.bo, .int .i64 x.fr, .slice p len cap, .int .i64 0, .int .i64 0, .int .i64 0, .int .i64 0, .int .i64 0, .int .i64 0, .int .i64 0] 81)) p len cap x.ds) := H1R.out.below ((Below.refl _ _).alloc (Nat.le_refl _) _)
    have H2n : Hid (Blk (w1.alloc (.cells #[.int .i64 x.me, .int .i64 x.rv, .int .i64 x.nx, .int .i64 x.mo, .int .i64 x.bo, .int .i64 x.fr, .slice p len cap, .int .i64 0, .int .i64 0, .int .i64 0, .int .i64 0, .int .i64 0, .int .i64 0, .int .i64 0] 81)) (w1.heap.size) #[.int .i64 x.me, .int .i64 x.rv, .int .i64 x.nx, .int .i64 x.mo, .int .i64 x.bo, .int .i64 x.fr, .slice p len cap, .int .i64 0, .int .i64 0, .int .i64 0, .int .i64 0, .int .i64 0, .int .i64 0, .int .i64 0] 81) := Blk.new w1 _ _
    have H2B : Hid (Below w.heap.size w (w1.alloc (.cells #[.int .i64 x.me, .int .i64 x.rv, .int .i64 x.nx, .int .i64 x.mo, .int .i64 x.bo, .int .i64 x.fr, .slice p len cap, .int .i64 0, .int .i64 0, .int .i64 0, .int .i64 0, .int .i64 0, .int .i64 0, .int .i64 0] 81))) := H1B.out.alloc H1B.out.size _
    have hsW2 : (w1.alloc (.cells #[.int .i64 x.me, .int .i64 x.rv, .int .i64 x.nx, .int .i64 x.mo, .int .i64 x.bo, .int .i64 x.fr, .slice p len cap, .int .i64 0, .int .i64 0, .int .i64 0, .int .i64 0, .int .i64 0, .int .i64 0, .int .i64 0] 81)).heap.size = w1.heap.size + 1 := by simp
    clear H1d H1r H1l H1R H1B
    go_upto_region 4 with (first | (refine wp_whole rfl 24 _ rfl (w.heap.size) rfl 24 #[.int .i64 x.me, .int .i64 x.rv, .int .i64 x.nx, .int .i64 x.mo, .int .i64 x.bo, .int .i64 x.fr, .slice p len cap] _ HSV.out Try.underlying24 rfl (by kernel_rfl) ?_) | fail)
    generalize (w1.alloc (.cells #[.int .i64 x.me, .int .i64 x.rv, .int .i64 x.nx, .int .i64 x.mo, .int .i64 x.bo, .int .i64 x.fr, .slice p len cap, .int .i64 0, .int .i64 0, .int .i64 0, .int .i64 0, .int .i64 0, .int .i64 0, .int .i64 0] 81)) = W2 at *
    clear HSV
    have qd6 : W2.cell? ⟨w.heap.size, 6, none⟩ = some (.slice p len cap) := H2d.out.cell 6
    go_wp2_with (first
      | (at_builtin; refine wp_copyD deb.debtT rfl _ _ rfl (w1.heap.size + 1) p len cap x.ds rfl rfl H2R.out (by omega) ?_)
      | (refine wp_whole rfl 24 _ rfl (w.heap.size) rfl 24 #[.int .i64 x.me, .int .i64 x.rv, .int .i64 x.nx, .int .i64 x.mo, .int .i64 x.bo, .int .i64 x.fr, .slice p len cap] _ H2d.out Try.underlying24 rfl (by kernel_rfl) ?_)
      | (refine wp_whole rfl 24 _ rfl (w.heap.size + 1) rfl 24 #[.int .i64 0, .int .i64 0, .int .i64 0, .int .i64 0, .int .i64 0, .int .i64 0, .slice none 0 0] _ H2r.out Try.underlying24 rfl (by kernel_rfl) ?_)
      | (refine wp_whole rfl 27 _ rfl (w.heap.size + 1 + 1) rfl 27 #[.int .i64 0, .int .i64 0, .int .i64 0, .int .i64 0, .int .i64 0, .int .i64 0, .int .i64 0] _ H2l.out Try.underlying27 rfl (by kernel_rfl) ?_)
      | (refine wp_whole rfl 81 _ rfl (w1.heap.size) rfl 81 #[.int .i64 x.me, .int .i64 x.rv, .int .i64 x.nx, .int .i64 x.mo, .int .i64 x.bo, .int .i64 x.fr, .slice p len cap, .int .i64 0, .int .i64 0, .int .i64 0, .int .i64 0, .int .i64 0, .int .i64 0, .int .i64 0] _ H2n.out Try.underlying81 rfl (by kernel_rfl) ?_)
      | fail)
    intro v3 w3 hl3 hg3
    have hb3 : Below W2.heap.size W2 w3 := (Below.refl _ _).grown hg3 (Nat.le_refl _) (fun k hk => by cases hk)
    obtain ⟨p3, cap3, hv3, hf3⟩ := deb.ld_fresh hl3 HM.out.1
    rw [HLEN.out] at hv3 hf3
    subst hv3
    have H3d : Hid (Blk w3 (w.heap.size) #[.int .i64 x.me, .int .i64 x.rv, .int .i64 x.nx, .int .i64 x.mo, .int .i64 x.bo, .int .i64 x.fr, .slice p len cap] 24) := H2d.out.next hb3
    have H3r : Hid (Blk w3 (w.heap.size + 1) #[.int .i64 0, .int .i64 0, .int .i64 0, .int .i64 0, .int .i64 0, .int .i64 0, .slice none 0 0] 24) := H2r.out.next hb3
    have H3l : Hid (Blk w3 (w.heap.size + 1 + 1) #[.int .i64 0, .int .i64 0, .int .i64 0, .int .i64 0, .int .i64 0, .int .i64 0, .int .i64 0] 27) := H2l.out.next hb3
    have H3n : Hid (Blk w3 (w1.heap.size) #[.int .i64 x.me, .int .i64 x.rv, .int .i64 x.nx, .int .i64 x.mo, .int .i64 x.bo, .int .i64 x.fr, .slice p len cap, .int .i64 0, .int .i64 0, .int .i64 0, .int .i64 0, .int .i64 0, .int .i64 0, .int .i64 0] 81) := H2n.out.next hb3
    have H3B : Hid (Below w.heap.size w w3) := bel_step H2B.out hb3
    have HL3 : Hid (Ld 70 w3 (w1.heap.size + 1) (.slice p3 len cap3) x.ds) := hl3
    have hsw3 : W2.heap.size ≤ w3.heap.size := hb3.size
    clear hl3 hg3 hb3 hf3 qd6 H2d H2r H2l H2n H2B
    go_wp2_with (first
      | (refine wp_letS rfl 22 _ _ rfl (w1.heap.size) 6 rfl p3 len cap3 rfl (by kernel_rfl) #[.int .i64 x.me, .int .i64 x.rv, .int .i64 x.nx, .int .i64 x.mo, .int .i64 x.bo, .int .i64 x.fr, .slice p len cap, .int .i64 0, .int .i64 0, .int .i64 0, .int .i64 0, .int .i64 0, .int .i64 0, .int .i64 0] 81 H3n.out (by simp) ?_)
      | (refine wp_whole rfl 24 _ rfl (w.heap.size) rfl 24 #[.int .i64 x.me, .int .i64 x.rv, .int .i64 x.nx, .int .i64 x.mo, .int .i64 x.bo, .int .i64 x.fr, .slice p len cap] _ H3d.out Try.underlying24 rfl (by kernel_rfl) ?_)
      | (refine wp_whole rfl 24 _ rfl (w.heap.size + 1) rfl 24 #[.int .i64 0, .int .i64 0, .int .i64 0, .int .i64 0, .int .i64 0, .int .i64 0, .slice none 0 0] _ H3r.out Try.underlying24 rfl (by kernel_rfl) ?_)
      | (refine wp_whole rfl 27 _ rfl (w.heap.size + 1 + 1) rfl 27 #[.int .i64 0, .int .i64 0, .int .i64 0, .int .i64 0, .int .i64 0, .int .i64 0, .int .i64 0] _ H3l.out Try.underlying27 rfl (by kernel_rfl) ?_)
      | (refine wp_whole rfl 81 _ rfl (w1.heap.size) rfl 81 #[.int .i64 x.me, .int .i64 x.rv, .int .i64 x.nx, .int .i64 x.mo, .int .i64 x.bo, .int .i64 x.fr, .slice p len cap, .int .i64 0, .int .i64 0, .int .i64 0, .int .i64 0, .int .i64 0, .int .i64 0, .int .i64 0] _ H3n.out Try.underlying81 rfl (by kernel_rfl) ?_)
      | fail)
    intro W4 hU
    have H4d : Hid (Blk W4 (w.heap.size) #[.int .i64 x.me, .int .i64 x.rv, .int .i64 x.nx, .int .i64 x.mo, .int .i64 x.bo, .int .i64 x.fr, .slice p len cap] 24) := hU.keep H3d.out (by omega)
    have H4r : Hid (Blk W4 (w.heap.size + 1) #[.int .i64 0, .int .i64 0, .int .i64 0, .int .i64 0, .int .i64 0, .int .i64 0, .slice none 0 0] 24) := hU.keep H3r.out (by omega)
    have H4l : Hid (Blk W4 (w.heap.size + 1 + 1) #[.int .i64 0, .int .i64 0, .int .i64 0, .int .i64 0, .int .i64 0, .int .i64 0, .int .i64 0] 27) := hU.keep H3l.out (by omega)
    have H4n : Hid (Blk W4 (w1.heap.size) #[.int .i64 x.me, .int .i64 x.rv, .int .i64 x.nx, .int .i64 x.mo, .int .i64 x.bo, .int .i64 x.fr, .slice p3 len cap3, .int .i64 0, .int .i64 0, .int .i64 0, .int .i64 0, .int .i64 0, .int .i64 0, .int .i64 0] 81) := hU.blk
    have H4B : Hid (Below w.heap.size w W4) := hU.bel _ _ (by omega) H3B.out
    have HL4 : Hid (Ld 70 W4 (w1.heap.size + 1) (.slice p3 len cap3) x.ds) := ld_upd HL3.out hU (by omega)
    have HCA : Hid (Calls Try.prog F (#[.pointer (some ⟨w1.heap.size, 0, none⟩)] ++ caps) W4 fun e w' => WPost W4 w1.heap.size (Or0 Is) e w') := HFU.out HM.out W4 w1.heap.size p3 cap3 H4B.out (by omega) H4n.out HL4.out
    have hsW4 : W4.heap.size = w3.heap.size := hU.size
    clear hU HL3 HL4 HFU H3d H3r H3l H3n H3B
    go_wp2_with fail
    refine HCA.out.mono ?_
    rintro e w5 ⟨y, b, q, n, c, f, rfl, hor, hi5, hf5, hb5⟩
    have H5d : Hid (Blk w5 (w.heap.size) #[.int .i64 x.me, .int .i64 x.rv, .int .i64 x.nx, .int .i64 x.mo, .int .i64 x.bo, .int .i64 x.fr, .slice p len cap] 24) := H4d.out.below hb5 (by omega)
    have H5r : Hid (Blk w5 (w.heap.size + 1) #[.int .i64 0, .int .i64 0, .int .i64 0, .int .i64 0, .int .i64 0, .int .i64 0, .slice none 0 0] 24) := H4r.out.below hb5 (by omega)
    have H5l : Hid (Blk w5 (w.heap.size + 1 + 1) #[.int .i64 0, .int .i64 0, .int .i64 0, .int .i64 0, .int .i64 0, .int .i64 0, .int .i64 0] 27) := H4l.out.below hb5 (by omega)
    have H5n : Hid (Blk w5 (w1.heap.size) #[.int .i64 y.me, .int .i64 y.rv, .int .i64 y.nx, .int .i64 y.mo, .int .i64 y.bo, .int .i64 y.fr, .slice q n c, .int .i64 b.id, .int .i64 b.te, .int .i64 b.de, .int .i64 b.fe, .int .i64 b.pr, .int .i64 b.ch, .int .i64 b.un] 81) := hi5
    have H5B : Hid (Below w.heap.size w w5) := H4B.out.trans (hb5.mono (by omega))
    have hsw5 : W4.heap.size ≤ w5.heap.size := hb5.size
    have H6F : Hid (deb.Fresh w5 (w1.heap.size + 1) q n c y.ds) := hf5
    have HUPF : Hid (0 < n → ∀ y, q = some y → y.block < w5.heap.size) := came_lt H6F.out.came
    have HOR : Hid (Or0 Is y b f) := hor
    clear hor hi5 hf5 hb5 HCA hK H4d H4r H4l H4n H4B
    by_cases h0 : f = 0
    · subst h0
      have HV : Hid (Is y b 0) := by
        rcases HOR.out with ⟨h, _⟩ | ⟨_, h⟩
        · exact absurd rfl h
        · exact h
      clear HOR
      go_wp2_with fail
      refine wp_region_held_drew (S := fun v => Blk v (w1.heap.size) #[.int .i64 y.me, .int .i64 y.rv, .int .i64 y.nx, .int .i64 y.mo, .int .i64 y.bo, .int .i64 y.fr, .slice q n c, .int .i64 b.id, .int .i64 b.te, .int .i64 b.de, .int .i64 b.fe, .int .i64 b.pr, .int .i64 b.ch, .int .i64 b.un] 81) (by kernel_rfl) (Blk.drew H5n.out 1) (fun hHeld => ?_)
      refine take_at 0 28 (.pointer (some ⟨w1.heap.size, 0, none⟩)) _ rfl rfl (by kernel_rfl) (by kernel_rfl) (by kernel_rfl) (fun _ _ _ h => h) (Or.inl ⟨by rfl, fun v hv => by skip; clear hv; go_simp⟩) hHeld ?_
      simp only [Act.put, List.setIfInBounds_toArray, List.set_cons_zero, List.set_cons_succ]
      refine take_at 1 29 (.agg #[.int .i64 y.me, .int .i64 y.rv, .int .i64 y.nx, .int .i64 y.mo, .int .i64 y.bo, .int .i64 y.fr, .slice q n c]) _ rfl rfl (by kernel_rfl) (by kernel_rfl) (by kernel_rfl) (fun _ _ _ h => h) (Or.inl ⟨by rfl, fun v hv => by have g0 := hv.cell 0; have g1 := hv.cell 1; have g2 := hv.cell 2; have g3 := hv.cell 3; have g4 := hv.cell 4; have g5 := hv.cell 5; have g6 := hv.cell 6; clear hv; go_simp⟩) hHeld ?_
      simp only [Act.put, List.setIfInBounds_toArray, List.set_cons_zero, List.set_cons_succ]
      refine take_at 2 30 (.pointer (some ⟨w1.heap.size, 7, none⟩)) _ rfl rfl (by kernel_rfl) (by kernel_rfl) (by kernel_rfl) (fun _ _ _ h => h) (Or.inl ⟨by rfl, fun v hv => by skip; clear hv; go_simp⟩) hHeld ?_
      simp only [Act.put, List.setIfInBounds_toArray, List.set_cons_zero, List.set_cons_succ]
      refine take_at 3 31 (.agg #[.int .i64 b.id, .int .i64 b.te, .int .i64 b.de, .int .i64 b.fe, .int .i64 b.pr, .int .i64 b.ch, .int .i64 b.un]) _ rfl rfl (by kernel_rfl) (by kernel_rfl) (by kernel_rfl) (fun _ _ _ h => h) (Or.inl ⟨by rfl, fun v hv => by have g0 := hv.cell 7; have g1 := hv.cell 8; have g2 := hv.cell 9; have g3 := hv.cell 10; have g4 := hv.cell 11; have g5 := hv.cell 12; have g6 := hv.cell 13; clear hv; go_simp⟩) hHeld ?_
      simp only [Act.put, List.setIfInBounds_toArray, List.set_cons_zero, List.set_cons_succ]
      refine wpAnyH_ready (rs := [4]) (by kernel_rfl) (by simp) (AllReadyH.cons rfl (fun K hK => ?_) AllReadyH.nil)
      rw [if_pos (by rfl)]
      refine wp_letOp 24 _ _ rfl (w.heap.size + 1) rfl #[.int .i64 y.me, .int .i64 y.rv, .int .i64 y.nx, .int .i64 y.mo, .int .i64 y.bo, .int .i64 y.fr, .slice q n c] rfl (by kernel_rfl) (by simp [Value.oneCell']) #[.int .i64 0, .int .i64 0, .int .i64 0, .int .i64 0, .int .i64 0, .int .i64 0, .slice none 0 0] 24 (Blk.drew H5r.out 1) rfl rfl ?_
      intro V1 hU
      have H7d : Hid (Blk V1 (w.heap.size) #[.int .i64 x.me, .int .i64 x.rv, .int .i64 x.nx, .int .i64 x.mo, .int .i64 x.bo, .int .i64 x.fr, .slice p len cap] 24) := hU.keep (Blk.drew H5d.out 1) (by omega)
      have H7r : Hid (Blk V1 (w.heap.size + 1) #[.int .i64 y.me, .int .i64 y.rv, .int .i64 y.nx, .int .i64 y.mo, .int .i64 y.bo, .int .i64 y.fr, .slice q n c] 24) := hU.blk
      have H7l : Hid (Blk V1 (w.heap.size + 1 + 1) #[.int .i64 0, .int .i64 0, .int .i64 0, .int .i64 0, .int .i64 0, .int .i64 0, .int .i64 0] 27) := hU.keep (Blk.drew H5l.out 1) (by omega)
      have H7n : Hid (Blk V1 (w1.heap.size) #[.int .i64 y.me, .int .i64 y.rv, .int .i64 y.nx, .int .i64 y.mo, .int .i64 y.bo, .int .i64 y.fr, .slice q n c, .int .i64 b.id, .int .i64 b.te, .int .i64 b.de, .int .i64 b.fe, .int .i64 b.pr, .int .i64 b.ch, .int .i64 b.un] 81) := hU.keep (Blk.drew H5n.out 1) (by omega)
      have H7F : Hid (deb.Fresh V1 (w1.heap.size + 1) q n c y.ds) := fresh_updN (fresh_drew H6F.out) hU (fun hn y hy => by have f1 := H6F.out.new hn y hy; have f2 := HUPF.out hn y hy; omega)
      have H7B : Hid (Below w.heap.size w V1) := hU.bel _ _ (by omega) H5B.out.drew
      clear hU H5d H5r H5l H5n H6F H5B
      refine hK.out _ _ H7n.out (fun hHeld => ?_)
      clear hK K
      refine wpAnyH_ready (rs := [5]) (by kernel_rfl) (by simp) (AllReadyH.cons rfl (fun K hK => ?_) AllReadyH.nil)
      rw [if_pos (by rfl)]
      refine wp_letOp 27 _ _ rfl (w.heap.size + 1 + 1) rfl #[.int .i64 b.id, .int .i64 b.te, .int .i64 b.de, .int .i64 b.fe, .int .i64 b.pr, .int .i64 b.ch, .int .i64 b.un] rfl (by kernel_rfl) (by simp [Value.oneCell']) #[.int .i64 0, .int .i64 0, .int .i64 0, .int .i64 0, .int .i64 0, .int .i64 0, .int .i64 0] 27 H7l.out rfl rfl ?_
      intro V2 hU
      have H8d : Hid (Blk V2 (w.heap.size) #[.int .i64 x.me, .int .i64 x.rv, .int .i64 x.nx, .int .i64 x.mo, .int .i64 x.bo, .int .i64 x.fr, .slice p len cap] 24) := hU.keep H7d.out (by omega)
      have H8r : Hid (Blk V2 (w.heap.size + 1) #[.int .i64 y.me, .int .i64 y.rv, .int .i64 y.nx, .int .i64 y.mo, .int .i64 y.bo, .int .i64 y.fr, .slice q n c] 24) := hU.keep H7r.out (by omega)
      have H8l : Hid (Blk V2 (w.heap.size + 1 + 1) #[.int .i64 b.id, .int .i64 b.te, .int .i64 b.de, .int .i64 b.fe, .int .i64 b.pr, .int .i64 b.ch, .int .i64 b.un] 27) := hU.blk
      have H8n : Hid (Blk V2 (w1.heap.size) #[.int .i64 y.me, .int .i64 y.rv, .int .i64 y.nx, .int .i64 y.mo, .int .i64 y.bo, .int .i64 y.fr, .slice q n c, .int .i64 b.id, .int .i64 b.te, .int .i64 b.de, .int .i64 b.fe, .int .i64 b.pr, .int .i64 b.ch, .int .i64 b.un] 81) := hU.keep H7n.out (by omega)
      have H8F : Hid (deb.Fresh V2 (w1.heap.size + 1) q n c y.ds) := fresh_updN H7F.out hU (fun hn y hy => by have f1 := H7F.out.new hn y hy; have f2 := HUPF.out hn y hy; omega)
      have H8B : Hid (Below w.heap.size w V2) := hU.bel _ _ (by omega) H7B.out
      clear hU H7d H7r H7l H7n H7F H7B
      refine hK.out _ _ H8n.out (fun hHeld => ?_)
      clear hK K
      refine take_at 6 6 (.int .i64 0) _ rfl rfl (by kernel_rfl) (by kernel_rfl) (by kernel_rfl) (fun _ _ _ h => h) (Or.inl ⟨by rfl, fun v hv => by skip; clear hv; go_simp⟩) hHeld ?_
      simp only [Act.put, List.setIfInBounds_toArray, List.set_cons_zero, List.set_cons_succ]
      refine wpAnyH_done (by kernel_rfl) ?_ _
      clear hHeld
      have Rr0 : Hid (V2.cell? ⟨w.heap.size + 1, 0, none⟩ = some (.int .i64 y.me)) := H8r.out.cell 0
      have Rr1 : Hid (V2.cell? ⟨w.heap.size + 1, 1, none⟩ = some (.int .i64 y.rv)) := H8r.out.cell 1
      have Rr2 : Hid (V2.cell? ⟨w.heap.size + 1, 2, none⟩ = some (.int .i64 y.nx)) := H8r.out.cell 2
      have Rr3 : Hid (V2.cell? ⟨w.heap.size + 1, 3, none⟩ = some (.int .i64 y.mo)) := H8r.out.cell 3
      have Rr4 : Hid (V2.cell? ⟨w.heap.size + 1, 4, none⟩ = some (.int .i64 y.bo)) := H8r.out.cell 4
      have Rr5 : Hid (V2.cell? ⟨w.heap.size + 1, 5, none⟩ = some (.int .i64 y.fr)) := H8r.out.cell 5
      have Rr6 : Hid (V2.cell? ⟨w.heap.size + 1, 6, none⟩ = some (.slice q n c)) := H8r.out.cell 6
      have Rl0 : Hid (V2.cell? ⟨w.heap.size + 1 + 1, 0, none⟩ = some (.int .i64 b.id)) := H8l.out.cell 0
      have Rl1 : Hid (V2.cell? ⟨w.heap.size + 1 + 1, 1, none⟩ = some (.int .i64 b.te)) := H8l.out.cell 1
      have Rl2 : Hid (V2.cell? ⟨w.heap.size + 1 + 1, 2, none⟩ = some (.int .i64 b.de)) := H8l.out.cell 2
      have Rl3 : Hid (V2.cell? ⟨w.heap.size + 1 + 1, 3, none⟩ = some (.int .i64 b.fe)) := H8l.out.cell 3
      have Rl4 : Hid (V2.cell? ⟨w.heap.size + 1 + 1, 4, none⟩ = some (.int .i64 b.pr)) := H8l.out.cell 4
      have Rl5 : Hid (V2.cell? ⟨w.heap.size + 1 + 1, 5, none⟩ = some (.int .i64 b.ch)) := H8l.out.cell 5
      have Rl6 : Hid (V2.cell? ⟨w.heap.size + 1 + 1, 6, none⟩ = some (.int .i64 b.un)) := H8l.out.cell 6
      go_wp2_with fail
      exact bodyPost_ret (v := .tuple #[.agg #[.int .i64 y.me, .int .i64 y.rv, .int .i64 y.nx, .int .i64 y.mo, .int .i64 y.bo, .int .i64 y.fr, .slice q n c], .agg #[.int .i64 b.id, .int .i64 b.te, .int .i64 b.de, .int .i64 b.fe, .int .i64 b.pr, .int .i64 b.ch, .int .i64 b.un], .int .i64 0]) (by simp [results, Try.results25, Rr0.out, Rr1.out, Rr2.out, Rr3.out, Rr4.out, Rr5.out, Rr6.out, Rl0.out, Rl1.out, Rl2.out, Rl3.out, Rl4.out, Rl5.out, Rl6.out, go_sem]) rfl ⟨y, b, q, n, c, 0, rfl, HV.out, H8F.out.low (by omega), H8B.out⟩
    · have d0 : (f != 0) = true := by simpa using h0
      have HV : Hid (Is ac0 bi0 f) := by
        rcases HOR.out with ⟨_, h⟩ | ⟨h, _⟩
        · exact h
        · exact absurd h h0
      clear HOR h0
      go_wp2_with (first
        | (refine wp_letAll rfl 24 _ _ rfl (w.heap.size + 1) rfl #[.int .i64 0, .int .i64 0, .int .i64 0, .int .i64 0, .int .i64 0, .int .i64 0, .slice none 0 0] rfl (by kernel_rfl) (by simp [Value.oneCell']) #[.int .i64 0, .int .i64 0, .int .i64 0, .int .i64 0, .int .i64 0, .int .i64 0, .slice none 0 0] 24 H5r.out rfl ?_)
        | (refine wp_whole rfl 24 _ rfl (w.heap.size) rfl 24 #[.int .i64 x.me, .int .i64 x.rv, .int .i64 x.nx, .int .i64 x.mo, .int .i64 x.bo, .int .i64 x.fr, .slice p len cap] _ H5d.out Try.underlying24 rfl (by kernel_rfl) ?_)
        | (refine wp_whole rfl 24 _ rfl (w.heap.size + 1) rfl 24 #[.int .i64 0, .int .i64 0, .int .i64 0, .int .i64 0, .int .i64 0, .int .i64 0, .slice none 0 0] _ H5r.out Try.underlying24 rfl (by kernel_rfl) ?_)
        | (refine wp_whole rfl 27 _ rfl (w.heap.size + 1 + 1) rfl 27 #[.int .i64 0, .int .i64 0, .int .i64 0, .int .i64 0, .int .i64 0, .int .i64 0, .int .i64 0] _ H5l.out Try.underlying27 rfl (by kernel_rfl) ?_)
        | (refine wp_whole rfl 81 _ rfl (w1.heap.size) rfl 81 #[.int .i64 y.me, .int .i64 y.rv, .int .i64 y.nx, .int .i64 y.mo, .int .i64 y.bo, .int .i64 y.fr, .slice q n c, .int .i64 b.id, .int .i64 b.te, .int .i64 b.de, .int .i64 b.fe, .int .i64 b.pr, .int .i64 b.ch, .int .i64 b.un] _ H5n.out Try.underlying81 rfl (by kernel_rfl) ?_)
        | fail)
      intro w5a hU
      have H7d : Hid (Blk w5a (w.heap.size) #[.int .i64 x.me, .int .i64 x.rv, .int .i64 x.nx, .int .i64 x.mo, .int .i64 x.bo, .int .i64 x.fr, .slice p len cap] 24) := hU.keep H5d.out (by omega)
      have H7r : Hid (Blk w5a (w.heap.size + 1) #[.int .i64 0, .int .i64 0, .int .i64 0, .int .i64 0, .int .i64 0, .int .i64 0, .slice none 0 0] 24) := hU.blk
      have H7l : Hid (Blk w5a (w.heap.size + 1 + 1) #[.int .i64 0, .int .i64 0, .int .i64 0, .int .i64 0, .int .i64 0, .int .i64 0, .int .i64 0] 27) := hU.keep H5l.out (by omega)
      have H7n : Hid (Blk w5a (w1.heap.size) #[.int .i64 y.me, .int .i64 y.rv, .int .i64 y.nx, .int .i64 y.mo, .int .i64 y.bo, .int .i64 y.fr, .slice q n c, .int .i64 b.id, .int .i64 b.te, .int .i64 b.de, .int .i64 b.fe, .int .i64 b.pr, .int .i64 b.ch, .int .i64 b.un] 81) := hU.keep H5n.out (by omega)
      have H7B : Hid (Below w.heap.size w w5a) := hU.bel _ _ (by omega) H5B.out
      have hsw5a : w5a.heap.size = w5.heap.size := hU.size
      clear hU H5d H5r H5l H5n H5B
      go_wp2_with (first
        | (refine wp_letAll rfl 27 _ _ rfl (w.heap.size + 1 + 1) rfl #[.int .i64 0, .int .i64 0, .int .i64 0, .int .i64 0, .int .i64 0, .int .i64 0, .int .i64 0] rfl (by kernel_rfl) (by simp [Value.oneCell']) #[.int .i64 0, .int .i64 0, .int .i64 0, .int .i64 0, .int .i64 0, .int .i64 0, .int .i64 0] 27 H7l.out rfl ?_)
        | (refine wp_whole rfl 24 _ rfl (w.heap.size) rfl 24 #[.int .i64 x.me, .int .i64 x.rv, .int .i64 x.nx, .int .i64 x.mo, .int .i64 x.bo, .int .i64 x.fr, .slice p len cap] _ H7d.out Try.underlying24 rfl (by kernel_rfl) ?_)
        | (refine wp_whole rfl 24 _ rfl (w.heap.size + 1) rfl 24 #[.int .i64 0, .int .i64 0, .int .i64 0, .int .i64 0, .int .i64 0, .int .i64 0, .slice none 0 0] _ H7r.out Try.underlying24 rfl (by kernel_rfl) ?_)
        | (refine wp_whole rfl 27 _ rfl (w.heap.size + 1 + 1) rfl 27 #[.int .i64 0, .int .i64 0, .int .i64 0, .int .i64 0, .int .i64 0, .int .i64 0, .int .i64 0] _ H7l.out Try.underlying27 rfl (by kernel_rfl) ?_)
        | (refine wp_whole rfl 81 _ rfl (w1.heap.size) rfl 81 #[.int .i64 y.me, .int .i64 y.rv, .int .i64 y.nx, .int .i64 y.mo, .int .i64 y.bo, .int .i64 y.fr, .slice q n c, .int .i64 b.id, .int .i64 b.te, .int .i64 b.de, .int .i64 b.fe, .int .i64 b.pr, .int .i64 b.ch, .int .i64 b.un] _ H7n.out Try.underlying81 rfl (by kernel_rfl) ?_)
        | fail)
      intro w5ab hU
      have H8d : Hid (Blk w5ab (w.heap.size) #[.int .i64 x.me, .int .i64 x.rv, .int .i64 x.nx, .int .i64 x.mo, .int .i64 x.bo, .int .i64 x.fr, .slice p len cap] 24) := hU.keep H7d.out (by omega)
      have H8r : Hid (Blk w5ab (w.heap.size + 1) #[.int .i64 0, .int .i64 0, .int .i64 0, .int .i64 0, .int .i64 0, .int .i64 0, .slice none 0 0] 24) := hU.keep H7r.out (by omega)
      have H8l : Hid (Blk w5ab (w.heap.size + 1 + 1) #[.int .i64 0, .int .i64 0, .int .i64 0, .int .i64 0, .int .i64 0, .int .i64 0, .int .i64 0] 27) := hU.blk
      have H8n : Hid (Blk w5ab (w1.heap.size) #[.int .i64 y.me, .int .i64 y.rv, .int .i64 y.nx, .int .i64 y.mo, .int .i64 y.bo, .int .i64 y.fr, .slice q n c, .int .i64 b.id, .int .i64 b.te, .int .i64 b.de, .int .i64 b.fe, .int .i64 b.pr, .int .i64 b.ch, .int .i64 b.un] 81) := hU.keep H7n.out (by omega)
      have H8B : Hid (Below w.heap.size w w5ab) := hU.bel _ _ (by omega) H7B.out
      have hsw5ab : w5ab.heap.size = w5a.heap.size := hU.size
      clear hU H7d H7r H7l H7n H7B
      have Rr0 : Hid (w5ab.cell? ⟨w.heap.size + 1, 0, none⟩ = some (.int .i64 0)) := H8r.out.cell 0
      have Rr1 : Hid (w5ab.cell? ⟨w.heap.size + 1, 1, none⟩ = some (.int .i64 0)) := H8r.out.cell 1
      have Rr2 : Hid (w5ab.cell? ⟨w.heap.size + 1, 2, none⟩ = some (.int .i64 0)) := H8r.out.cell 2
      have Rr3 : Hid (w5ab.cell? ⟨w.heap.size + 1, 3, none⟩ = some (.int .i64 0)) := H8r.out.cell 3
      have Rr4 : Hid (w5ab.cell? ⟨w.heap.size + 1, 4, none⟩ = some (.int .i64 0)) := H8r.out.cell 4
      have Rr5 : Hid (w5ab.cell? ⟨w.heap.size + 1, 5, none⟩ = some (.int .i64 0)) := H8r.out.cell 5
      have Rr6 : Hid (w5ab.cell? ⟨w.heap.size + 1, 6, none⟩ = some (.slice none 0 0)) := H8r.out.cell 6
      have Rl0 : Hid (w5ab.cell? ⟨w.heap.size + 1 + 1, 0, none⟩ = some (.int .i64 0)) := H8l.out.cell 0
      have Rl1 : Hid (w5ab.cell? ⟨w.heap.size + 1 + 1, 1, none⟩ = some (.int .i64 0)) := H8l.out.cell 1
      have Rl2 : Hid (w5ab.cell? ⟨w.heap.size + 1 + 1, 2, none⟩ = some (.int .i64 0)) := H8l.out.cell 2
      have Rl3 : Hid (w5ab.cell? ⟨w.heap.size + 1 + 1, 3, none⟩ = some (.int .i64 0)) := H8l.out.cell 3
      have Rl4 : Hid (w5ab.cell? ⟨w.heap.size + 1 + 1, 4, none⟩ = some (.int .i64 0)) := H8l.out.cell 4
      have Rl5 : Hid (w5ab.cell? ⟨w.heap.size + 1 + 1, 5, none⟩ = some (.int .i64 0)) := H8l.out.cell 5
      have Rl6 : Hid (w5ab.cell? ⟨w.heap.size + 1 + 1, 6, none⟩ = some (.int .i64 0)) := H8l.out.cell 6
      go_wp2_with fail
      exact bodyPost_ret (v := .tuple #[.agg #[.int .i64 0, .int .i64 0, .int .i64 0, .int .i64 0, .int .i64 0, .int .i64 0, .slice none 0 0], .agg #[.int .i64 0, .int .i64 0, .int .i64 0, .int .i64 0, .int .i64 0, .int .i64 0, .int .i64 0], .int .i64 f]) (by simp [results, Try.results25, Rr0.out, Rr1.out, Rr2.out, Rr3.out, Rr4.out, Rr5.out, Rr6.out, Rl0.out, Rl1.out, Rl2.out, Rl3.out, Rl4.out, Rl5.out, Rl6.out, go_sem]) rfl ⟨ac0, bi0, none, 0, 0, _, rfl, HV.out, deb.fresh_nil _ _, H8B.out⟩

end Go.Proofs.Ytlolippocnngcab.acc

/- account.Grant. -/
namespace Go.Proofs.Ytlolippocnngcab.acc
open Go.Proofs.Ytlolippocnngcab.tar (Du du0 Came RowD Ld PairT)
open Go.RowKit
set_option maxRecDepth 100000
set_option linter.unusedVariables false
set_option linter.unusedSimpArgs false

set_option maxHeartbeats 1000000 in
theorem pgrant1 (B0 B1 g : Nat) (x : Ac) (p : Option Addr) (len cap : Nat) (t : Tm) (pt : Option Addr) (lt ct : Nat) (m : Int) (w : World) (hB0 : Blk w B0 #[.slice pt lt ct, .int .i64 t.ff, .int .i64 t.fb, .int .i64 t.db, .int .i64 t.al] 42) (hB1 : Blk w B1 #[.int .i64 m] 3) (hw : Blk w g (wcs x bi0 p len cap) 81) (hd : deb.Fresh w (g + 1) p len cap x.ds) (ha : AMay x) (ht : Came w pt lt ct t.ts) (hwf : wf4 t) (hfar : Far pt lt g) : Calls Try.prog 42 #[.pointer (some ⟨g, 0, none⟩), .pointer (some ⟨B0, 0, none⟩), .pointer (some ⟨B1, 0, none⟩)] w fun e w' => WPost w g (Or0 (GrantIs x t m)) e w' := by
  have HIN : Hid (Calls Try.prog 43 #[.pointer (some ⟨g, 0, none⟩), .agg #[.slice pt lt ct, .int .i64 t.ff, .int .i64 t.fb, .int .i64 t.db, .int .i64 t.al], .int .i64 m] w fun e w' => WPost w g (Or0 (GrantIs x t m)) e w') := (pgrant g x p len cap t pt lt ct m w hw hd ha ht hwf hfar).mono fun e w' h => h.w (Nat.le_of_lt hw.lt)
  have HK0 : Hid (Blk w B0 #[.slice pt lt ct, .int .i64 t.ff, .int .i64 t.fb, .int .i64 t.db, .int .i64 t.al] 42) := hB0
  have HK1 : Hid (Blk w B1 #[.int .i64 m] 3) := hB1
  have qB1 : w.cell? ⟨B1, 0, none⟩ = some (.int .i64 m) := hB1.cell 0
  clear hw ha hd ht hwf hfar
  go_enter Try.func42, Try.ntmps42
  go_wp2_with (first | (refine wp_whole rfl 42 _ rfl B0 rfl 42 #[.slice pt lt ct, .int .i64 t.ff, .int .i64 t.fb, .int .i64 t.db, .int .i64 t.al] _ HK0.out Try.underlying42 rfl (by kernel_rfl) ?_) | fail)
  refine HIN.out.mono ?_
  rintro e w1 hx
  have HX : Hid (WPost w g (Or0 (GrantIs x t m)) e w1) := hx
  obtain ⟨y, b, q, n, c, f, rfl, _⟩ := hx
  clear HIN
  go_wp2_with fail
  go_ret
  exact HX.out
set_option maxHeartbeats 4000000 in
theorem kgrant : KcGrant := by
  intro w x p len cap t pt lt ct m ha ht hm
  unfold Ac.v Ac.cs Tm.v
  have H0d : Hid (Blk (((((w.alloc (.cells #[.int .i64 x.me, .int .i64 x.rv, .int .i64 x.nx, .int .i64 x.mo, .int .i64 x.bo, .int .i64 x.fr, .slice p len cap] 24)).alloc (.cells #[.slice pt lt ct, .int .i64 t.ff, .int .i64 t.fb, .int .i64 t.db, .int .i64 t.al] 42)).alloc (.cells #[.int .i64 m] 3)).alloc (.cells #[.int .i64 0, .int .i64 0, .int .i64 0, .int .i64 0, .int .i64 0, .int .i64 0, .slice none 0 0] 24)).alloc (.cells #[.int .i64 0, .int .i64 0, .int .i64 0, .int .i64 0, .int .i64 0, .int .i64 0, .int .i64 0] 27)) (w.heap.size) #[.int .i64 x.me, .int .i64 x.rv, .int .i64 x.nx, .int .i64 x.mo, .int .i64 x.bo, .int .i64 x.fr, .slice p len cap] 24) := ((((Blk.new w _ _).alloc _).alloc _).alloc _).alloc _
  have H0t : Hid (Blk (((((w.alloc (.cells #[.int .i64 x.me, .int .i64 x.rv, .int .i64 x.nx, .int .i64 x.mo, .int .i64 x.bo, .int .i64 x.fr, .slice p len cap] 24)).alloc (.cells #[.slice pt lt ct, .int .i64 t.ff, .int .i64 t.fb, .int .i64 t.db, .int .i64 t.al] 42)).alloc (.cells #[.int .i64 m] 3)).alloc (.cells #[.int .i64 0, .int .i64 0, .int .i64 0, .int .i64 0, .int .i64 0, .int .i64 0, .slice none 0 0] 24)).alloc (.cells #[.int .i64 0, .int .i64 0, .int .i64 0, .int .i64 0, .int .i64 0, .int .i64 0, .int .i64 0] 27)) (w.heap.size + 1) #[.slice pt lt ct, .int .i64 t.ff, .int .i64 t.fb, .int .i64 t.db, .int .i64 t.al] 42) := (((Blk.new1 w _ _ _).alloc _).alloc _).alloc _
  have H0m : Hid (Blk (((((w.alloc (.cells #[.int .i64 x.me, .int .i64 x.rv, .int .i64 x.nx, .int .i64 x.mo, .int .i64 x.bo, .int .i64 x.fr, .slice p len cap] 24)).alloc (.cells #[.slice pt lt ct, .int .i64 t.ff, .int .i64 t.fb, .int .i64 t.db, .int .i64 t.al] 42)).alloc (.cells #[.int .i64 m] 3)).alloc (.cells #[.int .i64 0, .int .i64 0, .int .i64 0, .int .i64 0, .int .i64 0, .int .i64 0, .slice none 0 0] 24)).alloc (.cells #[.int .i64 0, .int .i64 0, .int .i64 0, .int .i64 0, .int .i64 0, .int .i64 0, .int .i64 0] 27)) (w.heap.size + 1 + 1) #[.int .i64 m] 3) := ((Blk.new2 w _ _ _ _).alloc _).alloc _
  have H0r : Hid (Blk (((((w.alloc (.cells #[.int .i64 x.me, .int .i64 x.rv, .int .i64 x.nx, .int .i64 x.mo, .int .i64 x.bo, .int .i64 x.fr, .slice p len cap] 24)).alloc (.cells #[.slice pt lt ct, .int .i64 t.ff, .int .i64 t.fb, .int .i64 t.db, .int .i64 t.al] 42)).alloc (.cells #[.int .i64 m] 3)).alloc (.cells #[.int .i64 0, .int .i64 0, .int .i64 0, .int .i64 0, .int .i64 0, .int .i64 0, .slice none 0 0] 24)).alloc (.cells #[.int .i64 0, .int .i64 0, .int .i64 0, .int .i64 0, .int .i64 0, .int .i64 0, .int .i64 0] 27)) (w.heap.size + 1 + 1 + 1) #[.int .i64 0, .int .i64 0, .int .i64 0, .int .i64 0, .int .i64 0, .int .i64 0, .slice none 0 0] 24) := (Blk.new3 w _ _ _ _ _).alloc _
  have H0l : Hid (Blk (((((w.alloc (.cells #[.int .i64 x.me, .int .i64 x.rv, .int .i64 x.nx, .int .i64 x.mo, .int .i64 x.bo, .int .i64 x.fr, .slice p len cap] 24)).alloc (.cells #[.slice pt lt ct, .int .i64 t.ff, .int .i64 t.fb, .int .i64 t.db, .int .i64 t.al] 42)).alloc (.cells #[.int .i64 m] 3)).alloc (.cells #[.int .i64 0, .int .i64 0, .int .i64 0, .int .i64 0, .int .i64 0, .int .i64 0, .slice none 0 0] 24)).alloc (.cells #[.int .i64 0, .int .i64 0, .int .i64 0, .int .i64 0, .int .i64 0, .int .i64 0, .int .i64 0] 27)) (w.heap.size + 1 + 1 + 1 + 1) #[.int .i64 0, .int .i64 0, .int .i64 0, .int .i64 0, .int .i64 0, .int .i64 0, .int .i64 0] 27) := blk_new4 w _ _ _ _ _ _
  have H0B : Hid (Below w.heap.size w (((((w.alloc (.cells #[.int .i64 x.me, .int .i64 x.rv, .int .i64 x.nx, .int .i64 x.mo, .int .i64 x.bo, .int .i64 x.fr, .slice p len cap] 24)).alloc (.cells #[.slice pt lt ct, .int .i64 t.ff, .int .i64 t.fb, .int .i64 t.db, .int .i64 t.al] 42)).alloc (.cells #[.int .i64 m] 3)).alloc (.cells #[.int .i64 0, .int .i64 0, .int .i64 0, .int .i64 0, .int .i64 0, .int .i64 0, .slice none 0 0] 24)).alloc (.cells #[.int .i64 0, .int .i64 0, .int .i64 0, .int .i64 0, .int .i64 0, .int .i64 0, .int .i64 0] 27))) := (((((Below.refl w.heap.size w).alloc (by simp) _).alloc (by simp) _).alloc (by simp; omega) _).alloc (by simp; omega) _).alloc (by simp; omega) _
  have H0R : Hid (Came (((((w.alloc (.cells #[.int .i64 x.me, .int .i64 x.rv, .int .i64 x.nx, .int .i64 x.mo, .int .i64 x.bo, .int .i64 x.fr, .slice p len cap] 24)).alloc (.cells #[.slice pt lt ct, .int .i64 t.ff, .int .i64 t.fb, .int .i64 t.db, .int .i64 t.al] 42)).alloc (.cells #[.int .i64 m] 3)).alloc (.cells #[.int .i64 0, .int .i64 0, .int .i64 0, .int .i64 0, .int .i64 0, .int .i64 0, .slice none 0 0] 24)).alloc (.cells #[.int .i64 0, .int .i64 0, .int .i64 0, .int .i64 0, .int .i64 0, .int .i64 0, .int .i64 0] 27)) p len cap x.ds) := ha.ds.below H0B.out
  have hs0 : w.heap.size + 1 + 1 + 1 + 1 < (((((w.alloc (.cells #[.int .i64 x.me, .int .i64 x.rv, .int .i64 x.nx, .int .i64 x.mo, .int .i64 x.bo, .int .i64 x.fr, .slice p len cap] 24)).alloc (.cells #[.slice pt lt ct, .int .i64 t.ff, .int .i64 t.fb, .int .i64 t.db, .int .i64 t.al] 42)).alloc (.cells #[.int .i64 m] 3)).alloc (.cells #[.int .i64 0, .int .i64 0, .int .i64 0, .int .i64 0, .int .i64 0, .int .i64 0, .slice none 0 0] 24)).alloc (.cells #[.int .i64 0, .int .i64 0, .int .i64 0, .int .i64 0, .int .i64 0, .int .i64 0, .int .i64 0] 27)).heap.size := H0l.out.lt
  generalize hWW : (((((w.alloc (.cells #[.int .i64 x.me, .int .i64 x.rv, .int .i64 x.nx, .int .i64 x.mo, .int .i64 x.bo, .int .i64 x.fr, .slice p len cap] 24)).alloc (.cells #[.slice pt lt ct, .int .i64 t.ff, .int .i64 t.fb, .int .i64 t.db, .int .i64 t.al] 42)).alloc (.cells #[.int .i64 m] 3)).alloc (.cells #[.int .i64 0, .int .i64 0, .int .i64 0, .int .i64 0, .int .i64 0, .int .i64 0, .slice none 0 0] 24)).alloc (.cells #[.int .i64 0, .int .i64 0, .int .i64 0, .int .i64 0, .int .i64 0, .int .i64 0, .int .i64 0] 27)) = W0 at *
  have HWW : Hid ((((((w.alloc (.cells #[.int .i64 x.me, .int .i64 x.rv, .int .i64 x.nx, .int .i64 x.mo, .int .i64 x.bo, .int .i64 x.fr, .slice p len cap] 24)).alloc (.cells #[.slice pt lt ct, .int .i64 t.ff, .int .i64 t.fb, .int .i64 t.db, .int .i64 t.al] 42)).alloc (.cells #[.int .i64 m] 3)).alloc (.cells #[.int .i64 0, .int .i64 0, .int .i64 0, .int .i64 0, .int .i64 0, .int .i64 0, .slice none 0 0] 24)).alloc (.cells #[.int .i64 0, .int .i64 0, .int .i64 0, .int .i64 0, .int .i64 0, .int .i64 0, .int .i64 0] 27)) = W0) := hWW
  clear hWW
  go_enter Try.func23, Try.ntmps23
  go_upto_region 1 with fail
  rw [HWW.out]
  clear HWW
  have HXt : Hid (∀ W, Below W0.heap.size W0 W → Blk W (w.heap.size + 1) #[.slice pt lt ct, .int .i64 t.ff, .int .i64 t.fb, .int .i64 t.db, .int .i64 t.al] 42) := fun W hW => H0t.out.next hW
  have HXm : Hid (∀ W, Below W0.heap.size W0 W → Blk W (w.heap.size + 1 + 1) #[.int .i64 m] 3) := fun W hW => H0m.out.next hW
  have HTC : Hid (Came w pt lt ct t.ts) := ht.ts
  have HBW : Hid (Below w.heap.size w W0) := H0B.out
  have hbw : w.heap.size ≤ W0.heap.size := H0B.out.size
  have HWK : Hid (Calls Try.prog 25 #[.agg #[.int .i64 x.me, .int .i64 x.rv, .int .i64 x.nx, .int .i64 x.mo, .int .i64 x.bo, .int .i64 x.fr, .slice p len cap], .func (.func 42) #[] #[.pointer (some ⟨w.heap.size + 1, 0, none⟩), .pointer (some ⟨w.heap.size + 1 + 1, 0, none⟩)]] W0 fun e w' => BPost W0 (GrantIs x t m) e w') := by
    refine pwork 42 #[.pointer (some ⟨w.heap.size + 1, 0, none⟩), .pointer (some ⟨w.heap.size + 1 + 1, 0, none⟩)] (GrantIs x t m) x p len cap W0 H0R.out (fun h => .inl ⟨.inl ⟨h, rfl⟩, rfl, rfl⟩) (fun _ _ => by kernel_rfl) ?_
    intro hm W g p' cap' hB hg hblk hld
    have HFR : deb.Fresh W (g + 1) p' len cap' x.ds := by
      obtain ⟨a0, c0, hv, hfr⟩ := deb.ld_fresh hld hm.1
      injection hv with h1 h2 h3
      rw [h1, h2, h3]; exact hfr
    have hfar : Far pt lt g := fun hn y hy => by have := came_lt HTC.out hn y hy; omega
    exact pgrant1 _ _ g x p' len cap' t pt lt ct m W (HXt.out W hB) (HXm.out W hB) hblk HFR hm (HTC.out.below (HBW.out.trans (hB.mono hbw))) ht.wf hfar
  clear ha ht HXt HXm
  go_wp2_with (first
    | (refine wp_whole rfl 24 _ rfl (w.heap.size) rfl 24 #[.int .i64 x.me, .int .i64 x.rv, .int .i64 x.nx, .int .i64 x.mo, .int .i64 x.bo, .int .i64 x.fr, .slice p len cap] _ H0d.out Try.underlying24 rfl (by kernel_rfl) ?_)
    | (refine wp_whole rfl 42 _ rfl (w.heap.size + 1) rfl 42 #[.slice pt lt ct, .int .i64 t.ff, .int .i64 t.fb, .int .i64 t.db, .int .i64 t.al] _ H0t.out Try.underlying42 rfl (by kernel_rfl) ?_)
    | (refine wp_whole rfl 3 _ rfl (w.heap.size + 1 + 1) rfl 3 #[.int .i64 m] _ H0m.out Try.underlying3 rfl (by kernel_rfl) ?_)
    | (refine wp_whole rfl 24 _ rfl (w.heap.size + 1 + 1 + 1) rfl 24 #[.int .i64 0, .int .i64 0, .int .i64 0, .int .i64 0, .int .i64 0, .int .i64 0, .slice none 0 0] _ H0r.out Try.underlying24 rfl (by kernel_rfl) ?_)
    | (refine wp_whole rfl 27 _ rfl (w.heap.size + 1 + 1 + 1 + 1) rfl 27 #[.int .i64 0, .int .i64 0, .int .i64 0, .int .i64 0, .int .i64 0, .int .i64 0, .int .i64 0] _ H0l.out Try.underlying27 rfl (by kernel_rfl) ?_)
    | fail)
  refine HWK.out.mono ?_
  rintro e w1 ⟨b, l, pr, lr, cr, fz, rfl, hi, hf, hb1⟩
  have H1d : Hid (Blk w1 (w.heap.size) #[.int .i64 x.me, .int .i64 x.rv, .int .i64 x.nx, .int .i64 x.mo, .int .i64 x.bo, .int .i64 x.fr, .slice p len cap] 24) := H0d.out.next hb1
  have H1t : Hid (Blk w1 (w.heap.size + 1) #[.slice pt lt ct, .int .i64 t.ff, .int .i64 t.fb, .int .i64 t.db, .int .i64 t.al] 42) := H0t.out.next hb1
  have H1m : Hid (Blk w1 (w.heap.size + 1 + 1) #[.int .i64 m] 3) := H0m.out.next hb1
  have H1r : Hid (Blk w1 (w.heap.size + 1 + 1 + 1) #[.int .i64 0, .int .i64 0, .int .i64 0, .int .i64 0, .int .i64 0, .int .i64 0, .slice none 0 0] 24) := H0r.out.next hb1
  have H1l : Hid (Blk w1 (w.heap.size + 1 + 1 + 1 + 1) #[.int .i64 0, .int .i64 0, .int .i64 0, .int .i64 0, .int .i64 0, .int .i64 0, .int .i64 0] 27) := H0l.out.next hb1
  have H1R : Hid (Came w1 p len cap x.ds) := H0R.out.below hb1
  have H1B : Hid (Below w.heap.size w w1) := H0B.out.trans (hb1.mono H0B.out.size)
  have hsw1 : W0.heap.size ≤ w1.heap.size := hb1.size
  clear hb1 H0d H0t H0m H0r H0l H0R H0B
  unfold Ac.v Ac.cs Bi.v
  clear HWK
  have H2F : Hid (deb.Fresh w1 W0.heap.size pr lr cr b.ds) := hf
  have HUPF : Hid (0 < lr → ∀ y, pr = some y → y.block < w1.heap.size) := came_lt H2F.out.came
  have HV : Hid (GrantIs x t m b l fz) := hi
  clear hf hi
  go_wp2_with (first
    | (refine wp_letAll rfl 24 _ _ rfl (w.heap.size + 1 + 1 + 1) rfl #[.int .i64 b.me, .int .i64 b.rv, .int .i64 b.nx, .int .i64 b.mo, .int .i64 b.bo, .int .i64 b.fr, .slice pr lr cr] rfl (by kernel_rfl) (by simp [Value.oneCell']) #[.int .i64 0, .int .i64 0, .int .i64 0, .int .i64 0, .int .i64 0, .int .i64 0, .slice none 0 0] 24 H1r.out rfl ?_)
    | (refine wp_whole rfl 24 _ rfl (w.heap.size) rfl 24 #[.int .i64 x.me, .int .i64 x.rv, .int .i64 x.nx, .int .i64 x.mo, .int .i64 x.bo, .int .i64 x.fr, .slice p len cap] _ H1d.out Try.underlying24 rfl (by kernel_rfl) ?_)
    | (refine wp_whole rfl 42 _ rfl (w.heap.size + 1) rfl 42 #[.slice pt lt ct, .int .i64 t.ff, .int .i64 t.fb, .int .i64 t.db, .int .i64 t.al] _ H1t.out Try.underlying42 rfl (by kernel_rfl) ?_)
    | (refine wp_whole rfl 3 _ rfl (w.heap.size + 1 + 1) rfl 3 #[.int .i64 m] _ H1m.out Try.underlying3 rfl (by kernel_rfl) ?_)
    | (refine wp_whole rfl 24 _ rfl (w.heap.size + 1 + 1 + 1) rfl 24 #[.int .i64 0, .int .i64 0, .int .i64 0, .int .i64 0, .int .i64 0, .int .i64 0, .slice none 0 0] _ H1r.out Try.underlying24 rfl (by kernel_rfl) ?_)
    | (refine wp_whole rfl 27 _ rfl (w.heap.size + 1 + 1 + 1 + 1) rfl 27 #[.int .i64 0, .int .i64 0, .int .i64 0, .int .i64 0, .int .i64 0, .int .i64 0, .int .i64 0] _ H1l.out Try.underlying27 rfl (by kernel_rfl) ?_)
    | fail)
  intro W4 hU
  have H3d : Hid (Blk W4 (w.heap.size) #[.int .i64 x.me, .int .i64 x.rv, .int .i64 x.nx, .int .i64 x.mo, .int .i64 x.bo, .int .i64 x.fr, .slice p len cap] 24) := hU.keep H1d.out (by omega)
  have H3t : Hid (Blk W4 (w.heap.size + 1) #[.slice pt lt ct, .int .i64 t.ff, .int .i64 t.fb, .int .i64 t.db, .int .i64 t.al] 42) := hU.keep H1t.out (by omega)
  have H3m : Hid (Blk W4 (w.heap.size + 1 + 1) #[.int .i64 m] 3) := hU.keep H1m.out (by omega)
  have H3r : Hid (Blk W4 (w.heap.size + 1 + 1 + 1) #[.int .i64 b.me, .int .i64 b.rv, .int .i64 b.nx, .int .i64 b.mo, .int .i64 b.bo, .int .i64 b.fr, .slice pr lr cr] 24) := hU.blk
  have H3l : Hid (Blk W4 (w.heap.size + 1 + 1 + 1 + 1) #[.int .i64 0, .int .i64 0, .int .i64 0, .int .i64 0, .int .i64 0, .int .i64 0, .int .i64 0] 27) := hU.keep H1l.out (by omega)
  have H3F : Hid (deb.Fresh W4 W0.heap.size pr lr cr b.ds) := fresh_updN H2F.out hU (fun hn y hy => by have f1 := H2F.out.new hn y hy; have f2 := HUPF.out hn y hy; omega)
  have H3B : Hid (Below w.heap.size w W4) := hU.bel _ _ (by omega) H1B.out
  have hsW4 : W4.heap.size = w1.heap.size := hU.size
  clear hU H1d H1t H1m H1r H1l H2F H1B
  go_wp2_with (first
    | (refine wp_letAll rfl 27 _ _ rfl (w.heap.size + 1 + 1 + 1 + 1) rfl #[.int .i64 l.id, .int .i64 l.te, .int .i64 l.de, .int .i64 l.fe, .int .i64 l.pr, .int .i64 l.ch, .int .i64 l.un] rfl (by kernel_rfl) (by simp [Value.oneCell']) #[.int .i64 0, .int .i64 0, .int .i64 0, .int .i64 0, .int .i64 0, .int .i64 0, .int .i64 0] 27 H3l.out rfl ?_)
    | (refine wp_whole rfl 24 _ rfl (w.heap.size) rfl 24 #[.int .i64 x.me, .int .i64 x.rv, .int .i64 x.nx, .int .i64 x.mo, .int .i64 x.bo, .int .i64 x.fr, .slice p len cap] _ H3d.out Try.underlying24 rfl (by kernel_rfl) ?_)
    | (refine wp_whole rfl 42 _ rfl (w.heap.size + 1) rfl 42 #[.slice pt lt ct, .int .i64 t.ff, .int .i64 t.fb, .int .i64 t.db, .int .i64 t.al] _ H3t.out Try.underlying42 rfl (by kernel_rfl) ?_)
    | (refine wp_whole rfl 3 _ rfl (w.heap.size + 1 + 1) rfl 3 #[.int .i64 m] _ H3m.out Try.underlying3 rfl (by kernel_rfl) ?_)
    | (refine wp_whole rfl 24 _ rfl (w.heap.size + 1 + 1 + 1) rfl 24 #[.int .i64 b.me, .int .i64 b.rv, .int .i64 b.nx, .int .i64 b.mo, .int .i64 b.bo, .int .i64 b.fr, .slice pr lr cr] _ H3r.out Try.underlying24 rfl (by kernel_rfl) ?_)
    | (refine wp_whole rfl 27 _ rfl (w.heap.size + 1 + 1 + 1 + 1) rfl 27 #[.int .i64 0, .int .i64 0, .int .i64 0, .int .i64 0, .int .i64 0, .int .i64 0, .int .i64 0] _ H3l.out Try.underlying27 rfl (by kernel_rfl) ?_)
    | fail)
  intro W5 hU
  have H4d : Hid (Blk W5 (w.heap.size) #[.int .i64 x.me, .int .i64 x.rv, .int .i64 x.nx, .int .i64 x.mo, .int .i64 x.bo, .int .i64 x.fr, .slice p len cap] 24) := hU.keep H3d.out (by omega)
  have H4t : Hid (Blk W5 (w.heap.size + 1) #[.slice pt lt ct, .int .i64 t.ff, .int .i64 t.fb, .int .i64 t.db, .int .i64 t.al] 42) := hU.keep H3t.out (by omega)
  have H4m : Hid (Blk W5 (w.heap.size + 1 + 1) #[.int .i64 m] 3) := hU.keep H3m.out (by omega)
  have H4r : Hid (Blk W5 (w.heap.size + 1 + 1 + 1) #[.int .i64 b.me, .int .i64 b.rv, .int .i64 b.nx, .int .i64 b.mo, .int .i64 b.bo, .int .i64 b.fr, .slice pr lr cr] 24) := hU.keep H3r.out (by omega)
  have H4l : Hid (Blk W5 (w.heap.size + 1 + 1 + 1 + 1) #[.int .i64 l.id, .int .i64 l.te, .int .i64 l.de, .int .i64 l.fe, .int .i64 l.pr, .int .i64 l.ch, .int .i64 l.un] 27) := hU.blk
  have H4F : Hid (deb.Fresh W5 W0.heap.size pr lr cr b.ds) := fresh_updN H3F.out hU (fun hn y hy => by have f1 := H3F.out.new hn y hy; have f2 := HUPF.out hn y hy; omega)
  have H4B : Hid (Below w.heap.size w W5) := hU.bel _ _ (by omega) H3B.out
  have hsW5 : W5.heap.size = W4.heap.size := hU.size
  clear hU H3d H3t H3m H3r H3l H3F H3B
  have Rr0 : Hid (W5.cell? ⟨w.heap.size + 1 + 1 + 1, 0, none⟩ = some (.int .i64 b.me)) := H4r.out.cell 0
  have Rr1 : Hid (W5.cell? ⟨w.heap.size + 1 + 1 + 1, 1, none⟩ = some (.int .i64 b.rv)) := H4r.out.cell 1
  have Rr2 : Hid (W5.cell? ⟨w.heap.size + 1 + 1 + 1, 2, none⟩ = some (.int .i64 b.nx)) := H4r.out.cell 2
  have Rr3 : Hid (W5.cell? ⟨w.heap.size + 1 + 1 + 1, 3, none⟩ = some (.int .i64 b.mo)) := H4r.out.cell 3
  have Rr4 : Hid (W5.cell? ⟨w.heap.size + 1 + 1 + 1, 4, none⟩ = some (.int .i64 b.bo)) := H4r.out.cell 4
  have Rr5 : Hid (W5.cell? ⟨w.heap.size + 1 + 1 + 1, 5, none⟩ = some (.int .i64 b.fr)) := H4r.out.cell 5
  have Rr6 : Hid (W5.cell? ⟨w.heap.size + 1 + 1 + 1, 6, none⟩ = some (.slice pr lr cr)) := H4r.out.cell 6
  have Rl0 : Hid (W5.cell? ⟨w.heap.size + 1 + 1 + 1 + 1, 0, none⟩ = some (.int .i64 l.id)) := H4l.out.cell 0
  have Rl1 : Hid (W5.cell? ⟨w.heap.size + 1 + 1 + 1 + 1, 1, none⟩ = some (.int .i64 l.te)) := H4l.out.cell 1
  have Rl2 : Hid (W5.cell? ⟨w.heap.size + 1 + 1 + 1 + 1, 2, none⟩ = some (.int .i64 l.de)) := H4l.out.cell 2
  have Rl3 : Hid (W5.cell? ⟨w.heap.size + 1 + 1 + 1 + 1, 3, none⟩ = some (.int .i64 l.fe)) := H4l.out.cell 3
  have Rl4 : Hid (W5.cell? ⟨w.heap.size + 1 + 1 + 1 + 1, 4, none⟩ = some (.int .i64 l.pr)) := H4l.out.cell 4
  have Rl5 : Hid (W5.cell? ⟨w.heap.size + 1 + 1 + 1 + 1, 5, none⟩ = some (.int .i64 l.ch)) := H4l.out.cell 5
  have Rl6 : Hid (W5.cell? ⟨w.heap.size + 1 + 1 + 1 + 1, 6, none⟩ = some (.int .i64 l.un)) := H4l.out.cell 6
  go_wp2_with fail
  exact bodyPost_ret (v := .tuple #[.agg #[.int .i64 b.me, .int .i64 b.rv, .int .i64 b.nx, .int .i64 b.mo, .int .i64 b.bo, .int .i64 b.fr, .slice pr lr cr], .agg #[.int .i64 l.id, .int .i64 l.te, .int .i64 l.de, .int .i64 l.fe, .int .i64 l.pr, .int .i64 l.ch, .int .i64 l.un], .int .i64 fz]) (by simp [results, Try.results23, Rr0.out, Rr1.out, Rr2.out, Rr3.out, Rr4.out, Rr5.out, Rr6.out, Rl0.out, Rl1.out, Rl2.out, Rl3.out, Rl4.out, Rl5.out, Rl6.out, go_sem]) rfl ⟨b, l, pr, lr, cr, fz, rfl, HV.out, H4F.out.low (by omega), H4B.out⟩

end Go.Proofs.Ytlolippocnngcab.acc

/- Raw numbers of an account that came in. -/
namespace Go.Proofs.Ytlolippocnngcab.acc
open Go.ChangeShapes Go.WideShapes Go.ChangeAt Go.RowKit Go.Deep
set_option maxRecDepth 100000
set_option linter.unusedVariables false

theorem open_going {H : Type} {enc : TypeId × Value → H} {W : World} {r : Reach} {b0 b1 : Nat} {held : Bool} {v : Value} {d : DataW H} {ps : List MemPlace}
    (hval : Value.okWide Try.prog W r b0 35 v) (h : DataW.Trod enc Try.prog W b1 (fun _ => true) held 35 v d ps) (hs : ∀ n ∈ d.weights Try.prog 35, n ≤ reachBytes) :
    ∃ (x : Ac) (p : Option Addr) (len cap : Nat), v = x.v p len cap ∧ ACame W x p len cap := by
  have hu := Try.underlying35
  have hc : Try.prog.cellsOf 35 = 7 := by kernel_rfl
  have ci : Try.prog.cellsOf 3 = 1 := by kernel_rfl
  have csl : Try.prog.cellsOf 33 = 1 := by kernel_rfl
  obtain ⟨cs, rfl, hsz⟩ := okWide_struct hu hval
  rw [hc] at hsz
  obtain ⟨c0, c1, c2, c3, c4, c5, c6, rfl⟩ : ∃ c0 c1 c2 c3 c4 c5 c6, cs = #[c0, c1, c2, c3, c4, c5, c6] := by
    cases cs with
    | mk l => match l, hsz with
      | [c0, c1, c2, c3, c4, c5, c6], _ => exact ⟨c0, c1, c2, c3, c4, c5, c6, rfl⟩
  obtain ⟨fuel, hf⟩ := h
  obtain ⟨xs, n, hx, hd, _, hlen, hg⟩ := DataW.trod_struct hu hf
  match xs, hlen with
  | [y0, y1, y2, y3, y4, y5, y6], _ =>
    have g0 := hg 0 _ rfl
    have g1 := hg 1 _ rfl
    have g2 := hg 2 _ rfl
    have g3 := hg 3 _ rfl
    have g4 := hg 4 _ rfl
    have g5 := hg 5 _ rfl
    have g6 := hg 6 _ rfl
    simp [Value.cells, ci, csl] at g0 g1 g2 g3 g4 g5 g6
    obtain ⟨x0, e0, -, w0⟩ := DataW.trod_int Try.underlying3 g0
    obtain ⟨x1, e1, -, w1⟩ := DataW.trod_int Try.underlying3 g1
    obtain ⟨x2, e2, -, w2⟩ := DataW.trod_int Try.underlying3 g2
    obtain ⟨x3, e3, -, w3⟩ := DataW.trod_int Try.underlying3 g3
    obtain ⟨x4, e4, -, w4⟩ := DataW.trod_int Try.underlying3 g4
    obtain ⟨x5, e5, -, w5⟩ := DataW.trod_int Try.underlying3 g5
    simp at e0 e1 e2 e3 e4 e5
    subst e0 e1 e2 e3 e4 e5
    rcases Deep.open_slice_pairs Try.underlying33 Try.underlying83 (by kernel_rfl) rfl rfl (by kernel_rfl) (by kernel_rfl) g6 with ⟨hcs, _⟩ | ⟨x, l, c, mm, fu, V0, V1, D0, D1, P0, P1, hcs, _, hl, hm, hmm, hy, hall⟩
    · simp at hcs
      subst hcs
      exact ⟨⟨x0, x1, x2, x3, x4, x5, []⟩, none, 0, 0, rfl, ⟨tar.RowD.nil _ _, (fun _ => rfl), Nat.le_refl _, by omega, (fun x hx => by cases hx)⟩, ⟨w0, w1, w2, w3, w4, w5⟩⟩
    · simp at hcs
      subst hcs
      simp only [if_true] at hmm
      subst hmm
      have hr := tar.rowD_of (len := l) (w := W) (a := x) (m := mm) (by omega) (fun j hj => by
        obtain ⟨k0, k1, t0, t1⟩ := hall j hj
        obtain ⟨z0, hv0, _, hw0⟩ := DataW.trod_int Try.underlying3 t0
        obtain ⟨z1, hv1, _, hw1⟩ := DataW.trod_int Try.underlying3 t1
        simp only [List.cons.injEq, and_true] at hv0 hv1
        rw [hv0] at k0
        rw [hv1] at k1
        exact ⟨z0, z1, k0, k1, hw0, hw1⟩)
      obtain ⟨zs, r1, r2⟩ := hr
      subst hy
      obtain ⟨hd1, _⟩ := Prod.mk.inj hd
      subst hd1
      have h1 := hs ((l + (mm - l)) * Try.prog.bytesOf 83) (by simp [DataW.weights, hu, DataW.weightsEach, Try.underlying33])
      rw [show Try.prog.bytesOf 83 = 16 from by kernel_rfl] at h1
      simp only [reachBytes] at h1
      exact ⟨⟨x0, x1, x2, x3, x4, x5, zs⟩, some x, l, mm, rfl, ⟨r1, (fun h => by cases h), hl, by omega, r2⟩, ⟨w0, w1, w2, w3, w4, w5⟩⟩

end Go.Proofs.Ytlolippocnngcab.acc

/- Raw numbers of terms that came in. -/
namespace Go.Proofs.Ytlolippocnngcab.acc
open Go.ChangeShapes Go.WideShapes Go.ChangeAt Go.RowKit Go.Deep
set_option maxRecDepth 100000
set_option linter.unusedVariables false

theorem open_deal {H : Type} {enc : TypeId × Value → H} {W : World} {r : Reach} {b0 b1 : Nat} {held : Bool} {v : Value} {d : DataW H} {ps : List MemPlace}
    (hval : Value.okWide Try.prog W r b0 38 v) (h : DataW.Trod enc Try.prog W b1 (fun _ => true) held 38 v d ps) (hs : ∀ n ∈ d.weights Try.prog 38, n ≤ reachBytes) :
    ∃ (x : Tm) (p : Option Addr) (len cap : Nat), v = x.v p len cap ∧ TCame W x p len cap := by
  have hu := Try.underlying38
  have hc : Try.prog.cellsOf 38 = 5 := by kernel_rfl
  have ci : Try.prog.cellsOf 3 = 1 := by kernel_rfl
  have csl : Try.prog.cellsOf 36 = 1 := by kernel_rfl
  obtain ⟨cs, rfl, hsz⟩ := okWide_struct hu hval
  rw [hc] at hsz
  obtain ⟨c0, c1, c2, c3, c4, rfl⟩ : ∃ c0 c1 c2 c3 c4, cs = #[c0, c1, c2, c3, c4] := by
    cases cs with
    | mk l => match l, hsz with
      | [c0, c1, c2, c3, c4], _ => exact ⟨c0, c1, c2, c3, c4, rfl⟩
  obtain ⟨fuel, hf⟩ := h
  obtain ⟨xs, n, hx, hd, _, hlen, hg⟩ := DataW.trod_struct hu hf
  match xs, hlen with
  | [y0, y1, y2, y3, y4], _ =>
    have g0 := hg 0 _ rfl
    have g1 := hg 1 _ rfl
    have g2 := hg 2 _ rfl
    have g3 := hg 3 _ rfl
    have g4 := hg 4 _ rfl
    simp [Value.cells, ci, csl] at g0 g1 g2 g3 g4
    obtain ⟨x1, e1, -, w1⟩ := DataW.trod_int Try.underlying3 g1
    obtain ⟨x2, e2, -, w2⟩ := DataW.trod_int Try.underlying3 g2
    obtain ⟨x3, e3, -, w3⟩ := DataW.trod_int Try.underlying3 g3
    obtain ⟨x4, e4, -, w4⟩ := DataW.trod_int Try.underlying3 g4
    simp at e1 e2 e3 e4
    subst e1 e2 e3 e4
    rcases Deep.open_slice_pairs Try.underlying36 Try.underlying85 (by kernel_rfl) rfl rfl (by kernel_rfl) (by kernel_rfl) g0 with ⟨hcs, _⟩ | ⟨x, l, c, mm, fu, V0, V1, D0, D1, P0, P1, hcs, _, hl, hm, hmm, hy, hall⟩
    · simp at hcs
      subst hcs
      exact ⟨⟨[], x1, x2, x3, x4⟩, none, 0, 0, rfl, ⟨tar.RowD.nil _ _, (fun _ => rfl), Nat.le_refl _, by omega, (fun x hx => by cases hx)⟩, ⟨w1, w2, w3, w4⟩⟩
    · simp at hcs
      subst hcs
      simp only [if_true] at hmm
      subst hmm
      have hr := tar.rowD_of (len := l) (w := W) (a := x) (m := mm) (by omega) (fun j hj => by
        obtain ⟨k0, k1, t0, t1⟩ := hall j hj
        obtain ⟨z0, hv0, _, hw0⟩ := DataW.trod_int Try.underlying3 t0
        obtain ⟨z1, hv1, _, hw1⟩ := DataW.trod_int Try.underlying3 t1
        simp only [List.cons.injEq, and_true] at hv0 hv1
        rw [hv0] at k0
        rw [hv1] at k1
        exact ⟨z0, z1, k0, k1, hw0, hw1⟩)
      obtain ⟨zs, r1, r2⟩ := hr
      subst hy
      obtain ⟨hd1, _⟩ := Prod.mk.inj hd
      subst hd1
      have h1 := hs ((l + (mm - l)) * Try.prog.bytesOf 85) (by simp [DataW.weights, hu, DataW.weightsEach, Try.underlying36])
      rw [show Try.prog.bytesOf 85 = 16 from by kernel_rfl] at h1
      simp only [reachBytes] at h1
      exact ⟨⟨zs, x1, x2, x3, x4⟩, some x, l, mm, rfl, ⟨r1, (fun h => by cases h), hl, by omega, r2⟩, ⟨w1, w2, w3, w4⟩⟩

end Go.Proofs.Ytlolippocnngcab.acc
