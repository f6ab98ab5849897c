import Derived.Test.YtomibnggmhjdfaaGreatVVCes3
import Derived.Test.YtomibnggmhjdfaaGreatVVCes4
set_option linter.unusedVariables false
set_option linter.unusedSimpArgs false
namespace Go.Proofs.YtomibnggmhjdfaaGreat
namespace disk
open Go.RowKit
set_option maxRecDepth 100000
structure Sli where
 a : Option Addr
 n : Nat
 c : Nat
def Sli.v (s : Sli) : Value := .slice s.a s.n s.c
def sl0 : Sli := ⟨none, 0, 0⟩
def cellsR (l : List Sli) : List Value := l.map Sli.v
theorem oneR (l : List Sli) : ∀ u ∈ cellsR l, u.oneCell' = true := fun u hu => by
 obtain ⟨s, _, rfl⟩ := List.mem_map.1 hu
 rfl
def Lr (T : TypeId) (w : World) (base : Nat) (v : Value) (l : List Sli) : Prop := w.ownsRow base T 1 v l.length (cellsR l)
theorem Lr.zero (T : TypeId) (w : World) (base : Nat) : Lr T w base (.slice none 0 0) [] := World.ownsRow_nil _ _ _ _
theorem Lr.alloc {T : TypeId} {w : World} {base : Nat} {v : Value} {l : List Sli} (h : Lr T w base v l) (o : Obj) : Lr T (w.alloc o) base v l := World.ownsRow.alloc h o
theorem Lr.next {T : TypeId} {w w' : World} {base : Nat} {v : Value} {l : List Sli} (h : Lr T w base v l) (hb : Below w.heap.size w w') : Lr T w' base v l := by
 refine ⟨h.1, ?_⟩
 rcases h.2 with hn | ⟨g, cap, cur, hv, hg, hc, rest⟩
 ·exact .inl hn
 ·exact .inr ⟨g, cap, cur, hv, hg, Blk.next hc hb, rest⟩
theorem Lr.row {T : TypeId} {w : World} {base : Nat} {v : Value} {l : List Sli} (h : Lr T w base v l) (h0 : 0 < l.length) : ∃ g cap, v = .slice (some ⟨g, 0, none⟩) l.length cap ∧ base ≤ g ∧ g < w.heap.size ∧ l.length ≤ cap ∧ ∀ i, i < l.length → w.cell? ⟨g, i, none⟩ = some (l.getD i sl0).v := by
 rcases h.2 with ⟨hv, hn⟩ | ⟨g, cap, cur, hv, hg, hc, h1, _⟩
 ·omega
 ·subst hv
  refine ⟨g, cap, rfl, hg, Blk.lt hc, h1, fun i hi => ?_⟩
  have e1 := World.ownsRow.cellAt h i (by omega)
  rw [e1]
  simp [cellsR, List.getD, hi]
theorem Lr.len {T : TypeId} {w : World} {base : Nat} {v : Value} {l : List Sli} (h : Lr T w base v l) : ∃ a cap, v = .slice a l.length cap := by
 rcases h.2 with ⟨hv, hn⟩ | ⟨g, cap, cur, hv, _⟩
 ·exact ⟨none, 0, by rw [hn]; exact hv⟩
 ·exact ⟨_, cap, hv⟩
structure SliT (P : Program) (T S : TypeId) : Prop where
 info : (P.info? T).map (fun i => (i.zero, i.size, i.bytes)) = some (some (sl0.v), 1, 24)
 under : P.underlying S = some (.slice T)
theorem wp_sli {P : Program} {T S : TypeId} (hP : SliT P T S) {w : World} {ops : Array Oper} {rest : List Oper} {o : Oper} {a : Act} {Q : Exit → Act → World → Prop} (hgd : o.guard = none) (s x : Operand)
  (ho : o.op = .call { callee := .builtin .append, args := #[s, x], argTypes := #[S, S] })
  (base G : Nat) (v : Value) (l : List Sli) (r : Sli) (hs : a.eval s = v) (hx : a.eval x = .slice (some ⟨G, 0, none⟩) 1 1) (hv : Lr T w base v l) (hu : w.cell? ⟨G, 0, none⟩ = some r.v) (hn : l.length ≤ 1000000) (hbase : base ≤ w.heap.size)
  (h : ∀ v' w', Lr T w' base v' (l ++ [r]) → w.grownBy w' v.ownBlock → (v'.ownBlock = v.ownBlock ∨ v'.ownBlock = some w.heap.size) → wpList P ops Q rest (a.put o.dst v') w') : wpList P ops Q (o :: rest) a w := by
 obtain ⟨i0, hi, hz0, hz1, hz2⟩ := info_parts hP.info
 refine wpList_append_own_at w hgd s x S ho base T i0 (sl0.v) 1 24 hP.under hi hz0 hz1 hz2 rfl (by decide) v l.length (cellsR l) hs hv ⟨G, 0, none⟩ 1 1 (cellsR [r]) hx rfl ?_ (oneR [r]) (by unfold maxLen; omega) (by omega) hbase ?_
 ·intro j u hj
  match j, hj with
  | 0, hj => simp [cellsR] at hj; subst hj; simpa [Addr.add] using hu
  | j + 1, hj => simp [cellsR] at hj
 intro v' w' h1 h2 _ h4
 refine h v' w' ?_ h2 h4
 unfold Lr
 rw [List.length_append]
 unfold cellsR at *
 rw [List.map_append]
 exact h1
def Recs (w : World) (own : Option Nat) (l : List Sli) (zs : List (List Int)) : Prop := l.length = zs.length ∧ ∀ i, i < l.length → (∃ b off, (l.getD i sl0).a = some ⟨b, off, none⟩ ∧ b < w.heap.size ∧ some b ≠ own) ∧ cell.RowU w (l.getD i sl0).a (l.getD i sl0).n (zs.getD i [])
theorem Recs.nil (w : World) (own : Option Nat) : Recs w own [] [] := ⟨rfl, fun i hi => by cases hi⟩
theorem Recs.below {w w' : World} {own : Option Nat} {l : List Sli} {zs : List (List Int)} (h : Recs w own l zs) (hb : Below w.heap.size w w') : Recs w' own l zs := ⟨h.1, fun i hi => by
 obtain ⟨⟨b, off, h1, h2, h3⟩, h4⟩ := h.2 i hi
 exact ⟨⟨b, off, h1, Nat.lt_of_lt_of_le h2 hb.size, h3⟩, h4.below hb⟩⟩
theorem Recs.snoc {w : World} {own : Option Nat} {l : List Sli} {zs : List (List Int)} (h : Recs w own l zs) {s : Sli} {z : List Int} (hs : (∃ b off, s.a = some ⟨b, off, none⟩ ∧ b < w.heap.size ∧ some b ≠ own) ∧ cell.RowU w s.a s.n z) : Recs w own (l ++ [s]) (zs ++ [z]) := by
 refine ⟨by rw [List.length_append, List.length_append, h.1]; rfl, fun i hi => ?_⟩
 by_cases h1 : i < l.length
 ·have e1 : (l ++ [s]).getD i sl0 = l.getD i sl0 := by simp [List.getD, List.getElem?_append_left h1]
  have e2 : (zs ++ [z]).getD i [] = zs.getD i [] := by simp [List.getD, List.getElem?_append_left (show i < zs.length from h.1 ▸ h1)]
  rw [e1, e2]
  exact h.2 i h1
 ·have hi' : i = l.length := by simp at hi; omega
  have e1 : (l ++ [s]).getD i sl0 = s := by rw [hi']; simp [List.getD]
  have e2 : (zs ++ [z]).getD i [] = z := by rw [hi', h.1]; simp [List.getD]
  rw [e1, e2]
  exact hs
theorem Recs.grown {w w' : World} {own own' : Option Nat} {l : List Sli} {zs : List (List Int)} (h : Recs w own l zs) (hg : w.grownBy w' own) (ho : own' = own ∨ own' = some w.heap.size) : Recs w' own' l zs := ⟨h.1, fun i hi => by
 obtain ⟨⟨b, off, h1, h2, h3⟩, h4⟩ := h.2 i hi
 have hb := hg.block b h2 h3
 refine ⟨⟨b, off, h1, Nat.lt_of_lt_of_le h2 hg.size, ?_⟩, h4.1, ?_⟩
 ·rcases ho with rfl | rfl
  ·exact h3
  ·intro e; have := Option.some.inj e; omega
 ·rcases h4.2 with h0 | ⟨b', off', e, hc⟩
  ·exact .inl h0
  ·rw [h1] at e
   have e1 := Option.some.inj e
   have e2 : b = b' := congrArg Addr.block e1
   subst e2
   refine .inr ⟨b, off', by rw [h1, e1], fun i hi => ?_⟩
   rw [← hc i hi]
   simp [World.cell?, hb]⟩
end disk
namespace deb
open tar (Du du0 Came RowD Ld ErrPost TwoPost PairT GaveD)
open Go.RowKit
set_option maxRecDepth 100000
set_option maxHeartbeats 2000000 in
theorem rfault (a : Option Addr) (n cap : Nat) (ls : List Du) (w : World) (hr : RowD w a n ls) (hn : n ≤ maxLen) : Calls Tryz.prog 70 #[.slice a n cap] w fun e w' => ∃ f, e = .returned (.int .i64 f) ∧ FaultIs ls f ∧ w' = w := by
 have hlen := hr.1
 have HIU : Hid (∀ x W, Calls Tryz.prog 25 #[.int .i64 x, .int .i64 0, .int .i64 1000000000] W fun e w' => e = .returned (.bool (decide (0 ≤ x ∧ x ≤ 1000000000))) ∧ w' = W) := fun x W => cal.cin x 0 1000000000 W
 have HIP : Hid (∀ x W, Calls Tryz.prog 25 #[.int .i64 x, .int .i64 0, .int .i64 10000] W fun e w' => e = .returned (.bool (decide (0 ≤ x ∧ x ≤ 10000))) ∧ w' = W) := fun x W => cal.cin x 0 10000 W
 have hnm : n ≤ 9223372036854775807 := by unfold maxLen at hn; omega
 by_cases hs : n ≤ 8
 ·have HS : Hid (ls.length ≤ 8) := by show _ ≤ _; rw [hlen]; exact hs
  have hd8 : decide (8 < (n : Int)) = false := decide_eq_false (by omega)
  have HROW : Hid (RowD w a n ls) := hr
  have HLEN : Hid (ls.length = n) := hlen
  clear hr hn hlen
  go_enter Tryz.func70, Tryz.ntmps70
  go_wp2_with fail
  go_loopw [3] (fun x wr => ∃ k : Nat, k ≤ n ∧ x = .int .i64 (k : Int) ∧ (∀ i, i < k → Ok1 (ls.getD i du0)) ∧ wr = w) (fun x _ => n - (intOf x).toNat)
  case atStart => exact ⟨0, Nat.zero_le _, rfl, fun i hi => absurd hi (Nat.not_lt_zero _), rfl⟩
  case round =>
   obtain ⟨k, hk, rfl, hf, hwr⟩ := hrel
   have HF : Hid (∀ i, i < k → Ok1 (ls.getD i du0)) := hf
   subst wr
   clear hf
   by_cases hlt : k < n
   ·have hdl : decide ((k : Int) < (n : Int)) = true := by simp; omega
    obtain ⟨b, off, rfl, hbl, hc⟩ := HROW.out.at (by omega)
    have c0 := (hc k hlt).1
    have c1 := (hc k hlt).2
    have HU := HIU.out (ls.getD k du0).a
    have HP := HIP.out (ls.getD k du0).b
    clear hc
    by_cases hu : 0 ≤ (ls.getD k du0).a ∧ (ls.getD k du0).a ≤ 1000000000
    ·rw [decide_eq_true hu] at HU
     have HU2 : Hid (∀ W, Calls Tryz.prog 25 #[.int .i64 (ls.getD k du0).a, .int .i64 0, .int .i64 1000000000] W fun e w' => e = .returned (.bool true) ∧ w' = W) := HU
     by_cases hp : 0 ≤ (ls.getD k du0).b ∧ (ls.getD k du0).b ≤ 10000
     ·rw [decide_eq_true hp] at HP
      have HF2 : Hid (∀ i, i < k + 1 → Ok1 (ls.getD i du0)) := fun i hi => by
       by_cases e : i = k
       ·subst e; exact ⟨hu, hp⟩
       ·exact HF.out i (by omega)
      have HP2 : Hid (∀ W, Calls Tryz.prog 25 #[.int .i64 (ls.getD k du0).b, .int .i64 0, .int .i64 10000] W fun e w' => e = .returned (.bool true) ∧ w' = W) := HP
      clear HU HP hu hp HF
      generalize (ls.getD k du0).a = x at *
      generalize (ls.getD k du0).b = y at *
      go_wp2_with fail
      refine (HU2.out _).mono ?_
      rintro e w2 ⟨rfl, hw2⟩
      subst hw2
      go_wp2_with fail
      refine (HP2.out _).mono ?_
      rintro e w2 ⟨rfl, hw2⟩
      subst hw2
      go_wp2_with fail
      go_roundw
      case rel => exact ⟨k + 1, by omega, by go_num, HF2.out, by first | rfl | trivial⟩
      case measure => simp [intOf]; omega
     ·rw [decide_eq_false hp] at HP
      have HN : Hid (¬ DFits ls) := fun h => hp (h k (by rw [HLEN.out]; exact hlt)).2
      have HP2 : Hid (∀ W, Calls Tryz.prog 25 #[.int .i64 (ls.getD k du0).b, .int .i64 0, .int .i64 10000] W fun e w' => e = .returned (.bool false) ∧ w' = W) := HP
      clear HU HP hu hp HF
      generalize (ls.getD k du0).a = x at *
      generalize (ls.getD k du0).b = y at *
      go_wp2_with fail
      refine (HU2.out _).mono ?_
      rintro e w2 ⟨rfl, hw2⟩
      subst hw2
      go_wp2_with fail
      refine (HP2.out _).mono ?_
      rintro e w2 ⟨rfl, hw2⟩
      subst hw2
      go_wp2_with fail
      go_ret
      exact ⟨_, rfl, .inr (.inl ⟨HS.out, HN.out, rfl⟩), rfl⟩
    ·rw [decide_eq_false hu] at HU
     have HN : Hid (¬ DFits ls) := fun h => hu (h k (by rw [HLEN.out]; exact hlt)).1
     have HU2 : Hid (∀ W, Calls Tryz.prog 25 #[.int .i64 (ls.getD k du0).a, .int .i64 0, .int .i64 1000000000] W fun e w' => e = .returned (.bool false) ∧ w' = W) := HU
     clear HU HP hu HF
     generalize (ls.getD k du0).a = x at *
     generalize (ls.getD k du0).b = y at *
     go_wp2_with fail
     refine (HU2.out _).mono ?_
     rintro e w2 ⟨rfl, hw2⟩
     subst hw2
     go_wp2_with fail
     go_ret
     exact ⟨_, rfl, .inr (.inl ⟨HS.out, HN.out, rfl⟩), rfl⟩
   ·obtain rfl : k = n := by omega
    have hdl : decide ((k : Int) < (k : Int)) = false := by simp
    have HFT : Hid (DFits ls) := fun i hi => HF.out i (by rw [HLEN.out] at hi; exact hi)
    clear HF HIU HIP
    go_wp2_with fail
    go_ret
    exact ⟨_, rfl, .inr (.inr ⟨⟨HS.out, HFT.out⟩, rfl⟩), rfl⟩
 ·have HS : Hid (¬ ls.length ≤ 8) := by show ¬ _ ≤ _; rw [hlen]; exact hs
  have hd8 : decide (8 < (n : Int)) = true := decide_eq_true (by omega)
  clear hs hr hlen hn
  go_enter Tryz.func70, Tryz.ntmps70
  go_wp2_with fail
  go_ret
  exact ⟨_, rfl, .inl ⟨HS.out, rfl⟩, rfl⟩
end deb
namespace tar
open Go.RowKit
set_option maxRecDepth 100000
set_option maxHeartbeats 2000000 in
theorem rfault (a : Option Addr) (n cap : Nat) (ls : List Du) (w : World) (hr : RowD w a n ls) (hn : n ≤ maxLen) : Calls Tryz.prog 56 #[.slice a n cap] w fun e w' => ErrPost w (FaultIs ls) e w' := by
 have hlen := hr.1
 have HIS : Hid (∀ W, Calls Tryz.prog 25 #[.int .i64 (n : Int), .int .i64 1, .int .i64 8] W fun e w' => e = .returned (.bool (decide (1 ≤ (n : Int) ∧ (n : Int) ≤ 8))) ∧ w' = W) := fun W => cal.cin n 1 8 W
 have HIU : Hid (∀ x W, Calls Tryz.prog 25 #[.int .i64 x, .int .i64 1, .int .i64 10000000] W fun e w' => e = .returned (.bool (decide (1 ≤ x ∧ x ≤ 10000000))) ∧ w' = W) := fun x W => cal.cin x 1 10000000 W
 have HIP : Hid (∀ x W, Calls Tryz.prog 25 #[.int .i64 x, .int .i64 1, .int .i64 100000] W fun e w' => e = .returned (.bool (decide (1 ≤ x ∧ x ≤ 100000))) ∧ w' = W) := fun x W => cal.cin x 1 100000 W
 by_cases hs : 1 ≤ n ∧ n ≤ 8
 ·have HS : Hid (Sized ls) := by show 1 ≤ ls.length ∧ ls.length ≤ 8; rw [hlen]; exact hs
  rw [decide_eq_true (show 1 ≤ (n : Int) ∧ (n : Int) ≤ 8 by omega)] at HIS
  obtain ⟨hs1, hs2⟩ := hs
  obtain ⟨b, off, rfl, hbl, hc⟩ := hr.at hs1
  have HC : Hid (∀ i, i < n → w.cell? ⟨b, off + i * 2, none⟩ = some (.int .i64 (ls.getD i du0).a) ∧ w.cell? ⟨b, off + i * 2 + 1, none⟩ = some (.int .i64 (ls.getD i du0).b)) := hc
  have HLEN : Hid (ls.length = n) := hlen
  have hnm : n ≤ 9223372036854775807 := by omega
  clear hc hr hn hlen
  go_enter Tryz.func56, Tryz.ntmps56
  go_wp2_with fail
  refine (HIS.out _).mono ?_
  rintro e w1 ⟨rfl, hw1⟩
  subst hw1
  go_wp2_with fail
  go_loopw [3] (fun x wr => ∃ k : Nat, k ≤ n ∧ x = .int .i64 (k : Int) ∧ (∀ i, i < k → (1 ≤ (ls.getD i du0).a ∧ (ls.getD i du0).a ≤ 10000000) ∧ 1 ≤ (ls.getD i du0).b ∧ (ls.getD i du0).b ≤ 100000) ∧ wr = w1) (fun x _ => n - (intOf x).toNat)
  case atStart => exact ⟨0, Nat.zero_le _, rfl, fun i hi => absurd hi (Nat.not_lt_zero _), rfl⟩
  case round =>
   obtain ⟨k, hk, rfl, hf, hwr⟩ := hrel
   have HF : Hid (∀ i, i < k → (1 ≤ (ls.getD i du0).a ∧ (ls.getD i du0).a ≤ 10000000) ∧ 1 ≤ (ls.getD i du0).b ∧ (ls.getD i du0).b ≤ 100000) := hf
   subst wr
   clear hf
   by_cases hlt : k < n
   ·have hdl : decide ((k : Int) < (n : Int)) = true := by simp; omega
    have c0 := (HC.out k hlt).1
    have c1 := (HC.out k hlt).2
    have HU := HIU.out (ls.getD k du0).a
    have HP := HIP.out (ls.getD k du0).b
    by_cases hu : 1 ≤ (ls.getD k du0).a ∧ (ls.getD k du0).a ≤ 10000000
    ·rw [decide_eq_true hu] at HU
     by_cases hp : 1 ≤ (ls.getD k du0).b ∧ (ls.getD k du0).b ≤ 100000
     ·rw [decide_eq_true hp] at HP
      have HF2 : Hid (∀ i, i < k + 1 → (1 ≤ (ls.getD i du0).a ∧ (ls.getD i du0).a ≤ 10000000) ∧ 1 ≤ (ls.getD i du0).b ∧ (ls.getD i du0).b ≤ 100000) := fun i hi => by
       by_cases e : i = k
       ·subst e; exact ⟨hu, hp⟩
       ·exact HF.out i (by omega)
      have HU2 : Hid (∀ W, Calls Tryz.prog 25 #[.int .i64 (ls.getD k du0).a, .int .i64 1, .int .i64 10000000] W fun e w' => e = .returned (.bool true) ∧ w' = W) := HU
      have HP2 : Hid (∀ W, Calls Tryz.prog 25 #[.int .i64 (ls.getD k du0).b, .int .i64 1, .int .i64 100000] W fun e w' => e = .returned (.bool true) ∧ w' = W) := HP
      clear HU HP hu hp HF
      generalize (ls.getD k du0).a = x at *
      generalize (ls.getD k du0).b = y at *
      go_wp2_with fail
      refine (HU2.out _).mono ?_
      rintro e w2 ⟨rfl, hw2⟩
      subst hw2
      go_wp2_with fail
      refine (HP2.out _).mono ?_
      rintro e w2 ⟨rfl, hw2⟩
      subst hw2
      go_wp2_with fail
      go_roundw
      case rel => exact ⟨k + 1, by omega, by go_num, HF2.out, by first | rfl | trivial⟩
      case measure => simp [intOf]; omega
     ·rw [decide_eq_false hp] at HP
      have HN : Hid (¬ Fits ls) := fun h => hp (h k (by rw [HLEN.out]; exact hlt)).2
      have HU2 : Hid (∀ W, Calls Tryz.prog 25 #[.int .i64 (ls.getD k du0).a, .int .i64 1, .int .i64 10000000] W fun e w' => e = .returned (.bool true) ∧ w' = W) := HU
      have HP2 : Hid (∀ W, Calls Tryz.prog 25 #[.int .i64 (ls.getD k du0).b, .int .i64 1, .int .i64 100000] W fun e w' => e = .returned (.bool false) ∧ w' = W) := HP
      clear HU HP hu hp HF
      generalize (ls.getD k du0).a = x at *
      generalize (ls.getD k du0).b = y at *
      go_wp2_with fail
      refine (HU2.out _).mono ?_
      rintro e w2 ⟨rfl, hw2⟩
      subst hw2
      go_wp2_with fail
      refine (HP2.out _).mono ?_
      rintro e w2 ⟨rfl, hw2⟩
      subst hw2
      go_wp2_with fail
      go_ret
      exact ⟨_, rfl, .inr (.inl ⟨HS.out, HN.out, rfl⟩), Below.refl _ _⟩
    ·rw [decide_eq_false hu] at HU
     have HN : Hid (¬ Fits ls) := fun h => hu (h k (by rw [HLEN.out]; exact hlt)).1
     have HU2 : Hid (∀ W, Calls Tryz.prog 25 #[.int .i64 (ls.getD k du0).a, .int .i64 1, .int .i64 10000000] W fun e w' => e = .returned (.bool false) ∧ w' = W) := HU
     clear HU HP hu HF
     generalize (ls.getD k du0).a = x at *
     generalize (ls.getD k du0).b = y at *
     go_wp2_with fail
     refine (HU2.out _).mono ?_
     rintro e w2 ⟨rfl, hw2⟩
     subst hw2
     go_wp2_with fail
     go_ret
     exact ⟨_, rfl, .inr (.inl ⟨HS.out, HN.out, rfl⟩), Below.refl _ _⟩
   ·obtain rfl : k = n := by omega
    have hdl : decide ((k : Int) < (k : Int)) = false := by simp
    have HFT : Hid (Fits ls) := fun i hi => HF.out i (by rw [HLEN.out] at hi; exact hi)
    clear HF HIU HIP HIS
    go_wp2_with fail
    go_loopw [4] (fun x wr2 => ∃ j : Nat, 1 ≤ j ∧ j ≤ k ∧ x = .int .i64 (j : Int) ∧ (∀ i, 1 ≤ i → i < j → (ls.getD (i - 1) du0).a < (ls.getD i du0).a) ∧ Below w1.heap.size w1 wr2) (fun x _ => k - (intOf x).toNat)
    case atStart => exact ⟨1, Nat.le_refl _, hs1, rfl, fun i h1 h2 => absurd h2 (by omega), Below.refl _ _⟩
    case round =>
     obtain ⟨j, hj1, hj, rfl, hf, hb⟩ := hrel
     have HF : Hid (∀ i, 1 ≤ i → i < j → (ls.getD (i - 1) du0).a < (ls.getD i du0).a) := hf
     have HB : Hid (Below w1.heap.size w1 wr) := hb
     by_cases hlt2 : j < k
     ·have hdl2 : decide ((j : Int) < (k : Int)) = true := by simp; omega
      have c0 : wr.cell? ⟨b, off + j * 2, none⟩ = some (.int .i64 (ls.getD j du0).a) := (hb.cell (p := ⟨b, off + j * 2, none⟩) hbl).trans (HC.out j hlt2).1
      have c1 : wr.cell? ⟨b, off + (j - 1) * 2, none⟩ = some (.int .i64 (ls.getD (j - 1) du0).a) := (hb.cell (p := ⟨b, off + (j - 1) * 2, none⟩) hbl).trans (HC.out (j - 1) (by omega)).1
      have hs2' : wr.drew.cell? ⟨b, off + j * 2, none⟩ = some (.int .i64 (ls.getD j du0).a) := c0
      have HBD : Hid (Below w1.heap.size w1 wr.drew) := hb.drew
      have hsub : ((j : Int) - 1) = ((j - 1 : Nat) : Int) := by omega
      have hjm : j - 1 < k := by omega
      clear hb hf
      by_cases hle : (ls.getD j du0).a ≤ (ls.getD (j - 1) du0).a
      ·have hde : decide ((ls.getD j du0).a ≤ (ls.getD (j - 1) du0).a) = true := decide_eq_true hle
       have HN : Hid (¬ (Rises ls ∧ Ends ls)) := rise_not hj1 (by rw [HLEN.out]; exact hlt2) hle
       clear hle
       generalize (ls.getD j du0).a = x at *
       generalize (ls.getD (j - 1) du0).a = y at *
       generalize j - 1 = j1 at *
       go_wp2_with fail
       go_region
       all_goals go_wp2_with fail
       go_ret
       exact ⟨_, rfl, .inr (.inr (.inl ⟨HS.out, HFT.out, HN.out, rfl⟩)), HBD.out⟩
      ·have hde : decide ((ls.getD j du0).a ≤ (ls.getD (j - 1) du0).a) = false := decide_eq_false hle
       have HF2 : Hid (∀ i, 1 ≤ i → i < j + 1 → (ls.getD (i - 1) du0).a < (ls.getD i du0).a) := fun i h1 h2 => by
        by_cases e : i = j
        ·subst e; omega
        ·exact HF.out i h1 (by omega)
       clear hle
       generalize (ls.getD j du0).a = x at *
       generalize (ls.getD (j - 1) du0).a = y at *
       generalize j - 1 = j1 at *
       go_wp2_with fail
       go_region
       all_goals go_wp2_with fail
       go_roundw
       case rel => exact ⟨j + 1, by omega, by omega, by go_num, HF2.out, HBD.out⟩
       case measure => simp [intOf]; omega
     ·obtain rfl : j = k := by omega
      have hdl2 : decide ((j : Int) < (j : Int)) = false := by simp
      have HR : Hid (Rises ls) := fun i h1 h2 => HF.out i h1 (by rw [HLEN.out] at h2; exact h2)
      have c1 : wr.cell? ⟨b, off + (j - 1) * 2, none⟩ = some (.int .i64 (ls.getD (j - 1) du0).a) := (hb.cell (p := ⟨b, off + (j - 1) * 2, none⟩) hbl).trans (HC.out (j - 1) (by omega)).1
      have hsub : ((j : Int) - 1) = ((j - 1 : Nat) : Int) := by omega
      have hjm : j - 1 < j := by omega
      have HE : Hid (Ends ls ↔ (ls.getD (j - 1) du0).a = 10000000) := by show Ends ls ↔ _; unfold Ends; rw [HLEN.out]
      clear hb hf
      by_cases he : (ls.getD (j - 1) du0).a = 10000000
      ·have HR2 : Hid (Right ls) := ⟨HS.out, HFT.out, HR.out, HE.out.2 he⟩
       have hne : ((ls.getD (j - 1) du0).a != 10000000) = false := by rw [he]; rfl
       clear he HE
       generalize (ls.getD (j - 1) du0).a = y at *
       generalize j - 1 = j1 at *
       go_wp2_with fail
       go_ret
       exact ⟨_, rfl, .inr (.inr (.inr ⟨HR2.out, rfl⟩)), HB.out⟩
      ·have HN : Hid (¬ (Rises ls ∧ Ends ls)) := fun h => he (HE.out.1 h.2)
       have hne : ((ls.getD (j - 1) du0).a != 10000000) = true := by simpa using he
       clear he HE
       generalize (ls.getD (j - 1) du0).a = y at *
       generalize j - 1 = j1 at *
       go_wp2_with fail
       go_ret
       exact ⟨_, rfl, .inr (.inr (.inl ⟨HS.out, HFT.out, HN.out, rfl⟩)), HB.out⟩
 ·have HS : Hid (¬ Sized ls) := by show ¬ (1 ≤ ls.length ∧ ls.length ≤ 8); rw [hlen]; exact hs
  rw [decide_eq_false (show ¬ (1 ≤ (n : Int) ∧ (n : Int) ≤ 8) by omega)] at HIS
  have hnm : n ≤ 9223372036854775807 := by unfold maxLen at hn; omega
  clear hs hr hlen hn
  go_enter Tryz.func56, Tryz.ntmps56
  go_wp2_with fail
  refine (HIS.out _).mono ?_
  rintro e w1 ⟨rfl, hw1⟩
  subst hw1
  go_wp2_with fail
  go_ret
  exact ⟨_, rfl, .inl ⟨HS.out, rfl⟩, Below.refl _ _⟩
end tar
namespace book
open Go.RowKit
set_option maxRecDepth 100000
def refV (f : Int) : Value := .iface 127 (.agg #[.int .i64 f])
def thrown (f : Int) : List PanicEntry := [{ v := refV f, recovered := false }]
theorem insist_ok (w : World) : Calls Tryz.prog 87 #[.int .i64 0] w fun e w' => e = .returned (.tuple #[]) ∧ w' = w := by
 go_enter Tryz.func87, Tryz.ntmps87
 go_wp2
 go_end0
 exact ⟨rfl, rfl⟩
theorem insist_no (f : Int) (hf : f ≠ 0) (w : World) : Calls Tryz.prog 87 #[.int .i64 f] w fun e w' => e = .panicked (thrown f) ∧ w' = w := by
 have nf : (f != 0) = true := by simpa using hf
 clear hf
 go_enter Tryz.func87, Tryz.ntmps87
 go_wp2
 exact ⟨rfl, rfl, rfl⟩
theorem reason_nil (w : World) : Calls Tryz.prog 53 #[.nilIface] w fun e w' => e = .returned (.int .i64 0) ∧ w' = w := by
 have hq : ∀ w : World, (binOp BinOp.eql 20 .nilIface .nilIface).run Tryz.prog w = .ok (.bool true) w := fun _ => by kernel_rfl
 go_enter Tryz.func53, Tryz.ntmps53
 go_wp2
 go_ret
 exact ⟨rfl, rfl⟩
theorem reason_is (f : Int) (w : World) : Calls Tryz.prog 53 #[refV f] w fun e w' => e = .returned (.int .i64 f) ∧ Below w.heap.size w w' := by
 have hq : ∀ w : World, (binOp BinOp.eql 20 (refV f) .nilIface).run Tryz.prog w = .ok (.bool false) w := fun _ => by kernel_rfl
 have h1 : ∀ w : World, (Instr.typeAssert (refV f) 20 125 false).run Tryz.prog w = .ok (refV f) w := fun _ => by kernel_rfl
 have h2 : ∀ w : World, (Instr.typeAssert (refV f) 125 127 true).run Tryz.prog w = .ok (.tuple #[.agg #[.int .i64 f], .bool true]) w := fun _ => by kernel_rfl
 have HB : Hid (Below w.heap.size w (w.alloc (.cells #[.int .i64 f] 127))) := (Below.refl _ _).alloc (Nat.le_refl _) _
 unfold refV at *
 go_enter Tryz.func53, Tryz.ntmps53
 go_wp2
 go_ret
 exact ⟨rfl, HB.out⟩
set_option maxHeartbeats 1000000 in
theorem encode_caught (g : Nat) (f0 f : Int) (w : World) (hb : Blk w g #[.int .i64 f0] 30) :
  CallsD Tryz.prog 62 #[.pointer (some ⟨g, 0, none⟩)] (.panicking (thrown f)) w fun e u' w' => e = .returned (.tuple #[]) ∧ settle u' = .returning ∧ ∃ W, Below w.heap.size w W ∧ Upd W w' g #[.int .i64 f] 30 := by
 refine callsD_of_wpS Tryz.func62 rfl fun c₀ cs hu => ?_
 apply wpS_region
 simp only [thrown] at hu
 simp [wpOpsS, go_sem, recoverD, hu, Tryz.ntmps62, Exit.thenS]
 refine (reason_is f w).mono ?_
 rintro e w1 ⟨rfl, hb1⟩
 have hB := hb.next hb1
 have hc : w1.cell? ⟨g, 0, none⟩ = some (.int .i64 f0) := hB.cell 0
 have hz : w1.frozen? ⟨g, 0, none⟩ = false := hB.free 0
 have hU : Upd w1 (w1.setCell ⟨g, 0, none⟩ (.int .i64 f)) g #[.int .i64 f] 30 := upd_cells g _ [.int .i64 f] 0 w1 _ hB
 simp [go_sem, hc, hz, bodyPostS, results, Tryz.results62, settle]
 exact ⟨w1, hb1, hU⟩
set_option maxHeartbeats 1000000 in
theorem encode_idle (g : Nat) (f0 : Int) (w : World) (hb : Blk w g #[.int .i64 f0] 30) :
  CallsD Tryz.prog 62 #[.pointer (some ⟨g, 0, none⟩)] .returning w fun e u' w' => e = .returned (.tuple #[]) ∧ settle u' = .returning ∧ ∃ W, Below w.heap.size w W ∧ Upd W w' g #[.int .i64 0] 30 := by
 refine callsD_of_wpS Tryz.func62 rfl fun c₀ cs hu => ?_
 apply wpS_region
 simp [wpOpsS, go_sem, recoverD, hu, Tryz.ntmps62, Exit.thenS]
 refine (reason_nil w).mono ?_
 rintro e w1 ⟨rfl, rfl⟩
 have hc : w1.cell? ⟨g, 0, none⟩ = some (.int .i64 f0) := hb.cell 0
 have hz : w1.frozen? ⟨g, 0, none⟩ = false := hb.free 0
 have hU : Upd w1 (w1.setCell ⟨g, 0, none⟩ (.int .i64 0)) g #[.int .i64 0] 30 := upd_cells g _ [.int .i64 0] 0 w1 _ hb
 simp [go_sem, hc, hz, bodyPostS, results, Tryz.results62, hu, settle]
 exact ⟨.returning, (by cases c₀; simp_all), rfl, w1, Below.refl _ _, hU⟩
set_option maxHeartbeats 1000000 in
theorem decode_caught (g : Nat) (f0 f : Int) (w : World) (hb : Blk w g #[.int .i64 f0] 30) :
  CallsD Tryz.prog 73 #[.pointer (some ⟨g, 0, none⟩)] (.panicking (thrown f)) w fun e u' w' => e = .returned (.tuple #[]) ∧ settle u' = .returning ∧ ∃ W, Below w.heap.size w W ∧ Upd W w' g #[.int .i64 f] 30 := by
 refine callsD_of_wpS Tryz.func73 rfl fun c₀ cs hu => ?_
 apply wpS_region
 simp only [thrown] at hu
 simp [wpOpsS, go_sem, recoverD, hu, Tryz.ntmps73, Exit.thenS]
 refine (reason_is f w).mono ?_
 rintro e w1 ⟨rfl, hb1⟩
 have hB := hb.next hb1
 have hc : w1.cell? ⟨g, 0, none⟩ = some (.int .i64 f0) := hB.cell 0
 have hz : w1.frozen? ⟨g, 0, none⟩ = false := hB.free 0
 have hU : Upd w1 (w1.setCell ⟨g, 0, none⟩ (.int .i64 f)) g #[.int .i64 f] 30 := upd_cells g _ [.int .i64 f] 0 w1 _ hB
 simp [go_sem, hc, hz, bodyPostS, results, Tryz.results73, settle]
 exact ⟨w1, hb1, hU⟩
set_option maxHeartbeats 1000000 in
theorem decode_idle (g : Nat) (f0 : Int) (w : World) (hb : Blk w g #[.int .i64 f0] 30) :
  CallsD Tryz.prog 73 #[.pointer (some ⟨g, 0, none⟩)] .returning w fun e u' w' => e = .returned (.tuple #[]) ∧ settle u' = .returning ∧ ∃ W, Below w.heap.size w W ∧ Upd W w' g #[.int .i64 0] 30 := by
 refine callsD_of_wpS Tryz.func73 rfl fun c₀ cs hu => ?_
 apply wpS_region
 simp [wpOpsS, go_sem, recoverD, hu, Tryz.ntmps73, Exit.thenS]
 refine (reason_nil w).mono ?_
 rintro e w1 ⟨rfl, rfl⟩
 have hc : w1.cell? ⟨g, 0, none⟩ = some (.int .i64 f0) := hb.cell 0
 have hz : w1.frozen? ⟨g, 0, none⟩ = false := hb.free 0
 have hU : Upd w1 (w1.setCell ⟨g, 0, none⟩ (.int .i64 0)) g #[.int .i64 0] 30 := upd_cells g _ [.int .i64 0] 0 w1 _ hb
 simp [go_sem, hc, hz, bodyPostS, results, Tryz.results73, hu, settle]
 exact ⟨.returning, (by cases c₀; simp_all), rfl, w1, Below.refl _ _, hU⟩
end book
namespace deb
open tar (Du du0 Came RowD Ld ErrPost TwoPost PairT GaveD)
open Go.RowKit
set_option maxRecDepth 100000
theorem grow_more {b x : Int} (hx : 0 ≤ x) (hx1 : x ≤ 1000000000) (hb : 0 ≤ b) : grow b x = x + min (x * b / 10000) (1000000000 - x) := by
 unfold grow
 have := Int.mul_nonneg hx hb
 generalize x * b = p at *
 omega
set_option maxHeartbeats 2000000 in
theorem pgrowth (x b : Int) (w : World) (hx : 0 ≤ x ∧ x ≤ 1000000000) (hb : 0 ≤ b ∧ b ≤ 10000) : Calls Tryz.prog 124 #[.agg #[.int .i64 x, .int .i64 b]] w fun e w' => e = .returned (.int .i64 (min (x * b / 10000) (1000000000 - x))) ∧ Below w.heap.size w w' := by
 have HPA : Hid (∀ W, Calls Tryz.prog 115 #[.int .i64 x, .int .i64 b] W fun e w' => e = .returned (.tuple #[.int .i64 (x * b / 10000), .int .i64 0]) ∧ Below W.heap.size W w') := fun W => cents.part_yes x b W hx.1 (by omega) hb.1 hb.2
 have HBX : Hid (Blk (w.alloc (.cells #[.int .i64 x, .int .i64 b] 43)) w.heap.size #[.int .i64 x, .int .i64 b] 43) := Blk.new w _ _
 have HBW : Hid (Below w.heap.size w (w.alloc (.cells #[.int .i64 x, .int .i64 b] 43))) := (Below.refl _ _).alloc (Nat.le_refl _) _
 obtain ⟨hx0, hx1⟩ := hx
 clear hb
 have hmin := tar.run_min (x * b / 10000) (1000000000 - x) _ rfl
 generalize x * b / 10000 = q at *
 generalize min q (1000000000 - x) = m at *
 go_enter Tryz.func124, Tryz.ntmps124
 go_wp2_with fail
 refine (HPA.out _).mono ?_
 rintro e w1 ⟨rfl, hb1⟩
 have HB1 := shB HBW hb1
 have c0 : w1.cell? ⟨w.heap.size, 0, none⟩ = some (.int .i64 x) := (HBX.out.next hb1).cell 0
 have c1 : w1.cell? ⟨w.heap.size, 1, none⟩ = some (.int .i64 b) := (HBX.out.next hb1).cell 1
 clear hb1 HPA HBX HBW
 go_wp2_with fail
 go_ret
 exact ⟨rfl, HB1.out⟩
end deb
namespace tar
open Go.RowKit
abbrev Ln := { t : Tr // LineOk t }
def encL (t : Ln) : Array Value := #[.agg #[.int .i64 t.1.a, .int .i64 t.1.b, .int .i64 t.1.c]]
def lns (l : List Ln) : List Tr := l.map (fun t => t.1)
theorem lns_app (l m : List Ln) : lns (l ++ m) = lns l ++ lns m := by unfold lns; rw [List.map_append]
theorem lns_len (l : List Ln) : (lns l).length = l.length := by unfold lns; rw [List.length_map]
theorem lns_ok (l : List Ln) : ∀ t ∈ lns l, LineOk t := fun t ht => by
 unfold lns at ht
 obtain ⟨s, _, rfl⟩ := List.mem_map.1 ht
 exact s.2
def Kq (n lo hi : Nat) (W W' : World) : Prop := Below n W W' ∧ ∀ j, lo ≤ j → j < hi → W'.heap[j]? = W.heap[j]?
theorem Kq.trans {n lo hi : Nat} {A B C : World} (h : Kq n lo hi A B) (k : Kq n lo hi B C) : Kq n lo hi A C := ⟨h.1.trans k.1, fun j a b => (k.2 j a b).trans (h.2 j a b)⟩
theorem nxt_yes {l : List Du} (h : Right l) (x y : Int) (hx : 0 ≤ x) (hxy : x ≤ y) (k : Nat) (hk : k < l.length) (hp : 0 < min (l.getD k du0).a y - (x + manyK l x y k)) : min (l.getD k du0).a y - (x + manyK l x y k) = ov (low l k) (l.getD k du0).a x y := by
 have h1 := many_eq h x y hx hxy k (by omega)
 have h2 := h.rise k hk
 have h3 := h.low_pos k (by omega)
 rw [h1] at hp ⊢
 unfold ov
 omega
theorem nxt_no {l : List Du} (h : Right l) (x y : Int) (hx : 0 ≤ x) (hxy : x ≤ y) (k : Nat) (hk : k < l.length) (hp : ¬ 0 < min (l.getD k du0).a y - (x + manyK l x y k)) : ov (low l k) (l.getD k du0).a x y = 0 := by
 have h1 := many_eq h x y hx hxy k (by omega)
 have h2 := h.rise k hk
 have h3 := h.low_pos k (by omega)
 rw [h1] at hp
 unfold ov
 omega
theorem many_next (l : List Du) (x y : Int) (k : Nat) : manyK l x y (k + 1) = manyK l x y k + ov (low l k) (l.getD k du0).a x y := rfl
theorem many_bd {l : List Du} (h : Right l) (x y : Int) (hx : 0 ≤ x) (hxy : x ≤ y) (k : Nat) (hk : k ≤ l.length) : 0 ≤ manyK l x y k ∧ manyK l x y k ≤ y - x := by
 rw [many_eq h x y hx hxy k hk]; omega
theorem line_ok {l : List Du} (h : Right l) (x y : Int) (k : Nat) (hk : k < l.length) (hp : 0 < ov (low l k) (l.getD k du0).a x y) : LineOk ⟨ov (low l k) (l.getD k du0).a x y, (l.getD k du0).b, ov (low l k) (l.getD k du0).a x y * (l.getD k du0).b⟩ := by
 have h1 := h.price k hk
 have h2 := h.upto k hk
 have h3 := h.low_pos k (by omega)
 exact ⟨by show 1 ≤ ov _ _ _ _; omega, ov_le _ _ _ _ h3 h2.2, h1.1, h1.2, rfl⟩
theorem bill_prefix (l : List Du) (x y : Int) (k m : Nat) (hkm : k ≤ m) : billK l x y k <+: billK l x y m := by
 induction m with
 | zero => have : k = 0 := by omega
           subst this; exact List.prefix_refl _
 | succ m ih =>
  by_cases e : k = m + 1
  ·subst e; exact List.prefix_refl _
  ·exact (ih (by omega)).trans (List.prefix_append (billK l x y m) (if 0 < ov (low l m) (l.getD m du0).a x y then [⟨ov (low l m) (l.getD m du0).a x y, (l.getD m du0).b, ov (low l m) (l.getD m du0).a x y * (l.getD m du0).b⟩] else []))
open Go.Shelf
set_option maxRecDepth 100000
attribute [local go_sem] Oper.semAt_some
theorem boxed_same {W W' : World} {B : Nat} {t : TypeId} {v : Value} (h : Boxed W B t v) (e : W'.heap[B]? = W.heap[B]?) : Boxed W' B t v := e.trans h
set_option maxHeartbeats 2000000 in
theorem lines1_in (F : Fence) (n : Nat) (hF : F.fn 123) (hro : F.round = none) (hn : 1 ≤ n) (l Bf Bt Bu n₀ lo hi b off len cap B0 : Nat) (ls : List Du) (x u : Int) (J Jx : List Ln → World → Prop)
  (hR : Right ls) (hlen : ls.length = len) (hx : 0 ≤ x ∧ x ≤ 10000000) (hu : 0 ≤ u ∧ x + u ≤ 10000000) (hJ : AbidesFrom B0 J)
  (hY : ∀ pre t W, J pre W → pre.length < len → YieldAt F (n - 1) Tryz.prog l (encL t) W fun e W' =>
   (e = .returned (.bool true) ∧ J (pre ++ [t]) W' ∧ Kq n₀ lo hi W W') ∨ (e = .returned (.bool false) ∧ Jx (pre ++ [t]) W'))
  (W : World) (hf : Boxed W Bf 3 (.int .i64 x)) (ht : Boxed W Bt 22 (.slice (some ⟨b, off, none⟩) len cap)) (hun : Boxed W Bu 3 (.int .i64 u)) (h1 : lo ≤ Bf ∧ Bf < hi) (h2 : lo ≤ Bu ∧ Bu < hi) (hb : b < n₀) (hnW : n₀ ≤ W.heap.size)
  (hc : ∀ i, i < len → W.cell? ⟨b, off + i * 2, none⟩ = some (.int .i64 (ls.getD i du0).a) ∧ W.cell? ⟨b, off + i * 2 + 1, none⟩ = some (.int .i64 (ls.getD i du0).b)) (h0 : J [] W) :
  CallsIn F n Tryz.prog 123 #[.func (.yield l) #[] #[], .pointer (some ⟨Bf, 0, none⟩), .pointer (some ⟨Bt, 0, none⟩), .pointer (some ⟨Bu, 0, none⟩)] W fun e W' => (∃ v, e = .returned v) ∧
   ((∃ ys, lns ys = billK ls x (x + u) len ∧ J ys W') ∨ (∃ pre, lns pre <+: billK ls x (x + u) len ∧ Jx pre W')) := by
 have HR : Hid (Right ls) := hR
 have HY : Hid (∀ pre t W, J pre W → pre.length < len → YieldAt F (n - 1) Tryz.prog l (encL t) W fun e W' =>
   (e = .returned (.bool true) ∧ J (pre ++ [t]) W' ∧ Kq n₀ lo hi W W') ∨ (e = .returned (.bool false) ∧ Jx (pre ++ [t]) W')) := hY
 have HJ : Hid (AbidesFrom B0 J) := hJ
 have HC : Hid (∀ i, i < len → W.cell? ⟨b, off + i * 2, none⟩ = some (.int .i64 (ls.getD i du0).a) ∧ W.cell? ⟨b, off + i * 2 + 1, none⟩ = some (.int .i64 (ls.getD i du0).b)) := hc
 have HLEN : Hid (ls.length = len) := hlen
 have hl8 : len ≤ 8 := by have := hR.1.2; omega
 have ct := ht.cell
 have cf := hf.cell
 obtain ⟨hx0, hx1⟩ := hx
 obtain ⟨hu0, hu1⟩ := hu
 have HX : Hid (0 ≤ x ∧ x ≤ x + u ∧ x + u ≤ 10000000) := ⟨hx0, by omega, hu1⟩
 clear hR hY hJ hc hlen
 refine callsIn_of_wp Tryz.func123 rfl hF ?_ hro
 simp only [Tryz.ntmps123, List.size_toArray, List.length_cons, List.length_nil, Nat.reduceAdd, Nat.reduceSub, Array.replicate_succ, Array.replicate_zero, List.push_toArray, List.append_toArray, List.nil_append, List.cons_append]
 gi_wp2
 gi_loopw [5, 12] (fun r i wr => ∃ (k : Nat) (pre : List Ln), k ≤ len ∧ i = .int .i64 (k : Int) ∧ r = .int .i64 (x + manyK ls x (x + u) k) ∧ lns pre = billK ls x (x + u) k ∧ J pre wr ∧ Boxed wr Bf 3 (.int .i64 x) ∧ Boxed wr Bu 3 (.int .i64 u) ∧ Below n₀ W wr) (fun _ i _ => len - (intOf i).toNat)
 case atStart => exact ⟨0, [], Nat.zero_le _, rfl, by show _ = Value.int .i64 (x + 0); rw [Int.add_zero], rfl, h0, hf, hun, Below.refl _ _⟩
 case round =>
  obtain ⟨k, pre, hk, rfl, rfl, hpre, hj, hbf, hbu, hbl⟩ := hrel
  have HPRE : Hid (lns pre = billK ls x (x + u) k) := hpre
  have HJP : Hid (J pre wr) := hj
  have HBF : Hid (Boxed wr Bf 3 (.int .i64 x)) := hbf
  have HBU : Hid (Boxed wr Bu 3 (.int .i64 u)) := hbu
  have HBL : Hid (Below n₀ W wr) := hbl
  clear hpre hj hf hun ht ct cf
  by_cases hlt : k < len
  ·have hdl : decide ((k : Int) < (len : Int)) = true := by simp; omega
   have c0 : wr.cell? ⟨b, off + k * 2, none⟩ = some (.int .i64 (ls.getD k du0).a) := (hbl.cell (p := ⟨b, off + k * 2, none⟩) hb).trans (HC.out k hlt).1
   have c1 : wr.cell? ⟨b, off + k * 2 + 1, none⟩ = some (.int .i64 (ls.getD k du0).b) := (hbl.cell (p := ⟨b, off + k * 2 + 1, none⟩) hb).trans (HC.out k hlt).2
   have hkl : k < ls.length := by rw [HLEN.out]; exact hlt
   have hpr := HR.out.price k hkl
   have hup := HR.out.upto k hkl
   have hmb := many_bd HR.out x (x + u) hx0 (by omega) k (by omega)
   have hmin := run_min (ls.getD k du0).a (x + u) _ rfl
   have hpl : pre.length < len := by
    have e1 := lns_len pre
    have e2 := bill_len ls x (x + u) k
    rw [HPRE.out] at e1
    omega
   have HBA : Hid (∀ o, Below n₀ W (wr.alloc o)) := fun o => hbl.alloc (Nat.le_trans hnW hbl.size) o
   have cf : ∀ o, (wr.alloc o).cell? ⟨Bf, 0, none⟩ = some (.int .i64 x) := fun o => (hbf.alloc o).cell
   have cu : ∀ o, (wr.alloc o).cell? ⟨Bu, 0, none⟩ = some (.int .i64 u) := fun o => (hbu.alloc o).cell
   have HFA : Hid (∀ o, Boxed (wr.alloc o) Bf 3 (.int .i64 x)) := fun o => hbf.alloc o
   have HUA : Hid (∀ o, Boxed (wr.alloc o) Bu 3 (.int .i64 u)) := fun o => hbu.alloc o
   have HJA : Hid (∀ o, J pre (wr.alloc o)) := fun o => HJ.out pre wr _ none HJP.out (World.grownBy_alloc wr o none) (fun r e => by cases e)
   clear hbf hbu hbl
   by_cases hp : 0 < min (ls.getD k du0).a (x + u) - (x + manyK ls x (x + u) k)
   ·have ho := nxt_yes HR.out x (x + u) hx0 (by omega) k hkl hp
    have hp2 := hp
    rw [ho] at hp2
    have hok := line_ok HR.out x (x + u) k hkl hp2
    have HN : Hid (billK ls x (x + u) (k + 1) = billK ls x (x + u) k ++ [⟨ov (low ls k) (ls.getD k du0).a x (x + u), (ls.getD k du0).b, ov (low ls k) (ls.getD k du0).a x (x + u) * (ls.getD k du0).b⟩]) := billK_yes ls x (x + u) k hp2
    have HM : Hid (manyK ls x (x + u) (k + 1) = manyK ls x (x + u) k + ov (low ls k) (ls.getD k du0).a x (x + u)) := many_next ls x (x + u) k
    have hm2 := many_bd HR.out x (x + u) hx0 (by omega) (k + 1) (by omega)
    rw [HM.out] at hm2
    have hle := ov_le (low ls k) (ls.getD k du0).a x (x + u) (HR.out.low_pos k (by omega)) hup.2
    have hpb := prod_bd (Int.le_of_lt hp2) hle hpr.1 hpr.2
    generalize ov (low ls k) (ls.getD k du0).a x (x + u) = o at *
    generalize manyK ls x (x + u) k = mk at *
    generalize (ls.getD k du0).a = up at *
    generalize (ls.getD k du0).b = p at *
    generalize min up (x + u) = m at *
    have hm : m - (x + mk) = o := ho
    have hdo : decide (o ≤ 0) = false := by simp; omega
    have HQ : Hid (∀ C, YieldAt F (n - 1) Tryz.prog l (encL ⟨⟨o, p, o * p⟩, hok⟩) (wr.alloc C) fun e W' =>
     (e = .returned (.bool true) ∧ J (pre ++ [⟨⟨o, p, o * p⟩, hok⟩]) W' ∧ Kq n₀ lo hi (wr.alloc C) W') ∨ (e = .returned (.bool false) ∧ Jx (pre ++ [⟨⟨o, p, o * p⟩, hok⟩]) W')) := fun C => HY.out pre ⟨⟨o, p, o * p⟩, hok⟩ _ (HJA.out C) hpl
    obtain ⟨fn, tmps, assign, body, hy, hRd⟩ := HQ.out (.cells #[.int .i64 up, .int .i64 p] 136)
    have HNX : Hid (lns (pre ++ [⟨⟨o, p, o * p⟩, hok⟩]) = billK ls x (x + u) (k + 1)) := by
     show _ = _
     rw [lns_app, HPRE.out, HN.out]; rfl
    have hpb0 := hpb.1
    have hpb1 := hpb.2
    have hxm0 : 0 ≤ x + mk := by omega
    have hxm1 : x + mk ≤ 10000000 := by omega
    have hm0 : 0 ≤ m := by omega
    have hm1 : m ≤ 20000000 := by omega
    have hs1 : x + mk + o ≤ 10000000 := by omega
    have ho0 : 0 ≤ o := by omega
    simp only [encL] at hy
    clear ho hp HQ hmb hm2 hpb hpr hup
    gi_wp2
    refine hRd.mono ?_
    rintro e W3 (⟨rfl, hJ3, hk3⟩ | ⟨rfl, hJx3⟩)
    ·have HB3 : Hid (Below n₀ W W3) := (HBA.out _).trans hk3.1
     have HF3 : Hid (Boxed W3 Bf 3 (.int .i64 x)) := boxed_same (HFA.out _) (hk3.2 Bf h1.1 h1.2)
     have HU3 : Hid (Boxed W3 Bu 3 (.int .i64 u)) := boxed_same (HUA.out _) (hk3.2 Bu h2.1 h2.2)
     have HJ3 : Hid (J (pre ++ [⟨⟨o, p, o * p⟩, hok⟩]) W3) := hJ3
     clear hk3 hJ3
     gi_wp2
     go_roundw
     case rel => exact ⟨k + 1, pre ++ [⟨⟨o, p, o * p⟩, hok⟩], by omega, by go_num, by rw [HM.out, Int.add_assoc], HNX.out, HJ3.out, HF3.out, HU3.out, HB3.out⟩
     case measure => simp [intOf]; omega
    ·have HJX : Hid (Jx (pre ++ [⟨⟨o, p, o * p⟩, hok⟩]) W3) := hJx3
     clear hJx3
     gi_wp2
     refine bodyPost_ret (results_none rfl _ _ _) rfl ?_
     exact ⟨⟨_, rfl⟩, .inr ⟨pre ++ [⟨⟨o, p, o * p⟩, hok⟩], by rw [HNX.out]; exact bill_prefix ls x (x + u) (k + 1) len (by omega), HJX.out⟩⟩
   ·have ho := nxt_no HR.out x (x + u) hx0 (by omega) k hkl hp
    have hmz : 0 ≤ min (ls.getD k du0).a (x + u) := by omega
    have HN : Hid (billK ls x (x + u) (k + 1) = billK ls x (x + u) k) := billK_no ls x (x + u) k (by omega)
    have HM : Hid (manyK ls x (x + u) (k + 1) = manyK ls x (x + u) k) := by show _ = _; rw [many_next, ho, Int.add_zero]
    generalize manyK ls x (x + u) k = mk at *
    generalize (ls.getD k du0).a = up at *
    generalize (ls.getD k du0).b = p at *
    generalize min up (x + u) = m at *
    have hxm0 : 0 ≤ x + mk := by omega
    have hxm1 : x + mk ≤ 10000000 := by omega
    have hdo : decide (m - (x + mk) ≤ 0) = true := by simp; omega
    have hm0 : 0 ≤ m := hmz
    have hm1 : m ≤ 20000000 := by omega
    clear ho hp hmb hpr hup
    gi_wp2
    go_roundw
    case rel => exact ⟨k + 1, pre, by omega, by go_num, by rw [HM.out], by rw [HN.out]; exact HPRE.out, HJA.out _, HFA.out _, HUA.out _, HBA.out _⟩
    case measure => simp [intOf]; omega
  ·obtain rfl : k = len := by omega
   have hdl : decide ((k : Int) < (k : Int)) = false := by simp
   clear hbf hbu hbl
   gi_wp2
   go_end0
   exact ⟨⟨_, rfl⟩, .inl ⟨pre, HPRE.out, HJP.out⟩⟩
end tar
namespace deb
open tar (Du du0 Came RowD Ld ErrPost TwoPost PairT GaveD)
open Go.RowKit
set_option maxRecDepth 100000
set_option maxHeartbeats 2000000 in
theorem powed (a : Option Addr) (len cap : Nat) (ls : List Du) (w : World) (hr : RowD w a len ls) (hm : Mays ls) : Calls Tryz.prog 101 #[.slice a len cap] w fun e w' => e = .returned (.int .i64 (sumD ls)) ∧ Below w.heap.size w w' := by
 have HLEN : Hid (ls.length = len) := hr.1
 have HM : Hid (Mays ls) := hm
 have hl8 : len ≤ 8 := by have := hm.1; have := hr.1; omega
 have HROW : Hid (RowD w a len ls) := hr
 clear hm hr
 go_enter Tryz.func101, Tryz.ntmps101
 go_wp2_with fail
 go_loopw [3, 8] (fun v x wr => ∃ k : Nat, k ≤ len ∧ x = .int .i64 (k : Int) ∧ v = .int .i64 (sumK ls k) ∧ Below w.heap.size w wr) (fun _ x _ => len - (intOf x).toNat)
 case atStart => exact ⟨0, Nat.zero_le _, rfl, rfl, Below.refl _ _⟩
 case round =>
  obtain ⟨k, hk, rfl, rfl, hb⟩ := hrel
  have hsb := sumK_bd HM.out k (by rw [HLEN.out]; exact hk)
  have HB : Hid (Below w.heap.size w wr) := hb
  by_cases hlt : k < len
  ·have hdl : decide ((k : Int) < (len : Int)) = true := by simp; omega
   obtain ⟨b, off, rfl, hbl, hc⟩ := HROW.out.at (by omega)
   have c0 : wr.cell? ⟨b, off + k * 2, none⟩ = some (.int .i64 (ls.getD k du0).a) := (hb.cell (p := ⟨b, off + k * 2, none⟩) hbl).trans (hc k hlt).1
   have c1 : wr.cell? ⟨b, off + k * 2 + 1, none⟩ = some (.int .i64 (ls.getD k du0).b) := (hb.cell (p := ⟨b, off + k * 2 + 1, none⟩) hbl).trans (hc k hlt).2
   have HBA : Hid (∀ o, Below w.heap.size w (wr.alloc o)) := fun o => hb.alloc hb.size o
   have ho := (HM.out.2 k (by rw [HLEN.out]; exact hlt)).1
   have HN : Hid (sumK ls k + (ls.getD k du0).a = sumK ls (k + 1)) := (sumK_next ls k).symm
   clear hc hb
   generalize sumK ls k = s at *
   generalize (ls.getD k du0).a = x at *
   generalize (ls.getD k du0).b = y at *
   go_wp2_with fail
   go_roundw
   case rel => exact ⟨k + 1, by omega, by go_num, by rw [← HN.out], HBA.out _⟩
   case measure => simp [intOf]; omega
  ·obtain rfl : k = len := by omega
   have hdl : decide ((k : Int) < (k : Int)) = false := by simp
   have HV : Hid (sumK ls k = sumD ls) := by have := sumK_all ls; rw [HLEN.out] at this; exact this
   generalize sumK ls k = s at *
   clear hb
   go_wp2_with fail
   go_ret
   exact ⟨congrArg (fun z => Ending.returned (Value.int .i64 z)) HV.out, HB.out⟩
end deb
end Go.Proofs.YtomibnggmhjdfaaGreat
