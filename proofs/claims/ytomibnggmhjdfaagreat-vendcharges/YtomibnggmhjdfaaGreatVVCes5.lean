import Derived.Test.YtomibnggmhjdfaaGreatVVCes4
set_option linter.unusedVariables false
set_option linter.unusedSimpArgs false
namespace Go.Proofs.YtomibnggmhjdfaaGreat
namespace acc
open tar (Du du0 Came)
open Go.RowKit
def Ac.cs (x : Ac) (p : Option Addr) (len cap : Nat) : Array Value := #[.int .i64 x.me, .int .i64 x.rv, .int .i64 x.nx, .int .i64 x.mo, .int .i64 x.bo, .int .i64 x.fr, .slice p len cap]
def Ac.v (x : Ac) (p : Option Addr) (len cap : Nat) : Value := .agg (x.cs p len cap)
def Tm.v (t : Tm) (p : Option Addr) (len cap : Nat) : Value := .agg #[.slice p len cap, .int .i64 t.ff, .int .i64 t.fb, .int .i64 t.db, .int .i64 t.al]
def Bi.v (b : Bi) : Value := .agg #[.int .i64 b.id, .int .i64 b.te, .int .i64 b.de, .int .i64 b.fe, .int .i64 b.pr, .int .i64 b.ch, .int .i64 b.un]
def wf6 (x : Ac) : Prop := (Lit.int .i64 x.me).wf = true ∧ (Lit.int .i64 x.rv).wf = true ∧ (Lit.int .i64 x.nx).wf = true ∧ (Lit.int .i64 x.mo).wf = true ∧ (Lit.int .i64 x.bo).wf = true ∧ (Lit.int .i64 x.fr).wf = true
def wf4 (t : Tm) : Prop := (Lit.int .i64 t.ff).wf = true ∧ (Lit.int .i64 t.fb).wf = true ∧ (Lit.int .i64 t.db).wf = true ∧ (Lit.int .i64 t.al).wf = true
structure ACame (w : World) (x : Ac) (p : Option Addr) (len cap : Nat) : Prop where
 ds : Came w p len cap x.ds
 wf : wf6 x
structure TCame (w : World) (t : Tm) (p : Option Addr) (len cap : Nat) : Prop where
 ts : Came w p len cap t.ts
 wf : wf4 t
theorem ACame.below {w w' : World} {x : Ac} {p : Option Addr} {len cap : Nat} (h : ACame w x p len cap) (hb : Below w.heap.size w w') : ACame w' x p len cap := ⟨h.ds.below hb, h.wf⟩
theorem TCame.below {w w' : World} {t : Tm} {p : Option Addr} {len cap : Nat} (h : TCame w t p len cap) (hb : Below w.heap.size w w') : TCame w' t p len cap := ⟨h.ts.below hb, h.wf⟩
def APost (w : World) (R : Ac → Int → Prop) (e : Ending) (w' : World) : Prop := ∃ b p len cap f, e = .returned (.tuple #[Ac.v b p len cap, .int .i64 f]) ∧ R b f ∧ deb.Fresh w' w.heap.size p len cap b.ds ∧ Below w.heap.size w w'
def BPost (w : World) (R : Ac → Bi → Int → Prop) (e : Ending) (w' : World) : Prop := ∃ b l p len cap f, e = .returned (.tuple #[Ac.v b p len cap, Bi.v l, .int .i64 f]) ∧ R b l f ∧ deb.Fresh w' w.heap.size p len cap b.ds ∧ Below w.heap.size w w'
end acc
section
open Go.RowKit
theorem wp_runOp {P : Program} {o : Oper} {a : Act} {w w' : World} {v : Value} {K : Act → World → Prop} {Q : Exit → Act → World → Prop} (d : Nat) (hd : o.dst = some d) (hrun : (execOp a.eval o).run P w = .ok (.value v) w') (h : K (a.put (some d) v) w') : o.wp P a w K Q := by
 rw [← hd] at h
 unfold Oper.wp
 rw [hrun, Oper.upon_value]
 exact h
theorem wp_callOp {P : Program} {o : Oper} {a : Act} {w : World} {f : FuncId} {args : Array Value} {R : Ending → World → Prop} {K : Act → World → Prop} {Q : Exit → Act → World → Prop} (d : Nat) (hd : o.dst = some d) (hrun : (execOp a.eval o).run P w = .ok (.enter f args) w) (hc : Calls P f args w R)
  (h : ∀ e w', R e w' → ∃ v, e = .returned v ∧ K (a.put (some d) v) w') : o.wp P a w K Q := by
 rw [← hd] at h
 unfold Oper.wp
 rw [hrun, Oper.upon_enter]
 refine hc.mono fun e w' hr => ?_
 obtain ⟨v, rfl, hk⟩ := h e w' hr
 exact hk
end
namespace acc
open tar (Du du0 Came RowD Ld PairT)
open Go.RowKit
set_option maxRecDepth 100000
theorem row_upd {w W : World} {g : Nat} {new : Array Value} {t : TypeId} {p : Option Addr} {len : Nat} {l : List Du} (h : RowD w p len l) (hU : Upd w W g new t) (hg : 0 < len → ∀ x, p = some x → x.block ≠ g) : RowD W p len l := by
 refine ⟨h.1, ?_⟩
 rcases h.2 with h0 | ⟨b, off, rfl, hc⟩
 ·exact .inl h0
 ·refine .inr ⟨b, off, rfl, fun i hi => ?_⟩
  have hne : b ≠ g := hg (by omega) _ rfl
  rw [hU.cell ⟨b, off + i * 2, none⟩ hne rfl, hU.cell ⟨b, off + i * 2 + 1, none⟩ hne rfl]
  exact hc i hi
theorem came_upd {w W : World} {g : Nat} {new : Array Value} {t : TypeId} {p : Option Addr} {len cap : Nat} {l : List Du} (h : Came w p len cap l) (hU : Upd w W g new t) (hg : 0 < len → ∀ x, p = some x → x.block ≠ g) : Came W p len cap l := ⟨row_upd h.row hU hg, h.nil, h.room, h.bytes, h.wf⟩
theorem fresh_upd {w W : World} {g base : Nat} {new : Array Value} {t : TypeId} {p : Option Addr} {len cap : Nat} {l : List Du} (h : deb.Fresh w base p len cap l) (hU : Upd w W g new t) (hg : g < base) : deb.Fresh W base p len cap l := ⟨came_upd h.came hU (fun hn x hx => by have := h.new hn x hx; omega), h.new⟩
theorem fresh_updN {w W : World} {g base : Nat} {new : Array Value} {t : TypeId} {p : Option Addr} {len cap : Nat} {l : List Du} (h : deb.Fresh w base p len cap l) (hU : Upd w W g new t) (hg : 0 < len → ∀ x, p = some x → x.block ≠ g) : deb.Fresh W base p len cap l := ⟨came_upd h.came hU hg, h.new⟩
theorem fresh_drew {w : World} {base : Nat} {p : Option Addr} {len cap : Nat} {l : List Du} (h : deb.Fresh w base p len cap l) : deb.Fresh w.drew base p len cap l := ⟨⟨h.came.row, h.came.nil, h.came.room, h.came.bytes, h.came.wf⟩, h.new⟩
theorem ld_upd {T : TypeId} {w W : World} {g base : Nat} {new : Array Value} {t : TypeId} {v : Value} {l : List Du} (h : Ld T w base v l) (hU : Upd w W g new t) (hg : g < base) : Ld T W base v l := by
 refine ⟨h.1, ?_⟩
 rcases h.2 with hn | ⟨q, cap, cur, hv, hq, hc, rest⟩
 ·exact .inl hn
 ·exact .inr ⟨q, cap, cur, hv, hq, hU.keep hc (by omega), rest⟩
theorem ld_ne {T t : TypeId} {w : World} {base G n cap : Nat} {a : Option Addr} {cs : Array Value} {l : List Du} (h : Ld T w base (.slice a n cap) l) (hB : Blk w G cs t) (ht : t ≠ T) : 0 < n → ∀ x, a = some x → x.block ≠ G := fun hn x hx e => by
 rcases h.2 with ⟨hv, _⟩ | ⟨q, cp, cur, hv, hq, hc, _⟩
 ·injection hv with h1 h2 h3
  omega
 ·injection hv with h1 h2 h3
  rw [hx] at h1
  have h4 := Option.some.inj h1
  subst h4
  have e2 : q = G := e
  subst e2
  have hc2 : Blk w q _ T := hc
  unfold Blk at hB hc2
  rw [hB] at hc2
  injection hc2 with h5
  injection h5 with _ h6
  exact ht h6
theorem came_lt {w : World} {p : Option Addr} {len cap : Nat} {l : List Du} (h : Came w p len cap l) : 0 < len → ∀ x, p = some x → x.block < w.heap.size := fun hn x hx => by
 obtain ⟨b, off, hp, hb, _⟩ := h.row.at hn
 rw [hp] at hx
 cases hx
 exact hb
end acc
namespace deb
open tar (Du du0 Came RowD Ld ErrPost TwoPost PairT GaveD)
open Go.RowKit
set_option maxRecDepth 100000
theorem debtT : PairT Tryz.prog 43 57 := ⟨by kernel_rfl, Tryz.underlying57⟩
theorem prod_le (a b A B : Int) (h1 : 0 ≤ a) (h2 : a ≤ A) (h3 : 0 ≤ b) (h4 : b ≤ B) : 0 ≤ a * b ∧ a * b ≤ A * B :=
 ⟨Int.mul_nonneg h1 h3, Int.le_trans (Int.mul_le_mul_of_nonneg_left h4 h1) (Int.mul_le_mul_of_nonneg_right h2 (by omega))⟩
end deb
section
open Go.RowKit
theorem wp_letS {P : Program} {ops : Array Oper} {rest : List Oper} {o : Oper} {a : Act} {w : World} {Q : Exit → Act → World → Prop} (hgd : o.guard = none) (ty : TypeId) (x y : Operand) (ho : o.op = .store ty x y)
  (g off : Nat) (hx : a.eval x = .pointer (some ⟨g, off, none⟩)) (p : Option Addr) (n c : Nat) (hy : a.eval y = .slice p n c) (hi : (P.info? ty).map (·.size) = some 1)
  (cs : Array Value) (t : TypeId) (hB : Blk w g cs t) (hin : off < cs.size)
  (h : ∀ W, Upd w W g (cs.setIfInBounds off (.slice p n c)) t → wpList P ops Q rest (a.put o.dst undef) W) : wpList P ops Q (o :: rest) a w :=
 wp_let hgd ty x y ho g off hx _ hy #[.slice p n c] rfl hi (by simp [Value.oneCell']) cs t hB (by simp; omega) _ rfl h
end
namespace cell
open Go.RowKit
set_option maxRecDepth 100000
set_option maxHeartbeats 1000000 in
theorem words_law (a b : Option Addr) (n c1 c2 : Nat) (zs : List Int) (w : World) (h1 : RowU w a n zs) (h2 : RowU w b n zs) (hn : n ≤ maxLen) :
  Calls Tryz.prog 11 #[.slice a n c1, .slice b n c2] w fun e w' => e = .returned (.bool true) ∧ Below w.heap.size w w' := by
 have hne : ((n : Int) != (n : Int)) = false := by simp
 unfold maxLen at hn
 go_enter Tryz.func11, Tryz.ntmps11
 go_wp2_with fail
 go_loopw [5] (fun i wr => ∃ k : Nat, k ≤ n ∧ i = .int .i64 k ∧ Below w.heap.size w wr) (fun i _ => n - (intOf i).toNat)
 case atStart => exact ⟨0, Nat.zero_le _, rfl, Below.refl _ _⟩
 case round =>
  obtain ⟨k, hk, rfl, hb⟩ := hrel
  by_cases hlt : k < n
  ·obtain ⟨b1, o1, rfl, l1, hc1⟩ := h1.at (by omega)
   obtain ⟨b2, o2, rfl, l2, hc2⟩ := h2.at (by omega)
   have f1 : wr.cell? ⟨b1, o1 + k, none⟩ = some (.int .u32 (zs.getD k 0)) := (hb.cell (p := ⟨b1, o1 + k, none⟩) l1).trans (hc1 k hlt)
   have f2 : wr.cell? ⟨b2, o2 + k, none⟩ = some (.int .u32 (zs.getD k 0)) := (hb.cell (p := ⟨b2, o2 + k, none⟩) l2).trans (hc2 k hlt)
   clear hc1 hc2 h1 h2 l1 l2
   generalize zs.getD k 0 = z at f1 f2
   have hz : (z != z) = false := by simp
   go_wp2_with fail
   go_region
   all_goals go_wp2_with fail
   go_roundw
   case rel => exact ⟨k + 1, by omega, by go_num, hb.drew⟩
   case measure => simp [intOf]; omega
  ·go_wp2_with fail
   go_ret
   exact ⟨rfl, hb⟩
end cell
namespace deb
open tar (Du du0 Came TwoPost)
open Go.RowKit
def KdAge : Prop := ∀ (W : World) (a : Option Addr) (len cap : Nat) (ls : List Du) (m : Int), Came W a len cap ls → (Lit.int .i64 m).wf = true → Calls Tryz.prog 122 #[.slice a len cap, .int .i64 m] W fun e w' => AgePost W ls m e w'
open tar (RowD Ld ErrPost PairT GaveD)
set_option maxRecDepth 100000
theorem dwithin (lo hi n : Int) (w : World) : Calls Tryz.prog 107 #[.int .i64 lo, .int .i64 hi, .int .i64 n] w fun e w' => e = .returned (.bool (decide (lo ≤ n ∧ n ≤ hi))) ∧ w' = w := by
 by_cases h1 : lo ≤ n
 ·by_cases h2 : n ≤ hi
  ·have h3 : decide (lo ≤ n ∧ n ≤ hi) = true := by simp; omega
   rw [h3]; clear h3
   go_enter Tryz.func107, Tryz.ntmps107
   go_wp2
   go_ret
   exact ⟨rfl, rfl⟩
  ·have h3 : decide (lo ≤ n ∧ n ≤ hi) = false := by simp; omega
   have h4 : decide (n ≤ hi) = false := by simp; omega
   rw [h3]; clear h3 h2
   go_enter Tryz.func107, Tryz.ntmps107
   go_wp2
   go_ret
   exact ⟨rfl, rfl⟩
 ·have h3 : decide (lo ≤ n ∧ n ≤ hi) = false := by simp; omega
  have h4 : decide (lo ≤ n) = false := by simp; omega
  rw [h3]; clear h3 h1
  go_enter Tryz.func107, Tryz.ntmps107
  go_wp2
  go_ret
  exact ⟨rfl, rfl⟩
set_option maxHeartbeats 2000000 in
theorem pcheck (a : Option Addr) (n cap : Nat) (ls : List Du) (w : World) (hr : RowD w a n ls) (hn : n ≤ maxLen) : Calls Tryz.prog 100 #[.slice a n cap] w fun e w' => ∃ f, e = .returned (.int .i64 f) ∧ FaultIs ls f ∧ Below w.heap.size w w' := by
 have hlen := hr.1
 have HIU : Hid (∀ x W, Calls Tryz.prog 107 #[.int .i64 0, .int .i64 1000000000, .int .i64 x] W fun e w' => e = .returned (.bool (decide (0 ≤ x ∧ x ≤ 1000000000))) ∧ w' = W) := fun x W => dwithin 0 1000000000 x W
 have HIP : Hid (∀ x W, Calls Tryz.prog 107 #[.int .i64 0, .int .i64 10000, .int .i64 x] W fun e w' => e = .returned (.bool (decide (0 ≤ x ∧ x ≤ 10000))) ∧ w' = W) := fun x W => dwithin 0 10000 x W
 have hnm : n ≤ 9223372036854775807 := by unfold maxLen at hn; omega
 by_cases hs : n ≤ 8
 ·have HS : Hid (ls.length ≤ 8) := by show _ ≤ _; rw [hlen]; exact hs
  have hd8 : decide (8 < (n : Int)) = false := decide_eq_false (by omega)
  have HROW : Hid (RowD w a n ls) := hr
  have HLEN : Hid (ls.length = n) := hlen
  clear hr hn hlen
  go_enter Tryz.func100, Tryz.ntmps100
  go_wp2_with fail
  go_loopw [10] (fun x wr => ∃ k : Nat, k ≤ n ∧ x = .int .i64 (k : Int) ∧ (∀ i, i < k → Ok1 (ls.getD i du0)) ∧ Below w.heap.size w wr) (fun x _ => n - (intOf x).toNat)
  case atStart => exact ⟨0, Nat.zero_le _, rfl, fun i hi => absurd hi (Nat.not_lt_zero _), Below.refl _ _⟩
  case round =>
   obtain ⟨k, hk, rfl, hf, hb⟩ := hrel
   have HF : Hid (∀ i, i < k → Ok1 (ls.getD i du0)) := hf
   have HB : Hid (Below w.heap.size w wr) := hb
   clear hf
   by_cases hlt : k < n
   ·have hdl : decide ((k : Int) < (n : Int)) = true := by simp; omega
    obtain ⟨b, off, rfl, hbl, hc⟩ := HROW.out.at (by omega)
    have c0 : wr.cell? ⟨b, off + k * 2, none⟩ = some (.int .i64 (ls.getD k du0).a) := (hb.cell (p := ⟨b, off + k * 2, none⟩) hbl).trans (hc k hlt).1
    have c1 : wr.cell? ⟨b, off + k * 2 + 1, none⟩ = some (.int .i64 (ls.getD k du0).b) := (hb.cell (p := ⟨b, off + k * 2 + 1, none⟩) hbl).trans (hc k hlt).2
    have HBA : Hid (∀ o, Below w.heap.size w (wr.alloc o)) := fun o => hb.alloc hb.size o
    clear hb hc
    have HU := HIU.out (ls.getD k du0).a
    have HP := HIP.out (ls.getD k du0).b
    by_cases hu : 0 ≤ (ls.getD k du0).a ∧ (ls.getD k du0).a ≤ 1000000000
    ·rw [decide_eq_true hu] at HU
     by_cases hp : 0 ≤ (ls.getD k du0).b ∧ (ls.getD k du0).b ≤ 10000
     ·
      rw [decide_eq_true hp] at HP
      have HF2 : Hid (∀ i, i < k + 1 → Ok1 (ls.getD i du0)) := fun i hi => by
       by_cases e : i = k
       ·subst e; exact ⟨hu, hp⟩
       ·exact HF.out i (by omega)
      have HU2 : Hid (∀ W, Calls Tryz.prog 107 #[.int .i64 0, .int .i64 1000000000, .int .i64 (ls.getD k du0).a] W fun e w' => e = .returned (.bool true) ∧ w' = W) := HU
      have HP2 : Hid (∀ W, Calls Tryz.prog 107 #[.int .i64 0, .int .i64 10000, .int .i64 (ls.getD k du0).b] W fun e w' => e = .returned (.bool true) ∧ w' = W) := HP
      clear HU HP hu hp HF
      generalize (ls.getD k du0).a = x at *
      generalize (ls.getD k du0).b = y at *
      go_wp2_with fail
      refine (HU2.out _).mono ?_
      rintro e w2 ⟨rfl, hw2⟩
      subst w2
      go_wp2_with fail
      refine (HP2.out _).mono ?_
      rintro e w2 ⟨rfl, hw2⟩
      subst w2
      go_wp2_with fail
      go_roundw
      case rel => exact ⟨k + 1, by omega, by go_num, HF2.out, HBA.out _⟩
      case measure => simp [intOf]; omega
     ·
      rw [decide_eq_false hp] at HP
      have HN : Hid (¬ DFits ls) := fun h => hp (h k (by rw [HLEN.out]; exact hlt)).2
      have HU2 : Hid (∀ W, Calls Tryz.prog 107 #[.int .i64 0, .int .i64 1000000000, .int .i64 (ls.getD k du0).a] W fun e w' => e = .returned (.bool true) ∧ w' = W) := HU
      have HP2 : Hid (∀ W, Calls Tryz.prog 107 #[.int .i64 0, .int .i64 10000, .int .i64 (ls.getD k du0).b] W fun e w' => e = .returned (.bool false) ∧ w' = W) := HP
      clear HU HP hu hp HF
      generalize (ls.getD k du0).a = x at *
      generalize (ls.getD k du0).b = y at *
      go_wp2_with fail
      refine (HU2.out _).mono ?_
      rintro e w2 ⟨rfl, hw2⟩
      subst w2
      go_wp2_with fail
      refine (HP2.out _).mono ?_
      rintro e w2 ⟨rfl, hw2⟩
      subst w2
      go_wp2_with fail
      go_ret
      exact ⟨_, rfl, .inr (.inl ⟨HS.out, HN.out, rfl⟩), HBA.out _⟩
    ·
     rw [decide_eq_false hu] at HU
     have HN : Hid (¬ DFits ls) := fun h => hu (h k (by rw [HLEN.out]; exact hlt)).1
     have HU2 : Hid (∀ W, Calls Tryz.prog 107 #[.int .i64 0, .int .i64 1000000000, .int .i64 (ls.getD k du0).a] W fun e w' => e = .returned (.bool false) ∧ w' = W) := HU
     clear HU HP hu HF
     generalize (ls.getD k du0).a = x at *
     generalize (ls.getD k du0).b = y at *
     go_wp2_with fail
     refine (HU2.out _).mono ?_
     rintro e w2 ⟨rfl, hw2⟩
     subst w2
     go_wp2_with fail
     go_ret
     exact ⟨_, rfl, .inr (.inl ⟨HS.out, HN.out, rfl⟩), HBA.out _⟩
   ·obtain rfl : k = n := by omega
    have hdl : decide ((k : Int) < (k : Int)) = false := by simp
    have HFT : Hid (DFits ls) := fun i hi => HF.out i (by rw [HLEN.out] at hi; exact hi)
    clear HF HIU HIP hb
    go_wp2_with fail
    go_ret
    exact ⟨_, rfl, .inr (.inr ⟨⟨HS.out, HFT.out⟩, rfl⟩), HB.out⟩
 ·have HS : Hid (¬ ls.length ≤ 8) := by show ¬ _ ≤ _; rw [hlen]; exact hs
  have hd8 : decide (8 < (n : Int)) = true := decide_eq_true (by omega)
  clear hs hr hlen hn
  go_enter Tryz.func100, Tryz.ntmps100
  go_wp2_with fail
  go_ret
  exact ⟨_, rfl, .inl ⟨HS.out, rfl⟩, Below.refl _ _⟩
def mixK (l : List Du) (m k : Nat) : List Du := ageAll (l.take k) m ++ l.drop k
theorem mix_all (l : List Du) (m k : Nat) (h : l.length = k) : mixK l m k = ageAll l m := by
 subst h
 unfold mixK
 rw [List.take_length, List.drop_length, List.append_nil]
theorem mix_len (l : List Du) (m k : Nat) (hk : k ≤ l.length) : (mixK l m k).length = l.length := by
 unfold mixK
 rw [List.length_append, ageAll_len, List.length_take, List.length_drop]; omega
theorem drop_one (l : List Du) (k : Nat) (hk : k < l.length) : l.drop k = l.getD k du0 :: l.drop (k + 1) := by
 rw [List.drop_eq_getElem_cons hk]
 simp [List.getD, List.getElem?_eq_getElem hk]
theorem mix_at (l : List Du) (m k : Nat) (hk : k < l.length) : (mixK l m k).getD k du0 = l.getD k du0 := by
 unfold mixK
 have e : (ageAll (l.take k) m).length = k := by rw [ageAll_len, List.length_take]; omega
 rw [drop_one l k hk, List.getD, List.getElem?_append_right (by omega), e, Nat.sub_self]; simp
theorem mix_set (l : List Du) (m k : Nat) (hk : k < l.length) (d : Du) : (mixK l m k).set k d = ageAll (l.take k) m ++ d :: l.drop (k + 1) := by
 unfold mixK
 have e : (ageAll (l.take k) m).length = k := by rw [ageAll_len, List.length_take]; omega
 rw [drop_one l k hk, List.set_append_right _ _ (by omega), e, Nat.sub_self, List.set_cons_zero]
theorem mix_next (l : List Du) (m k : Nat) (hk : k < l.length) : (mixK l m k).set k ⟨growN (l.getD k du0).b m (l.getD k du0).a, (l.getD k du0).b⟩ = mixK l m (k + 1) := by
 rw [mix_set l m k hk]
 unfold mixK
 rw [ageAll_take l m k hk]; simp
theorem mix_same (l : List Du) (m k : Nat) (hk : k < l.length) : (mixK l m k).set k ⟨growN (l.getD k du0).b 0 (l.getD k du0).a, (l.getD k du0).b⟩ = mixK l m k := by
 rw [mix_set l m k hk]
 show ageAll (l.take k) m ++ l.getD k du0 :: l.drop (k + 1) = mixK l m k
 unfold mixK
 rw [drop_one l k hk]
theorem cells_set (l : List Du) (k : Nat) (hk : k < l.length) (x b : Int) (hb : (l.getD k du0).b = b) : tar.cellsD (l.set k ⟨x, b⟩) = (tar.cellsD l).set (k * 2) (.int .i64 x) := by
 induction l generalizing k with
 | nil => simp at hk
 | cons d l ih =>
  cases k with
  | zero =>
   have e : d.b = b := by simpa using hb
   subst e; rfl
  | succ k =>
   rw [show (k + 1) * 2 = k * 2 + 1 + 1 by omega]
   have h1 : k < l.length := by simpa using hk
   have h2 := ih k h1 (by simpa using hb)
   show tar.cellsD (d :: l.set k ⟨x, b⟩) = _
   simp only [tar.cellsD, List.set_cons_succ, h2]
theorem ld_put {T : TypeId} {w W : World} {base g n cap : Nat} {l : List Du} {cur : Array Value} (h : Ld T w base (.slice (some ⟨g, 0, none⟩) n cap) l) (hB : Blk w g cur T) (k : Nat) (hk : k < l.length) (x b : Int) (hb : (l.getD k du0).b = b) (hU : Upd w W g (cur.setIfInBounds (k * 2) (.int .i64 x)) T) : Ld T W base (.slice (some ⟨g, 0, none⟩) n cap) (l.set k ⟨x, b⟩) := by
 unfold Ld at *
 rw [List.length_set, cells_set l k hk x b hb]
 refine ⟨by rw [List.length_set]; exact h.1, ?_⟩
 rcases h.2 with ⟨h', _⟩ | ⟨g', cap', cur', hv, hg, hc, hn, hm, hz, ht⟩
 ·cases h'
 ·simp only [Value.slice.injEq, Option.some.injEq, Addr.mk.injEq, and_true] at hv
  obtain ⟨rfl, rfl, rfl⟩ := hv
  have e : cur' = cur := by
   have h1 : w.heap[g]? = some (.cells cur T (0, 0)) := hB
   rw [h1] at hc
   injection hc with hc
   injection hc with hc
   exact hc.symm
  subst e
  exact .inr ⟨g, cap, _, rfl, hg, hU.blk, hn, hm, by simpa using hz, by rw [Array.toList_setIfInBounds, ← ht, List.take_set]⟩
theorem ld_lies {T : TypeId} {w : World} {base n cap : Nat} {a : Option Addr} {l : List Du} (h : Ld T w base (.slice a n cap) l) (hn : 0 < n) : ∃ g cur, a = some ⟨g, 0, none⟩ ∧ base ≤ g ∧ Blk w g cur T ∧ n * 2 ≤ cur.size ∧ (∀ k, k < l.length → w.cell? ⟨g, k * 2, none⟩ = some (.int .i64 (l.getD k du0).a) ∧ w.cell? ⟨g, k * 2 + 1, none⟩ = some (.int .i64 (l.getD k du0).b)) := by
 rcases h.2 with ⟨h', h0⟩ | ⟨g, cap', cur, hv, hg, hc, hle, hm, hz, ht⟩
 ·simp only [Value.slice.injEq] at h'; omega
 ·simp only [Value.slice.injEq] at hv
  obtain ⟨rfl, rfl, rfl⟩ := hv
  refine ⟨g, cur, rfl, hg, hc, by omega, fun k hk => ?_⟩
  have e1 := World.ownsRow.cellAt h (k * 2) (by omega)
  have e2 := World.ownsRow.cellAt h (k * 2 + 1) (by omega)
  rw [e1, e2]
  exact tar.cellsD_at l k hk
end deb
namespace tar
open Go.RowKit
def KtCheck : Prop := ∀ (W : World) (a : Option Addr) (len cap : Nat) (ls : List Du), Came W a len cap ls → Calls Tryz.prog 75 #[.slice a len cap] W fun e w' => ErrPost W (FaultIs ls) e w'
set_option maxRecDepth 100000
open Classical in
set_option maxHeartbeats 2000000 in
theorem prises (b off k cap : Nat) (ls : List Du) (w1 : World) (hs1 : 1 ≤ k) (hs2 : k ≤ 8) (hlen : ls.length = k) (hbl : b < w1.heap.size) (hc : ∀ i, i < k → w1.cell? ⟨b, off + i * 2, none⟩ = some (.int .i64 (ls.getD i du0).a) ∧ w1.cell? ⟨b, off + i * 2 + 1, none⟩ = some (.int .i64 (ls.getD i du0).b)) : Calls Tryz.prog 90 #[.slice (some ⟨b, off, none⟩) k cap] w1 fun e w' => e = .returned (.bool (decide (Rises ls))) ∧ Below w1.heap.size w1 w' := by
 have HC : Hid (∀ i, i < k → w1.cell? ⟨b, off + i * 2, none⟩ = some (.int .i64 (ls.getD i du0).a) ∧ w1.cell? ⟨b, off + i * 2 + 1, none⟩ = some (.int .i64 (ls.getD i du0).b)) := hc
 have HLEN : Hid (ls.length = k) := hlen
 have hnm : k ≤ 9223372036854775807 := by omega
 clear hc hlen
 go_enter Tryz.func90, Tryz.ntmps90
 go_wp2_with fail
 go_loopw [3] (fun x wr2 => ∃ j : Nat, 1 ≤ j ∧ j ≤ k ∧ x = .int .i64 (j : Int) ∧ (∀ i, 1 ≤ i → i < j → (ls.getD (i - 1) du0).a < (ls.getD i du0).a) ∧ Below w1.heap.size w1 wr2) (fun x _ => k - (intOf x).toNat)
 case atStart => exact ⟨1, Nat.le_refl _, hs1, rfl, fun i h1 h2 => absurd h2 (by omega), Below.refl _ _⟩
 case round =>
  obtain ⟨j, hj1, hj, rfl, hf, hb⟩ := hrel
  have HF : Hid (∀ i, 1 ≤ i → i < j → (ls.getD (i - 1) du0).a < (ls.getD i du0).a) := hf
  have HB : Hid (Below w1.heap.size w1 wr) := hb
  by_cases hlt2 : j < k
  ·have hdl2 : decide ((j : Int) < (k : Int)) = true := by simp; omega
   have c0 : wr.cell? ⟨b, off + j * 2, none⟩ = some (.int .i64 (ls.getD j du0).a) := (hb.cell (p := ⟨b, off + j * 2, none⟩) hbl).trans (HC.out j hlt2).1
   have c1 : wr.cell? ⟨b, off + (j - 1) * 2, none⟩ = some (.int .i64 (ls.getD (j - 1) du0).a) := (hb.cell (p := ⟨b, off + (j - 1) * 2, none⟩) hbl).trans (HC.out (j - 1) (by omega)).1
   have hs2' : wr.drew.cell? ⟨b, off + j * 2, none⟩ = some (.int .i64 (ls.getD j du0).a) := c0
   have HBD : Hid (Below w1.heap.size w1 wr.drew) := hb.drew
   have hsub : ((j : Int) - 1) = ((j - 1 : Nat) : Int) := by omega
   have hjm : j - 1 < k := by omega
   clear hb hf
   by_cases hle : (ls.getD j du0).a ≤ (ls.getD (j - 1) du0).a
   ·have hde : decide ((ls.getD j du0).a ≤ (ls.getD (j - 1) du0).a) = true := decide_eq_true hle
    have HN : Hid (decide (Rises ls) = false) := decide_eq_false fun h => by
     have := h j hj1 (by rw [HLEN.out]; exact hlt2); omega
    clear hle
    generalize (ls.getD j du0).a = x at *
    generalize (ls.getD (j - 1) du0).a = y at *
    generalize j - 1 = j1 at *
    go_wp2_with fail
    go_region
    all_goals go_wp2_with fail
    go_ret
    exact ⟨by rw [HN.out]; rfl, HBD.out⟩
   ·have hde : decide ((ls.getD j du0).a ≤ (ls.getD (j - 1) du0).a) = false := decide_eq_false hle
    have HF2 : Hid (∀ i, 1 ≤ i → i < j + 1 → (ls.getD (i - 1) du0).a < (ls.getD i du0).a) := fun i h1 h2 => by
     by_cases e : i = j
     ·subst e; omega
     ·exact HF.out i h1 (by omega)
    clear hle
    generalize (ls.getD j du0).a = x at *
    generalize (ls.getD (j - 1) du0).a = y at *
    generalize j - 1 = j1 at *
    go_wp2_with fail
    go_region
    all_goals go_wp2_with fail
    go_roundw
    case rel => exact ⟨j + 1, by omega, by omega, by go_num, HF2.out, HBD.out⟩
    case measure => simp [intOf]; omega
  ·obtain rfl : j = k := by omega
   have hdl2 : decide ((j : Int) < (j : Int)) = false := by simp
   have HR : Hid (decide (Rises ls) = true) := decide_eq_true fun i h1 h2 => HF.out i h1 (by rw [HLEN.out] at h2; exact h2)
   clear hb hf
   go_wp2_with fail
   go_ret
   exact ⟨by rw [HR.out]; rfl, HB.out⟩
end tar
section
open Go.RowKit
theorem operIn_round {F : Fence} {n : Nat} {P : Program} (hro : F.round = none) (l : Nat) {o : Oper} (hd : ∀ c, o.op ≠ .defer c) {a : Act} {w : World} {K K' : Act → World → Prop} {Q : Exit → Act → World → Prop} (hK : ∀ a w, K a w → K' a w) (h : o.wpIn F n P a w K Q) : o.wpIn (F.inRound l) n P a w K' Q := by
 have h2 := Oper.wpIn_mono hK h
 unfold Oper.wpIn at *
 refine ⟨h2.1, ?_⟩
 have h3 := h2.2
 rw [hro, Oper.semAt_none] at h3
 rw [Fence.inRound_round, Oper.semAt_some l _ _ hd]
 generalize (execOp a.eval o).run P w = r at *
 cases r with
 | ok x w' => cases x <;> exact h3
 | halt x w' => cases x <;> exact h3
theorem opsIn_round {F : Fence} {n : Nat} {P : Program} {ops : Array Oper} {Q : Exit → Act → World → Prop} (hro : F.round = none) (l : Nat) (hd : ∀ (i : Nat) (o : Oper), ops[i]? = some o → ∀ c, o.op ≠ .defer c) : ∀ (s : List Nat) (a : Act) (w : World), wpOpsIn F n P ops Q s a w → wpOpsIn (F.inRound l) n P ops Q s a w
 | [], _, _, h => h
 | i :: s, a, w, h => by
  unfold wpOpsIn at h ⊢
  cases hi : ops[i]? with
  | none => rw [hi] at h; exact opsIn_round hro l hd s a w h
  | some o =>
   rw [hi] at h
   dsimp only at h ⊢
   by_cases hw : Region.wanted o (yielded ops a.tmps) = true
   ·rw [if_pos hw] at h ⊢
    exact operIn_round hro l (hd i o hi) (fun a w h => opsIn_round hro l hd s a w h) h
   ·rw [if_neg hw] at h ⊢
    exact ⟨h.1, opsIn_round hro l hd s _ w h.2⟩
def noDefer (l : List Oper) : Bool := l.all fun o => match o.op with | .defer _ => false | _ => true
theorem noDefer_spec {l : List Oper} (h : noDefer l = true) (i : Nat) (o : Oper) (ho : l.toArray[i]? = some o) (c : Call) : o.op ≠ .defer c := by
 intro e
 have h1 : o ∈ l := by
  have : l[i]? = some o := by simpa using ho
  exact List.mem_of_getElem? this
 have h2 := List.all_eq_true.1 h o h1
 rw [e] at h2
 exact Bool.noConfusion h2
theorem round_quiet {F : Fence} {n : Nat} {P : Program} {id : Nat} {Q : Exit → Act → World → Prop} {a : Act} {w : World} {l : List Oper} {r : Nat} (hro : F.round = none) (hm : P.follows .mixedOrders = true) (hB : Region.lexB .any l.toArray = true) (hd : noDefer l = true)
  (h : wpQuietIn F n P l.toArray (fun w' => ∃ n, w' = w.drewN n) (fun a' => ∀ w', (∃ n, w' = w.drewN n) → Q .normal a' w') l a) : (Code.region id l.toArray true).wpIn (F.inRound r) n P Q a w := by
 simp only [Region.lexB, Bool.and_eq_true] at hB
 refine wpIn_region_draw fun t => opsIn_round hro r (noDefer_spec hd) _ _ _ ?_
 simp only [Region.schedule, hm, Bool.true_or, if_true]
 refine wpAnyIn_sound _ t _ a _ ?_
 refine wpAnyIn_of_quiet (C := fun w' => ∃ n, w' = w.drewN n) (Q := fun a' => ∀ w', (∃ n, w' = w.drewN n) → Q .normal a' w') hro (fun _ w' hw' h => h w' hw') _ _ _ _ ⟨1, rfl⟩ ?_
 have := wpAnyQIn_lex (F := F) (n := n) (C := fun w' => ∃ n, w' = w.drewN n) (md := .any) hB.1 l 0 (Array.replicate l.toArray.size false) a (by simp) (by simpa using hB.2) h
 simpa using this
end
namespace tar
open Go.RowKit
def KtMost : Prop := ∀ (W : World) (a : Option Addr) (len cap : Nat) (ls : List Du) (x n : Int), Came W a len cap ls → (Lit.int .i64 x).wf = true → (Lit.int .i64 n).wf = true → Calls Tryz.prog 116 #[.slice a len cap, .int .i64 x, .int .i64 n] W fun e w' => ThreePost W (MostIs ls x n) e w'
end tar
namespace acc
open tar (Du)
open Go.RowKit
def KcRekey : Prop := ∀ (W : World) (x : Ac) (p : Option Addr) (len cap : Nat), ACame W x p len cap → Calls Tryz.prog 104 #[x.v p len cap] W fun e w' => BPost W (RekeyIs x) e w'
end acc
end Go.Proofs.YtomibnggmhjdfaaGreat
