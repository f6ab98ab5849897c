import Derived.Test.YtomibnggmhjdfaaGreatVVCes12
import Derived.Test.YtomibnggmhjdfaaGreatVVCes15
set_option linter.unusedVariables false
set_option linter.unusedSimpArgs false
namespace Go.Proofs.YtomibnggmhjdfaaGreat
namespace book
open Go.RowKit
open acc (Ac Tm Bi APost BPost TFault TRight OpenIs)
set_option maxRecDepth 100000
theorem lc_upd2 {w W : World} {base g : Nat} {cs : Array Value} {t : TypeId} {v : Value} {l : List Cu} (h : Lc w base v l) (hU : Upd w W g cs t) (hg : g < base) : Lc W base v l := by
 refine ⟨h.1, ?_⟩
 rcases h.2 with hn | ⟨g', cap, cur, hv, hb, hc, rest⟩
 ·exact .inl hn
 ·exact .inr ⟨g', cap, cur, hv, hb, by rw [hU.oth g' (by omega)]; exact hc, rest⟩
theorem Holds.upd {w W : World} {base g : Nat} {cs : Array Value} {t : TypeId} {V : Value} {xs : List Cu} {bk : List Cm} (h : Holds w base V xs bk) (hU : Upd w W g cs t) (hg : g < base) : Holds W base V xs bk :=
 ⟨lc_upd2 h.row hU hg, h.len, fun i hi => ⟨(h.has i hi).num, ⟨acc_upd (h.has i hi).ds.came hU (fun hn y hy q => by have := (h.has i hi).ds.new hn y hy; omega), (h.has i hi).ds.new⟩, lo_upd (h.has i hi).so hU (fun k hk q => by have := (World.ownsRow.lt (h.has i hi).so k hk).1; omega)⟩, h.off, h.self, h.apart⟩
theorem Turned.next {w w' w'' : World} {base : Nat} {x x' : Cu} {c' : Cm} (h : Turned w w' base x x' c') (hb : Below w'.heap.size w' w'') : Turned w w'' base x x' c' := ⟨h.grown.trans (grown_of hb _), h.has.next hb, h.own, h.new, h.self⟩
theorem Turned.upd {w w' w'' : World} {base g : Nat} {cs : Array Value} {ty : TypeId} {x x' : Cu} {c' : Cm} (h : Turned w w' base x x' c') (hU : Upd w' w'' g cs ty) (hg : w.heap.size ≤ g) (h1 : ∀ k, x'.sold.ownBlock = some k → k ≠ g) (h2 : 0 < x'.dn → ∀ p, x'.dp = some p → p.block ≠ g) : Turned w w'' base x x' c' := ⟨grown_upd h.grown hU hg, ⟨h.has.num, ⟨acc_upd h.has.ds.came hU h2, h.has.ds.new⟩, lo_upd h.has.so hU h1⟩, h.own, h.new, h.self⟩
theorem Turned.prev {w0 w w' : World} {base : Nat} {x x' : Cu} {c' : Cm} (h : Turned w w' base x x' c') (hb : Below w0.heap.size w0 w) : Turned w0 w' base x x' c' := ⟨(grown_of hb _).trans h.grown, h.has, fun g hg => (h.own g hg).imp id (fun q => Nat.le_trans hb.size q), fun hn p hp => Nat.le_trans hb.size (h.new hn p hp), h.self⟩
theorem Turned.lt {w w' : World} {base : Nat} {x x' : Cu} {c' : Cm} (h : Turned w w' base x x' c') : (∀ k, x'.sold.ownBlock = some k → k < w'.heap.size) ∧ (0 < x'.dn → ∀ p, x'.dp = some p → p.block < w'.heap.size) := ⟨fun k hk => (World.ownsRow.lt h.has.so k hk).2, fun hn p hp => by
 obtain ⟨b, off, e, lb, _⟩ := h.has.ds.came.row.at hn
 rw [hp] at e
 rw [Option.some.inj e]; exact lb⟩
theorem blk_kept {w w' : World} {own : Option Nat} {g : Nat} {cs : Array Value} {ty : TypeId} (h : Blk w g cs ty) (hg : w.grownBy w' own) (hne : some g ≠ own) : Blk w' g cs ty := by
 show w'.heap[g]? = _
 rw [hg.block g h.lt hne]; exact h
theorem lc_kept {w w' : World} {base : Nat} {own : Option Nat} {v : Value} {l : List Cu} (h : Lc w base v l) (hg : w.grownBy w' own) (hne : ∀ g, v.ownBlock = some g → own ≠ some g) : Lc w' base v l := by
 refine World.ownsRow.kept h hg ?_
 cases e : v.ownBlock with
 | none => exact .inl rfl
 | some g => exact .inr (fun q => hne g e q.symm)
theorem upd_grown {w W : World} {g : Nat} {cs : Array Value} {t : TypeId} (hU : Upd w W g cs t) : w.grownBy W (some g) := by
 have hb := hU.bel 0 w (Nat.zero_le _) (Below.refl _ _)
 exact ⟨hb.os, hb.tape, hb.output, by rw [hU.size]; exact Nat.le_refl _, fun k hk hne => hU.oth k (fun e => hne (by rw [e]))⟩
theorem bel_turned {w0 w w' : World} {B : Nat} {own : Option Nat} (h : Below B w0 w) (hg : w.grownBy w' own) (hs : B ≤ w.heap.size) (ho : ∀ k, own = some k → B ≤ k) : Below B w0 w' := h.grown hg hs ho
def BookPost (w : World) (t : Tm) (l : List Ev) (e : Ending) (w' : World) : Prop := ∃ p m cap xs bk at_ f, e = .returned (.tuple #[.agg #[.slice p m cap], .int .i64 at_, .int .i64 f]) ∧ BookIs t l bk at_ f ∧ Sees w' p m xs bk ∧ m ≤ 120 ∧ Below w.heap.size w w'
theorem getD_mem {bk : List Cm} {j : Nat} (h : j < bk.length) : bk.getD j cm0 ∈ bk := by
 have e : bk.getD j cm0 = bk[j] := by simp [List.getD, List.getElem?_eq_getElem h]
 rw [e]; exact List.getElem_mem _
theorem sees_nil (w : World) : Sees w none 0 [] [] := ⟨⟨rfl, .inl rfl⟩, rfl, (fun i hi => by cases hi), (fun i hi => by cases hi), (fun i hi => by cases hi)⟩
structure Mid (w : World) (t : Tm) (pt : Option Addr) (lt ct : Nat) (l : List Ev) (g8 base k : Nat) (st : Nat → List Cm) (xs : List Cu) (pa : Option Addr) (pc : Nat) (wr : World) : Prop where
 s0 : st 0 = []
 steps : ∀ i, i < k → StepIs t (st i) (l.getD i ev0) (st (i + 1)) 0
 small : Small (st k) k
 bt : Blk wr w.heap.size #[.slice pt lt ct, .int .i64 t.ff, .int .i64 t.fb, .int .i64 t.db, .int .i64 t.al] 24
 br : Blk wr (w.heap.size + 1) #[.slice none 0 0] 29
 bb : Blk wr g8 #[.slice pa xs.length pc] 29
 hold : Holds wr base (.slice pa xs.length pc) xs (st k)
 bel : Below w.heap.size w wr
 sz : base ≤ wr.heap.size
theorem Mid.next {w : World} {t : Tm} {pt : Option Addr} {lt ct : Nat} {l : List Ev} {g8 base k : Nat} {st : Nat → List Cm} {xs : List Cu} {pa : Option Addr} {pc : Nat} {wr wr' : World} (h : Mid w t pt lt ct l g8 base k st xs pa pc wr) (hb : Below wr.heap.size wr wr') : Mid w t pt lt ct l g8 base k st xs pa pc wr' := ⟨h.s0, h.steps, h.small, h.bt.next hb, h.br.next hb, h.bb.next hb, h.hold.next hb, h.bel.trans (hb.mono h.bel.size), Nat.le_trans h.sz hb.size⟩
theorem Mid.few {w : World} {t : Tm} {pt : Option Addr} {lt ct : Nat} {l : List Ev} {g8 base k : Nat} {st : Nat → List Cm} {xs : List Cu} {pa : Option Addr} {pc : Nat} {wr : World} (h : Mid w t pt lt ct l g8 base k st xs pa pc wr) : xs.length ≤ k := by rw [h.hold.len]; exact h.small.1
theorem Mid.stop {w : World} {t : Tm} {pt : Option Addr} {lt ct : Nat} {l : List Ev} {g8 base k : Nat} {st : Nat → List Cm} {xs : List Cu} {pa : Option Addr} {pc : Nat} {wr : World} (h : Mid w t pt lt ct l g8 base k st xs pa pc wr) (hT : TRight t) (hl : l.length ≤ 120) (hk : k < l.length) {x : List Cm} {f : Int} (hs : StepIs t (st k) (l.getD k ev0) x f) (hf : f ≠ 0) : BookIs t l [] (k : Int) f := .inr (.inr ⟨hT, hl, k, st, h.s0, h.steps, .inr ⟨hk, ⟨x, hs⟩, hf, rfl, rfl⟩⟩)
end book
section
open Go.RowKit
theorem run_eqOp {P : Program} {o : Oper} {a : Act} {w : World} (ty rt : TypeId) (x y : Operand) (ho : o.op = .binOp .eql ty x y rt) (ca cb : Array Value) (hx : a.eval x = .agg ca) (hy : a.eval y = .agg cb) (hg : P.eqGuardType P.depth ty = false) (b : Bool)
  (hr : (Op.equalIn 10000 ty (.agg ca) (.agg cb)).run P w = .ok b w) : (execOp a.eval o).run P w = .ok (.value (.bool b)) w := by
 have hr' : (Op.equal ty (.agg ca) (.agg cb)).run P w = .ok b w := hr
 unfold execOp
 simp only [ho, hx, hy]
 have hp : ∀ w' : World, (program : Sem Program).run P w' = .ok P w' := fun _ => rfl
 simp [eqGuard, hg, binOp, hr', hp, Sem.run_bind]
theorem wp_eqE {P : Program} {ops : Array Oper} {rest : List Oper} {o : Oper} {a : Act} {w : World} {Q : Exit → Act → World → Prop} (hw : Region.wanted o (yielded ops a.tmps) = true) (ty rt : TypeId) (x y : Operand) (ho : o.op = .binOp .eql ty x y rt) (ca cb : Array Value) (hx : a.eval x = .agg ca) (hy : a.eval y = .agg cb) (hg : P.eqGuardType P.depth ty = false) (b : Bool)
  (hr : (Op.equalIn 10000 ty (.agg ca) (.agg cb)).run P w = .ok b w) (d : Nat) (hd : o.dst = some d) (h : wpList P ops Q rest (a.put (some d) (.bool b)) w) : wpList P ops Q (o :: rest) a w :=
 wpList_step fun K hK => by
  rw [if_pos hw]
  exact wp_runOp d hd (run_eqOp ty rt x y ho ca cb hx hy hg b hr) (hK _ _ h)
end
namespace book
open Go.RowKit
open acc (Ac Tm Bi APost BPost TFault TRight OpenIs OweIs SellIs GrantIs RekeyIs wf6 ACame TCame)
set_option maxRecDepth 100000
theorem wf_i {z : Int} (h0 : -1 ≤ z) (h1 : z ≤ 4000000000) : (Lit.int .i64 z).wf = true := by
 have h1 : IntKind.i64.min ≤ z := by have e : IntKind.i64.min = -9223372036854775808 := by decide
                                     omega
 have h2 : z ≤ IntKind.i64.max := by have e : IntKind.i64.max = 9223372036854775807 := by decide
                                     omega
 show (decide (IntKind.i64.min ≤ z) && decide (z ≤ IntKind.i64.max)) = true
 rw [Bool.and_eq_true]
 exact ⟨decide_eq_true h1, decide_eq_true h2⟩
theorem may_wf {a : Ac} (h : acc.AMay a) : wf6 a := by
 obtain ⟨_, ⟨a1, a2⟩, ⟨b1, b2⟩, ⟨c1, c2⟩, ⟨d1, d2⟩, ⟨e1, e2⟩, f1, f2⟩ := h
 exact ⟨wf_i (by omega) (by omega), wf_i (by omega) (by omega), wf_i (by omega) (by omega), wf_i (by omega) (by omega), wf_i (by omega) (by omega), wf_i (by omega) (by omega)⟩
def AWf (bk : List Cm) : Prop := ∀ c ∈ bk, wf6 c.a
theorem owe_wf {a b : Ac} {d : tar.Du} (h : OweIs a d b 0) : wf6 b ∧ b.me = a.me := by
 rcases h with ⟨_, _, e⟩ | ⟨_, _, _, e⟩ | ⟨_, _, _, _, e⟩ | ⟨p, _, _, rfl, _⟩
 ·cases e
 ·cases e
 ·cases e
 ·have h := may_wf p
  exact ⟨⟨h.1, h.2.1, h.2.2.1, h.2.2.2.1, h.2.2.2.2.1, h.2.2.2.2.2⟩, rfl⟩
theorem tells_wf {t : Tm} {c : Cm} {v : Ev} {b : Ac} {l : Bi} (h : Tells t c v b l 0) (hl : l.un ≤ 2097151) (hl0 : 0 ≤ l.un) : wf6 b ∧ b.me = c.a.me := by
 rcases h with ⟨_, h⟩ | ⟨_, h⟩ | ⟨_, h⟩
 ·rcases h with ⟨p, _, _⟩ | ⟨_, _, e, _⟩ | ⟨_, _, _, e, _⟩ | ⟨hr, _, _, _, u, _, rfl, rfl⟩
  ·exact absurd rfl (fun (q : (0 : Int) = 0) => by
    rcases p with ⟨_, p⟩ | ⟨_, p, q'⟩ | ⟨_, _, _, p⟩
    ·cases p
    ·exact p (q'.ok.1 rfl)
    ·exact p.ne rfl)
  ·cases e
  ·cases e
  ·obtain ⟨_, ⟨a1, a2⟩, ⟨b1, b2⟩, ⟨c1, c2⟩, ⟨d1, d2⟩, ⟨e1, e2⟩, f1, f2⟩ := hr.1
   obtain ⟨_, _, _, _, ⟨m1, m2⟩, ⟨k1, k2⟩, _⟩ := acc.rolled_may hr.1 hr.2.2
   have hm := hr.2.2.1
   have hu : u ≤ 2097151 := hl
   have hu0 : 0 ≤ u := hl0
   refine ⟨⟨wf_i (z := c.a.me) (by omega) (by omega), wf_i (z := c.a.rv) (by omega) (by omega), wf_i (z := c.a.nx + 1) (by omega) (by omega), wf_i (z := v.mo) (by omega) (by omega), wf_i (z := (acc.rolled c.a v.mo).bo + u) (by omega) (by omega), wf_i (z := c.a.fr) (by omega) (by omega)⟩, rfl⟩
 ·rcases h with ⟨p, _, _⟩ | ⟨_, _, e, _⟩ | ⟨_, _, _, e, _⟩ | ⟨_, _, _, _, e, _⟩ | ⟨hr, _, _, _, _, rfl, _⟩
  ·exact absurd rfl (fun (q : (0 : Int) = 0) => by
    rcases p with ⟨_, p⟩ | ⟨_, p, q'⟩ | ⟨_, _, _, p⟩
    ·cases p
    ·exact p (q'.ok.1 rfl)
    ·exact p.ne rfl)
  ·cases e
  ·cases e
  ·cases e
  ·obtain ⟨_, ⟨a1, a2⟩, ⟨b1, b2⟩, ⟨c1, c2⟩, ⟨d1, d2⟩, ⟨e1, e2⟩, f1, f2⟩ := hr.1
   obtain ⟨_, _, _, _, ⟨m1, m2⟩, ⟨k1, k2⟩, _⟩ := acc.rolled_may hr.1 hr.2.2
   have hm := hr.2.2.1
   exact ⟨⟨wf_i (z := c.a.me) (by omega) (by omega), wf_i (z := c.a.rv) (by omega) (by omega), wf_i (z := c.a.nx + 1) (by omega) (by omega), wf_i (z := v.mo) (by omega) (by omega), wf_i (z := (acc.rolled c.a v.mo).bo) (by omega) (by omega), wf_i (z := v.mo) (by omega) (by omega)⟩, rfl⟩
 ·rcases h with ⟨_, _, _, e⟩ | ⟨_, _, _, _, e⟩ | ⟨_, _, _, _, _, e⟩ | ⟨hr, _, _, rfl, _, _⟩
  ·cases e
  ·cases e
  ·cases e
  ·obtain ⟨_, ⟨a1, a2⟩, ⟨b1, b2⟩, ⟨c1, c2⟩, ⟨d1, d2⟩, ⟨e1, e2⟩, f1, f2⟩ := hr
   exact ⟨⟨wf_i (z := c.a.me) (by omega) (by omega), wf_i (z := c.a.rv + 1) (by omega) (by omega), wf_i (z := c.a.nx + 1) (by omega) (by omega), wf_i (z := c.a.mo) (by omega) (by omega), wf_i (z := c.a.bo) (by omega) (by omega), wf_i (z := c.a.fr) (by omega) (by omega)⟩, rfl⟩
theorem may_un {v : Ev} (h : EMay v) : 0 ≤ v.un ∧ v.un ≤ 2097151 := by
 unfold EMay at h; omega
theorem hap_wf {t : Tm} {c c' : Cm} {v : Ev} (h : HapIs t c v c' 0) (hm : EMay v) : wf6 c'.a ∧ c'.a.me = c.a.me := by
 rcases h with ⟨_, b, q, r⟩ | ⟨_, b, l, e, q, r⟩
 ·rw [r rfl]; exact owe_wf q
 ·rcases r with ⟨x, y⟩ | ⟨_, _, y⟩ | ⟨x, y, _, rfl⟩
  ·exact absurd y.symm x
  ·cases y
  ·subst x
   subst y
   exact tells_wf q (may_un hm).2 (may_un hm).1
theorem getD_in {bk : List Cm} {j : Nat} (h : j < bk.length) : bk.getD j cm0 ∈ bk := getD_mem h
theorem AWf.set {bk : List Cm} {k : Nat} {c : Cm} (h : AWf bk) (hc : wf6 c.a) : AWf (bk.set k c) := fun x hx => by
 rcases List.mem_or_eq_of_mem_set hx with h' | rfl
 ·exact h x h'
 ·exact hc
theorem AWf.snoc {bk : List Cm} {c : Cm} (h : AWf bk) (hc : wf6 c.a) : AWf (bk ++ [c]) := fun x hx => by
 rcases List.mem_append.1 hx with h' | h'
 ·exact h x h'
 ·rw [List.mem_singleton.1 h']; exact hc
def wrc (V : Value) (t : Tm) (pt : Option Addr) (lt ct B : Nat) : Array Value := #[V, .slice pt lt ct, .int .i64 t.ff, .int .i64 t.fb, .int .i64 t.db, .int .i64 t.al, .map (some B)]
structure Kp (base gW B : Nat) (w w' : World) : Prop where
 os : w'.os = w.os
 tape : w'.tape = w.tape
 output : w'.output = w.output
 size : w.heap.size ≤ w'.heap.size
 block : ∀ k, k < base → k ≠ gW → k ≠ B → w'.heap[k]? = w.heap[k]?
theorem Kp.refl (base gW B : Nat) (w : World) : Kp base gW B w w := ⟨rfl, rfl, rfl, Nat.le_refl _, fun _ _ _ _ => rfl⟩
theorem Kp.trans {base gW B : Nat} {a b c : World} (h : Kp base gW B a b) (k : Kp base gW B b c) : Kp base gW B a c := ⟨k.os.trans h.os, k.tape.trans h.tape, k.output.trans h.output, Nat.le_trans h.size k.size, fun i h1 h2 h3 => (k.block i h1 h2 h3).trans (h.block i h1 h2 h3)⟩
theorem Kp.of {base gW B n : Nat} {a b : World} (h : Below n a b) (hn : base ≤ n) : Kp base gW B a b := ⟨h.os, h.tape, h.output, h.size, fun i h1 _ _ => h.block i (by omega)⟩
theorem Kp.bel {base gW B n : Nat} {a b c : World} (k : Kp base gW B b c) (h : Below n a b) (hn : n ≤ base) (h1 : n ≤ gW) (h2 : n ≤ B) : Below n a c := ⟨k.os.trans h.os, k.tape.trans h.tape, k.output.trans h.output, Nat.le_trans h.size k.size, fun i hi => (k.block i (by omega) (by omega) (by omega)).trans (h.block i hi)⟩
theorem Kp.keep {base gW B G : Nat} {a b : World} {cs : Array Value} {t : TypeId} (k : Kp base gW B a b) (h : Blk a G cs t) (h0 : G < base) (h1 : G ≠ gW) (h2 : G ≠ B) : Blk b G cs t := by
 unfold Blk at *; rw [k.block G h0 h1 h2]; exact h
theorem Kp.upd {base gW B g : Nat} {a b : World} {cs : Array Value} {t : TypeId} (hU : Upd a b g cs t) (hg : base ≤ g ∨ g = gW) : Kp base gW B a b := by
 have h := hU.bel 0 a (Nat.zero_le _) (Below.refl _ _)
 exact ⟨h.os, h.tape, h.output, h.size, fun k h1 h2 _ => hU.oth k (by omega)⟩
theorem Kp.grown {base gW B : Nat} {a b : World} {own : Option Nat} (hg : a.grownBy b own) (hs : base ≤ a.heap.size) (ho : ∀ g, own = some g → base ≤ g) : Kp base gW B a b := ⟨hg.os, hg.tape, hg.output, hg.size, fun k h1 _ _ => hg.block k (by omega) (fun e => by have := ho k e.symm; omega)⟩
structure Wr (w0 : World) (base gW B : Nat) (t : Tm) (pt : Option Addr) (lt ct : Nat) (V : Value) (xs : List Cu) (bk : List Cm) (w : World) : Prop where
 blk : Blk w gW (wrc V t pt lt ct B) 106
 mp : MpI w B (mes bk)
 hold : Holds w base V xs bk
 gw : gW < base
 gb : B < base
 ne : gW ≠ B
 n0 : w0.heap.size ≤ gW
 n1 : w0.heap.size ≤ B
 sz : base ≤ w.heap.size
 bel : Below w0.heap.size w0 w
 few : Small bk 120
 wf : AWf bk
theorem Wr.next {w0 : World} {base gW B : Nat} {t : Tm} {pt : Option Addr} {lt ct : Nat} {V : Value} {xs : List Cu} {bk : List Cm} {w w' : World} (h : Wr w0 base gW B t pt lt ct V xs bk w) (hb : Below w.heap.size w w') : Wr w0 base gW B t pt lt ct V xs bk w' :=
 ⟨h.blk.next hb, h.mp.below hb, h.hold.next hb, h.gw, h.gb, h.ne, h.n0, h.n1, Nat.le_trans h.sz hb.size, h.bel.trans (hb.mono h.bel.size), h.few, h.wf⟩
theorem Wr.kp {w0 : World} {base gW B : Nat} {t : Tm} {pt : Option Addr} {lt ct : Nat} {V : Value} {xs : List Cu} {bk : List Cm} {w w' : World} (h : Wr w0 base gW B t pt lt ct V xs bk w) (hb : Below w.heap.size w w') : Kp base gW B w w' := .of hb h.sz
def WPost (w0 : World) (base gW B : Nat) (t : Tm) (pt : Option Addr) (lt ct : Nat) (R : List Cm → Int → Prop) (w : World) (e : Ending) (w' : World) : Prop :=
 Kp base gW B w w' ∧ ((∃ V xs bk', e = .returned (.tuple #[]) ∧ R bk' 0 ∧ (Small bk' 120 → Wr w0 base gW B t pt lt ct V xs bk' w')) ∨ ∃ f bk', f ≠ 0 ∧ e = .panicked (thrown f) ∧ R bk' f)
theorem WPost.back {w0 : World} {base gW B : Nat} {t : Tm} {pt : Option Addr} {lt ct : Nat} {R R' : List Cm → Int → Prop} {w1 w : World} {e : Ending} {w' : World} (h : WPost w0 base gW B t pt lt ct R w e w') (hk : Kp base gW B w1 w) (hR : ∀ b f, R b f → R' b f) : WPost w0 base gW B t pt lt ct R' w1 e w' := by
 refine ⟨hk.trans h.1, ?_⟩
 rcases h.2 with ⟨V, xs, bk', h1, h2, h3⟩ | ⟨f, bk', h1, h2, h3⟩
 ·exact .inl ⟨V, xs, bk', h1, hR _ _ h2, h3⟩
 ·exact .inr ⟨f, bk', h1, h2, hR _ _ h3⟩
theorem rowD_same {w w' : World} {a : Option Addr} {n : Nat} {zs : List tar.Du} (h : tar.RowD w a n zs) (he : 0 < n → ∀ x, a = some x → w'.heap[x.block]? = w.heap[x.block]?) : tar.RowD w' a n zs := by
 refine ⟨h.1, ?_⟩
 rcases h.2 with h0 | ⟨b, off, rfl, hc⟩
 ·exact .inl h0
 ·refine .inr ⟨b, off, rfl, fun i hi => ?_⟩
  have h1 := hc i hi
  have hb : w'.heap[b]? = w.heap[b]? := he (by omega) _ rfl
  have e : ∀ o, w'.cell? ⟨b, o, none⟩ = w.cell? ⟨b, o, none⟩ := fun o => by simp [World.cell?, hb]
  rw [e, e]; exact h1
theorem came_same {w w' : World} {a : Option Addr} {n cap : Nat} {zs : List tar.Du} (h : tar.Came w a n cap zs) (he : 0 < n → ∀ x, a = some x → w'.heap[x.block]? = w.heap[x.block]?) : tar.Came w' a n cap zs := ⟨rowD_same h.row he, h.nil, h.room, h.bytes, h.wf⟩
theorem lo_same {w w' : World} {base : Nat} {v : Value} {l : List So} (h : Lo w base v l) (he : ∀ g, v.ownBlock = some g → w'.heap[g]? = w.heap[g]?) : Lo w' base v l := by
 refine ⟨h.1, ?_⟩
 rcases h.2 with hn | ⟨g', cap, cur, hv, hb, hc, rest⟩
 ·exact .inl hn
 ·exact .inr ⟨g', cap, cur, hv, hb, by rw [he g' (by rw [hv]; rfl)]; exact hc, rest⟩
theorem Has.same {w w' : World} {base : Nat} {x : Cu} {c : Cm} (h : Has w base x c) (h1 : ∀ g, x.sold.ownBlock = some g → w'.heap[g]? = w.heap[g]?) (h2 : 0 < x.dn → ∀ p, x.dp = some p → w'.heap[p.block]? = w.heap[p.block]?) : Has w' base x c := ⟨h.num, ⟨came_same h.ds.came h2, h.ds.new⟩, lo_same h.so h1⟩
theorem Holds.put2 {w w4 : World} {base : Nat} {V : Value} {xs : List Cu} {bk : List Cm} {k : Nat} {x' : Cu} {c' : Cm} (h : Holds w base V xs bk) (hk : k < xs.length)
  (hO : ∀ g, g < w.heap.size → V.ownBlock ≠ some g → (xs.getD k cu0).sold.ownBlock ≠ some g → w4.heap[g]? = w.heap[g]?) (has : Has w4 base x' c')
  (own : ∀ g, x'.sold.ownBlock = some g → (xs.getD k cu0).sold.ownBlock = some g ∨ w.heap.size ≤ g) (new : 0 < x'.dn → ∀ p, x'.dp = some p → w.heap.size ≤ p.block) (self : ∀ g, x'.sold.ownBlock = some g → 0 < x'.dn → ∀ p, x'.dp = some p → p.block ≠ g)
  (hr : Lc w4 base V (xs.set k x')) : Holds w4 base V (xs.set k x') (bk.set k c') := by
 have hkb : k < bk.length := by rw [← h.len]; exact hk
 have lt1 : ∀ i, i < xs.length → ∀ g, (xs.getD i cu0).sold.ownBlock = some g → g < w.heap.size := fun i hi g hgg => (World.ownsRow.lt (h.has i hi).so g hgg).2
 have lt2 : ∀ i, i < xs.length → 0 < (xs.getD i cu0).dn → ∀ p, (xs.getD i cu0).dp = some p → p.block < w.heap.size := fun i hi hn p hp => by
  obtain ⟨b, off, e, lb, _⟩ := (h.has i hi).ds.came.row.at hn
  rw [hp] at e
  rw [Option.some.inj e]; exact lb
 have ltV : ∀ g, V.ownBlock = some g → g < w.heap.size := fun g hgg => (World.ownsRow.lt h.row g hgg).2
 have offx : Off x' V.ownBlock := ⟨fun g hgg q => by
  rcases own g hgg with e | e
  ·exact (h.off k hk).1 g e q
  ·have := ltV g q; omega, fun hn p hp q => by
  have h1 := new hn p hp
  have h2 := ltV p.block q.symm
  omega⟩
 have apx : ∀ i, i < xs.length → i ≠ k → Apart (xs.getD i cu0) x' := fun i hi hik => by
  refine ⟨fun g h1 h2 => ?_, fun g h1 hn p hp q => ?_, fun g h1 hn p hp q => ?_⟩
  ·rcases own g h2 with e | e
   ·exact (h.apart i k hi hk hik).1 g h1 e
   ·have := lt1 i hi g h1; omega
  ·have h3 := new hn p hp
   have h4 := lt1 i hi g h1
   omega
  ·rcases own g h1 with e | e
   ·exact (h.apart i k hi hk hik).2.2 g e hn p hp q
   ·have := lt2 i hi hn p hp; omega
 refine ⟨hr, by rw [List.length_set, List.length_set, h.len], fun i hi => ?_, fun i hi => ?_, fun i hi => ?_, fun i j hi hj hij => ?_⟩
 all_goals rw [List.length_set] at hi
 ·rw [getD_put xs x' cu0 k i hk, getD_put bk c' cm0 k i hkb]
  by_cases q : i = k
  ·rw [if_pos q, if_pos q]; exact has
  ·rw [if_neg q, if_neg q]
   have ap := h.apart i k hi hk q
   refine (h.has i hi).same (fun g hg => hO g (lt1 i hi g hg) (fun e => (h.off i hi).1 g hg e) (fun e => ap.1 g hg e)) (fun hn p hp => hO p.block (lt2 i hi hn p hp) (fun e => (h.off i hi).2 hn p hp e.symm) (fun e => ap.2.2 p.block e hn p hp rfl))
 ·rw [getD_put xs x' cu0 k i hk]
  by_cases q : i = k
  ·rw [if_pos q]; exact offx
  ·rw [if_neg q]; exact h.off i hi
 ·rw [getD_put xs x' cu0 k i hk]
  by_cases q : i = k
  ·rw [if_pos q]; exact self
  ·rw [if_neg q]; exact h.self i hi
 ·rw [List.length_set] at hj
  rw [getD_put xs x' cu0 k i hk, getD_put xs x' cu0 k j hk]
  by_cases q : i = k <;> by_cases q' : j = k
  ·omega
  ·rw [if_pos q, if_neg q']; exact (apx j hj q').symm
  ·rw [if_neg q, if_pos q']; exact apx i hi q
  ·rw [if_neg q, if_neg q']; exact h.apart i j hi hj hij
theorem lc_put2 {w W : World} {base g n cap k : Nat} {xs : List Cu} {x' : Cu} {cur : Array Value} (h : Lc w base (.slice (some ⟨g, 0, none⟩) n cap) xs) (hB : Blk w g cur 62) (hk : k < xs.length) (hW : Blk W g (putAll cur (k * 8) x'.cs) 62) : Lc W base (.slice (some ⟨g, 0, none⟩) n cap) (xs.set k x') := by
 unfold Lc at *
 rw [List.length_set]
 refine ⟨by rw [cellsC_len, List.length_set], ?_⟩
 rcases h.2 with ⟨h', _⟩ | ⟨g', cap', cur', hv, hg, hc, hn, hm, hz, ht⟩
 ·cases h'
 ·simp only [Value.slice.injEq, Option.some.injEq, Addr.mk.injEq, and_true] at hv
  obtain ⟨rfl, rfl, rfl⟩ := hv
  have e : cur' = cur := by
   have h1 : w.heap[g]? = some (.cells cur 62 (0, 0)) := hB
   rw [h1] at hc
   injection hc with hc
   injection hc with hc
   exact hc.symm
  subst e
  refine .inr ⟨g, cap, _, rfl, hg, hW, hn, hm, by rw [putAll_size]; exact hz, ?_⟩
  apply List.ext_getElem?
  intro j
  have h8 : x'.cs.length = 8 := rfl
  rw [cellsC_get, List.length_set, getD_put xs x' cu0 k (j / 8) hk]
  by_cases hj : j < xs.length * 8
  ·rw [if_pos hj, List.getElem?_take_of_lt hj, Array.getElem?_toList, putAll_get _ _ _ _ (by rw [hz, h8]; omega), h8]
   by_cases h1 : k * 8 ≤ j ∧ j < k * 8 + 8
   ·rw [if_pos h1, if_pos (by omega), show j - k * 8 = j % 8 by omega]
   ·rw [if_neg h1, if_neg (by omega)]
    have h2 : cur'.toList[j]? = (cellsC xs)[j]? := by rw [← ht, List.getElem?_take_of_lt hj]
    rw [Array.getElem?_toList] at h2
    rw [h2, cellsC_get, if_pos hj]
  ·rw [if_neg hj, List.getElem?_eq_none (by rw [List.length_take]; omega)]
theorem putAll_more (cs : Array Value) : ∀ (l : List Value) (o : Nat) (v : Value), (putAll cs o l).setIfInBounds (o + l.length) v = putAll cs o (l ++ [v])
 | [], o, v => rfl
 | x :: l, o, v => by
  have := putAll_more (cs.setIfInBounds o x) l (o + 1) v
  rw [List.cons_append, putAll, putAll, ← this, List.length_cons, show o + (l.length + 1) = o + 1 + l.length by omega]
theorem at_cust {w : World} {base n cap k : Nat} {a : Option Addr} {xs : List Cu} (h : Lc w base (.slice a n cap) xs) (hk : k < xs.length) : ∃ g cur, a = some ⟨g, 0, none⟩ ∧ base ≤ g ∧ Blk w g cur 62 ∧ k * 8 + 8 ≤ cur.size ∧ ∀ j, j < 8 → cur[k * 8 + j]? = (xs.getD k cu0).cs[j]? := by
 have hn : xs.length = n := by
  obtain ⟨a', c', hv, _⟩ := h.row
  injection hv with _ e _
  exact e.symm
 obtain ⟨g, cur, e1, e2, e3, e4, e5⟩ := lc_lies h (by omega)
 exact ⟨g, cur, e1, e2, e3, by omega, fun j hj => e5 k j hk hj⟩
end book
namespace vnd
open book (Ev Cm BookIs)
open acc (Tm)
theorem step_wf {t : Tm} {bk bk' : List Cm} {v : Ev} (h : book.StepIs t bk v bk' 0) (hw : book.AWf bk) : book.AWf bk' := by
 rcases h with ⟨_, e⟩ | ⟨_, _, _, e⟩ | ⟨m, _, _, _, rfl⟩ | ⟨_, _, _, e⟩ | ⟨m, _, k, c', _, hh, hs⟩
 ·cases e
 ·cases e
 ·exact hw.snoc ⟨(book.wf_may m).2.1, rfl, rfl, rfl, rfl, rfl⟩
 ·cases e
 ·rw [hs rfl]; exact hw.set (book.hap_wf hh m).1
theorem book_wf {t : Tm} {l : List Ev} {bk : List Cm} {a : Int} (h : BookIs t l bk a 0) : book.AWf bk := by
 obtain ⟨_, _, _, st, s0, s1, rfl⟩ := book_ok h
 have : ∀ i, i ≤ l.length → book.AWf (st i) := by
  intro i
  induction i with
  | zero => intro _ c hc; rw [s0] at hc; cases hc
  | succ i ih => intro hi; exact step_wf (s1 i (by omega)) (ih (by omega))
 exact this _ (Nat.le_refl _)
theorem load_wf {t : Tm} {c : List Int} {bk : List Cm} (h : LoadIs t c bk 0) : book.AWf bk := by
 obtain ⟨l, e, _, ⟨p, _, q⟩ | ⟨_, a, q⟩⟩ := h
 ·exact absurd q.symm p
 ·exact book_wf q
theorem book_no {t : Tm} {l : List Ev} {bk : List Cm} {a f : Int} (h : BookIs t l bk a f) (hf : f ≠ 0) : bk = [] := by
 rcases h with ⟨_, _, p, _⟩ | ⟨_, _, p, _⟩ | ⟨_, _, k, st, _, _, ⟨_, _, _, p⟩ | ⟨_, _, _, p, _⟩⟩
 ·exact p
 ·exact p
 ·exact absurd p hf
 ·exact p
end vnd
end Go.Proofs.YtomibnggmhjdfaaGreat
