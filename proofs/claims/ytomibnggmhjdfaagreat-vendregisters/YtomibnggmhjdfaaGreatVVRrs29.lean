import Derived.Test.YtomibnggmhjdfaaGreatVVRrs28
set_option linter.unusedVariables false
set_option linter.unusedSimpArgs false
namespace Go.Proofs.YtomibnggmhjdfaaGreat
namespace book
open Go.RowKit
open acc (Ac Tm Bi APost BPost TFault TRight OpenIs OweIs SellIs GrantIs RekeyIs wf6 ACame TCame)
set_option maxRecDepth 100000
theorem wf_i {z : Int} (h0 : -1 ≤ z) (h1 : z ≤ 4000000000) : (Lit.int .i64 z).wf = true := by
 have h1 : IntKind.i64.min ≤ z := by have e : IntKind.i64.min = -9223372036854775808 := by decide
                                     omega
 have h2 : z ≤ IntKind.i64.max := by have e : IntKind.i64.max = 9223372036854775807 := by decide
                                     omega
 show (decide (IntKind.i64.min ≤ z) && decide (z ≤ IntKind.i64.max)) = true
 rw [Bool.and_eq_true]
 exact ⟨decide_eq_true h1, decide_eq_true h2⟩
theorem may_wf {a : Ac} (h : acc.AMay a) : wf6 a := by
 obtain ⟨_, ⟨a1, a2⟩, ⟨b1, b2⟩, ⟨c1, c2⟩, ⟨d1, d2⟩, ⟨e1, e2⟩, f1, f2⟩ := h
 exact ⟨wf_i (by omega) (by omega), wf_i (by omega) (by omega), wf_i (by omega) (by omega), wf_i (by omega) (by omega), wf_i (by omega) (by omega), wf_i (by omega) (by omega)⟩
def AWf (bk : List Cm) : Prop := ∀ c ∈ bk, wf6 c.a
theorem owe_wf {a b : Ac} {d : tar.Du} (h : OweIs a d b 0) : wf6 b ∧ b.me = a.me := by
 rcases h with ⟨_, _, e⟩ | ⟨_, _, _, e⟩ | ⟨_, _, _, _, e⟩ | ⟨p, _, _, rfl, _⟩
 ·cases e
 ·cases e
 ·cases e
 ·have h := may_wf p
  exact ⟨⟨h.1, h.2.1, h.2.2.1, h.2.2.2.1, h.2.2.2.2.1, h.2.2.2.2.2⟩, rfl⟩
theorem tells_wf {t : Tm} {c : Cm} {v : Ev} {b : Ac} {l : Bi} (h : Tells t c v b l 0) (hl : l.un ≤ 2097151) (hl0 : 0 ≤ l.un) : wf6 b ∧ b.me = c.a.me := by
 rcases h with ⟨_, h⟩ | ⟨_, h⟩ | ⟨_, h⟩
 ·rcases h with ⟨p, _, _⟩ | ⟨_, _, e, _⟩ | ⟨_, _, _, e, _⟩ | ⟨hr, _, _, _, u, _, rfl, rfl⟩
  ·exact absurd rfl (fun (q : (0 : Int) = 0) => by
    rcases p with ⟨_, p⟩ | ⟨_, p, q'⟩ | ⟨_, _, _, p⟩
    ·cases p
    ·exact p (q'.ok.1 rfl)
    ·exact p.ne rfl)
  ·cases e
  ·cases e
  ·obtain ⟨_, ⟨a1, a2⟩, ⟨b1, b2⟩, ⟨c1, c2⟩, ⟨d1, d2⟩, ⟨e1, e2⟩, f1, f2⟩ := hr.1
   obtain ⟨_, _, _, _, ⟨m1, m2⟩, ⟨k1, k2⟩, _⟩ := acc.rolled_may hr.1 hr.2.2
   have hm := hr.2.2.1
   have hu : u ≤ 2097151 := hl
   have hu0 : 0 ≤ u := hl0
   refine ⟨⟨wf_i (z := c.a.me) (by omega) (by omega), wf_i (z := c.a.rv) (by omega) (by omega), wf_i (z := c.a.nx + 1) (by omega) (by omega), wf_i (z := v.mo) (by omega) (by omega), wf_i (z := (acc.rolled c.a v.mo).bo + u) (by omega) (by omega), wf_i (z := c.a.fr) (by omega) (by omega)⟩, rfl⟩
 ·rcases h with ⟨p, _, _⟩ | ⟨_, _, e, _⟩ | ⟨_, _, _, e, _⟩ | ⟨_, _, _, _, e, _⟩ | ⟨hr, _, _, _, _, rfl, _⟩
  ·exact absurd rfl (fun (q : (0 : Int) = 0) => by
    rcases p with ⟨_, p⟩ | ⟨_, p, q'⟩ | ⟨_, _, _, p⟩
    ·cases p
    ·exact p (q'.ok.1 rfl)
    ·exact p.ne rfl)
  ·cases e
  ·cases e
  ·cases e
  ·obtain ⟨_, ⟨a1, a2⟩, ⟨b1, b2⟩, ⟨c1, c2⟩, ⟨d1, d2⟩, ⟨e1, e2⟩, f1, f2⟩ := hr.1
   obtain ⟨_, _, _, _, ⟨m1, m2⟩, ⟨k1, k2⟩, _⟩ := acc.rolled_may hr.1 hr.2.2
   have hm := hr.2.2.1
   exact ⟨⟨wf_i (z := c.a.me) (by omega) (by omega), wf_i (z := c.a.rv) (by omega) (by omega), wf_i (z := c.a.nx + 1) (by omega) (by omega), wf_i (z := v.mo) (by omega) (by omega), wf_i (z := (acc.rolled c.a v.mo).bo) (by omega) (by omega), wf_i (z := v.mo) (by omega) (by omega)⟩, rfl⟩
 ·rcases h with ⟨_, _, _, e⟩ | ⟨_, _, _, _, e⟩ | ⟨_, _, _, _, _, e⟩ | ⟨hr, _, _, rfl, _, _⟩
  ·cases e
  ·cases e
  ·cases e
  ·obtain ⟨_, ⟨a1, a2⟩, ⟨b1, b2⟩, ⟨c1, c2⟩, ⟨d1, d2⟩, ⟨e1, e2⟩, f1, f2⟩ := hr
   exact ⟨⟨wf_i (z := c.a.me) (by omega) (by omega), wf_i (z := c.a.rv + 1) (by omega) (by omega), wf_i (z := c.a.nx + 1) (by omega) (by omega), wf_i (z := c.a.mo) (by omega) (by omega), wf_i (z := c.a.bo) (by omega) (by omega), wf_i (z := c.a.fr) (by omega) (by omega)⟩, rfl⟩
theorem may_un {v : Ev} (h : EMay v) : 0 ≤ v.un ∧ v.un ≤ 2097151 := by
 unfold EMay at h; omega
theorem hap_wf {t : Tm} {c c' : Cm} {v : Ev} (h : HapIs t c v c' 0) (hm : EMay v) : wf6 c'.a ∧ c'.a.me = c.a.me := by
 rcases h with ⟨_, b, q, r⟩ | ⟨_, b, l, e, q, r⟩
 ·rw [r rfl]; exact owe_wf q
 ·rcases r with ⟨x, y⟩ | ⟨_, _, y⟩ | ⟨x, y, _, rfl⟩
  ·exact absurd y.symm x
  ·cases y
  ·subst x
   subst y
   exact tells_wf q (may_un hm).2 (may_un hm).1
theorem getD_in {bk : List Cm} {j : Nat} (h : j < bk.length) : bk.getD j cm0 ∈ bk := getD_mem h
theorem AWf.set {bk : List Cm} {k : Nat} {c : Cm} (h : AWf bk) (hc : wf6 c.a) : AWf (bk.set k c) := fun x hx => by
 rcases List.mem_or_eq_of_mem_set hx with h' | rfl
 ·exact h x h'
 ·exact hc
theorem AWf.snoc {bk : List Cm} {c : Cm} (h : AWf bk) (hc : wf6 c.a) : AWf (bk ++ [c]) := fun x hx => by
 rcases List.mem_append.1 hx with h' | h'
 ·exact h x h'
 ·rw [List.mem_singleton.1 h']; exact hc
def wrc (V : Value) (t : Tm) (pt : Option Addr) (lt ct B : Nat) : Array Value := #[V, .slice pt lt ct, .int .i64 t.ff, .int .i64 t.fb, .int .i64 t.db, .int .i64 t.al, .map (some B)]
structure Kp (base gW B : Nat) (w w' : World) : Prop where
 os : w'.os = w.os
 tape : w'.tape = w.tape
 output : w'.output = w.output
 size : w.heap.size ≤ w'.heap.size
 block : ∀ k, k < base → k ≠ gW → k ≠ B → w'.heap[k]? = w.heap[k]?
theorem Kp.refl (base gW B : Nat) (w : World) : Kp base gW B w w := ⟨rfl, rfl, rfl, Nat.le_refl _, fun _ _ _ _ => rfl⟩
theorem Kp.trans {base gW B : Nat} {a b c : World} (h : Kp base gW B a b) (k : Kp base gW B b c) : Kp base gW B a c := ⟨k.os.trans h.os, k.tape.trans h.tape, k.output.trans h.output, Nat.le_trans h.size k.size, fun i h1 h2 h3 => (k.block i h1 h2 h3).trans (h.block i h1 h2 h3)⟩
theorem Kp.of {base gW B n : Nat} {a b : World} (h : Below n a b) (hn : base ≤ n) : Kp base gW B a b := ⟨h.os, h.tape, h.output, h.size, fun i h1 _ _ => h.block i (by omega)⟩
theorem Kp.bel {base gW B n : Nat} {a b c : World} (k : Kp base gW B b c) (h : Below n a b) (hn : n ≤ base) (h1 : n ≤ gW) (h2 : n ≤ B) : Below n a c := ⟨k.os.trans h.os, k.tape.trans h.tape, k.output.trans h.output, Nat.le_trans h.size k.size, fun i hi => (k.block i (by omega) (by omega) (by omega)).trans (h.block i hi)⟩
theorem Kp.keep {base gW B G : Nat} {a b : World} {cs : Array Value} {t : TypeId} (k : Kp base gW B a b) (h : Blk a G cs t) (h0 : G < base) (h1 : G ≠ gW) (h2 : G ≠ B) : Blk b G cs t := by
 unfold Blk at *; rw [k.block G h0 h1 h2]; exact h
theorem Kp.upd {base gW B g : Nat} {a b : World} {cs : Array Value} {t : TypeId} (hU : Upd a b g cs t) (hg : base ≤ g ∨ g = gW) : Kp base gW B a b := by
 have h := hU.bel 0 a (Nat.zero_le _) (Below.refl _ _)
 exact ⟨h.os, h.tape, h.output, h.size, fun k h1 h2 _ => hU.oth k (by omega)⟩
theorem Kp.grown {base gW B : Nat} {a b : World} {own : Option Nat} (hg : a.grownBy b own) (hs : base ≤ a.heap.size) (ho : ∀ g, own = some g → base ≤ g) : Kp base gW B a b := ⟨hg.os, hg.tape, hg.output, hg.size, fun k h1 _ _ => hg.block k (by omega) (fun e => by have := ho k e.symm; omega)⟩
structure Wr (w0 : World) (base gW B : Nat) (t : Tm) (pt : Option Addr) (lt ct : Nat) (V : Value) (xs : List Cu) (bk : List Cm) (w : World) : Prop where
 blk : Blk w gW (wrc V t pt lt ct B) 106
 mp : MpI w B (mes bk)
 hold : Holds w base V xs bk
 gw : gW < base
 gb : B < base
 ne : gW ≠ B
 n0 : w0.heap.size ≤ gW
 n1 : w0.heap.size ≤ B
 sz : base ≤ w.heap.size
 bel : Below w0.heap.size w0 w
 few : Small bk 120
 wf : AWf bk
theorem Wr.next {w0 : World} {base gW B : Nat} {t : Tm} {pt : Option Addr} {lt ct : Nat} {V : Value} {xs : List Cu} {bk : List Cm} {w w' : World} (h : Wr w0 base gW B t pt lt ct V xs bk w) (hb : Below w.heap.size w w') : Wr w0 base gW B t pt lt ct V xs bk w' :=
 ⟨h.blk.next hb, h.mp.below hb, h.hold.next hb, h.gw, h.gb, h.ne, h.n0, h.n1, Nat.le_trans h.sz hb.size, h.bel.trans (hb.mono h.bel.size), h.few, h.wf⟩
theorem Wr.kp {w0 : World} {base gW B : Nat} {t : Tm} {pt : Option Addr} {lt ct : Nat} {V : Value} {xs : List Cu} {bk : List Cm} {w w' : World} (h : Wr w0 base gW B t pt lt ct V xs bk w) (hb : Below w.heap.size w w') : Kp base gW B w w' := .of hb h.sz
def WPost (w0 : World) (base gW B : Nat) (t : Tm) (pt : Option Addr) (lt ct : Nat) (R : List Cm → Int → Prop) (w : World) (e : Ending) (w' : World) : Prop :=
 Kp base gW B w w' ∧ ((∃ V xs bk', e = .returned (.tuple #[]) ∧ R bk' 0 ∧ (Small bk' 120 → Wr w0 base gW B t pt lt ct V xs bk' w')) ∨ ∃ f bk', f ≠ 0 ∧ e = .panicked (thrown f) ∧ R bk' f)
theorem WPost.back {w0 : World} {base gW B : Nat} {t : Tm} {pt : Option Addr} {lt ct : Nat} {R R' : List Cm → Int → Prop} {w1 w : World} {e : Ending} {w' : World} (h : WPost w0 base gW B t pt lt ct R w e w') (hk : Kp base gW B w1 w) (hR : ∀ b f, R b f → R' b f) : WPost w0 base gW B t pt lt ct R' w1 e w' := by
 refine ⟨hk.trans h.1, ?_⟩
 rcases h.2 with ⟨V, xs, bk', h1, h2, h3⟩ | ⟨f, bk', h1, h2, h3⟩
 ·exact .inl ⟨V, xs, bk', h1, hR _ _ h2, h3⟩
 ·exact .inr ⟨f, bk', h1, h2, hR _ _ h3⟩
theorem rowD_same {w w' : World} {a : Option Addr} {n : Nat} {zs : List tar.Du} (h : tar.RowD w a n zs) (he : 0 < n → ∀ x, a = some x → w'.heap[x.block]? = w.heap[x.block]?) : tar.RowD w' a n zs := by
 refine ⟨h.1, ?_⟩
 rcases h.2 with h0 | ⟨b, off, rfl, hc⟩
 ·exact .inl h0
 ·refine .inr ⟨b, off, rfl, fun i hi => ?_⟩
  have h1 := hc i hi
  have hb : w'.heap[b]? = w.heap[b]? := he (by omega) _ rfl
  have e : ∀ o, w'.cell? ⟨b, o, none⟩ = w.cell? ⟨b, o, none⟩ := fun o => by simp [World.cell?, hb]
  rw [e, e]; exact h1
theorem came_same {w w' : World} {a : Option Addr} {n cap : Nat} {zs : List tar.Du} (h : tar.Came w a n cap zs) (he : 0 < n → ∀ x, a = some x → w'.heap[x.block]? = w.heap[x.block]?) : tar.Came w' a n cap zs := ⟨rowD_same h.row he, h.nil, h.room, h.bytes, h.wf⟩
theorem lo_same {w w' : World} {base : Nat} {v : Value} {l : List So} (h : Lo w base v l) (he : ∀ g, v.ownBlock = some g → w'.heap[g]? = w.heap[g]?) : Lo w' base v l := by
 refine ⟨h.1, ?_⟩
 rcases h.2 with hn | ⟨g', cap, cur, hv, hb, hc, rest⟩
 ·exact .inl hn
 ·exact .inr ⟨g', cap, cur, hv, hb, by rw [he g' (by rw [hv]; rfl)]; exact hc, rest⟩
theorem Has.same {w w' : World} {base : Nat} {x : Cu} {c : Cm} (h : Has w base x c) (h1 : ∀ g, x.sold.ownBlock = some g → w'.heap[g]? = w.heap[g]?) (h2 : 0 < x.dn → ∀ p, x.dp = some p → w'.heap[p.block]? = w.heap[p.block]?) : Has w' base x c := ⟨h.num, ⟨came_same h.ds.came h2, h.ds.new⟩, lo_same h.so h1⟩
theorem Holds.put2 {w w4 : World} {base : Nat} {V : Value} {xs : List Cu} {bk : List Cm} {k : Nat} {x' : Cu} {c' : Cm} (h : Holds w base V xs bk) (hk : k < xs.length)
  (hO : ∀ g, g < w.heap.size → V.ownBlock ≠ some g → (xs.getD k cu0).sold.ownBlock ≠ some g → w4.heap[g]? = w.heap[g]?) (has : Has w4 base x' c')
  (own : ∀ g, x'.sold.ownBlock = some g → (xs.getD k cu0).sold.ownBlock = some g ∨ w.heap.size ≤ g) (new : 0 < x'.dn → ∀ p, x'.dp = some p → w.heap.size ≤ p.block) (self : ∀ g, x'.sold.ownBlock = some g → 0 < x'.dn → ∀ p, x'.dp = some p → p.block ≠ g)
  (hr : Lc w4 base V (xs.set k x')) : Holds w4 base V (xs.set k x') (bk.set k c') := by
 have hkb : k < bk.length := by rw [← h.len]; exact hk
 have lt1 : ∀ i, i < xs.length → ∀ g, (xs.getD i cu0).sold.ownBlock = some g → g < w.heap.size := fun i hi g hgg => (World.ownsRow.lt (h.has i hi).so g hgg).2
 have lt2 : ∀ i, i < xs.length → 0 < (xs.getD i cu0).dn → ∀ p, (xs.getD i cu0).dp = some p → p.block < w.heap.size := fun i hi hn p hp => by
  obtain ⟨b, off, e, lb, _⟩ := (h.has i hi).ds.came.row.at hn
  rw [hp] at e
  rw [Option.some.inj e]; exact lb
 have ltV : ∀ g, V.ownBlock = some g → g < w.heap.size := fun g hgg => (World.ownsRow.lt h.row g hgg).2
 have offx : Off x' V.ownBlock := ⟨fun g hgg q => by
  rcases own g hgg with e | e
  ·exact (h.off k hk).1 g e q
  ·have := ltV g q; omega, fun hn p hp q => by
  have h1 := new hn p hp
  have h2 := ltV p.block q.symm
  omega⟩
 have apx : ∀ i, i < xs.length → i ≠ k → Apart (xs.getD i cu0) x' := fun i hi hik => by
  refine ⟨fun g h1 h2 => ?_, fun g h1 hn p hp q => ?_, fun g h1 hn p hp q => ?_⟩
  ·rcases own g h2 with e | e
   ·exact (h.apart i k hi hk hik).1 g h1 e
   ·have := lt1 i hi g h1; omega
  ·have h3 := new hn p hp
   have h4 := lt1 i hi g h1
   omega
  ·rcases own g h1 with e | e
   ·exact (h.apart i k hi hk hik).2.2 g e hn p hp q
   ·have := lt2 i hi hn p hp; omega
 refine ⟨hr, by rw [List.length_set, List.length_set, h.len], fun i hi => ?_, fun i hi => ?_, fun i hi => ?_, fun i j hi hj hij => ?_⟩
 all_goals rw [List.length_set] at hi
 ·rw [getD_put xs x' cu0 k i hk, getD_put bk c' cm0 k i hkb]
  by_cases q : i = k
  ·rw [if_pos q, if_pos q]; exact has
  ·rw [if_neg q, if_neg q]
   have ap := h.apart i k hi hk q
   refine (h.has i hi).same (fun g hg => hO g (lt1 i hi g hg) (fun e => (h.off i hi).1 g hg e) (fun e => ap.1 g hg e)) (fun hn p hp => hO p.block (lt2 i hi hn p hp) (fun e => (h.off i hi).2 hn p hp e.symm) (fun e => ap.2.2 p.block e hn p hp rfl))
 ·rw [getD_put xs x' cu0 k i hk]
  by_cases q : i = k
  ·rw [if_pos q]; exact offx
  ·rw [if_neg q]; exact h.off i hi
 ·rw [getD_put xs x' cu0 k i hk]
  by_cases q : i = k
  ·rw [if_pos q]; exact self
  ·rw [if_neg q]; exact h.self i hi
 ·rw [List.length_set] at hj
  rw [getD_put xs x' cu0 k i hk, getD_put xs x' cu0 k j hk]
  by_cases q : i = k <;> by_cases q' : j = k
  ·omega
  ·rw [if_pos q, if_neg q']; exact (apx j hj q').symm
  ·rw [if_neg q, if_pos q']; exact apx i hi q
  ·rw [if_neg q, if_neg q']; exact h.apart i j hi hj hij
theorem lc_put2 {w W : World} {base g n cap k : Nat} {xs : List Cu} {x' : Cu} {cur : Array Value} (h : Lc w base (.slice (some ⟨g, 0, none⟩) n cap) xs) (hB : Blk w g cur 62) (hk : k < xs.length) (hW : Blk W g (putAll cur (k * 8) x'.cs) 62) : Lc W base (.slice (some ⟨g, 0, none⟩) n cap) (xs.set k x') := by
 unfold Lc at *
 rw [List.length_set]
 refine ⟨by rw [cellsC_len, List.length_set], ?_⟩
 rcases h.2 with ⟨h', _⟩ | ⟨g', cap', cur', hv, hg, hc, hn, hm, hz, ht⟩
 ·cases h'
 ·simp only [Value.slice.injEq, Option.some.injEq, Addr.mk.injEq, and_true] at hv
  obtain ⟨rfl, rfl, rfl⟩ := hv
  have e : cur' = cur := by
   have h1 : w.heap[g]? = some (.cells cur 62 (0, 0)) := hB
   rw [h1] at hc
   injection hc with hc
   injection hc with hc
   exact hc.symm
  subst e
  refine .inr ⟨g, cap, _, rfl, hg, hW, hn, hm, by rw [putAll_size]; exact hz, ?_⟩
  apply List.ext_getElem?
  intro j
  have h8 : x'.cs.length = 8 := rfl
  rw [cellsC_get, List.length_set, getD_put xs x' cu0 k (j / 8) hk]
  by_cases hj : j < xs.length * 8
  ·rw [if_pos hj, List.getElem?_take_of_lt hj, Array.getElem?_toList, putAll_get _ _ _ _ (by rw [hz, h8]; omega), h8]
   by_cases h1 : k * 8 ≤ j ∧ j < k * 8 + 8
   ·rw [if_pos h1, if_pos (by omega), show j - k * 8 = j % 8 by omega]
   ·rw [if_neg h1, if_neg (by omega)]
    have h2 : cur'.toList[j]? = (cellsC xs)[j]? := by rw [← ht, List.getElem?_take_of_lt hj]
    rw [Array.getElem?_toList] at h2
    rw [h2, cellsC_get, if_pos hj]
  ·rw [if_neg hj, List.getElem?_eq_none (by rw [List.length_take]; omega)]
theorem putAll_more (cs : Array Value) : ∀ (l : List Value) (o : Nat) (v : Value), (putAll cs o l).setIfInBounds (o + l.length) v = putAll cs o (l ++ [v])
 | [], o, v => rfl
 | x :: l, o, v => by
  have := putAll_more (cs.setIfInBounds o x) l (o + 1) v
  rw [List.cons_append, putAll, putAll, ← this, List.length_cons, show o + (l.length + 1) = o + 1 + l.length by omega]
theorem at_cust {w : World} {base n cap k : Nat} {a : Option Addr} {xs : List Cu} (h : Lc w base (.slice a n cap) xs) (hk : k < xs.length) : ∃ g cur, a = some ⟨g, 0, none⟩ ∧ base ≤ g ∧ Blk w g cur 62 ∧ k * 8 + 8 ≤ cur.size ∧ ∀ j, j < 8 → cur[k * 8 + j]? = (xs.getD k cu0).cs[j]? := by
 have hn : xs.length = n := by
  obtain ⟨a', c', hv, _⟩ := h.row
  injection hv with _ e _
  exact e.symm
 obtain ⟨g, cur, e1, e2, e3, e4, e5⟩ := lc_lies h (by omega)
 exact ⟨g, cur, e1, e2, e3, by omega, fun j hj => e5 k j hk hj⟩
end book
namespace vnd
open book (Ev Cm BookIs)
open acc (Tm)
theorem step_wf {t : Tm} {bk bk' : List Cm} {v : Ev} (h : book.StepIs t bk v bk' 0) (hw : book.AWf bk) : book.AWf bk' := by
 rcases h with ⟨_, e⟩ | ⟨_, _, _, e⟩ | ⟨m, _, _, _, rfl⟩ | ⟨_, _, _, e⟩ | ⟨m, _, k, c', _, hh, hs⟩
 ·cases e
 ·cases e
 ·exact hw.snoc ⟨(book.wf_may m).2.1, rfl, rfl, rfl, rfl, rfl⟩
 ·cases e
 ·rw [hs rfl]; exact hw.set (book.hap_wf hh m).1
theorem book_wf {t : Tm} {l : List Ev} {bk : List Cm} {a : Int} (h : BookIs t l bk a 0) : book.AWf bk := by
 obtain ⟨_, _, _, st, s0, s1, rfl⟩ := book_ok h
 have : ∀ i, i ≤ l.length → book.AWf (st i) := by
  intro i
  induction i with
  | zero => intro _ c hc; rw [s0] at hc; cases hc
  | succ i ih => intro hi; exact step_wf (s1 i (by omega)) (ih (by omega))
 exact this _ (Nat.le_refl _)
theorem load_wf {t : Tm} {c : List Int} {bk : List Cm} (h : LoadIs t c bk 0) : book.AWf bk := by
 obtain ⟨l, e, _, ⟨p, _, q⟩ | ⟨_, a, q⟩⟩ := h
 ·exact absurd q.symm p
 ·exact book_wf q
theorem book_no {t : Tm} {l : List Ev} {bk : List Cm} {a f : Int} (h : BookIs t l bk a f) (hf : f ≠ 0) : bk = [] := by
 rcases h with ⟨_, _, p, _⟩ | ⟨_, _, p, _⟩ | ⟨_, _, k, st, _, _, ⟨_, _, _, p⟩ | ⟨_, _, _, p, _⟩⟩
 ·exact p
 ·exact p
 ·exact absurd p hf
 ·exact p
open disk (RepIs AppIs)
open book (ev0 EMay evL evOf EncIs DecIs cm0 So so0 Sees ECame FirstAt NoneAt)
open acc (Ac Bi TCame ACame)
open cell (Wr RowU)
open Go.RowKit
set_option maxRecDepth 100000
def NoTwo (w : World) (g : Nat) : Prop := ∀ o x y, w.cell? ⟨g, o, none⟩ = some (.int .i64 x) → w.cell? ⟨g, o + 1, none⟩ = some (.int .i64 y) → False
theorem shop_odd {w : World} {g : Nat} {T : TypeId} {a1 b1 : Option Addr} {a2 a3 b2 b3 : Nat} {z : Value} (hB : Blk w g #[.slice a1 a2 a3, .slice b1 b2 b3, z] T) : NoTwo w g := by
 intro o x y h1 h2
 match o, h1, h2 with
 | 0, h1, _ => rw [hB.cell 0] at h1; cases h1
 | 1, h1, _ => rw [hB.cell 1] at h1; cases h1
 | o + 2, _, h2 => rw [hB.cell (o + 2 + 1)] at h2; simp at h2
theorem rowC_far {w W : World} {g : Nat} {v' : Array Value} {T' : TypeId} {p : Option Addr} {n : Nat} {xs : List book.Cu} (h : book.RowC w p n xs) (hg : NoTwo w g) (hU : Upd w W g v' T') : book.RowC W p n xs := by
 refine ⟨h.1, ?_⟩
 rcases h.2 with h0 | ⟨b, off, rfl, lb, hc⟩
 ·exact .inl h0
 ·rcases Nat.eq_zero_or_pos n with h0 | h0
  ·exact .inl h0
  ·have hne : b ≠ g := fun e => by
    subst e
    have h1 := hc 0 0 h0 (by decide)
    have h2 := hc 0 1 h0 (by decide)
    exact hg (off + 0 * 8 + 0) (xs.getD 0 book.cu0).me (xs.getD 0 book.cu0).rv (by rw [h1]; rfl) (by rw [show off + 0 * 8 + 0 + 1 = off + 0 * 8 + 1 by omega, h2]; rfl)
   exact .inr ⟨b, off, rfl, by rw [hU.size]; exact lb, fun i j hi hj => by rw [hU.cell _ hne rfl]; exact hc i j hi hj⟩
theorem rowS_far {w W : World} {g : Nat} {v' : Array Value} {T' : TypeId} {p : Option Addr} {n : Nat} {l : List So} (h : book.RowS w p n l) (hg : NoTwo w g) (hU : Upd w W g v' T') : book.RowS W p n l := by
 refine ⟨h.1, ?_⟩
 rcases h.2 with h0 | ⟨b, off, rfl, lb, hc⟩
 ·exact .inl h0
 ·rcases Nat.eq_zero_or_pos n with h0 | h0
  ·exact .inl h0
  ·have hne : b ≠ g := fun e => by
    subst e
    have h1 := hc 0 0 h0 (by decide)
    have h2 := hc 0 1 h0 (by decide)
    exact hg (off + 0 * 5 + 0) (l.getD 0 so0).id (l.getD 0 so0).cl (by rw [h1]; rfl) (by rw [show off + 0 * 5 + 0 + 1 = off + 0 * 5 + 1 by omega, h2]; rfl)
   exact .inr ⟨b, off, rfl, by rw [hU.size]; exact lb, fun i j hi hj => by rw [hU.cell _ hne rfl]; exact hc i j hi hj⟩
theorem came_far {w W : World} {g : Nat} {v' : Array Value} {T' : TypeId} {p : Option Addr} {n cap : Nat} {l : List tar.Du} (h : tar.Came w p n cap l) (hg : NoTwo w g) (hU : Upd w W g v' T') : tar.Came W p n cap l :=
 acc.came_upd h hU fun hn x hx e => by
  obtain ⟨b, off, hp, lb, hc⟩ := h.row.at hn
  rw [hp] at hx
  cases hx
  have e2 : b = g := e
  subst e2
  exact hg _ _ _ (hc 0 hn).1 (hc 0 hn).2
theorem sees_far {w W : World} {g : Nat} {v' : Array Value} {T' : TypeId} {p : Option Addr} {n : Nat} {xs : List book.Cu} {bk : List Cm} (h : Sees w p n xs bk) (hg : NoTwo w g) (hU : Upd w W g v' T') : Sees W p n xs bk :=
 ⟨rowC_far h.row hg hU, h.len, h.num, fun i hi => came_far (h.ds i hi) hg hU, fun i hi => rowS_far (h.so i hi) hg hU⟩
end vnd
namespace acc
open tar (Du du0 Came RowD Ld PairT)
open Go.RowKit
set_option maxRecDepth 100000
structure Chg (w W : World) (g : Nat) : Prop where
 os : W.os = w.os
 tape : W.tape = w.tape
 output : W.output = w.output
 size : w.heap.size ≤ W.heap.size
 oth : ∀ k, k < w.heap.size → k ≠ g → W.heap[k]? = w.heap[k]?
theorem Chg.refl (w : World) (g : Nat) : Chg w w g := ⟨rfl, rfl, rfl, Nat.le_refl _, fun _ _ _ => rfl⟩
theorem Chg.trans {w W V : World} {g : Nat} (h : Chg w W g) (h' : Chg W V g) : Chg w V g :=
 ⟨h'.os.trans h.os, h'.tape.trans h.tape, h'.output.trans h.output, Nat.le_trans h.size h'.size, fun k hk hne => (h'.oth k (Nat.lt_of_lt_of_le hk h.size) hne).trans (h.oth k hk hne)⟩
theorem Chg.of {w W : World} {g : Nat} (hb : Below w.heap.size w W) : Chg w W g := ⟨hb.os, hb.tape, hb.output, hb.size, fun k hk _ => hb.block k hk⟩
theorem Chg.upd {w W : World} {g : Nat} {cs : Array Value} {t : TypeId} (hu : Upd w W g cs t) : Chg w W g := by
 have h := hu.bel 0 w (Nat.zero_le _) (Below.refl _ _)
 exact ⟨h.os, h.tape, h.output, h.size, fun k _ hne => hu.oth k hne⟩
theorem Chg.keep {w W : World} {g G : Nat} {cs : Array Value} {t : TypeId} (h : Chg w W g) (hb : Blk w G cs t) (hne : G ≠ g) : Blk W G cs t := by
 have hl := hb.lt
 unfold Blk at *
 rw [h.oth G hl hne]; exact hb
theorem Chg.bel {w W : World} {g : Nat} (h : Chg w W g) (hl : g ≤ w.heap.size) : Below g w W :=
 ⟨h.os, h.tape, h.output, h.size, fun k hk => h.oth k (by omega) (by omega)⟩
def Far (p : Option Addr) (len g : Nat) : Prop := 0 < len → ∀ y, p = some y → y.block ≠ g
theorem row_chg {w W : World} {g : Nat} {p : Option Addr} {len : Nat} {l : List Du} (h : RowD w p len l) (hc : Chg w W g) (hf : Far p len g) : RowD W p len l := by
 refine ⟨h.1, ?_⟩
 rcases Nat.eq_zero_or_pos len with h0 | h0
 ·exact .inl h0
 ·obtain ⟨b, off, rfl, hb, hcs⟩ := h.at h0
  have hne : b ≠ g := hf h0 _ rfl
  refine .inr ⟨b, off, rfl, fun i hi => ?_⟩
  have e : ∀ o, W.cell? ⟨b, o, none⟩ = w.cell? ⟨b, o, none⟩ := fun o => by simp only [World.cell?, hc.oth b hb hne]
  rw [e, e]; exact hcs i hi
theorem came_chg {w W : World} {g : Nat} {p : Option Addr} {len cap : Nat} {l : List Du} (h : Came w p len cap l) (hc : Chg w W g) (hf : Far p len g) : Came W p len cap l := ⟨row_chg h.row hc hf, h.nil, h.room, h.bytes, h.wf⟩
theorem fresh_far {w : World} {g : Nat} {p : Option Addr} {len cap : Nat} {l : List Du} (h : deb.Fresh w (g + 1) p len cap l) : Far p len g := fun hn y hy => by have := h.new hn y hy; omega
theorem fresh_chg {w W : World} {g : Nat} {p : Option Addr} {len cap : Nat} {l : List Du} (h : deb.Fresh w (g + 1) p len cap l) (hc : Chg w W g) : deb.Fresh W (g + 1) p len cap l := ⟨came_chg h.came hc (fresh_far h), h.new⟩
def wcs (x : Ac) (b : Bi) (p : Option Addr) (len cap : Nat) : Array Value := #[.int .i64 x.me, .int .i64 x.rv, .int .i64 x.nx, .int .i64 x.mo, .int .i64 x.bo, .int .i64 x.fr, .slice p len cap, .int .i64 b.id, .int .i64 b.te, .int .i64 b.de, .int .i64 b.fe, .int .i64 b.pr, .int .i64 b.ch, .int .i64 b.un]
def WPost (w : World) (g : Nat) (R : Ac → Bi → Int → Prop) (e : Ending) (w' : World) : Prop := ∃ y b q n c f, e = .returned (.int .i64 f) ∧ R y b f ∧ Blk w' g (wcs y b q n c) 121 ∧ deb.Fresh w' (g + 1) q n c y.ds ∧ Below g w w'
def DPost (w : World) (g : Nat) (R : Ac → Bi → Int → Prop) (e : Ending) (w' : World) : Prop := ∃ y b q n c f, e = .returned (.int .i64 f) ∧ R y b f ∧ Blk w' g (wcs y b q n c) 121 ∧ deb.Fresh w' (g + 1) q n c y.ds ∧ Chg w w' g
theorem DPost.w {w w' : World} {g : Nat} {R : Ac → Bi → Int → Prop} {e : Ending} (h : DPost w g R e w') (hl : g ≤ w.heap.size) : WPost w g R e w' := by
 obtain ⟨y, b, q, n, c, f, h1, h2, h3, h4, h5⟩ := h
 exact ⟨y, b, q, n, c, f, h1, h2, h3, h4, h5.bel hl⟩
def Or0 (Is : Ac → Bi → Int → Prop) (y : Ac) (b : Bi) (f : Int) : Prop := (f ≠ 0 ∧ Is ac0 bi0 f) ∨ (f = 0 ∧ Is y b 0)
theorem blk_new4 (w : World) (o p q r : Obj) (cs : Array Value) (t : TypeId) : Blk (((((w.alloc o).alloc p).alloc q).alloc r).alloc (.cells cs t)) (w.heap.size + 1 + 1 + 1 + 1) cs t := by
 have h := Blk.new ((((w.alloc o).alloc p).alloc q).alloc r) cs t
 rwa [show ((((w.alloc o).alloc p).alloc q).alloc r).heap.size = w.heap.size + 1 + 1 + 1 + 1 by simp] at h
theorem blk_new5 (w : World) (o p q r s : Obj) (cs : Array Value) (t : TypeId) : Blk ((((((w.alloc o).alloc p).alloc q).alloc r).alloc s).alloc (.cells cs t)) (w.heap.size + 1 + 1 + 1 + 1 + 1) cs t := by
 have h := Blk.new (((((w.alloc o).alloc p).alloc q).alloc r).alloc s) cs t
 rwa [show (((((w.alloc o).alloc p).alloc q).alloc r).alloc s).heap.size = w.heap.size + 1 + 1 + 1 + 1 + 1 by simp] at h
theorem wp_letOp1 {P : Program} {o : Oper} {a : Act} {w : World} {K : Act → World → Prop} {Q : Exit → Act → World → Prop} (ty : TypeId) (x y : Operand) (ho : o.op = .store ty x y)
  (g off : Nat) (hx : a.eval x = .pointer (some ⟨g, off, none⟩)) (v : Value) (hy : a.eval y = v) (hv : v.cells = #[v]) (hi : (P.info? ty).map (·.size) = some 1) (h1 : v.oneCell' = true)
  (cs : Array Value) (t : TypeId) (hB : Blk w g cs t) (hin : off < cs.size) (hd : o.dst = none)
  (h : ∀ W, Upd w W g (cs.setIfInBounds off v) t → K a W) : o.wp P a w K Q := by
 have hs := run_storeVar_let (P := P) (w := w) (g := g) (off := off) (ty := ty) (t := t) (v := v) (cells := #[v]) (cs := cs) hv (by simpa using hi) (by simpa using h1) hB (by simp; omega)
 have hu := upd_cells g t [v] off w cs hB
 unfold Oper.wp execOp
 simp only [ho, hx, hy, Instr.storeAt, Instr.sureAddr, Sem.run_bind, Sem.run_pure, Result.andThen_ok, hs]
 have := h _ hu
 have e : a.put o.dst undef = a := by rw [hd]; rfl
 rw [← e] at this
 exact this
theorem awithin (lo hi n : Int) (w : World) : Calls Tryz.prog 69 #[.int .i64 lo, .int .i64 hi, .int .i64 n] w fun e w' => e = .returned (.bool (decide (lo ≤ n ∧ n ≤ hi))) ∧ w' = w := by
 by_cases h1 : lo ≤ n
 ·by_cases h2 : n ≤ hi
  ·have h3 : decide (lo ≤ n ∧ n ≤ hi) = true := by simp; omega
   rw [h3]; clear h3
   go_enter Tryz.func69, Tryz.ntmps69
   go_wp2
   go_ret
   exact ⟨rfl, rfl⟩
  ·have h3 : decide (lo ≤ n ∧ n ≤ hi) = false := by simp; omega
   have h4 : decide (n ≤ hi) = false := by simp; omega
   rw [h3]; clear h3 h2
   go_enter Tryz.func69, Tryz.ntmps69
   go_wp2
   go_ret
   exact ⟨rfl, rfl⟩
 ·have h3 : decide (lo ≤ n ∧ n ≤ hi) = false := by simp; omega
  have h4 : decide (lo ≤ n) = false := by simp; omega
  rw [h3]; clear h3 h1
  go_enter Tryz.func69, Tryz.ntmps69
  go_wp2
  go_ret
  exact ⟨rfl, rfl⟩
end acc
namespace deb
open tar (Du du0 Came TwoPost)
open Go.RowKit
def KdAge : Prop := ∀ (W : World) (a : Option Addr) (len cap : Nat) (ls : List Du) (m : Int), Came W a len cap ls → (Lit.int .i64 m).wf = true → Calls Tryz.prog 122 #[.slice a len cap, .int .i64 m] W fun e w' => AgePost W ls m e w'
open tar (RowD Ld ErrPost PairT GaveD)
set_option maxRecDepth 100000
theorem dwithin (lo hi n : Int) (w : World) : Calls Tryz.prog 107 #[.int .i64 lo, .int .i64 hi, .int .i64 n] w fun e w' => e = .returned (.bool (decide (lo ≤ n ∧ n ≤ hi))) ∧ w' = w := by
 by_cases h1 : lo ≤ n
 ·by_cases h2 : n ≤ hi
  ·have h3 : decide (lo ≤ n ∧ n ≤ hi) = true := by simp; omega
   rw [h3]; clear h3
   go_enter Tryz.func107, Tryz.ntmps107
   go_wp2
   go_ret
   exact ⟨rfl, rfl⟩
  ·have h3 : decide (lo ≤ n ∧ n ≤ hi) = false := by simp; omega
   have h4 : decide (n ≤ hi) = false := by simp; omega
   rw [h3]; clear h3 h2
   go_enter Tryz.func107, Tryz.ntmps107
   go_wp2
   go_ret
   exact ⟨rfl, rfl⟩
 ·have h3 : decide (lo ≤ n ∧ n ≤ hi) = false := by simp; omega
  have h4 : decide (lo ≤ n) = false := by simp; omega
  rw [h3]; clear h3 h1
  go_enter Tryz.func107, Tryz.ntmps107
  go_wp2
  go_ret
  exact ⟨rfl, rfl⟩
set_option maxHeartbeats 2000000 in
theorem pcheck (a : Option Addr) (n cap : Nat) (ls : List Du) (w : World) (hr : RowD w a n ls) (hn : n ≤ maxLen) : Calls Tryz.prog 100 #[.slice a n cap] w fun e w' => ∃ f, e = .returned (.int .i64 f) ∧ FaultIs ls f ∧ Below w.heap.size w w' := by
 have hlen := hr.1
 have HIU : Hid (∀ x W, Calls Tryz.prog 107 #[.int .i64 0, .int .i64 1000000000, .int .i64 x] W fun e w' => e = .returned (.bool (decide (0 ≤ x ∧ x ≤ 1000000000))) ∧ w' = W) := fun x W => dwithin 0 1000000000 x W
 have HIP : Hid (∀ x W, Calls Tryz.prog 107 #[.int .i64 0, .int .i64 10000, .int .i64 x] W fun e w' => e = .returned (.bool (decide (0 ≤ x ∧ x ≤ 10000))) ∧ w' = W) := fun x W => dwithin 0 10000 x W
 have hnm : n ≤ 9223372036854775807 := by unfold maxLen at hn; omega
 by_cases hs : n ≤ 8
 ·have HS : Hid (ls.length ≤ 8) := by show _ ≤ _; rw [hlen]; exact hs
  have hd8 : decide (8 < (n : Int)) = false := decide_eq_false (by omega)
  have HROW : Hid (RowD w a n ls) := hr
  have HLEN : Hid (ls.length = n) := hlen
  clear hr hn hlen
  go_enter Tryz.func100, Tryz.ntmps100
  go_wp2_with fail
  go_loopw [10] (fun x wr => ∃ k : Nat, k ≤ n ∧ x = .int .i64 (k : Int) ∧ (∀ i, i < k → Ok1 (ls.getD i du0)) ∧ Below w.heap.size w wr) (fun x _ => n - (intOf x).toNat)
  case atStart => exact ⟨0, Nat.zero_le _, rfl, fun i hi => absurd hi (Nat.not_lt_zero _), Below.refl _ _⟩
  case round =>
   obtain ⟨k, hk, rfl, hf, hb⟩ := hrel
   have HF : Hid (∀ i, i < k → Ok1 (ls.getD i du0)) := hf
   have HB : Hid (Below w.heap.size w wr) := hb
   clear hf
   by_cases hlt : k < n
   ·have hdl : decide ((k : Int) < (n : Int)) = true := by simp; omega
    obtain ⟨b, off, rfl, hbl, hc⟩ := HROW.out.at (by omega)
    have c0 : wr.cell? ⟨b, off + k * 2, none⟩ = some (.int .i64 (ls.getD k du0).a) := (hb.cell (p := ⟨b, off + k * 2, none⟩) hbl).trans (hc k hlt).1
    have c1 : wr.cell? ⟨b, off + k * 2 + 1, none⟩ = some (.int .i64 (ls.getD k du0).b) := (hb.cell (p := ⟨b, off + k * 2 + 1, none⟩) hbl).trans (hc k hlt).2
    have HBA : Hid (∀ o, Below w.heap.size w (wr.alloc o)) := fun o => hb.alloc hb.size o
    clear hb hc
    have HU := HIU.out (ls.getD k du0).a
    have HP := HIP.out (ls.getD k du0).b
    by_cases hu : 0 ≤ (ls.getD k du0).a ∧ (ls.getD k du0).a ≤ 1000000000
    ·rw [decide_eq_true hu] at HU
     by_cases hp : 0 ≤ (ls.getD k du0).b ∧ (ls.getD k du0).b ≤ 10000
     ·
      rw [decide_eq_true hp] at HP
      have HF2 : Hid (∀ i, i < k + 1 → Ok1 (ls.getD i du0)) := fun i hi => by
       by_cases e : i = k
       ·subst e; exact ⟨hu, hp⟩
       ·exact HF.out i (by omega)
      have HU2 : Hid (∀ W, Calls Tryz.prog 107 #[.int .i64 0, .int .i64 1000000000, .int .i64 (ls.getD k du0).a] W fun e w' => e = .returned (.bool true) ∧ w' = W) := HU
      have HP2 : Hid (∀ W, Calls Tryz.prog 107 #[.int .i64 0, .int .i64 10000, .int .i64 (ls.getD k du0).b] W fun e w' => e = .returned (.bool true) ∧ w' = W) := HP
      clear HU HP hu hp HF
      generalize (ls.getD k du0).a = x at *
      generalize (ls.getD k du0).b = y at *
      go_wp2_with fail
      refine (HU2.out _).mono ?_
      rintro e w2 ⟨rfl, hw2⟩
      subst w2
      go_wp2_with fail
      refine (HP2.out _).mono ?_
      rintro e w2 ⟨rfl, hw2⟩
      subst w2
      go_wp2_with fail
      go_roundw
      case rel => exact ⟨k + 1, by omega, by go_num, HF2.out, HBA.out _⟩
      case measure => simp [intOf]; omega
     ·
      rw [decide_eq_false hp] at HP
      have HN : Hid (¬ DFits ls) := fun h => hp (h k (by rw [HLEN.out]; exact hlt)).2
      have HU2 : Hid (∀ W, Calls Tryz.prog 107 #[.int .i64 0, .int .i64 1000000000, .int .i64 (ls.getD k du0).a] W fun e w' => e = .returned (.bool true) ∧ w' = W) := HU
      have HP2 : Hid (∀ W, Calls Tryz.prog 107 #[.int .i64 0, .int .i64 10000, .int .i64 (ls.getD k du0).b] W fun e w' => e = .returned (.bool false) ∧ w' = W) := HP
      clear HU HP hu hp HF
      generalize (ls.getD k du0).a = x at *
      generalize (ls.getD k du0).b = y at *
      go_wp2_with fail
      refine (HU2.out _).mono ?_
      rintro e w2 ⟨rfl, hw2⟩
      subst w2
      go_wp2_with fail
      refine (HP2.out _).mono ?_
      rintro e w2 ⟨rfl, hw2⟩
      subst w2
      go_wp2_with fail
      go_ret
      exact ⟨_, rfl, .inr (.inl ⟨HS.out, HN.out, rfl⟩), HBA.out _⟩
    ·
     rw [decide_eq_false hu] at HU
     have HN : Hid (¬ DFits ls) := fun h => hu (h k (by rw [HLEN.out]; exact hlt)).1
     have HU2 : Hid (∀ W, Calls Tryz.prog 107 #[.int .i64 0, .int .i64 1000000000, .int .i64 (ls.getD k du0).a] W fun e w' => e = .returned (.bool false) ∧ w' = W) := HU
     clear HU HP hu HF
     generalize (ls.getD k du0).a = x at *
     generalize (ls.getD k du0).b = y at *
     go_wp2_with fail
     refine (HU2.out _).mono ?_
     rintro e w2 ⟨rfl, hw2⟩
     subst w2
     go_wp2_with fail
     go_ret
     exact ⟨_, rfl, .inr (.inl ⟨HS.out, HN.out, rfl⟩), HBA.out _⟩
   ·obtain rfl : k = n := by omega
    have hdl : decide ((k : Int) < (k : Int)) = false := by simp
    have HFT : Hid (DFits ls) := fun i hi => HF.out i (by rw [HLEN.out] at hi; exact hi)
    clear HF HIU HIP hb
    go_wp2_with fail
    go_ret
    exact ⟨_, rfl, .inr (.inr ⟨⟨HS.out, HFT.out⟩, rfl⟩), HB.out⟩
 ·have HS : Hid (¬ ls.length ≤ 8) := by show ¬ _ ≤ _; rw [hlen]; exact hs
  have hd8 : decide (8 < (n : Int)) = true := decide_eq_true (by omega)
  clear hs hr hlen hn
  go_enter Tryz.func100, Tryz.ntmps100
  go_wp2_with fail
  go_ret
  exact ⟨_, rfl, .inl ⟨HS.out, rfl⟩, Below.refl _ _⟩
end deb
end Go.Proofs.YtomibnggmhjdfaaGreat
