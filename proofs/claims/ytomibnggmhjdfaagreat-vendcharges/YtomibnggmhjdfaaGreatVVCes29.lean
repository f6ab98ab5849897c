import Derived.Test.YtomibnggmhjdfaaGreatVVCes16
import Derived.Test.YtomibnggmhjdfaaGreatVVCes23
import Derived.Test.YtomibnggmhjdfaaGreatVVCes25
import Derived.Test.YtomibnggmhjdfaaGreatVVCes26
import Derived.Test.YtomibnggmhjdfaaGreatVVCes28
set_option linter.unusedVariables false
set_option linter.unusedSimpArgs false
namespace Go.Proofs.YtomibnggmhjdfaaGreat
namespace vnd
open cell (Wr RowU RowW)
open Go.RowKit
set_option maxRecDepth 100000
def WrGot (w : World) (R : List Wr → Int → Prop) (e : Ending) (w' : World) : Prop := ∃ p m cp ls f, e = .returned (.tuple #[.slice p m cp, .int .i64 f]) ∧ R ls f ∧ RowW w' p m ls ∧ (∀ x, p = some x → w.heap.size ≤ x.block) ∧ m ≤ cp ∧ m ≤ 100000 ∧ Below w.heap.size w w'
open book (Ev ev0 Cm cm0 So so0 Sees)
open acc (Ac Tm Bi)
def KvCha : Prop := ∀ (W : World) (t : Tm) (pt : Option Addr) (lt ct : Nat) (a : Option Addr) (n cap : Nat) (c : List Int) (me : Int) (q : tar.Du), acc.TCame W t pt lt ct → Dk W a n cap c → (Lit.int .i64 me).wf = true → (Lit.int .i64 q.a).wf = true → (Lit.int .i64 q.b).wf = true → Calls Tryz.prog 15 #[t.v pt lt ct, .slice a n cap, .int .i64 me, .agg #[.int .i64 q.a, .int .i64 q.b]] W fun e w' => WrGot W (ChaIs t c me q.a q.b) e w'
end vnd
namespace cell
open Go.RowKit
set_option maxRecDepth 100000
theorem in_yes (n lo hi : Int) (w : World) (h1 : lo ≤ n) (h2 : n ≤ hi) :
  Calls Tryz.prog 25 #[.int .i64 n, .int .i64 lo, .int .i64 hi] w fun e w' => e = .returned (.bool true) ∧ w' = w := by
 go_enter Tryz.func25, Tryz.ntmps25
 go_wp2
 go_ret
 exact ⟨rfl, rfl⟩
theorem in_no (n lo hi : Int) (w : World) (h : n < lo ∨ hi < n) :
  Calls Tryz.prog 25 #[.int .i64 n, .int .i64 lo, .int .i64 hi] w fun e w' => e = .returned (.bool false) ∧ w' = w := by
 by_cases h0 : n < lo
 ·clear h
  go_enter Tryz.func25, Tryz.ntmps25
  go_wp2
  go_ret
  exact ⟨rfl, rfl⟩
 ·have h1 : lo ≤ n := by omega
  have h2 : decide (n ≤ hi) = false := by simp; omega
  clear h h0
  go_enter Tryz.func25, Tryz.ntmps25
  go_wp2
  go_ret
  exact ⟨rfl, rfl⟩
end cell
namespace book
open Go.RowKit
open acc (Ac Tm Bi APost BPost OweIs SellIs GrantIs RekeyIs)
set_option maxRecDepth 100000
theorem rhap (a : Ac) (sol : List So) (dp : Option Addr) (dn dc : Nat) (sp : Option Addr) (sn sc : Nat) (t : Tm) (pt : Option Addr) (lt ct : Nat) (v : Ev) (base : Nat) (w : World) (hx : Has w base (cuA a dp dn dc sp sn sc) ⟨a, sol⟩) (ht : tar.RowD w pt lt t.ts) (htl : lt ≤ maxLen) (hbase : base ≤ w.heap.size) (hkd : v.kd = 2 ∨ v.kd = 3 ∨ v.kd = 4 ∨ v.kd = 5) (hsol : sol.length ≤ 2000000) (hrv : 0 ≤ a.rv ∧ a.rv ≤ 15) :
  Calls Tryz.prog 37 #[.agg #[.slice pt lt ct, .int .i64 t.ff, .int .i64 t.fb, .int .i64 t.db, .int .i64 t.al], .agg #[.int .i64 a.me, .int .i64 a.rv, .int .i64 a.nx, .int .i64 a.mo, .int .i64 a.bo, .int .i64 a.fr, .slice dp dn dc, .slice sp sn sc], .agg #[.int .i64 v.kd, .int .i64 v.me, .int .i64 v.mo, .int .i64 v.id, .int .i64 v.te, .int .i64 v.de, .int .i64 v.fe, .int .i64 v.pr, .int .i64 v.ch, .int .i64 v.un, .int .i64 v.tg, .int .i64 v.ow, .int .i64 v.bp]] w fun e w' => HapPost w base t (cuA a dp dn dc sp sn sc) ⟨a, sol⟩ v e w' := by
 rcases hkd with h | h | h | h
 ·exact rhap2 a sol dp dn dc sp sn sc t pt lt ct v base w hx ht htl hbase h hsol
 ·exact rhap3 a sol dp dn dc sp sn sc t pt lt ct v base w hx ht htl hbase h hsol
 ·exact rhap4 a sol dp dn dc sp sn sc t pt lt ct v base w hx ht htl hbase h hsol hrv
 ·exact rhap5 a sol dp dn dc sp sn sc t pt lt ct v base w hx ht htl hbase h
end book
namespace disk
open Go.RowKit cell
set_option maxRecDepth 100000
def AppPost (w : World) (c r : List Int) (e : Ending) (w' : World) : Prop :=
 ∃ V ls f, e = .returned (.tuple #[V, .int .i64 f]) ∧ Lw w' w.heap.size V ls ∧ AppIs c r ls f ∧ Below w.heap.size w w'
theorem put_next (p k : Nat) (r : List Int) : putW p r k ++ [⟨(p : Int) + (k : Int) + 1, r.getD k 0⟩] = putW p r (k + 1) := by
 rw [putW, show ((p + k + 1 : Nat) : Int) = (p : Int) + (k : Int) + 1 by omega]
theorem app_yes {c : List Int} {p : Nat} {r : List Int} (h : p + r.length + 1 < c.length) : putW p r r.length ++ [⟨(p : Int) + (r.length : Int) + 1, 0⟩] ++ [⟨(p : Int), (r.length : Int)⟩] = appW c p r := by
 unfold appW zeroW
 rw [if_pos h, List.append_assoc, show ((p + r.length + 1 : Nat) : Int) = (p : Int) + (r.length : Int) + 1 by omega]
theorem app_no {c : List Int} {p : Nat} {r : List Int} (h : ¬ p + r.length + 1 < c.length) : putW p r r.length ++ [⟨(p : Int), (r.length : Int)⟩] = appW c p r := by
 unfold appW zeroW
 rw [if_neg h, List.nil_append]
end disk
namespace cell
open Go.RowKit
set_option maxRecDepth 100000
def GaveU (w : World) (zs : List Int) (e : Ending) (w' : World) : Prop := ∃ v, e = .returned v ∧ Ws w' w.heap.size v zs ∧ Below w.heap.size w w'
theorem GaveU.mk {w w' : World} {zs : List Int} {v : Value} (h1 : Ws w' w.heap.size v zs) (h2 : Below w.heap.size w w') : GaveU w zs (.returned v) w' := ⟨v, rfl, h1, h2⟩
end cell
namespace disk
open Go.RowKit cell
set_option maxRecDepth 100000
set_option maxHeartbeats 400000 in
theorem clone_any (x : Addr) (len cap : Nat) (zs : List Int) (w : World) (hr : RowU w (some x) len zs) (hl : len ≤ 100000) :
  Calls Tryz.prog 72 #[.slice (some x) len cap] w fun e w' => GaveU w zs e w' := by
 obtain ⟨i0, hi, hz0, hz1, hz2⟩ := info_parts info_u32
 obtain ⟨hz, hr⟩ := hr
 have hown : (w.alloc (.cells #[] 64)).ownsRow w.heap.size 64 1 (.slice (some ⟨w.heap.size, 0, none⟩) 0 0) 0 [] := World.ownsRow_lit w #[] 0 (Nat.le_refl _) (by unfold maxLen; omega) rfl
 have HO : Hid ((w.alloc (.cells #[] 64)).ownsRow w.heap.size 64 1 (.slice (some ⟨w.heap.size, 0, none⟩) 0 0) 0 []) := hown
 have HSZ : Hid (w.heap.size ≤ (w.alloc (.cells #[] 64)).heap.size) := alloc_le (Nat.le_refl _) _
 clear hown
 have heq : ∀ W : World, (binOp BinOp.eql 25 (.slice (some x) len cap) (.slice none 0 0)).run Tryz.prog W = .ok (.bool false) W := fun W => by kernel_rfl
 go_enter Tryz.func72, Tryz.ntmps72
 go_wp2_with (first
  | (at_builtin; refine wpList_append_own _ rfl _ _ 25 rfl w.heap.size 64 i0 (.int .u32 0) 1 4 Tryz.underlying25 hi hz0 hz1 hz2 rfl (by decide) _ _ _ rfl HO.out x len cap (zs.map (.int .u32)) rfl ?c0 ?c1 ?c2 ?c3 ?c4 HSZ.out ?_)
  | go_in)
 case c0 => simp [hz]
 case c1 =>
  intro j u hu
  rcases hr with h | ⟨b, off, h, hc⟩
  ·rw [List.getElem?_eq_none (by simp; omega)] at hu; cases hu
  ·obtain rfl := Option.some.inj h
   by_cases hj : j < zs.length
   ·simp [List.getElem?_eq_getElem hj] at hu
    subst hu
    have := hc j (by omega)
    rw [Addr.add_lit, World.cell?_alloc_lt w _ _ (World.block_lt_of_cell? w _ this)]
    simpa [List.getD, List.getElem?_eq_getElem hj] using this
   ·rw [List.getElem?_eq_none (by simp; omega)] at hu; cases hu
 case c2 => intro u hu; obtain ⟨z, _, rfl⟩ := List.mem_map.1 hu; rfl
 case c3 => unfold maxLen; omega
 case c4 => omega
 intro v' w' hown hg _
 have HW : Hid (Ws w' w.heap.size v' zs) := by show w'.ownsRow _ _ _ _ _ _; rw [hz]; simpa using hown
 have HG : Hid (Below w.heap.size w w') := own_bel HO.out hg ((Below.refl _ _).alloc (Nat.le_refl _) _) (Nat.le_refl _) HSZ.out
 clear hown hg
 go_wp2
 go_ret
 exact GaveU.mk HW.out HG.out
theorem step_sli {P : Program} {T S : TypeId} (hP : SliT P T S) {w : World} {ops : Array Oper} {o : Oper} {a : Act} {K : Act → World → Prop} {Q : Exit → Act → World → Prop} {E : Prop} (hgd : o.guard = none) (s x : Operand)
  (ho : o.op = .call { callee := .builtin .append, args := #[s, x], argTypes := #[S, S] })
  (base G : Nat) (v : Value) (l : List Sli) (r : Sli) (hs : a.eval s = v) (hx : a.eval x = .slice (some ⟨G, 0, none⟩) 1 1) (hv : Lr T w base v l) (hu : w.cell? ⟨G, 0, none⟩ = some r.v) (hn : l.length ≤ 1000000) (hbase : base ≤ w.heap.size)
  (h : ∀ v' w', Lr T w' base v' (l ++ [r]) → w.grownBy w' v.ownBlock → (v'.ownBlock = v.ownBlock ∨ v'.ownBlock = some w.heap.size) → K (a.put o.dst v') w') : if Region.wanted o (yielded ops a.tmps) = true then Oper.wp P o a w K Q else E := by
 have hw : Region.wanted o (yielded ops a.tmps) = true := by simp [Region.wanted, hgd]
 rw [if_pos hw]
 obtain ⟨i0, hi, hz0, hz1, hz2⟩ := info_parts hP.info
 obtain ⟨v', w', hr, h2, h3, _, h4⟩ := run_append_own_at (P := P) w base S o.type T i0 (sl0.v) 1 24 hP.under hi hz0 hz1 hz2 rfl (by decide) v l.length (cellsR l) hv ⟨G, 0, none⟩ 1 1 (cellsR [r]) rfl (by
  intro j u hj
  match j, hj with
  | 0, hj => simp [cellsR] at hj; subst hj; simpa [Addr.add] using hu
  | j + 1, hj => simp [cellsR] at hj) (oneR [r]) (by unfold maxLen; omega) (by omega) hbase
 unfold Oper.wp execOp
 simp only [ho, resolve, invoke, builtin, Sem.run_bind, Sem.run_pure, Result.andThen_ok, List.map_toArray, List.map_cons, List.map_nil, hs, hx, hr]
 refine h v' w' ?_ h3 h4
 unfold Lr
 rw [List.length_append]
 unfold cellsR at *
 rw [List.map_append]
 exact h2
theorem wp_letOne {P : Program} {o : Oper} {a : Act} {w : World} {K : Act → World → Prop} {Q : Exit → Act → World → Prop} (ty : TypeId) (x y : Operand) (ho : o.op = .store ty x y)
  (g : Nat) (hx : a.eval x = .pointer (some ⟨g, 0, none⟩)) (v : Value) (hy : a.eval y = v) (hv : v.cells = #[v]) (hi : (P.info? ty).map (·.size) = some 1) (h1 : v.oneCell' = true)
  (u : Value) (t : TypeId) (hB : Blk w g #[u] t) (hd : o.dst = none)
  (h : ∀ W, Upd w W g #[v] t → K a W) : o.wp P a w K Q := by
 have hs := run_storeVar_let (P := P) (w := w) (g := g) (off := 0) (ty := ty) (t := t) (v := v) (cells := #[v]) (cs := #[u]) hv (by simpa using hi) (by simpa using h1) hB (by simp)
 have hu := upd_cells g t [v] 0 w #[u] hB
 unfold Oper.wp execOp
 simp only [ho, hx, hy, Instr.storeAt, Instr.sureAddr, Sem.run_bind, Sem.run_pure, Result.andThen_ok, hs]
 have := h _ hu
 have e : a.put o.dst undef = a := by rw [hd]; rfl
 rw [← e] at this
 exact this
structure Box (w : World) (L : Nat) (V : Value) (sl : List Sli) (zs : List (List Int)) (W : World) : Prop where
 blk : Blk W L #[V] 79
 row : Lr 25 W (L + 1) V sl
 recs : Recs W V.ownBlock sl zs
 new : ∀ i, i < sl.length → ((sl.getD i sl0).n ≤ 100000 ∧ (sl.getD i sl0).n ≤ (sl.getD i sl0).c ∧ ((sl.getD i sl0).a = none → (sl.getD i sl0).c = 0)) ∧ ∀ x, (sl.getD i sl0).a = some x → L + 1 ≤ x.block
 bel : Below L w W
theorem Box.next {w : World} {L : Nat} {V : Value} {sl : List Sli} {zs : List (List Int)} {W W' : World} (h : Box w L V sl zs W) (hb : Below W.heap.size W W') : Box w L V sl zs W' :=
 ⟨h.blk.next hb, h.row.next hb, h.recs.below hb, h.new, h.bel.trans (hb.mono (Nat.le_of_lt h.blk.lt))⟩
theorem Box.far {w : World} {L : Nat} {V : Value} {sl : List Sli} {zs : List (List Int)} {W : World} (h : Box w L V sl zs W) : some L ≠ V.ownBlock := own_far h.row (Nat.lt_succ_self _)
theorem Box.kept {w : World} {L : Nat} {V : Value} {sl : List Sli} {zs : List (List Int)} {W W' : World} (h : Box w L V sl zs W) (hg : W.grownBy W' V.ownBlock) : Blk W' L #[V] 79 := by
 have h1 : W.heap[L]? = _ := h.blk
 show W'.heap[L]? = _
 rw [hg.block L h.blk.lt h.far]
 exact h1
theorem lr_upd {T t : TypeId} {w W : World} {L : Nat} {cs : Array Value} {v : Value} {l : List Sli} (h : Lr T w (L + 1) v l) (hU : Upd w W L cs t) : Lr T W (L + 1) v l := by
 refine ⟨h.1, ?_⟩
 rcases h.2 with hn | ⟨g, cap, cur, hv, hg, hc, rest⟩
 ·exact .inl hn
 ·exact .inr ⟨g, cap, cur, hv, hg, hU.keep hc (by omega), rest⟩
theorem snoc_at (sl : List Sli) (r : Sli) (i : Nat) (hi : i < (sl ++ [r]).length) : (i < sl.length ∧ (sl ++ [r]).getD i sl0 = sl.getD i sl0) ∨ (i = sl.length ∧ (sl ++ [r]).getD i sl0 = r) := by
 by_cases h1 : i < sl.length
 ·exact .inl ⟨h1, by simp [List.getD, List.getElem?_append_left h1]⟩
 ·have hi' : i = sl.length := by simp at hi; omega
  exact .inr ⟨hi', by rw [hi']; simp [List.getD]⟩
theorem box_step {w U W3 W4 : World} {L : Nat} {V v : Value} {sl : List Sli} {r : Sli} {zs : List (List Int)} {R : List Int} (hB : Box w L V sl zs U) {g off : Nat} (ha : r.a = some ⟨g, off, none⟩) (hg : g < U.heap.size) (hne : some g ≠ V.ownBlock) (hL : L + 1 ≤ g) (hrow : RowU U r.a r.n R) (hn : r.n ≤ 100000 ∧ r.n ≤ r.c ∧ (r.a = none → r.c = 0))
  (h3 : Lr 25 W3 (L + 1) v (sl ++ [r])) (hgr : U.grownBy W3 V.ownBlock) (ho : v.ownBlock = V.ownBlock ∨ v.ownBlock = some U.heap.size) (hU : Upd W3 W4 L #[v] 79) : Box w L v (sl ++ [r]) (zs ++ [R]) W4 := by
 have hnew : ∀ i, i < (sl ++ [r]).length → (((sl ++ [r]).getD i sl0).n ≤ 100000 ∧ ((sl ++ [r]).getD i sl0).n ≤ ((sl ++ [r]).getD i sl0).c ∧ (((sl ++ [r]).getD i sl0).a = none → ((sl ++ [r]).getD i sl0).c = 0)) ∧ ∀ x, ((sl ++ [r]).getD i sl0).a = some x → L + 1 ≤ x.block := fun i hi => by
  rcases snoc_at sl r i hi with ⟨h1, e⟩ | ⟨_, e⟩
  ·rw [e]; exact hB.new i h1
  ·rw [e]; refine ⟨hn, fun x hx => ?_⟩
   rw [ha] at hx
   cases hx
   exact hL
 have hrc : Recs W3 v.ownBlock (sl ++ [r]) (zs ++ [R]) := (hB.recs.snoc (s := r) (z := R) ⟨⟨g, off, ha, hg, hne⟩, hrow⟩).grown hgr ho
 refine ⟨hU.blk, lr_upd h3 hU, ⟨hrc.1, fun i hi => ?_⟩, hnew, ?_⟩
 ·obtain ⟨⟨b, o, e1, e2, e3⟩, e4⟩ := hrc.2 i hi
  have hLb := (hnew i hi).2 _ e1
  refine ⟨⟨b, o, e1, by rw [hU.size]; exact e2, e3⟩, e4.1, ?_⟩
  rcases e4.2 with h0 | ⟨b', o', e5, hc⟩
  ·exact .inl h0
  ·rw [e1] at e5
   cases e5
   exact .inr ⟨b, o, e1, fun j hj => (hU.cell ⟨b, o + j, none⟩ (by show b ≠ L; simp only at hLb; omega) rfl).trans (hc j hj)⟩
 ·refine hU.bel _ _ (Nat.le_refl _) ?_
  exact own_bel hB.row hgr hB.bel (Nat.le_succ _) (Nat.le_of_lt hB.blk.lt)
theorem Box.reads {w : World} {L : Nat} {V : Value} {sl : List Sli} {zs : List (List Int)} {W : World} (h : Box w L V sl zs W) : ∃ a cap, V = .slice a zs.length cap ∧ ReadsF W L a zs.length zs := by
 obtain ⟨a, cap, hv⟩ := h.row.len
 have hl := h.recs.1
 refine ⟨a, cap, by rw [← hl]; exact hv, rfl, ?_⟩
 by_cases h0 : zs.length = 0
 ·exact .inl h0
 ·obtain ⟨g, cap2, hv2, hge, lg, _, hc⟩ := h.row.row (by rw [hl]; omega)
  rw [hv] at hv2
  injection hv2 with ea _ _
  refine .inr ⟨g, 0, ea, by omega, lg, fun i hi => ?_⟩
  have hi' : i < sl.length := by rw [hl]; exact hi
  refine ⟨sl.getD i sl0, by rw [Nat.zero_add]; exact hc i hi', (h.recs.2 i hi').2, (h.new i hi').1, fun x hx => ?_⟩
  have := (h.new i hi').2 x hx
  omega
end disk
namespace vnd
open disk (RepIs AppIs)
open book (Ev ev0 EMay evL evOf EncIs DecIs Cm cm0 So so0 BookIs Sees ECame FirstAt NoneAt)
open acc (Ac Tm Bi TCame ACame)
open cell (Wr RowU)
open Go.RowKit
set_option maxRecDepth 100000
def NoTwo (w : World) (g : Nat) : Prop := ∀ o x y, w.cell? ⟨g, o, none⟩ = some (.int .i64 x) → w.cell? ⟨g, o + 1, none⟩ = some (.int .i64 y) → False
theorem shop_odd {w : World} {g : Nat} {T : TypeId} {a1 b1 : Option Addr} {a2 a3 b2 b3 : Nat} {z : Value} (hB : Blk w g #[.slice a1 a2 a3, .slice b1 b2 b3, z] T) : NoTwo w g := by
 intro o x y h1 h2
 match o, h1, h2 with
 | 0, h1, _ => rw [hB.cell 0] at h1; cases h1
 | 1, h1, _ => rw [hB.cell 1] at h1; cases h1
 | o + 2, _, h2 => rw [hB.cell (o + 2 + 1)] at h2; simp at h2
theorem rowC_far {w W : World} {g : Nat} {v' : Array Value} {T' : TypeId} {p : Option Addr} {n : Nat} {xs : List book.Cu} (h : book.RowC w p n xs) (hg : NoTwo w g) (hU : Upd w W g v' T') : book.RowC W p n xs := by
 refine ⟨h.1, ?_⟩
 rcases h.2 with h0 | ⟨b, off, rfl, lb, hc⟩
 ·exact .inl h0
 ·rcases Nat.eq_zero_or_pos n with h0 | h0
  ·exact .inl h0
  ·have hne : b ≠ g := fun e => by
    subst e
    have h1 := hc 0 0 h0 (by decide)
    have h2 := hc 0 1 h0 (by decide)
    exact hg (off + 0 * 8 + 0) (xs.getD 0 book.cu0).me (xs.getD 0 book.cu0).rv (by rw [h1]; rfl) (by rw [show off + 0 * 8 + 0 + 1 = off + 0 * 8 + 1 by omega, h2]; rfl)
   exact .inr ⟨b, off, rfl, by rw [hU.size]; exact lb, fun i j hi hj => by rw [hU.cell _ hne rfl]; exact hc i j hi hj⟩
theorem rowS_far {w W : World} {g : Nat} {v' : Array Value} {T' : TypeId} {p : Option Addr} {n : Nat} {l : List So} (h : book.RowS w p n l) (hg : NoTwo w g) (hU : Upd w W g v' T') : book.RowS W p n l := by
 refine ⟨h.1, ?_⟩
 rcases h.2 with h0 | ⟨b, off, rfl, lb, hc⟩
 ·exact .inl h0
 ·rcases Nat.eq_zero_or_pos n with h0 | h0
  ·exact .inl h0
  ·have hne : b ≠ g := fun e => by
    subst e
    have h1 := hc 0 0 h0 (by decide)
    have h2 := hc 0 1 h0 (by decide)
    exact hg (off + 0 * 5 + 0) (l.getD 0 so0).id (l.getD 0 so0).cl (by rw [h1]; rfl) (by rw [show off + 0 * 5 + 0 + 1 = off + 0 * 5 + 1 by omega, h2]; rfl)
   exact .inr ⟨b, off, rfl, by rw [hU.size]; exact lb, fun i j hi hj => by rw [hU.cell _ hne rfl]; exact hc i j hi hj⟩
theorem came_far {w W : World} {g : Nat} {v' : Array Value} {T' : TypeId} {p : Option Addr} {n cap : Nat} {l : List tar.Du} (h : tar.Came w p n cap l) (hg : NoTwo w g) (hU : Upd w W g v' T') : tar.Came W p n cap l :=
 acc.came_upd h hU fun hn x hx e => by
  obtain ⟨b, off, hp, lb, hc⟩ := h.row.at hn
  rw [hp] at hx
  cases hx
  have e2 : b = g := e
  subst e2
  exact hg _ _ _ (hc 0 hn).1 (hc 0 hn).2
theorem sees_far {w W : World} {g : Nat} {v' : Array Value} {T' : TypeId} {p : Option Addr} {n : Nat} {xs : List book.Cu} {bk : List Cm} (h : Sees w p n xs bk) (hg : NoTwo w g) (hU : Upd w W g v' T') : Sees W p n xs bk :=
 ⟨rowC_far h.row hg hU, h.len, h.num, fun i hi => came_far (h.ds i hi) hg hU, fun i hi => rowS_far (h.so i hi) hg hU⟩
end vnd
namespace acc
open tar (Du du0 Came RowD Ld PairT)
open Go.RowKit
set_option maxRecDepth 100000
theorem open_may {m : Int} (h : 0 ≤ m ∧ m ≤ 49) : AMay ⟨m, 0, 1, 0, 0, -1, []⟩ := by
 unfold AMay deb.Mays deb.DFits
 simp
 omega
set_option maxHeartbeats 4000000 in
theorem kopen : KcOpen := by
 intro w m hm
 have HPM : Hid (∀ W, Calls Tryz.prog 68 #[.agg #[.int .i64 m, .int .i64 0, .int .i64 1, .int .i64 0, .int .i64 0, .int .i64 (-1), .slice none 0 0]] W fun e w' => MayPost W ⟨m, 0, 1, 0, 0, -1, []⟩ e w') := fun W => pmay ⟨m, 0, 1, 0, 0, -1, []⟩ none 0 0 W (deb.came_nil W)
 clear hm
 obtain ⟨W0, HWW, H0r, H0n, H0B, -⟩ := sh2 w #[.int .i64 0, .int .i64 0, .int .i64 0, .int .i64 0, .int .i64 0, .int .i64 0, .slice none 0 0] 59 #[.int .i64 m, .int .i64 0, .int .i64 1, .int .i64 0, .int .i64 0, .int .i64 (-1), .slice none 0 0] 59
 go_enter Tryz.func91, Tryz.ntmps91
 go_upto_region 2 with fail
 rw [HWW.out]
 clear HWW
 go_wp2_with (first
  | (refine zqw rfl rfl rfl H0r zqu59 ?_)
  | (refine zqw rfl rfl rfl H0n zqu59 ?_)
  | fail)
 refine (HPM.out _).mono ?_
 rintro e w1 ⟨r, rfl, hr, hb1⟩
 have H1r := shN H0r hb1
 have H1n := shN H0n hb1
 have H1B := shB H0B hb1
 have hsw1 : W0.heap.size ≤ w1.heap.size := hb1.size
 clear hb1 H0r H0n H0B
 clear HPM
 cases r with
 | false =>
  have HV : Hid (OpenIs m ac0 2) := .inr ⟨fun hh => Bool.noConfusion (hr.2 (open_may hh)), rfl, rfl⟩
  clear hr
  go_wp2_with (first
   | (refine zql rfl rfl rfl rfl zqu59 (by simp [Value.oneCell']) H1r rfl ?_)
   | (refine zqw rfl rfl rfl H1r zqu59 ?_)
   | (refine zqw rfl rfl rfl H1n zqu59 ?_)
   | fail)
  intro w1a hU
  have H2r : Hid (Blk w1a (w.heap.size) #[.int .i64 0, .int .i64 0, .int .i64 0, .int .i64 0, .int .i64 0, .int .i64 0, .slice none 0 0] 59) := hU.blk
  have H2n := shK hU H1n (by omega)
  have H2B := shV hU H1B (by omega)
  have hsw1a : w1a.heap.size = w1.heap.size := hU.size
  clear hU H1r H1n H1B
  have Rr0 : Hid (w1a.cell? ⟨w.heap.size, 0, none⟩ = some (.int .i64 0)) := H2r.out.cell 0
  have Rr1 : Hid (w1a.cell? ⟨w.heap.size, 1, none⟩ = some (.int .i64 0)) := H2r.out.cell 1
  have Rr2 : Hid (w1a.cell? ⟨w.heap.size, 2, none⟩ = some (.int .i64 0)) := H2r.out.cell 2
  have Rr3 : Hid (w1a.cell? ⟨w.heap.size, 3, none⟩ = some (.int .i64 0)) := H2r.out.cell 3
  have Rr4 : Hid (w1a.cell? ⟨w.heap.size, 4, none⟩ = some (.int .i64 0)) := H2r.out.cell 4
  have Rr5 : Hid (w1a.cell? ⟨w.heap.size, 5, none⟩ = some (.int .i64 0)) := H2r.out.cell 5
  have Rr6 : Hid (w1a.cell? ⟨w.heap.size, 6, none⟩ = some (.slice none 0 0)) := H2r.out.cell 6
  go_wp2_with fail
  exact bodyPost_ret (v := .tuple #[.agg #[.int .i64 0, .int .i64 0, .int .i64 0, .int .i64 0, .int .i64 0, .int .i64 0, .slice none 0 0], .int .i64 2]) (by simp [results, Tryz.results91, Rr0.out, Rr1.out, Rr2.out, Rr3.out, Rr4.out, Rr5.out, Rr6.out, go_sem]) rfl ⟨ac0, none, 0, 0, _, rfl, HV.out, deb.fresh_nil _ _, H2B.out⟩
 | true =>
  have HV : Hid (OpenIs m ⟨m, 0, 1, 0, 0, -1, []⟩ 0) := .inl ⟨(hr.1 rfl).2.1, rfl, rfl⟩
  clear hr
  go_wp2_with (first
   | (refine zql rfl rfl rfl rfl zqu59 (by simp [Value.oneCell']) H1r rfl ?_)
   | (refine zqw rfl rfl rfl H1r zqu59 ?_)
   | (refine zqw rfl rfl rfl H1n zqu59 ?_)
   | fail)
  intro w1a hU
  have H2r : Hid (Blk w1a (w.heap.size) #[.int .i64 m, .int .i64 0, .int .i64 1, .int .i64 0, .int .i64 0, .int .i64 (-1), .slice none 0 0] 59) := hU.blk
  have H2n := shK hU H1n (by omega)
  have H2B := shV hU H1B (by omega)
  have hsw1a : w1a.heap.size = w1.heap.size := hU.size
  clear hU H1r H1n H1B
  obtain ⟨Rr0, Rr1, Rr2, Rr3, Rr4, Rr5, Rr6⟩ := shc7 H2r
  go_wp2_with fail
  exact bodyPost_ret (v := .tuple #[.agg #[.int .i64 m, .int .i64 0, .int .i64 1, .int .i64 0, .int .i64 0, .int .i64 (-1), .slice none 0 0], .int .i64 0]) (by simp [results, Tryz.results91, Rr0.out, Rr1.out, Rr2.out, Rr3.out, Rr4.out, Rr5.out, Rr6.out, go_sem]) rfl ⟨⟨m, 0, 1, 0, 0, -1, []⟩, none, 0, 0, _, rfl, HV.out, deb.fresh_nil _ _, H2B.out⟩
end acc
namespace book
open Go.RowKit
open acc (Ac Tm Bi APost BPost TFault TRight OpenIs OweIs SellIs GrantIs RekeyIs wf6 ACame TCame fresh_updN fresh_drew came_lt)
set_option maxRecDepth 100000
def CuPost (w : World) (a : Option Addr) (bk : List Cm) (me : Int) (e : Ending) (w' : World) : Prop := w' = w ∧ ((∃ k g, FirstAt bk me k ∧ a = some ⟨g, 0, none⟩ ∧ e = .returned (.pointer (some ⟨g, k * 8, none⟩))) ∨ (NoneAt bk me ∧ e = .panicked (thrown 18)))
set_option maxHeartbeats 4000000 in
theorem bcust (gW B : Nat) (t : Tm) (pt : Option Addr) (lt ct : Nat) (a : Option Addr) (n cap : Nat) (bk : List Cm) (me : Int) (w : World) (hw : Blk w gW #[.slice a n cap, .slice pt lt ct, .int .i64 t.ff, .int .i64 t.fb, .int .i64 t.db, .int .i64 t.al, .map (some B)] 106) (hm : MpI w B (mes bk)) (hn : bk.length = n) (ha : 0 < n → ∃ g, a = some ⟨g, 0, none⟩) (hs : n ≤ 1000) : Calls Tryz.prog 77 #[.pointer (some ⟨gW, 0, none⟩), .int .i64 me] w fun e w' => CuPost w a bk me e w' := by
 have HNO : Hid (∀ W, Calls Tryz.prog 87 #[.int .i64 18] W fun e w' => e = .panicked (thrown 18) ∧ w' = W) := fun W => insist_no 18 (by decide) W
 have q0 : w.cell? ⟨gW, 0, none⟩ = some (.slice a n cap) := hw.cell 0
 have q6 : w.cell? ⟨gW, 6, none⟩ = some (.map (some B)) := hw.cell 6
 have hlk := lookI_run hm me
 clear hw hm
 cases hf : firstI (mes bk) me with
 | none =>
  rw [hf] at hlk
  simp only [Option.getD_none, Option.isSome_none] at hlk
  have HN : Hid (NoneAt bk me) := first_none hf
  clear hf
  go_enter Tryz.func77, Tryz.ntmps77
  go_wp2_with fail
  refine (HNO.out _).mono ?_
  rintro e W9 ⟨rfl, rfl⟩
  exact ⟨rfl, rfl, .inr ⟨HN.out, rfl⟩⟩
 | some k =>
  rw [hf] at hlk
  simp only [Option.getD_some, Option.isSome_some] at hlk
  have hfa := first_some hf
  have hkn : k < n := by have := hfa.1; omega
  obtain ⟨g, rfl⟩ := ha (by omega)
  have HN : Hid (FirstAt bk me k) := hfa
  clear hf hfa ha hn
  go_enter Tryz.func77, Tryz.ntmps77
  go_wp2_with fail
  go_ret
  exact ⟨rfl, .inl ⟨k, g, HN.out, rfl, by first | rfl | simp⟩⟩
end book
namespace acc
open tar (Du)
open Go.RowKit
def KcOwe : Prop := ∀ (W : World) (x : Ac) (p : Option Addr) (len cap : Nat) (q : Du), ACame W x p len cap → (Lit.int .i64 q.a).wf = true ∧ (Lit.int .i64 q.b).wf = true → Calls Tryz.prog 28 #[x.v p len cap, .agg #[.int .i64 q.a, .int .i64 q.b]] W fun e w' => APost W (OweIs x q) e w'
end acc
namespace book
open Go.RowKit
set_option maxRecDepth 100000
def KOf : Prop := ∀ (W : World) (t : acc.Tm) (pt : Option Addr) (lt ct : Nat) (pl : Option Addr) (n cap : Nat) (l : List Ev), acc.TCame W t pt lt ct → ECame W pl n cap l → Calls Tryz.prog 31 #[t.v pt lt ct, .slice pl n cap] W fun e w' => BookPost W t l e w'
end book
end Go.Proofs.YtomibnggmhjdfaaGreat
