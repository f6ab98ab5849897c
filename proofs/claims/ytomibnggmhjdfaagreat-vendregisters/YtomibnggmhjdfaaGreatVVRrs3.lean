import Derived.Test.YtomibnggmhjdfaaGreatVVRrs2
set_option linter.unusedVariables false
set_option linter.unusedSimpArgs false
namespace Go.Proofs.YtomibnggmhjdfaaGreat
namespace book
open acc (Ac Tm Bi TFault TRight OweIs SellIs GrantIs RekeyIs)
structure Cm where
 a : Ac
 so : List So
def cm0 : Cm := ⟨acc.ac0, []⟩
def billOf (v : Ev) : Bi := ⟨v.id, v.te, v.de, v.fe, v.pr, v.ch, v.un⟩
def soldOf (c : Cm) (v : Ev) : So := if v.kd = 4 then ⟨v.id, 2, c.a.rv + 1, v.tg, c.a.rv⟩ else ⟨v.id, 0, v.un, v.tg, c.a.rv⟩
def Tells (t : Tm) (c : Cm) (v : Ev) (b : Ac) (l : Bi) (e : Int) : Prop := (v.kd = 2 ∧ SellIs c.a t v.te v.mo b l e) ∨ (v.kd = 3 ∧ GrantIs c.a t v.mo b l e) ∨ (v.kd = 4 ∧ RekeyIs c.a b l e)
theorem Tells.one {t : Tm} {c : Cm} {v : Ev} {b b' : Ac} {l l' : Bi} {e e' : Int} (h : Tells t c v b l e) (h' : Tells t c v b' l' e') : b = b' ∧ l = l' ∧ e = e' := by
 rcases h with ⟨p, q⟩ | ⟨p, q⟩ | ⟨p, q⟩ <;> rcases h' with ⟨p', q'⟩ | ⟨p', q'⟩ | ⟨p', q'⟩ <;> first | exact q.one q' | omega
def HapIs (t : Tm) (c : Cm) (v : Ev) (c' : Cm) (f : Int) : Prop :=
 (v.kd = 5 ∧ ∃ b, OweIs c.a ⟨v.ow, v.bp⟩ b f ∧ (f = 0 → c' = ⟨b, c.so⟩)) ∨
 (v.kd ≠ 5 ∧ ∃ b l e, Tells t c v b l e ∧ ((e ≠ 0 ∧ f = e) ∨ (e = 0 ∧ l ≠ billOf v ∧ f = 8) ∨ (e = 0 ∧ l = billOf v ∧ f = 0 ∧ c' = ⟨b, c.so ++ [soldOf c v]⟩)))
theorem HapIs.one {t : Tm} {c c' d' : Cm} {v : Ev} {f g : Int} (h : HapIs t c v c' f) (h' : HapIs t c v d' g) : f = g ∧ (f = 0 → c' = d') := by
 rcases h with ⟨p, b, q, r⟩ | ⟨p, b, l, e, q, r⟩ <;> rcases h' with ⟨p', b', q', r'⟩ | ⟨p', b', l', e', q', r'⟩
 ·obtain ⟨rfl, rfl⟩ := q.one q'
  exact ⟨rfl, fun h => (r h).trans (r' h).symm⟩
 ·exact absurd p p'
 ·exact absurd p' p
 ·obtain ⟨rfl, rfl, rfl⟩ := q.one q'
  rcases r with ⟨x, rfl⟩ | ⟨x, y, rfl⟩ | ⟨x, y, rfl, z⟩ <;> rcases r' with ⟨x', rfl⟩ | ⟨x', y', rfl⟩ | ⟨x', y', rfl, z'⟩ <;> first | exact ⟨rfl, fun h => absurd h x⟩ | exact ⟨rfl, fun h => absurd h (by decide)⟩ | exact ⟨rfl, fun _ => z.trans z'.symm⟩ | contradiction
def FirstAt (bk : List Cm) (me : Int) (k : Nat) : Prop := k < bk.length ∧ (bk.getD k cm0).a.me = me ∧ ∀ j, j < k → (bk.getD j cm0).a.me ≠ me
def NoneAt (bk : List Cm) (me : Int) : Prop := ∀ j, j < bk.length → (bk.getD j cm0).a.me ≠ me
theorem FirstAt.one {bk : List Cm} {me : Int} {k k' : Nat} (h : FirstAt bk me k) (h' : FirstAt bk me k') : k = k' := by
 rcases Nat.lt_trichotomy k k' with c | c | c
 ·exact absurd h.2.1 (h'.2.2 k c)
 ·exact c
 ·exact absurd h'.2.1 (h.2.2 k' c)
theorem FirstAt.some {bk : List Cm} {me : Int} {k : Nat} (h : FirstAt bk me k) : ¬ NoneAt bk me := fun hn => hn k h.1 h.2.1
def StepIs (t : Tm) (bk : List Cm) (v : Ev) (bk' : List Cm) (f : Int) : Prop :=
 (¬ EMay v ∧ f = 5) ∨ (EMay v ∧ v.kd = 1 ∧ ¬ NoneAt bk v.me ∧ f = 21) ∨ (EMay v ∧ v.kd = 1 ∧ NoneAt bk v.me ∧ f = 0 ∧ bk' = bk ++ [⟨⟨v.me, 0, 1, 0, 0, -1, []⟩, []⟩]) ∨
 (EMay v ∧ v.kd ≠ 1 ∧ NoneAt bk v.me ∧ f = 18) ∨ (EMay v ∧ v.kd ≠ 1 ∧ ∃ k c', FirstAt bk v.me k ∧ HapIs t (bk.getD k cm0) v c' f ∧ (f = 0 → bk' = bk.set k c'))
theorem StepIs.one {t : Tm} {bk b b' : List Cm} {v : Ev} {f f' : Int} (h : StepIs t bk v b f) (h' : StepIs t bk v b' f') : f = f' ∧ (f = 0 → b = b') := by
 rcases h with ⟨p, rfl⟩ | ⟨p, q, r, rfl⟩ | ⟨p, q, r, rfl, s⟩ | ⟨p, q, r, rfl⟩ | ⟨p, q, k, c, hk, hh, hs⟩ <;> rcases h' with ⟨p', rfl⟩ | ⟨p', q', r', rfl⟩ | ⟨p', q', r', rfl, s'⟩ | ⟨p', q', r', rfl⟩ | ⟨p', q', k', c', hk', hh', hs'⟩ <;> first | contradiction | exact ⟨rfl, fun h => absurd h (by decide)⟩ | exact ⟨rfl, fun _ => s.trans s'.symm⟩ | exact absurd r hk'.some | exact absurd r' hk.some | skip
 obtain rfl := hk.one hk'
 obtain ⟨rfl, e⟩ := hh.one hh'
 exact ⟨rfl, fun h => by rw [hs h, hs' h, e h]⟩
def BookIs (t : Tm) (l : List Ev) (bk : List Cm) (at_ f : Int) : Prop :=
 (TFault t f ∧ f ≠ 0 ∧ bk = [] ∧ at_ = 0) ∨ (TRight t ∧ 120 < l.length ∧ bk = [] ∧ at_ = 0 ∧ f = 1) ∨
 (TRight t ∧ l.length ≤ 120 ∧ ∃ (k : Nat) (st : Nat → List Cm), st 0 = [] ∧ (∀ i, i < k → StepIs t (st i) (l.getD i ev0) (st (i + 1)) 0) ∧
  ((k = l.length ∧ bk = st k ∧ at_ = 0 ∧ f = 0) ∨ (k < l.length ∧ (∃ x, StepIs t (st k) (l.getD k ev0) x f) ∧ f ≠ 0 ∧ bk = [] ∧ at_ = (k : Int))))
theorem states_one {t : Tm} {l : List Ev} {k k' : Nat} {st st' : Nat → List Cm} (h0 : st 0 = []) (h0' : st' 0 = []) (h : ∀ i, i < k → StepIs t (st i) (l.getD i ev0) (st (i + 1)) 0) (h' : ∀ i, i < k' → StepIs t (st' i) (l.getD i ev0) (st' (i + 1)) 0) : ∀ i, i ≤ k → i ≤ k' → st i = st' i
 | 0, _, _ => h0.trans h0'.symm
 | i + 1, hk, hk' => by
  have ih := states_one h0 h0' h h' i (by omega) (by omega)
  have q := h i (by omega)
  have q' := h' i (by omega)
  rw [ih] at q
  exact (q.one q').2 rfl
theorem BookIs.one {t : Tm} {l : List Ev} {b b' : List Cm} {a a' f f' : Int} (h : BookIs t l b a f) (h' : BookIs t l b' a' f') : b = b' ∧ a = a' ∧ f = f' := by
 rcases h with ⟨p, q, rfl, rfl⟩ | ⟨p, q, rfl, rfl, rfl⟩ | ⟨p, q, k, st, s0, s1, s2⟩ <;> rcases h' with ⟨p', q', rfl, rfl⟩ | ⟨p', q', rfl, rfl, rfl⟩ | ⟨p', q', k', st', s0', s1', s2'⟩
 ·exact ⟨rfl, rfl, p.one p'⟩
 ·exact absurd (p.ok.2 p') q
 ·exact absurd (p.ok.2 p') q
 ·exact absurd (p'.ok.2 p) q'
 ·exact ⟨rfl, rfl, rfl⟩
 ·omega
 ·exact absurd (p'.ok.2 p) q'
 ·omega
 ·have same := states_one s0 s0' s1 s1'
  rcases s2 with ⟨e, rfl, rfl, rfl⟩ | ⟨e, ⟨x, hx⟩, hf, rfl, rfl⟩ <;> rcases s2' with ⟨e', rfl, rfl, rfl⟩ | ⟨e', ⟨x', hx'⟩, hf', rfl, rfl⟩
  ·have : k = k' := by omega
   subst this
   exact ⟨same k (Nat.le_refl _) (Nat.le_refl _), rfl, rfl⟩
  ·have q := s1 k' (by omega)
   rw [same k' (by omega) (Nat.le_refl _)] at q
   exact absurd ((q.one hx').1.symm) hf'
  ·have q := s1' k (by omega)
   rw [← same k (Nat.le_refl _) (by omega)] at q
   exact absurd ((q.one hx).1.symm) hf
  ·rcases Nat.lt_trichotomy k k' with c | c | c
   ·have q := s1' k c
    rw [← same k (Nat.le_refl _) (by omega)] at q
    exact absurd ((q.one hx).1.symm) hf
   ·subst c
    rw [same k (Nat.le_refl _) (Nat.le_refl _)] at hx
    exact ⟨rfl, rfl, (hx.one hx').1⟩
   ·have q := s1 k' c
    rw [same k' (by omega) (Nat.le_refl _)] at q
    exact absurd ((q.one hx').1.symm) hf'
theorem run_more {t : Tm} {l : List Ev} {k : Nat} {st : Nat → List Cm} {bk : List Cm} (h : ∀ i, i < k → StepIs t (st i) (l.getD i ev0) (st (i + 1)) 0) (hs : StepIs t (st k) (l.getD k ev0) bk 0) : ∃ st' : Nat → List Cm, st' 0 = st 0 ∧ st' (k + 1) = bk ∧ (∀ i, i < k + 1 → StepIs t (st' i) (l.getD i ev0) (st' (i + 1)) 0) := by
 refine ⟨fun i => if i ≤ k then st i else bk, if_pos (Nat.zero_le _), if_neg (by omega), fun i hi => ?_⟩
 show StepIs t (if i ≤ k then st i else bk) _ (if i + 1 ≤ k then st (i + 1) else bk) 0
 by_cases e : i = k
 ·subst e
  rw [if_pos (Nat.le_refl _), if_neg (by omega)]
  exact hs
 ·rw [if_pos (by omega), if_pos (by omega)]
  exact h i (by omega)
end book
namespace tar
open Go.RowKit
set_option maxRecDepth 100000
def RowD (w : World) (a : Option Addr) (len : Nat) (ls : List Du) : Prop :=
 ls.length = len ∧ (len = 0 ∨ ∃ b off, a = some ⟨b, off, none⟩ ∧ ∀ i, i < len → w.cell? ⟨b, off + i * 2, none⟩ = some (.int .i64 (ls.getD i du0).a) ∧ w.cell? ⟨b, off + i * 2 + 1, none⟩ = some (.int .i64 (ls.getD i du0).b))
theorem RowD.below {w w' : World} {a : Option Addr} {n : Nat} {zs : List Du} (h : RowD w a n zs) (hb : Below w.heap.size w w') : RowD w' a n zs := by
 refine ⟨h.1, ?_⟩
 rcases h.2 with h0 | ⟨b, off, rfl, hc⟩
 ·exact .inl h0
 ·refine .inr ⟨b, off, rfl, fun i hi => ?_⟩
  have h1 := hc i hi
  rw [hb.cell (p := ⟨b, off + i * 2, none⟩) (World.block_lt_of_cell? w _ h1.1), hb.cell (p := ⟨b, off + i * 2 + 1, none⟩) (World.block_lt_of_cell? w _ h1.2)]
  exact h1
theorem RowD.nil (w : World) (a : Option Addr) : RowD w a 0 [] := ⟨rfl, .inl rfl⟩
theorem RowD.at {w : World} {a : Option Addr} {n : Nat} {zs : List Du} (h : RowD w a n zs) (h0 : 0 < n) : ∃ b off, a = some ⟨b, off, none⟩ ∧ b < w.heap.size ∧ ∀ i, i < n → w.cell? ⟨b, off + i * 2, none⟩ = some (.int .i64 (zs.getD i du0).a) ∧ w.cell? ⟨b, off + i * 2 + 1, none⟩ = some (.int .i64 (zs.getD i du0).b) := by
 rcases h.2 with h1 | ⟨b, off, rfl, hc⟩
 ·omega
 ·exact ⟨b, off, rfl, World.block_lt_of_cell? w _ (hc 0 h0).1, hc⟩
theorem rowD_of {w : World} {a : Addr} {m len : Nat} (hl : len ≤ m)
  (h : ∀ j, j < m → ∃ z0 z1, w.cell? (a.add (j * 2)) = some (.int .i64 z0) ∧ w.cell? (a.add (j * 2 + 1)) = some (.int .i64 z1) ∧ (Lit.int .i64 z0).wf = true ∧ (Lit.int .i64 z1).wf = true) :
  ∃ zs : List Du, RowD w (some a) len zs ∧ ∀ x ∈ zs, (Lit.int .i64 x.a).wf = true ∧ (Lit.int .i64 x.b).wf = true := by
 have h' : ∀ j, ∃ e : Du, j < m → w.cell? (a.add (j * 2)) = some (.int .i64 e.a) ∧ w.cell? (a.add (j * 2 + 1)) = some (.int .i64 e.b) ∧ (Lit.int .i64 e.a).wf = true ∧ (Lit.int .i64 e.b).wf = true := fun j => by
  by_cases hj : j < m
  ·obtain ⟨z0, z1, hz⟩ := h j hj
   exact ⟨⟨z0, z1⟩, fun _ => hz⟩
  ·exact ⟨du0, fun hh => absurd hh hj⟩
 obtain ⟨f, hf⟩ : ∃ f : Nat → Du, ∀ j, j < m → w.cell? (a.add (j * 2)) = some (.int .i64 (f j).a) ∧ w.cell? (a.add (j * 2 + 1)) = some (.int .i64 (f j).b) ∧ (Lit.int .i64 (f j).a).wf = true ∧ (Lit.int .i64 (f j).b).wf = true := ⟨fun j => Classical.choose (h' j), fun j hj => Classical.choose_spec (h' j) hj⟩
 clear h' h
 refine ⟨(List.range len).map f, ⟨by simp, ?_⟩, fun x hx => ?_⟩
 ·by_cases h0 : len = 0
  ·exact .inl h0
  ·obtain ⟨b, off, spot⟩ := a
   have hs : spot = none := by simpa [Addr.add] using World.cell?_spot (hf 0 (by omega)).1
   subst hs
   refine .inr ⟨b, off, rfl, fun i hi => ?_⟩
   have h1 := hf i (by omega)
   rw [Addr.add_lit, Addr.add_lit, ← Nat.add_assoc] at h1
   have e : ((List.range len).map f).getD i du0 = f i := by simp [List.getD, hi]
   rw [e]
   exact ⟨h1.1, h1.2.1⟩
 ·obtain ⟨j, hj, rfl⟩ := List.mem_map.1 hx
  exact (hf j (by have := List.mem_range.1 hj; omega)).2.2
def cellsD : List Du → List Value
 | [] => []
 | e :: l => .int .i64 e.a :: .int .i64 e.b :: cellsD l
theorem cellsD_len (l : List Du) : (cellsD l).length = l.length * 2 := by
 induction l with
 | nil => rfl
 | cons e l ih => simp [cellsD, ih]; omega
theorem cellsD_app (l m : List Du) : cellsD (l ++ m) = cellsD l ++ cellsD m := by
 induction l with
 | nil => rfl
 | cons e l ih => simp [cellsD, ih]
theorem oneD (l : List Du) : ∀ u ∈ cellsD l, u.oneCell' = true := by
 induction l with
 | nil => intro u hu; cases hu
 | cons e l ih =>
  intro u hu
  simp only [cellsD, List.mem_cons] at hu
  rcases hu with rfl | rfl | hu
  ·rfl
  ·rfl
  ·exact ih u hu
theorem cellsD_at (l : List Du) (k : Nat) (hk : k < l.length) : (cellsD l)[k * 2]? = some (.int .i64 (l.getD k du0).a) ∧ (cellsD l)[k * 2 + 1]? = some (.int .i64 (l.getD k du0).b) := by
 induction l generalizing k with
 | nil => simp at hk
 | cons x l ih =>
  cases k with
  | zero => exact ⟨rfl, rfl⟩
  | succ k =>
   rw [show (k + 1) * 2 = k * 2 + 1 + 1 by omega]
   have := ih k (by simpa using hk)
   simpa [cellsD] using this
theorem cellsD_get {w : World} {b off len : Nat} {zs : List Du} (hz : zs.length = len) (hc : ∀ i, i < len → w.cell? ⟨b, off + i * 2, none⟩ = some (.int .i64 (zs.getD i du0).a) ∧ w.cell? ⟨b, off + i * 2 + 1, none⟩ = some (.int .i64 (zs.getD i du0).b)) (j : Nat) (u : Value) (hu : (cellsD zs)[j]? = some u) : w.cell? ⟨b, off + j, none⟩ = some u := by
 have hj : j < (cellsD zs).length := by
  by_cases h : j < (cellsD zs).length
  ·exact h
  ·rw [List.getElem?_eq_none (by omega)] at hu; cases hu
 rw [cellsD_len] at hj
 have h1 := cellsD_at zs (j / 2) (by omega)
 have h2 := hc (j / 2) (by omega)
 rcases Nat.mod_two_eq_zero_or_one j with e | e
 ·have e2 : j / 2 * 2 = j := by omega
  rw [e2] at h1 h2
  rw [h1.1] at hu
  rw [h2.1]; exact hu
 ·have e2 : j / 2 * 2 + 1 = j := by omega
  rw [Nat.add_assoc, e2] at h2
  rw [e2] at h1
  rw [h1.2] at hu
  rw [h2.2]; exact hu
def Ld (T : TypeId) (w : World) (base : Nat) (v : Value) (l : List Du) : Prop := w.ownsRow base T 2 v l.length (cellsD l)
theorem Ld.zero (T : TypeId) (w : World) (base : Nat) : Ld T w base (.slice none 0 0) [] := World.ownsRow_nil _ _ _ _
theorem Ld.alloc {T : TypeId} {w : World} {base : Nat} {v : Value} {l : List Du} (h : Ld T w base v l) (o : Obj) : Ld T (w.alloc o) base v l := World.ownsRow.alloc h o
theorem Ld.next {T : TypeId} {w w' : World} {base : Nat} {v : Value} {l : List Du} (h : Ld T w base v l) (hb : Below w.heap.size w w') : Ld T w' base v l := by
 refine ⟨h.1, ?_⟩
 rcases h.2 with hn | ⟨g, cap, cur, hv, hg, hc, rest⟩
 ·exact .inl hn
 ·exact .inr ⟨g, cap, cur, hv, hg, Blk.next hc hb, rest⟩
theorem Ld.low {T : TypeId} {w : World} {base base' : Nat} {v : Value} {l : List Du} (h : Ld T w base v l) (hb : base' ≤ base) : Ld T w base' v l := by
 refine ⟨h.1, ?_⟩
 rcases h.2 with hn | ⟨g, cap, cur, hv, hg, rest⟩
 ·exact .inl hn
 ·exact .inr ⟨g, cap, cur, hv, by omega, rest⟩
theorem Ld.row {T : TypeId} {w : World} {base : Nat} {v : Value} {l : List Du} (h : Ld T w base v l) : ∃ a cap, v = .slice a l.length cap ∧ RowD w a l.length l ∧ (a = none → cap = 0) ∧ l.length ≤ cap ∧ (∀ x, a = some x → x.off = 0 ∧ x.spot = none) := by
 rcases h.2 with ⟨hv, hn⟩ | ⟨g, cap, cur, hv, _, _, h1, _⟩
 ·exact ⟨none, 0, by rw [hn]; exact hv, ⟨rfl, .inl hn⟩, fun _ => rfl, by omega, fun x h => by cases h⟩
 ·subst hv
  refine ⟨_, cap, rfl, ⟨rfl, .inr ⟨g, 0, rfl, fun i hi => ?_⟩⟩, (fun h => by cases h), h1, fun x h => by cases h; exact ⟨rfl, rfl⟩⟩
  have e1 := World.ownsRow.cellAt h (i * 2) (by omega)
  have e2 := World.ownsRow.cellAt h (i * 2 + 1) (by omega)
  rw [Nat.zero_add, e1, e2]
  exact cellsD_at l i hi
theorem own_far {w : World} {base n k : Nat} {t : TypeId} {v : Value} {l : List Value} (h : w.ownsRow base t n v k l) {G : Nat} (hG : G < base) : some G ≠ v.ownBlock := by
 intro e
 have := (World.ownsRow.lt h G e.symm).1
 omega
theorem own_bel {w0 w w' : World} {base B n k : Nat} {t : TypeId} {v : Value} {l : List Value} (h : w.ownsRow base t n v k l) (hg : w.grownBy w' v.ownBlock) (hb : Below B w0 w) (hB : B ≤ base) (hw : B ≤ w.heap.size) : Below B w0 w' := by
 refine ⟨hg.os.trans hb.os, hg.tape.trans hb.tape, hg.output.trans hb.output, Nat.le_trans hb.size hg.size, fun k hk => ?_⟩
 rw [← hb.block k hk]
 exact hg.block k (by omega) (own_far h (by omega))
theorem bel_drewN {B : Nat} {w w' : World} (h : Below B w w') (n : Nat) : Below B w (w'.drewN n) := ⟨h.os, h.tape, h.output, h.size, h.block⟩
structure PairT (P : Program) (T S : TypeId) : Prop where
 info : (P.info? T).map (fun i => (i.zero, i.size, i.bytes)) = some (some (.agg #[.int .i64 0, .int .i64 0]), 2, 16)
 under : P.underlying S = some (.slice T)
theorem wp_pair {P : Program} {T S : TypeId} (hP : PairT P T S) {w : World} {ops : Array Oper} {rest : List Oper} {o : Oper} {a : Act} {Q : Exit → Act → World → Prop} (hgd : o.guard = none) (s x : Operand)
  (ho : o.op = .call { callee := .builtin .append, args := #[s, x], argTypes := #[S, S] })
  (base G : Nat) (v : Value) (l : List Du) (r : Du) (hs : a.eval s = v) (hx : a.eval x = .slice (some ⟨G, 0, none⟩) 1 1) (hv : Ld T w base v l) (hu : w.cell? ⟨G, 0, none⟩ = some (.int .i64 r.a) ∧ w.cell? ⟨G, 1, none⟩ = some (.int .i64 r.b)) (hn : l.length ≤ 1000000) (hbase : base ≤ w.heap.size)
  (h : ∀ v' w', Ld T w' base v' (l ++ [r]) → w.grownBy w' v.ownBlock → wpList P ops Q rest (a.put o.dst v') w') : wpList P ops Q (o :: rest) a w := by
 obtain ⟨i0, hi, hz0, hz1, hz2⟩ := info_parts hP.info
 refine wpList_append_own w hgd s x S ho base T i0 (.agg #[.int .i64 0, .int .i64 0]) 2 16 hP.under hi hz0 hz1 hz2 rfl (by decide) v l.length (cellsD l) hs hv ⟨G, 0, none⟩ 1 1 (cellsD [r]) hx rfl ?_ (oneD [r]) (by unfold maxLen; omega) (by omega) hbase ?_
 ·intro j u hj
  match j, hj with
  | 0, hj => simp [cellsD] at hj; subst hj; simpa [Addr.add] using hu.1
  | 1, hj => simp [cellsD] at hj; subst hj; simpa [Addr.add] using hu.2
  | j + 2, hj => simp [cellsD] at hj
 intro v' w' h1 h2 _
 refine h v' w' ?_ h2
 unfold Ld
 rw [List.length_append, cellsD_app]
 exact h1
theorem step_pair {P : Program} {T S : TypeId} (hP : PairT P T S) {w : World} {ops : Array Oper} {o : Oper} {a : Act} {K : Act → World → Prop} {Q : Exit → Act → World → Prop} {E : Prop} (hgd : o.guard = none) (s x : Operand)
  (ho : o.op = .call { callee := .builtin .append, args := #[s, x], argTypes := #[S, S] })
  (base G : Nat) (v : Value) (l : List Du) (r : Du) (hs : a.eval s = v) (hx : a.eval x = .slice (some ⟨G, 0, none⟩) 1 1) (hv : Ld T w base v l) (hu : w.cell? ⟨G, 0, none⟩ = some (.int .i64 r.a) ∧ w.cell? ⟨G, 1, none⟩ = some (.int .i64 r.b)) (hn : l.length ≤ 1000000) (hbase : base ≤ w.heap.size)
  (h : ∀ v' w', Ld T w' base v' (l ++ [r]) → w.grownBy w' v.ownBlock → K (a.put o.dst v') w') : if Region.wanted o (yielded ops a.tmps) = true then Oper.wp P o a w K Q else E := by
 have hw : Region.wanted o (yielded ops a.tmps) = true := by simp [Region.wanted, hgd]
 rw [if_pos hw]
 obtain ⟨i0, hi, hz0, hz1, hz2⟩ := info_parts hP.info
 obtain ⟨v', w', hr, h2, h3, _⟩ := run_append_own (P := P) w base S o.type T i0 (.agg #[.int .i64 0, .int .i64 0]) 2 16 hP.under hi hz0 hz1 hz2 rfl (by decide) v l.length (cellsD l) hv ⟨G, 0, none⟩ 1 1 (cellsD [r]) rfl (by
  intro j u hj
  match j, hj with
  | 0, hj => simp [cellsD] at hj; subst hj; simpa [Addr.add] using hu.1
  | 1, hj => simp [cellsD] at hj; subst hj; simpa [Addr.add] using hu.2
  | j + 2, hj => simp [cellsD] at hj) (oneD [r]) (by unfold maxLen; omega) (by omega) hbase
 unfold Oper.wp execOp
 simp only [ho, resolve, invoke, builtin, Sem.run_bind, Sem.run_pure, Result.andThen_ok, List.map_toArray, List.map_cons, List.map_nil, hs, hx, hr]
 refine h v' w' ?_ h3
 unfold Ld
 rw [List.length_append, cellsD_app]
 exact h2
theorem wp_pairs {P : Program} {T S : TypeId} (hP : PairT P T S) {w : World} {ops : Array Oper} {rest : List Oper} {o : Oper} {a : Act} {Q : Exit → Act → World → Prop} (hgd : o.guard = none) (s x : Operand)
  (ho : o.op = .call { callee := .builtin .append, args := #[s, x], argTypes := #[S, S] })
  (base : Nat) (A : Addr) (len cap : Nat) (zs : List Du) (hs : a.eval s = .slice none 0 0) (hx : a.eval x = .slice (some A) len cap) (hr : RowD w (some A) len zs) (hl : len * 16 ≤ 140737488351232) (hbase : base ≤ w.heap.size)
  (h : ∀ v' w', Ld T w' base v' zs → w.grownBy w' none → wpList P ops Q rest (a.put o.dst v') w') : wpList P ops Q (o :: rest) a w := by
 obtain ⟨i0, hi, hz0, hz1, hz2⟩ := info_parts hP.info
 obtain ⟨hz, hr⟩ := hr
 refine wpList_append_own w hgd s x S ho base T i0 (.agg #[.int .i64 0, .int .i64 0]) 2 16 hP.under hi hz0 hz1 hz2 rfl (by decide) _ _ _ hs (World.ownsRow_nil _ _ _ _) A len cap (cellsD zs) hx ?_ ?_ (oneD zs) (by unfold maxLen; omega) (by omega) hbase ?_
 ·rw [cellsD_len, hz]
 ·intro j u hu
  rcases hr with h | ⟨b, off, h, hc⟩
  ·rw [List.getElem?_eq_none (by rw [cellsD_len]; omega)] at hu; cases hu
  ·obtain rfl := Option.some.inj h
   rw [Addr.add_lit]
   exact cellsD_get hz hc j u hu
 ·intro v' w' h1 h2 _
  refine h v' w' ?_ (by simpa [Value.ownBlock] using h2)
  show w'.ownsRow _ _ _ _ _ _
  rw [hz]; simpa using h1
def RowL (w : World) (a : Option Addr) (len : Nat) (ls : List Tr) : Prop :=
 ls.length = len ∧ (len = 0 ∨ ∃ b off, a = some ⟨b, off, none⟩ ∧ ∀ i, i < len → w.cell? ⟨b, off + i * 3, none⟩ = some (.int .i64 (ls.getD i tr0).a) ∧ w.cell? ⟨b, off + i * 3 + 1, none⟩ = some (.int .i64 (ls.getD i tr0).b) ∧ w.cell? ⟨b, off + i * 3 + 2, none⟩ = some (.int .i64 (ls.getD i tr0).c))
theorem RowL.at {w : World} {a : Option Addr} {n : Nat} {zs : List Tr} (h : RowL w a n zs) (h0 : 0 < n) : ∃ b off, a = some ⟨b, off, none⟩ ∧ b < w.heap.size ∧ ∀ i, i < n → w.cell? ⟨b, off + i * 3, none⟩ = some (.int .i64 (zs.getD i tr0).a) ∧ w.cell? ⟨b, off + i * 3 + 1, none⟩ = some (.int .i64 (zs.getD i tr0).b) ∧ w.cell? ⟨b, off + i * 3 + 2, none⟩ = some (.int .i64 (zs.getD i tr0).c) := by
 rcases h.2 with h1 | ⟨b, off, rfl, hc⟩
 ·omega
 ·exact ⟨b, off, rfl, World.block_lt_of_cell? w _ (hc 0 h0).1, hc⟩
def ErrPost (w : World) (R : Int → Prop) (e : Ending) (w' : World) : Prop := ∃ f, e = .returned (.int .i64 f) ∧ R f ∧ Below w.heap.size w w'
def ValPost (w : World) (z : Int) (e : Ending) (w' : World) : Prop := e = .returned (.int .i64 z) ∧ Below w.heap.size w w'
def TwoPost (w : World) (R : Int → Int → Prop) (e : Ending) (w' : World) : Prop := ∃ p f, e = .returned (.tuple #[.int .i64 p, .int .i64 f]) ∧ R p f ∧ Below w.heap.size w w'
def ThreePost (w : World) (R : Int → Int → Int → Prop) (e : Ending) (w' : World) : Prop := ∃ u p f, e = .returned (.tuple #[.int .i64 u, .int .i64 p, .int .i64 f]) ∧ R u p f ∧ Below w.heap.size w w'
structure Came (w : World) (a : Option Addr) (len cap : Nat) (ls : List Du) : Prop where
 row : RowD w a len ls
 nil : a = none → cap = 0
 room : len ≤ cap
 bytes : len * 16 ≤ 140737488351232
 wf : ∀ x ∈ ls, (Lit.int .i64 x.a).wf = true ∧ (Lit.int .i64 x.b).wf = true
theorem Came.below {w w' : World} {a : Option Addr} {len cap : Nat} {ls : List Du} (h : Came w a len cap ls) (hb : Below w.heap.size w w') : Came w' a len cap ls := ⟨h.row.below hb, h.nil, h.room, h.bytes, h.wf⟩
theorem Came.most {w : World} {a : Option Addr} {len cap : Nat} {ls : List Du} (h : Came w a len cap ls) : len ≤ maxLen := by have := h.bytes; unfold maxLen; omega
theorem Ld.came {T : TypeId} {w : World} {base : Nat} {v : Value} {l : List Du} (h : Ld T w base v l) (hl : l.length * 16 ≤ 140737488351232) (hw : ∀ x ∈ l, (Lit.int .i64 x.a).wf = true ∧ (Lit.int .i64 x.b).wf = true) : ∃ a cap, v = .slice a l.length cap ∧ Came w a l.length cap l := by
 obtain ⟨a, cap, hv, hr, hn, hc, _⟩ := h.row
 exact ⟨a, cap, hv, hr, hn, hc, hl, hw⟩
def GaveD (T : TypeId) (w : World) (zs : List Du) (e : Ending) (w' : World) : Prop := ∃ v, e = .returned v ∧ Ld T w' w.heap.size v zs ∧ Below w.heap.size w w'
theorem GaveD.mk {T : TypeId} {w w' : World} {zs : List Du} {v : Value} (h1 : Ld T w' w.heap.size v zs) (h2 : Below w.heap.size w w') : GaveD T w zs (.returned v) w' := ⟨v, rfl, h1, h2⟩
theorem wf_mid {z : Int} (h0 : 0 ≤ z) (h1 : z ≤ 4000000000000) : (Lit.int .i64 z).wf = true := by
 have h1 : IntKind.i64.min ≤ z := by have e : IntKind.i64.min = -9223372036854775808 := by decide
                                     omega
 have h2 : z ≤ IntKind.i64.max := by have e : IntKind.i64.max = 9223372036854775807 := by decide
                                     omega
 show (decide (IntKind.i64.min ≤ z) && decide (z ≤ IntKind.i64.max)) = true
 rw [Bool.and_eq_true]
 exact ⟨decide_eq_true h1, decide_eq_true h2⟩
theorem MostIs.got {l : List Du} {x m u p e : Int} (h : MostIs l x m u p e) (hR : Right l) (hM : MayMost x m) : e = 0 ∧ MostOf l x m u ∧ p = cost l x (x + u) := by
 rcases h with ⟨a, _⟩ | ⟨_, b, _⟩ | ⟨_, _, c, d⟩
 ·exact absurd hR a
 ·exact absurd hM b
 ·exact ⟨c, d⟩
end tar
namespace deb
open tar (Du du0 Came RowD Ld ErrPost TwoPost PairT GaveD)
open Go.RowKit
set_option maxRecDepth 100000
structure Fresh (w : World) (base : Nat) (a : Option Addr) (len cap : Nat) (ls : List Du) : Prop where
 came : Came w a len cap ls
 new : 0 < len → ∀ x, a = some x → base ≤ x.block
def RecPost (w : World) (l : List Du) (t bp : Int) (e : Ending) (w' : World) : Prop := ∃ a len cap z p f, e = .returned (.tuple #[.slice a len cap, .int .i64 p, .int .i64 f]) ∧ RecIs l t bp z p f ∧ Fresh w' w.heap.size a len cap z ∧ Below w.heap.size w w'
def AgePost (w : World) (l : List Du) (m : Int) (e : Ending) (w' : World) : Prop := ∃ a len cap z f, e = .returned (.tuple #[.slice a len cap, .int .i64 f]) ∧ AgeIs l m z f ∧ Fresh w' w.heap.size a len cap z ∧ Below w.heap.size w w'
theorem Mays.wf {l : List Du} (h : Mays l) : ∀ x ∈ l, (Lit.int .i64 x.a).wf = true ∧ (Lit.int .i64 x.b).wf = true := fun x hx => by
 obtain ⟨⟨a1, a2⟩, b1, b2⟩ := mem_fits h.2 x hx
 exact ⟨tar.wf_mid a1 (by omega), tar.wf_mid b1 (by omega)⟩
theorem ld_mays {T : TypeId} {w : World} {base : Nat} {v : Value} {l : List Du} (h : Ld T w base v l) (hm : Mays l) : ∃ a cap, v = .slice a l.length cap ∧ Came w a l.length cap l := h.came (by have := hm.1; omega) hm.wf
theorem ld_new {T : TypeId} {w : World} {base : Nat} {a : Option Addr} {n cap : Nat} {l : List Du} (h : Ld T w base (.slice a n cap) l) : 0 < n → ∀ x, a = some x → base ≤ x.block := fun hn x hx => by
 subst hx
 exact (World.ownsRow.lt h x.block rfl).1
theorem ld_fresh {T : TypeId} {w : World} {base : Nat} {v : Value} {l : List Du} (h : Ld T w base v l) (hm : Mays l) : ∃ a cap, v = .slice a l.length cap ∧ Fresh w base a l.length cap l := by
 obtain ⟨a, cap, rfl, hc⟩ := ld_mays h hm
 exact ⟨a, cap, rfl, hc, ld_new h⟩
theorem Fresh.low {w : World} {base base' : Nat} {a : Option Addr} {len cap : Nat} {ls : List Du} (h : Fresh w base a len cap ls) (hb : base' ≤ base) : Fresh w base' a len cap ls := ⟨h.came, fun hn x hx => Nat.le_trans hb (h.new hn x hx)⟩
theorem Fresh.below {w w' : World} {base : Nat} {a : Option Addr} {len cap : Nat} {ls : List Du} (h : Fresh w base a len cap ls) (hb : Below w.heap.size w w') : Fresh w' base a len cap ls := ⟨h.came.below hb, h.new⟩
theorem came_nil (w : World) : Came w none 0 0 [] := ⟨tar.RowD.nil _ _, fun _ => rfl, Nat.le_refl _, by omega, fun x hx => by cases hx⟩
theorem fresh_nil (w : World) (base : Nat) : Fresh w base none 0 0 [] := ⟨came_nil w, fun h => absurd h (Nat.lt_irrefl _)⟩
end deb
namespace acc
open tar (Du du0 Came)
open Go.RowKit
def Ac.cs (x : Ac) (p : Option Addr) (len cap : Nat) : Array Value := #[.int .i64 x.me, .int .i64 x.rv, .int .i64 x.nx, .int .i64 x.mo, .int .i64 x.bo, .int .i64 x.fr, .slice p len cap]
def Ac.v (x : Ac) (p : Option Addr) (len cap : Nat) : Value := .agg (x.cs p len cap)
def Tm.v (t : Tm) (p : Option Addr) (len cap : Nat) : Value := .agg #[.slice p len cap, .int .i64 t.ff, .int .i64 t.fb, .int .i64 t.db, .int .i64 t.al]
def Bi.v (b : Bi) : Value := .agg #[.int .i64 b.id, .int .i64 b.te, .int .i64 b.de, .int .i64 b.fe, .int .i64 b.pr, .int .i64 b.ch, .int .i64 b.un]
def wf6 (x : Ac) : Prop := (Lit.int .i64 x.me).wf = true ∧ (Lit.int .i64 x.rv).wf = true ∧ (Lit.int .i64 x.nx).wf = true ∧ (Lit.int .i64 x.mo).wf = true ∧ (Lit.int .i64 x.bo).wf = true ∧ (Lit.int .i64 x.fr).wf = true
def wf4 (t : Tm) : Prop := (Lit.int .i64 t.ff).wf = true ∧ (Lit.int .i64 t.fb).wf = true ∧ (Lit.int .i64 t.db).wf = true ∧ (Lit.int .i64 t.al).wf = true
structure ACame (w : World) (x : Ac) (p : Option Addr) (len cap : Nat) : Prop where
 ds : Came w p len cap x.ds
 wf : wf6 x
structure TCame (w : World) (t : Tm) (p : Option Addr) (len cap : Nat) : Prop where
 ts : Came w p len cap t.ts
 wf : wf4 t
theorem ACame.below {w w' : World} {x : Ac} {p : Option Addr} {len cap : Nat} (h : ACame w x p len cap) (hb : Below w.heap.size w w') : ACame w' x p len cap := ⟨h.ds.below hb, h.wf⟩
theorem TCame.below {w w' : World} {t : Tm} {p : Option Addr} {len cap : Nat} (h : TCame w t p len cap) (hb : Below w.heap.size w w') : TCame w' t p len cap := ⟨h.ts.below hb, h.wf⟩
def APost (w : World) (R : Ac → Int → Prop) (e : Ending) (w' : World) : Prop := ∃ b p len cap f, e = .returned (.tuple #[Ac.v b p len cap, .int .i64 f]) ∧ R b f ∧ deb.Fresh w' w.heap.size p len cap b.ds ∧ Below w.heap.size w w'
def BPost (w : World) (R : Ac → Bi → Int → Prop) (e : Ending) (w' : World) : Prop := ∃ b l p len cap f, e = .returned (.tuple #[Ac.v b p len cap, Bi.v l, .int .i64 f]) ∧ R b l f ∧ deb.Fresh w' w.heap.size p len cap b.ds ∧ Below w.heap.size w w'
end acc
namespace book
open Go.RowKit
open acc (Ac Tm Bi APost BPost OweIs SellIs GrantIs RekeyIs)
set_option maxRecDepth 100000
def Small (bk : List Cm) (k : Nat) : Prop := bk.length ≤ k ∧ ∀ c ∈ bk, c.so.length ≤ k ∧ 0 ≤ c.a.rv ∧ c.a.rv ≤ 15
theorem Small.zero : Small [] 0 := ⟨Nat.le_refl _, fun c hc => by cases hc⟩
theorem owe_rv {a b : Ac} {d : tar.Du} (h : OweIs a d b 0) (hr : 0 ≤ a.rv ∧ a.rv ≤ 15) : 0 ≤ b.rv ∧ b.rv ≤ 15 := by
 rcases h with ⟨_, _, e⟩ | ⟨_, _, _, e⟩ | ⟨_, _, _, _, e⟩ | ⟨_, _, _, rfl, _⟩
 ·cases e
 ·cases e
 ·cases e
 ·exact hr
theorem tells_rv {t : Tm} {c : Cm} {v : Ev} {b : Ac} {l : Bi} (h : Tells t c v b l 0) (hr : 0 ≤ c.a.rv ∧ c.a.rv ≤ 15) : 0 ≤ b.rv ∧ b.rv ≤ 15 := by
 rcases h with ⟨_, h⟩ | ⟨_, h⟩ | ⟨_, h⟩
 ·rcases h with ⟨p, rfl, _⟩ | ⟨_, _, e, _⟩ | ⟨_, _, _, e, _⟩ | ⟨_, _, _, _, u, _, rfl, _⟩
  ·exact ⟨Int.le_refl _, by show (0 : Int) ≤ 15; decide⟩
  ·cases e
  ·cases e
  ·exact hr
 ·rcases h with ⟨p, rfl, _⟩ | ⟨_, _, e, _⟩ | ⟨_, _, _, e, _⟩ | ⟨_, _, _, _, e, _⟩ | ⟨_, _, _, _, _, rfl, _⟩
  ·exact ⟨Int.le_refl _, by show (0 : Int) ≤ 15; decide⟩
  ·cases e
  ·cases e
  ·cases e
  ·exact hr
 ·rcases h with ⟨_, _, _, e⟩ | ⟨_, _, _, _, e⟩ | ⟨_, _, _, _, _, e⟩ | ⟨_, q, _, rfl, _, _⟩
  ·cases e
  ·cases e
  ·cases e
  ·exact ⟨by show 0 ≤ c.a.rv + 1; omega, by show c.a.rv + 1 ≤ 15; omega⟩
theorem hap_small {t : Tm} {c c' : Cm} {v : Ev} {k : Nat} (h : HapIs t c v c' 0) (hs : c.so.length ≤ k ∧ 0 ≤ c.a.rv ∧ c.a.rv ≤ 15) : c'.so.length ≤ k + 1 ∧ 0 ≤ c'.a.rv ∧ c'.a.rv ≤ 15 := by
 rcases h with ⟨_, b, q, r⟩ | ⟨_, b, l, e, q, r⟩
 ·rw [r rfl]
  exact ⟨by show c.so.length ≤ k + 1; omega, owe_rv q hs.2⟩
 ·rcases r with ⟨x, y⟩ | ⟨_, _, y⟩ | ⟨x, _, _, rfl⟩
  ·exact absurd y.symm x
  ·cases y
  ·subst x
   refine ⟨?_, tells_rv q hs.2⟩
   show (c.so ++ [_]).length ≤ k + 1
   rw [List.length_append]; exact Nat.succ_le_succ hs.1
theorem step_small {t : Tm} {bk bk' : List Cm} {v : Ev} {k : Nat} (h : StepIs t bk v bk' 0) (hs : Small bk k) : Small bk' (k + 1) := by
 rcases h with ⟨_, e⟩ | ⟨_, _, _, e⟩ | ⟨_, _, _, _, rfl⟩ | ⟨_, _, _, e⟩ | ⟨_, _, j, c', hj, hh, he⟩
 ·cases e
 ·cases e
 ·refine ⟨by rw [List.length_append]; exact Nat.succ_le_succ hs.1, fun c hc => ?_⟩
  rcases List.mem_append.1 hc with h | h
  ·have := hs.2 c h; omega
  ·rw [List.mem_singleton.1 h]; exact ⟨Nat.zero_le _, Int.le_refl _, by show (0 : Int) ≤ 15; decide⟩
 ·cases e
 ·rw [he rfl]
  have hm : bk.getD j cm0 ∈ bk := by
   have : bk.getD j cm0 = bk[j]'hj.1 := by simp [List.getD, List.getElem?_eq_getElem hj.1]
   rw [this]; exact List.getElem_mem _
  refine ⟨by rw [List.length_set]; have := hs.1; omega, fun c hc => ?_⟩
  rcases List.mem_or_eq_of_mem_set hc with h | rfl
  ·have := hs.2 c h; omega
  ·exact hap_small hh (hs.2 _ hm)
end book
namespace token
open Go.RowKit
structure Tok where
 c : Nat
 i : Nat
 a : Nat
 t : Nat
def Tok.v (k : Tok) : Value := .agg #[.int .i64 (k.c : Int), .int .i64 (k.i : Int), .int .i64 (k.a : Int), .int .i64 (k.t : Int)]
end token
namespace vnd
open disk (RepIs AppIs May repD lenAt)
open book (Ev ev0 EMay evL evOf EncIs DecIs Cm cm0 So so0 BookIs FirstAt NoneAt Tells billOf soldOf)
open acc (Ac Tm Bi SellIs GrantIs RekeyIs OweIs)
open cell (Wr)
open token (Tok)
def DecOk (z : List Int) : Prop := z.length = 13 ∧ EMay (evOf z)
theorem DecOk.zero {z : List Int} {v : Ev} {e : Int} (h : DecOk z) (hd : DecIs z v e) : e = 0 ∧ v = evOf z := by
 rcases hd with ⟨p, _⟩ | ⟨_, q, _⟩ | ⟨_, _, r, s⟩
 ·exact absurd h.1 p
 ·exact absurd h.2 q
 ·exact ⟨s, r⟩
theorem dec_ok {z : List Int} {v : Ev} (hd : DecIs z v 0) : DecOk z ∧ v = evOf z := by
 rcases hd with ⟨_, _, r⟩ | ⟨_, _, _, r⟩ | ⟨p, q, r, _⟩
 ·cases r
 ·cases r
 ·exact ⟨⟨p, q⟩, r⟩
theorem dec_no {z : List Int} {v : Ev} {e : Int} (hd : DecIs z v e) (h : e ≠ 0) : v = ev0 := by
 rcases hd with ⟨_, r, _⟩ | ⟨_, _, r, _⟩ | ⟨_, _, _, r⟩
 ·exact r
 ·exact r
 ·exact absurd r h
def KeptIs (c : List Int) (l : List Ev) (e : Int) : Prop :=
 ∃ o x f, RepIs c o x f ∧ ((f ≠ 0 ∧ l = [] ∧ e = f) ∨ (f = 0 ∧ (∀ j, j < o.length → DecOk (o.getD j [])) ∧ l = o.map evOf ∧ e = 0) ∨
  (f = 0 ∧ e ≠ 0 ∧ l = [] ∧ ∃ k, k < o.length ∧ (∀ j, j < k → DecOk (o.getD j [])) ∧ DecIs (o.getD k []) ev0 e))
theorem KeptIs.one {c : List Int} {l l' : List Ev} {e e' : Int} (h : KeptIs c l e) (h' : KeptIs c l' e') : l = l' ∧ e = e' := by
 obtain ⟨o, x, f, hr, h⟩ := h
 obtain ⟨o', x', f', hr', h'⟩ := h'
 obtain ⟨rfl, rfl, rfl⟩ := hr.one hr'
 rcases h with ⟨p, rfl, rfl⟩ | ⟨p, q, rfl, rfl⟩ | ⟨p, q, rfl, k, k1, k2, k3⟩ <;> rcases h' with ⟨p', rfl, rfl⟩ | ⟨p', q', rfl, rfl⟩ | ⟨p', q', rfl, k', k1', k2', k3'⟩ <;> first | exact ⟨rfl, rfl⟩ | contradiction | skip
 ·exact absurd ((q k' k1').zero k3').1 q'
 ·exact absurd ((q' k k1).zero k3).1 q
 ·rcases Nat.lt_trichotomy k k' with c | c | c
  ·exact absurd ((k2' k c).zero k3).1 q
  ·subst c; exact ⟨rfl, (k3.one k3').2⟩
  ·exact absurd ((k2 k' c).zero k3').1 q'
def LoadIs (t : Tm) (c : List Int) (bk : List Cm) (f : Int) : Prop := ∃ l e, KeptIs c l e ∧ ((e ≠ 0 ∧ bk = [] ∧ f = e) ∨ (e = 0 ∧ ∃ a, BookIs t l bk a f))
theorem LoadIs.one {t : Tm} {c : List Int} {b b' : List Cm} {f f' : Int} (h : LoadIs t c b f) (h' : LoadIs t c b' f') : b = b' ∧ f = f' := by
 obtain ⟨l, e, hk, h⟩ := h
 obtain ⟨l', e', hk', h'⟩ := h'
 obtain ⟨rfl, rfl⟩ := hk.one hk'
 rcases h with ⟨p, rfl, rfl⟩ | ⟨p, a, q⟩ <;> rcases h' with ⟨p', rfl, rfl⟩ | ⟨p', a', q'⟩ <;> first | exact ⟨rfl, rfl⟩ | contradiction | exact ⟨(q.one q').1, (q.one q').2.2⟩
def KeepIs (c : List Int) (v : Ev) (ls : List Wr) (f : Int) : Prop :=
 ∃ l e, KeptIs c l e ∧ ((¬ l.length < 120 ∧ ls = [] ∧ f = 16) ∨ (l.length < 120 ∧ ∃ ws g, EncIs v ws g ∧ ((g ≠ 0 ∧ ls = [] ∧ f = g) ∨ (g = 0 ∧ AppIs c ws ls f))))
theorem KeepIs.one {c : List Int} {v : Ev} {l l' : List Wr} {f f' : Int} (h : KeepIs c v l f) (h' : KeepIs c v l' f') : l = l' ∧ f = f' := by
 obtain ⟨k, e, hk, h⟩ := h
 obtain ⟨k', e', hk', h'⟩ := h'
 obtain ⟨rfl, rfl⟩ := hk.one hk'
 rcases h with ⟨p, rfl, rfl⟩ | ⟨p, ws, g, q, r⟩ <;> rcases h' with ⟨p', rfl, rfl⟩ | ⟨p', ws', g', q', r'⟩ <;> first | exact ⟨rfl, rfl⟩ | contradiction | skip
 obtain ⟨rfl, rfl⟩ := q.one q'
 rcases r with ⟨x, rfl, rfl⟩ | ⟨x, y⟩ <;> rcases r' with ⟨x', rfl, rfl⟩ | ⟨x', y'⟩ <;> first | exact ⟨rfl, rfl⟩ | contradiction | exact y.one y'
def regE (me : Int) : Ev := ⟨1, me, 0, 0, 0, 0, 0, 0, 0, 0, 0, 0, 0⟩
def RegIs (t : Tm) (c : List Int) (me : Int) (ls : List Wr) (f : Int) : Prop :=
 ∃ bk g, LoadIs t c bk g ∧ ((g ≠ 0 ∧ ls = [] ∧ f = g) ∨ (g = 0 ∧ ¬ (0 ≤ me ∧ me ≤ 49) ∧ ls = [] ∧ f = 2) ∨ (g = 0 ∧ (0 ≤ me ∧ me ≤ 49) ∧ ¬ NoneAt bk me ∧ ls = [] ∧ f = 21) ∨ (g = 0 ∧ (0 ≤ me ∧ me ≤ 49) ∧ NoneAt bk me ∧ KeepIs c (regE me) ls f))
theorem RegIs.one {t : Tm} {c : List Int} {me : Int} {l l' : List Wr} {f f' : Int} (h : RegIs t c me l f) (h' : RegIs t c me l' f') : l = l' ∧ f = f' := by
 obtain ⟨bk, g, hk, h⟩ := h
 obtain ⟨bk', g', hk', h'⟩ := h'
 obtain ⟨rfl, rfl⟩ := hk.one hk'
 rcases h with ⟨p, rfl, rfl⟩ | ⟨p, q, rfl, rfl⟩ | ⟨p, q, r, rfl, rfl⟩ | ⟨p, q, r, s⟩ <;> rcases h' with ⟨p', rfl, rfl⟩ | ⟨p', q', rfl, rfl⟩ | ⟨p', q', r', rfl, rfl⟩ | ⟨p', q', r', s'⟩ <;> first | exact ⟨rfl, rfl⟩ | contradiction | exact s.one s'
end vnd
end Go.Proofs.YtomibnggmhjdfaaGreat
