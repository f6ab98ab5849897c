import Derived.Test.YtomibnggmhjdfaaGreatVVCes1
set_option linter.unusedVariables false
set_option linter.unusedSimpArgs false
namespace Go.Proofs.YtomibnggmhjdfaaGreat
namespace disk
open cell (Wr wr0 set_at list_ext)
def lenAt (c : List Int) (a : Nat) : Int := if a = c.length ∨ c.getD a 0 = 0 then 0 else if 64 < c.getD a 0 then -1 else if (c.length : Int) ≤ a + c.getD a 0 then -1 else c.getD a 0
def recAt (c : List Int) (a : Nat) : List Int := (c.drop (a + 1)).take (c.getD a 0).toNat
theorem len_pos {c : List Int} {a : Nat} (h : 0 < lenAt c a) : lenAt c a = c.getD a 0 ∧ 0 < c.getD a 0 ∧ c.getD a 0 ≤ 64 ∧ a + c.getD a 0 < c.length := by
 unfold lenAt at h ⊢
 by_cases h1 : a = c.length ∨ c.getD a 0 = 0
 ·rw [if_pos h1] at h; omega
 ·by_cases h2 : 64 < c.getD a 0
  ·rw [if_neg h1, if_pos h2] at h; omega
  ·by_cases h3 : (c.length : Int) ≤ a + c.getD a 0
   ·rw [if_neg h1, if_neg h2, if_pos h3] at h; omega
   ·rw [if_neg h1, if_neg h2, if_neg h3] at h ⊢
    exact ⟨rfl, h, by omega, by omega⟩
theorem len_of {c : List Int} {a : Nat} (h0 : 0 < c.getD a 0) (h1 : c.getD a 0 ≤ 64) (h2 : a + c.getD a 0 < c.length) : lenAt c a = c.getD a 0 := by
 unfold lenAt
 rw [if_neg (by omega), if_neg (by omega), if_neg (by omega)]
def stepD (c : List Int) (s : List (List Int) × Nat) : List (List Int) × Nat := if 0 < lenAt c s.2 then (s.1 ++ [recAt c s.2], s.2 + (lenAt c s.2).toNat + 1) else s
def itD (c : List Int) : Nat → List (List Int) × Nat
 | 0 => ([], 0)
 | k + 1 => stepD c (itD c k)
theorem it_live {c : List Int} {k : Nat} (h : 0 < lenAt c (itD c k).2) : itD c (k + 1) = ((itD c k).1 ++ [recAt c (itD c k).2], (itD c k).2 + (lenAt c (itD c k).2).toNat + 1) := by
 show stepD c (itD c k) = _
 unfold stepD
 rw [if_pos h]
theorem it_dead {c : List Int} {k : Nat} (h : ¬ 0 < lenAt c (itD c k).2) : ∀ m, itD c (k + m) = itD c k
 | 0 => rfl
 | m + 1 => by
  show stepD c (itD c (k + m)) = _
  rw [it_dead h m]
  unfold stepD
  rw [if_neg h]
theorem it_bound (c : List Int) (k : Nat) : (itD c k).2 ≤ c.length ∧ ((∀ i, i < k → 0 < lenAt c (itD c i).2) → k ≤ (itD c k).2) := by
 induction k with
 | zero => exact ⟨Nat.zero_le _, fun _ => Nat.le_refl _⟩
 | succ k ih =>
  by_cases h : 0 < lenAt c (itD c k).2
  ·rw [it_live h]
   obtain ⟨e, p0, p1, p2⟩ := len_pos h
   refine ⟨by show (itD c k).2 + _ + 1 ≤ _; omega, fun hl => ?_⟩
   have := ih.2 fun i hi => hl i (by omega)
   show k + 1 ≤ (itD c k).2 + _ + 1
   omega
  ·rw [it_dead h 1]
   exact ⟨ih.1, fun hl => absurd (hl k (by omega)) h⟩
def repD (c : List Int) : List (List Int) × Nat := itD c (c.length + 1)
theorem rep_dead (c : List Int) : ¬ 0 < lenAt c (repD c).2 := fun h => by
 have all : ∀ i, i < c.length + 1 → 0 < lenAt c (itD c i).2 := fun i hi => by
  refine Classical.byContradiction fun hn => ?_
  have e := it_dead hn (c.length + 1 - i)
  rw [show i + (c.length + 1 - i) = c.length + 1 by omega] at e
  unfold repD at h
  rw [e] at h
  exact hn h
 have := (it_bound c (c.length + 1)).2 all
 have := (it_bound c (c.length + 1)).1
 omega
theorem rep_of {c : List Int} {k : Nat} (h : ¬ 0 < lenAt c (itD c k).2) : repD c = itD c k := by
 by_cases hk : k ≤ c.length + 1
 ·have e := it_dead h (c.length + 1 - k)
  rw [show k + (c.length + 1 - k) = c.length + 1 by omega] at e
  exact e
 ·have e := it_dead (rep_dead c) (k - (c.length + 1))
  rw [show c.length + 1 + (k - (c.length + 1)) = k by omega] at e
  exact e.symm
def May (c : List Int) : Prop := 1 ≤ c.length ∧ c.length ≤ 2048
def RepIs (c : List Int) (out : List (List Int)) (e : Int) (f : Int) : Prop :=
 (¬ May c ∧ out = [] ∧ e = 0 ∧ f = 1) ∨ (May c ∧ lenAt c (repD c).2 < 0 ∧ out = [] ∧ e = 0 ∧ f = 3) ∨ (May c ∧ lenAt c (repD c).2 = 0 ∧ out = (repD c).1 ∧ e = ((repD c).2 : Int) ∧ f = 0)
theorem RepIs.one {c : List Int} {o o' : List (List Int)} {e e' f f' : Int} (h : RepIs c o e f) (h' : RepIs c o' e' f') : o = o' ∧ e = e' ∧ f = f' := by
 rcases h with ⟨a, rfl, rfl, rfl⟩ | ⟨a, b, rfl, rfl, rfl⟩ | ⟨a, b, rfl, rfl, rfl⟩ <;> rcases h' with ⟨a', rfl, rfl, rfl⟩ | ⟨a', b', rfl, rfl, rfl⟩ | ⟨a', b', rfl, rfl, rfl⟩ <;> first | exact ⟨rfl, rfl, rfl⟩ | contradiction | omega
def putW (at_ : Nat) (rec : List Int) : Nat → List Wr
 | 0 => []
 | k + 1 => putW at_ rec k ++ [⟨((at_ + k + 1 : Nat) : Int), rec.getD k 0⟩]
def zeroW (c : List Int) (p : Nat) : List Wr := if p < c.length then [⟨(p : Int), 0⟩] else []
def appW (c : List Int) (a : Nat) (rec : List Int) : List Wr := putW a rec rec.length ++ (zeroW c (a + rec.length + 1) ++ [⟨(a : Int), (rec.length : Int)⟩])
def RMay (r : List Int) : Prop := 1 ≤ r.length ∧ r.length ≤ 64
def AppIs (c rec : List Int) (ls : List Wr) (f : Int) : Prop :=
 (¬ RMay rec ∧ ls = [] ∧ f = 1) ∨ (RMay rec ∧ ¬ May c ∧ ls = [] ∧ f = 1) ∨ (RMay rec ∧ May c ∧ lenAt c (repD c).2 < 0 ∧ ls = [] ∧ f = 3) ∨
 (RMay rec ∧ May c ∧ lenAt c (repD c).2 = 0 ∧ c.length ≤ (repD c).2 + rec.length ∧ ls = [] ∧ f = 16) ∨ (RMay rec ∧ May c ∧ lenAt c (repD c).2 = 0 ∧ (repD c).2 + rec.length < c.length ∧ ls = appW c (repD c).2 rec ∧ f = 0)
theorem AppIs.one {c rec : List Int} {l l' : List Wr} {f f' : Int} (h : AppIs c rec l f) (h' : AppIs c rec l' f') : l = l' ∧ f = f' := by
 rcases h with ⟨a, rfl, rfl⟩ | ⟨a, b, rfl, rfl⟩ | ⟨a, b, d, rfl, rfl⟩ | ⟨a, b, d, g, rfl, rfl⟩ | ⟨a, b, d, g, rfl, rfl⟩ <;> rcases h' with ⟨a', rfl, rfl⟩ | ⟨a', b', rfl, rfl⟩ | ⟨a', b', d', rfl, rfl⟩ | ⟨a', b', d', g', rfl, rfl⟩ | ⟨a', b', d', g', rfl, rfl⟩ <;> first | exact ⟨rfl, rfl⟩ | contradiction | omega
theorem rep_bound (c : List Int) : (repD c).2 ≤ c.length := (it_bound c _).1
theorem put_len (a : Nat) (rec : List Int) (k : Nat) : (putW a rec k).length = k := by
 induction k with
 | zero => rfl
 | succ k ih => rw [putW, List.length_append, ih]; rfl
theorem app_len (c : List Int) (a : Nat) (r : List Int) : (appW c a r).length = r.length + (if a + r.length + 1 < c.length then 2 else 1) := by
 unfold appW zeroW
 rw [List.length_append, put_len]
 split <;> rfl
end disk
namespace book
open Go.RowKit
set_option maxRecDepth 100000
structure Ev where
 kd : Int
 me : Int
 mo : Int
 id : Int
 te : Int
 de : Int
 fe : Int
 pr : Int
 ch : Int
 un : Int
 tg : Int
 ow : Int
 bp : Int
def ev0 : Ev := ⟨0, 0, 0, 0, 0, 0, 0, 0, 0, 0, 0, 0, 0⟩
def EMay (v : Ev) : Prop := (0 ≤ v.me ∧ v.me ≤ 49) ∧ ((v.kd = 1 ∧ v.mo = 0 ∧ v.id = 0 ∧ v.te = 0 ∧ v.de = 0 ∧ v.fe = 0 ∧ v.pr = 0 ∧ v.ch = 0 ∧ v.un = 0 ∧ v.tg = 0 ∧ v.ow = 0 ∧ v.bp = 0) ∨ (v.kd = 5 ∧ v.mo = 0 ∧ v.id = 0 ∧ v.te = 0 ∧ v.de = 0 ∧ v.fe = 0 ∧ v.pr = 0 ∧ v.ch = 0 ∧ v.un = 0 ∧ v.tg = 0 ∧ (1 ≤ v.ow ∧ v.ow ≤ 1000000000) ∧ 0 ≤ v.bp ∧ v.bp ≤ 10000) ∨
 ((2 ≤ v.kd ∧ v.kd ≤ 4) ∧ (1 ≤ v.id ∧ v.id ≤ 1048575) ∧ (0 ≤ v.tg ∧ v.tg ≤ 65535) ∧ (v.ow = 0 ∧ v.bp = 0) ∧ ((v.kd = 4 ∧ v.mo = 0 ∧ v.te = 0 ∧ v.de = 0 ∧ v.fe = 0 ∧ v.pr = 0 ∧ v.ch = 0 ∧ v.un = 0) ∨ (v.kd ≠ 4 ∧ (0 ≤ v.mo ∧ v.mo ≤ 2399) ∧ (1 ≤ v.un ∧ v.un ≤ 2097151) ∧
  ((v.kd = 3 ∧ v.te = 0 ∧ v.de = 0 ∧ v.fe = 0 ∧ v.pr = 0 ∧ v.ch = 0) ∨ (v.kd ≠ 3 ∧ (1 ≤ v.te ∧ v.te ≤ 100000000) ∧ (0 ≤ v.de ∧ v.de ≤ v.te) ∧ (0 ≤ v.fe ∧ v.fe ≤ v.te) ∧ (0 ≤ v.pr ∧ v.pr ≤ v.te) ∧ (0 ≤ v.ch ∧ v.ch ≤ v.te) ∧ v.de + v.fe + v.pr + v.ch = v.te))))))
def evL (v : Ev) : List Int := [v.kd, v.me, v.mo, v.id, v.te, v.de, v.fe, v.pr, v.ch, v.un, v.tg, v.ow, v.bp]
theorem evL_len (v : Ev) : (evL v).length = 13 := rfl
theorem may_word {v : Ev} (h : EMay v) : ∀ x ∈ evL v, 0 ≤ x ∧ x < 4294967296 := by
 intro x hx
 unfold EMay at h
 simp only [evL, List.mem_cons, List.not_mem_nil, or_false] at hx
 rcases hx with rfl | rfl | rfl | rfl | rfl | rfl | rfl | rfl | rfl | rfl | rfl | rfl | rfl <;> omega
def evOf (l : List Int) : Ev := ⟨l.getD 0 0, l.getD 1 0, l.getD 2 0, l.getD 3 0, l.getD 4 0, l.getD 5 0, l.getD 6 0, l.getD 7 0, l.getD 8 0, l.getD 9 0, l.getD 10 0, l.getD 11 0, l.getD 12 0⟩
theorem evL_Of {l : List Int} (h : l.length = 13) : evL (evOf l) = l := by
 match l, h with
 | [a0, a1, a2, a3, a4, a5, a6, a7, a8, a9, a10, a11, a12], _ => rfl
def EncIs (v : Ev) (ws : List Int) (e : Int) : Prop := (EMay v ∧ ws = evL v ∧ e = 0) ∨ (¬ EMay v ∧ ws = [] ∧ e = 5)
theorem EncIs.one {v : Ev} {a b : List Int} {e f : Int} (h : EncIs v a e) (h' : EncIs v b f) : a = b ∧ e = f := by
 rcases h with ⟨q, rfl, rfl⟩ | ⟨q, rfl, rfl⟩ <;> rcases h' with ⟨q', rfl, rfl⟩ | ⟨q', rfl, rfl⟩ <;> first | exact ⟨rfl, rfl⟩ | contradiction
def DecIs (l : List Int) (v : Ev) (e : Int) : Prop := (l.length ≠ 13 ∧ v = ev0 ∧ e = 1) ∨ (l.length = 13 ∧ ¬ EMay (evOf l) ∧ v = ev0 ∧ e = 5) ∨ (l.length = 13 ∧ EMay (evOf l) ∧ v = evOf l ∧ e = 0)
theorem DecIs.one {l : List Int} {a b : Ev} {e f : Int} (h : DecIs l a e) (h' : DecIs l b f) : a = b ∧ e = f := by
 rcases h with ⟨q, rfl, rfl⟩ | ⟨q, r, rfl, rfl⟩ | ⟨q, r, rfl, rfl⟩ <;> rcases h' with ⟨q', rfl, rfl⟩ | ⟨q', r', rfl, rfl⟩ | ⟨q', r', rfl, rfl⟩ <;> first | exact ⟨rfl, rfl⟩ | contradiction
structure Cu where
 me : Int
 rv : Int
 nx : Int
 mo : Int
 bo : Int
 fr : Int
 dp : Option Addr
 dn : Nat
 dc : Nat
 sp : Option Addr
 sn : Nat
 sc : Nat
def cu0 : Cu := ⟨0, 0, 0, 0, 0, 0, none, 0, 0, none, 0, 0⟩
def Cu.cs (x : Cu) : List Value := [.int .i64 x.me, .int .i64 x.rv, .int .i64 x.nx, .int .i64 x.mo, .int .i64 x.bo, .int .i64 x.fr, .slice x.dp x.dn x.dc, .slice x.sp x.sn x.sc]
def cellsC : List Cu → List Value
 | [] => []
 | x :: l => x.cs ++ cellsC l
theorem cellsC_len (l : List Cu) : (cellsC l).length = l.length * 8 := by
 induction l with
 | nil => rfl
 | cons e l ih => rw [cellsC, List.length_append, ih, List.length_cons]; show 8 + _ = _; omega
theorem cellsC_app (l m : List Cu) : cellsC (l ++ m) = cellsC l ++ cellsC m := by
 induction l with
 | nil => rfl
 | cons e l ih => rw [List.cons_append, cellsC, cellsC, ih, List.append_assoc]
theorem oneC (l : List Cu) : ∀ u ∈ cellsC l, u.oneCell' = true := by
 induction l with
 | nil => intro u hu; cases hu
 | cons e l ih =>
  intro u hu
  rw [cellsC] at hu
  rcases List.mem_append.1 hu with hu | hu
  ·simp only [Cu.cs, List.mem_cons, List.not_mem_nil, or_false] at hu
   rcases hu with rfl | rfl | rfl | rfl | rfl | rfl | rfl | rfl <;> rfl
  ·exact ih u hu
theorem cellsC_at (l : List Cu) (k j : Nat) (hk : k < l.length) (hj : j < 8) : (cellsC l)[k * 8 + j]? = (l.getD k cu0).cs[j]? := by
 induction l generalizing k with
 | nil => simp at hk
 | cons x l ih =>
  have h8 : x.cs.length = 8 := rfl
  cases k with
  | zero => rw [Nat.zero_mul, Nat.zero_add, cellsC, List.getElem?_append_left (by omega)]; rfl
  | succ k =>
   rw [show (k + 1) * 8 + j = x.cs.length + (k * 8 + j) by omega, cellsC, List.getElem?_append_right (by omega), Nat.add_sub_cancel_left]
   exact ih k (by simpa using hk)
def RowC (w : World) (a : Option Addr) (n : Nat) (l : List Cu) : Prop := l.length = n ∧ (n = 0 ∨ ∃ b off, a = some ⟨b, off, none⟩ ∧ b < w.heap.size ∧ ∀ i j, i < n → j < 8 → w.cell? ⟨b, off + i * 8 + j, none⟩ = (l.getD i cu0).cs[j]?)
theorem RowC.below {w w' : World} {a : Option Addr} {n : Nat} {l : List Cu} (h : RowC w a n l) (hb : Below w.heap.size w w') : RowC w' a n l := by
 refine ⟨h.1, ?_⟩
 rcases h.2 with h0 | ⟨b, off, rfl, lb, hc⟩
 ·exact .inl h0
 ·exact .inr ⟨b, off, rfl, Nat.lt_of_lt_of_le lb hb.size, fun i j hi hj => (hb.cell (p := ⟨b, off + i * 8 + j, none⟩) lb).trans (hc i j hi hj)⟩
def Lc (w : World) (base : Nat) (v : Value) (l : List Cu) : Prop := w.ownsRow base 62 8 v l.length (cellsC l)
theorem Lc.zero (w : World) (base : Nat) : Lc w base (.slice none 0 0) [] := World.ownsRow_nil _ _ _ _
theorem Lc.next {w w' : World} {base : Nat} {v : Value} {l : List Cu} (h : Lc w base v l) (hb : Below w.heap.size w w') : Lc w' base v l := by
 refine ⟨h.1, ?_⟩
 rcases h.2 with hn | ⟨g, cap, cur, hv, hg, hc, rest⟩
 ·exact .inl hn
 ·exact .inr ⟨g, cap, cur, hv, hg, Blk.next hc hb, rest⟩
theorem Lc.row {w : World} {base : Nat} {v : Value} {l : List Cu} (h : Lc w base v l) : ∃ a cap, v = .slice a l.length cap ∧ RowC w a l.length l ∧ (a = none → cap = 0) ∧ l.length ≤ cap := by
 rcases h.2 with ⟨hv, hn⟩ | ⟨g, cap, cur, hv, _, hc, h1, _⟩
 ·exact ⟨none, 0, by rw [hn]; exact hv, ⟨rfl, .inl hn⟩, fun _ => rfl, by omega⟩
 ·subst hv
  refine ⟨_, cap, rfl, ⟨rfl, .inr ⟨g, 0, rfl, Blk.lt hc, fun i j hi hj => ?_⟩⟩, (fun h => by cases h), h1⟩
  have e1 := World.ownsRow.cellAt h (i * 8 + j) (by omega)
  rw [Nat.zero_add, e1]
  exact cellsC_at l i j hi hj
theorem custI : (Tryz.prog.info? 62).map (fun i => (i.zero, i.size, i.bytes)) = some (some (.agg cu0.cs.toArray), 8, 96) := by kernel_rfl
theorem step_cust {w : World} {o : Oper} {a : Act} {K : Act → World → Prop} {Q : Exit → Act → World → Prop} (s x : Operand)
  (ho : o.op = .call { callee := .builtin .append, args := #[s, x], argTypes := #[27, 27] })
  (base G : Nat) (v : Value) (l : List Cu) (r : Cu) (hs : a.eval s = v) (hx : a.eval x = .slice (some ⟨G, 0, none⟩) 1 1) (hv : Lc w base v l) (hu : Blk w G r.cs.toArray 62) (hn : l.length ≤ 2000000) (hbase : base ≤ w.heap.size)
  (h : ∀ v' w', Lc w' base v' (l ++ [r]) → w.grownBy w' v.ownBlock → (v'.ownBlock = v.ownBlock ∨ v'.ownBlock = some w.heap.size) → K (a.put o.dst v') w') : Oper.wp Tryz.prog o a w K Q := by
 obtain ⟨i0, hi, hz0, hz1, hz2⟩ := info_parts custI
 obtain ⟨v', w', hr, h2, h3, _, h5⟩ := run_append_own_at (P := Tryz.prog) w base 27 o.type 62 i0 (.agg cu0.cs.toArray) 8 96 Tryz.underlying27 hi hz0 hz1 hz2 rfl (by decide) v l.length (cellsC l) hv ⟨G, 0, none⟩ 1 1 (cellsC [r]) (by rw [cellsC_len]; rfl) (by
  intro j u hj
  rw [Addr.add_lit, Nat.zero_add, hu.cell j]
  rw [cellsC, cellsC, List.append_nil] at hj
  simpa using hj) (oneC [r]) (by unfold maxLen; omega) (by omega) hbase
 unfold Oper.wp execOp
 simp only [ho, resolve, invoke, builtin, Sem.run_bind, Sem.run_pure, Result.andThen_ok, List.map_toArray, List.map_cons, List.map_nil, hs, hx, hr]
 refine h v' w' ?_ h3 h5
 unfold Lc
 rw [List.length_append, cellsC_app]
 exact h2
def FindIs (l : List Cu) (me at_ f : Int) : Prop := (∃ k, k < l.length ∧ (l.getD k cu0).me = me ∧ (∀ j, j < k → (l.getD j cu0).me ≠ me) ∧ at_ = (k : Int) ∧ f = 0) ∨ ((∀ j, j < l.length → (l.getD j cu0).me ≠ me) ∧ at_ = 0 ∧ f = 18)
def FoundIs (l : List Cu) (me at_ : Int) : Prop := (∃ k, k < l.length ∧ (l.getD k cu0).me = me ∧ (∀ j, j < k → (l.getD j cu0).me ≠ me) ∧ at_ = (k : Int)) ∨ ((∀ j, j < l.length → (l.getD j cu0).me ≠ me) ∧ at_ = -1)
end book
namespace cell
open Go.RowKit
set_option maxRecDepth 100000
def RowW (w : World) (a : Option Addr) (len : Nat) (ls : List Wr) : Prop :=
 ls.length = len ∧ (len = 0 ∨ ∃ b off, a = some ⟨b, off, none⟩ ∧ ∀ i, i < len → w.cell? ⟨b, off + i * 2, none⟩ = some (.int .i64 (ls.getD i wr0).p) ∧ w.cell? ⟨b, off + i * 2 + 1, none⟩ = some (.int .u32 (ls.getD i wr0).d))
theorem RowW.below {w w' : World} {a : Option Addr} {n : Nat} {zs : List Wr} (h : RowW w a n zs) (hb : Below w.heap.size w w') : RowW w' a n zs := by
 refine ⟨h.1, ?_⟩
 rcases h.2 with h0 | ⟨b, off, rfl, hc⟩
 ·exact .inl h0
 ·refine .inr ⟨b, off, rfl, fun i hi => ?_⟩
  have h1 := hc i hi
  rw [hb.cell (p := ⟨b, off + i * 2, none⟩) (World.block_lt_of_cell? w _ h1.1), hb.cell (p := ⟨b, off + i * 2 + 1, none⟩) (World.block_lt_of_cell? w _ h1.2)]
  exact h1
theorem RowW.nil (w : World) (a : Option Addr) : RowW w a 0 [] := ⟨rfl, .inl rfl⟩
theorem RowW.at {w : World} {a : Option Addr} {n : Nat} {zs : List Wr} (h : RowW w a n zs) (h0 : 0 < n) : ∃ b off, a = some ⟨b, off, none⟩ ∧ b < w.heap.size ∧ ∀ i, i < n → w.cell? ⟨b, off + i * 2, none⟩ = some (.int .i64 (zs.getD i wr0).p) ∧ w.cell? ⟨b, off + i * 2 + 1, none⟩ = some (.int .u32 (zs.getD i wr0).d) := by
 rcases h.2 with h1 | ⟨b, off, rfl, hc⟩
 ·omega
 ·exact ⟨b, off, rfl, World.block_lt_of_cell? w _ (hc 0 h0).1, hc⟩
def cellsW : List Wr → List Value
 | [] => []
 | e :: l => .int .i64 e.p :: .int .u32 e.d :: cellsW l
theorem cellsW_app (l m : List Wr) : cellsW (l ++ m) = cellsW l ++ cellsW m := by
 induction l with
 | nil => rfl
 | cons e l ih => simp [cellsW, ih]
theorem oneW (l : List Wr) : ∀ u ∈ cellsW l, u.oneCell' = true := by
 induction l with
 | nil => intro u hu; cases hu
 | cons e l ih =>
  intro u hu
  simp only [cellsW, List.mem_cons] at hu
  rcases hu with rfl | rfl | hu
  ·rfl
  ·rfl
  ·exact ih u hu
theorem cellsW_at (l : List Wr) (k : Nat) (hk : k < l.length) : (cellsW l)[k * 2]? = some (.int .i64 (l.getD k wr0).p) ∧ (cellsW l)[k * 2 + 1]? = some (.int .u32 (l.getD k wr0).d) := by
 induction l generalizing k with
 | nil => simp at hk
 | cons x l ih =>
  cases k with
  | zero => exact ⟨rfl, rfl⟩
  | succ k =>
   rw [show (k + 1) * 2 = k * 2 + 1 + 1 by omega]
   have := ih k (by simpa using hk)
   simpa [cellsW] using this
def Lw (w : World) (base : Nat) (v : Value) (l : List Wr) : Prop := w.ownsRow base 76 2 v l.length (cellsW l)
theorem Lw.zero (w : World) (base : Nat) : Lw w base (.slice none 0 0) [] := World.ownsRow_nil _ _ _ _
theorem Lw.alloc {w : World} {base : Nat} {v : Value} {l : List Wr} (h : Lw w base v l) (o : Obj) : Lw (w.alloc o) base v l := World.ownsRow.alloc h o
theorem Lw.row {w : World} {base : Nat} {v : Value} {l : List Wr} (h : Lw w base v l) : ∃ a cap, v = .slice a l.length cap ∧ RowW w a l.length l ∧ (a = none → cap = 0) ∧ l.length ≤ cap ∧ (∀ x, a = some x → x.off = 0 ∧ x.spot = none) := by
 rcases h.2 with ⟨hv, hn⟩ | ⟨g, cap, cur, hv, _, _, h1, _⟩
 ·exact ⟨none, 0, by rw [hn]; exact hv, ⟨rfl, .inl hn⟩, fun _ => rfl, by omega, fun x h => by cases h⟩
 ·subst hv
  refine ⟨_, cap, rfl, ⟨rfl, .inr ⟨g, 0, rfl, fun i hi => ?_⟩⟩, (fun h => by cases h), h1, fun x h => by cases h; exact ⟨rfl, rfl⟩⟩
  have e1 := World.ownsRow.cellAt h (i * 2) (by omega)
  have e2 := World.ownsRow.cellAt h (i * 2 + 1) (by omega)
  rw [Nat.zero_add, e1, e2]
  exact cellsW_at l i hi
theorem info_wr : (Tryz.prog.info? 76).map (fun i => (i.zero, i.size, i.bytes)) = some (some (.agg #[.int .i64 0, .int .u32 0]), 2, 16) := by kernel_rfl
theorem wp_write {w : World} {ops : Array Oper} {rest : List Oper} {o : Oper} {a : Act} {Q : Exit → Act → World → Prop} (hgd : o.guard = none) (s x : Operand)
  (ho : o.op = .call { callee := .builtin .append, args := #[s, x], argTypes := #[37, 37] })
  (base G : Nat) (v : Value) (l : List Wr) (r : Wr) (hs : a.eval s = v) (hx : a.eval x = .slice (some ⟨G, 0, none⟩) 1 1) (hv : Lw w base v l) (hu : w.cell? ⟨G, 0, none⟩ = some (.int .i64 r.p) ∧ w.cell? ⟨G, 1, none⟩ = some (.int .u32 r.d)) (hn : l.length ≤ 1000000) (hbase : base ≤ w.heap.size)
  (h : ∀ v' w', Lw w' base v' (l ++ [r]) → w.grownBy w' v.ownBlock → wpList Tryz.prog ops Q rest (a.put o.dst v') w') : wpList Tryz.prog ops Q (o :: rest) a w := by
 obtain ⟨i0, hi, hz0, hz1, hz2⟩ := info_parts info_wr
 refine wpList_append_own w hgd s x 37 ho base 76 i0 (.agg #[.int .i64 0, .int .u32 0]) 2 16 Tryz.underlying37 hi hz0 hz1 hz2 rfl (by decide) v l.length (cellsW l) hs hv ⟨G, 0, none⟩ 1 1 (cellsW [r]) hx rfl ?_ (oneW [r]) (by unfold maxLen; omega) (by omega) hbase ?_
 ·intro j u hj
  match j, hj with
  | 0, hj => simp [cellsW] at hj; subst hj; simpa [Addr.add] using hu.1
  | 1, hj => simp [cellsW] at hj; subst hj; simpa [Addr.add] using hu.2
  | j + 2, hj => simp [cellsW] at hj
 intro v' w' h1 h2 _
 refine h v' w' ?_ h2
 unfold Lw
 rw [List.length_append, cellsW_app]
 exact h1
end cell
namespace disk
open cell
set_option maxRecDepth 100000
theorem it_short (c : List Int) (k : Nat) : ∀ z ∈ (itD c k).1, z.length ≤ 64 := by
 induction k with
 | zero => intro z hz; cases hz
 | succ k ih =>
  intro z hz
  by_cases h : 0 < lenAt c (itD c k).2
  ·rw [it_live h] at hz
   rcases List.mem_append.1 hz with hz | hz
   ·exact ih z hz
   ·obtain rfl := List.mem_singleton.1 hz
    obtain ⟨_, _, p1, _⟩ := len_pos h
    unfold recAt
    rw [List.length_take]
    omega
  ·rw [it_dead h 1] at hz
   exact ih z hz
theorem it_count (c : List Int) (k : Nat) : (itD c k).1.length ≤ (itD c k).2 := by
 induction k with
 | zero => exact Nat.le_refl _
 | succ k ih =>
  by_cases h : 0 < lenAt c (itD c k).2
  ·rw [it_live h]
   show ((itD c k).1 ++ [_]).length ≤ (itD c k).2 + _ + 1
   rw [List.length_append]
   simp only [List.length_cons, List.length_nil]
   omega
  ·rw [it_dead h 1]; exact ih
theorem rep_few {c : List Int} {o : List (List Int)} {x f : Int} (h : RepIs c o x f) : o.length ≤ 2048 ∧ ∀ z ∈ o, z.length ≤ 64 := by
 rcases h with ⟨_, rfl, _⟩ | ⟨_, _, rfl, _⟩ | ⟨hm, _, rfl, _⟩
 ·exact ⟨Nat.zero_le _, fun z hz => by cases hz⟩
 ·exact ⟨Nat.zero_le _, fun z hz => by cases hz⟩
 ·exact ⟨Nat.le_trans (it_count c _) (Nat.le_trans (it_bound c _).1 hm.2), it_short c _⟩
theorem app_few {c r : List Int} {l : List Wr} {f : Int} (h : AppIs c r l f) : l.length ≤ 66 := by
 rcases h with ⟨_, rfl, _⟩ | ⟨_, _, rfl, _⟩ | ⟨_, _, _, rfl, _⟩ | ⟨_, _, _, _, rfl, _⟩ | ⟨hr, _, _, _, rfl, _⟩
 ·exact Nat.zero_le _
 ·exact Nat.zero_le _
 ·exact Nat.zero_le _
 ·exact Nat.zero_le _
 ·rw [app_len]; have := hr.2; split <;> omega
end disk
namespace book
open Go.RowKit
set_option maxRecDepth 100000
def Ev.v (x : Ev) : Value := .agg #[.int .i64 x.kd, .int .i64 x.me, .int .i64 x.mo, .int .i64 x.id, .int .i64 x.te, .int .i64 x.de, .int .i64 x.fe, .int .i64 x.pr, .int .i64 x.ch, .int .i64 x.un, .int .i64 x.tg, .int .i64 x.ow, .int .i64 x.bp]
def Ev.cs (x : Ev) : Array Value := #[.int .i64 x.kd, .int .i64 x.me, .int .i64 x.mo, .int .i64 x.id, .int .i64 x.te, .int .i64 x.de, .int .i64 x.fe, .int .i64 x.pr, .int .i64 x.ch, .int .i64 x.un, .int .i64 x.tg, .int .i64 x.ow, .int .i64 x.bp]
def wf13 (x : Ev) : Prop := (Lit.int .i64 x.kd).wf = true ∧ (Lit.int .i64 x.me).wf = true ∧ (Lit.int .i64 x.mo).wf = true ∧ (Lit.int .i64 x.id).wf = true ∧ (Lit.int .i64 x.te).wf = true ∧ (Lit.int .i64 x.de).wf = true ∧ (Lit.int .i64 x.fe).wf = true ∧ (Lit.int .i64 x.pr).wf = true ∧ (Lit.int .i64 x.ch).wf = true ∧ (Lit.int .i64 x.un).wf = true ∧ (Lit.int .i64 x.tg).wf = true ∧ (Lit.int .i64 x.ow).wf = true ∧ (Lit.int .i64 x.bp).wf = true
theorem wf_may {x : Ev} (h : EMay x) : wf13 x := by
 have hh := may_word h
 have q : ∀ z, 0 ≤ z ∧ z < 4294967296 → (Lit.int .i64 z).wf = true := fun z hz => by
  simp only [Lit.wf, Bool.and_eq_true, decide_eq_true_eq]
  rw [show IntKind.i64.min = -9223372036854775808 from by decide, show IntKind.i64.max = 9223372036854775807 from by decide]
  omega
 exact ⟨q _ (hh _ (by simp [evL])), q _ (hh _ (by simp [evL])), q _ (hh _ (by simp [evL])), q _ (hh _ (by simp [evL])), q _ (hh _ (by simp [evL])), q _ (hh _ (by simp [evL])), q _ (hh _ (by simp [evL])), q _ (hh _ (by simp [evL])), q _ (hh _ (by simp [evL])), q _ (hh _ (by simp [evL])), q _ (hh _ (by simp [evL])), q _ (hh _ (by simp [evL])), q _ (hh _ (by simp [evL]))⟩
end book
namespace cal
open Go.RowKit
theorem cin (n lo hi : Int) (w : World) : Calls Tryz.prog 25 #[.int .i64 n, .int .i64 lo, .int .i64 hi] w fun e w' => e = .returned (.bool (decide (lo ≤ n ∧ n ≤ hi))) ∧ w' = w := by
 by_cases h1 : lo ≤ n
 ·by_cases h2 : n ≤ hi
  ·have h3 : decide (lo ≤ n ∧ n ≤ hi) = true := by simp; omega
   rw [h3]; clear h3
   go_enter Tryz.func25, Tryz.ntmps25
   go_wp2
   go_ret
   exact ⟨rfl, rfl⟩
  ·have h3 : decide (lo ≤ n ∧ n ≤ hi) = false := by simp; omega
   have h4 : decide (n ≤ hi) = false := by simp; omega
   rw [h3]; clear h3 h2
   go_enter Tryz.func25, Tryz.ntmps25
   go_wp2
   go_ret
   exact ⟨rfl, rfl⟩
 ·have h3 : decide (lo ≤ n ∧ n ≤ hi) = false := by simp; omega
  have h4 : decide (lo ≤ n) = false := by simp; omega
  rw [h3]; clear h3 h1
  go_enter Tryz.func25, Tryz.ntmps25
  go_wp2
  go_ret
  exact ⟨rfl, rfl⟩
end cal
namespace bki
open Go.RowKit
def Row (w : World) (a : Option Addr) (len : Nat) (zs : List Int) : Prop :=
 zs.length = len ∧ (len = 0 ∨ ∃ b off, a = some ⟨b, off, none⟩ ∧ ∀ i, i < len → w.cell? ⟨b, off + i, none⟩ = some (.int .i64 (zs.getD i 0)))
def okAll (lo hi : Int) (l : List Int) : Bool := l.all fun n => decide (lo ≤ n) && decide (n ≤ hi)
theorem okAll_step (lo hi : Int) (zs : List Int) (k : Nat) (hk : k < zs.length) (h : okAll lo hi (zs.take k) = true) (h1 : lo ≤ zs.getD k 0) (h2 : zs.getD k 0 ≤ hi) : okAll lo hi (zs.take (k + 1)) = true := by
 unfold okAll at *
 rw [List.take_add_one, List.all_append, h]
 simp only [List.getD, List.getElem?_eq_getElem hk, Option.getD] at h1 h2 ⊢
 simp [h1, h2]
theorem okAll_no (lo hi : Int) (zs : List Int) (k : Nat) (hk : k < zs.length) (h : zs.getD k 0 < lo ∨ hi < zs.getD k 0) : okAll lo hi zs = false := by
 unfold okAll
 rw [List.all_eq_false]
 refine ⟨zs[k], List.getElem_mem hk, ?_⟩
 simp only [List.getD, List.getElem?_eq_getElem hk, Option.getD] at h
 simp; omega
theorem ret_bool {a b : Bool} (h : a = b) : Ending.returned (.bool a) = .returned (.bool b) := by rw [h]
set_option maxHeartbeats 400000 in
theorem within_any (lo hi : Int) (a : Option Addr) (len cap : Nat) (zs : List Int) (w : World) (hr : Row w a len zs) (hl : len ≤ maxLen) :
  Calls Tryz.prog 84 #[.int .i64 lo, .int .i64 hi, .slice a len cap] w fun e w' => e = .returned (.bool (okAll lo hi zs)) ∧ w' = w := by
 unfold maxLen at hl
 obtain ⟨hz, hr⟩ := hr
 go_enter Tryz.func84, Tryz.ntmps84
 go_wp2
 go_loop [11] (fun i => ∃ k : Nat, k ≤ len ∧ i = .int .i64 k ∧ okAll lo hi (zs.take k) = true) (fun i => len - (intOf i).toNat)
 case atStart => exact ⟨0, Nat.zero_le _, rfl, rfl⟩
 case round =>
  obtain ⟨k, hk, rfl, hok⟩ := hrel
  have HK : Hid (okAll lo hi (zs.take k) = true) := hok
  clear hok
  by_cases hlt : k < len
  ·rcases hr with h0 | ⟨b, off, rfl, hc⟩
   ·omega
   have hcell := hc k hlt
   clear hc
   generalize hzk : zs.getD k 0 = z at hcell
   have HZ : Hid (zs.getD k 0 = z) := hzk
   clear hzk
   by_cases h1 : z < lo
   ·go_wp2
    go_ret
    exact ⟨ret_bool (okAll_no lo hi zs k (by omega) (.inl (by rw [HZ.out]; exact h1))).symm, rfl⟩
   ·by_cases h2 : hi < z
    ·go_wp2
     go_ret
     exact ⟨ret_bool (okAll_no lo hi zs k (by omega) (.inr (by rw [HZ.out]; exact h2))).symm, rfl⟩
    ·go_wp2
     go_round
     case rel => exact ⟨k + 1, by omega, by go_num, okAll_step lo hi zs k (by omega) HK.out (by rw [HZ.out]; omega) (by rw [HZ.out]; omega)⟩
     case measure => simp [intOf]; omega
  ·go_wp2
   go_ret
   refine ⟨ret_bool ?_, rfl⟩
   have := HK.out
   rw [List.take_of_length_le (by omega)] at this
   exact this.symm
theorem row_one (w : World) (z : Int) (t : TypeId) : Row (w.alloc (.cells #[.int .i64 z] t)) (some ⟨w.heap.size, 0, none⟩) 1 [z] := by
 refine ⟨rfl, .inr ⟨_, _, rfl, fun i hi => ?_⟩⟩
 obtain rfl : i = 0 := by omega
 simp
theorem bel1 (w : World) (o : Obj) : Below w.heap.size w (w.alloc o) := (Below.refl _ _).alloc (Nat.le_refl _) _
theorem bel2 (w : World) (o o' : Obj) : Below w.heap.size w ((w.alloc o).alloc o') := (bel1 w o).alloc (by simp) _
theorem within_one (lo hi z : Int) (w : World) (b : Nat) (hb : b = w.heap.size) :
  Calls Tryz.prog 84 #[.int .i64 lo, .int .i64 hi, .slice (some ⟨b, 0, none⟩) 1 1] (w.alloc (.cells #[.int .i64 z] 3)) fun e w' => e = .returned (.bool (decide (lo ≤ z ∧ z ≤ hi))) ∧ w' = w.alloc (.cells #[.int .i64 z] 3) := by
 have h := within_any lo hi _ 1 1 [z] _ (row_one w z 3) (by decide)
 have e : okAll lo hi [z] = decide (lo ≤ z ∧ z ≤ hi) := by simp [okAll]
 rw [e] at h
 rw [hb]
 exact h
theorem row_four (w : World) (a b c d : Int) (t : TypeId) : Row (w.alloc (.cells #[.int .i64 a, .int .i64 b, .int .i64 c, .int .i64 d] t)) (some ⟨w.heap.size, 0, none⟩) 4 [a, b, c, d] := by
 refine ⟨rfl, .inr ⟨_, _, rfl, fun i hi => ?_⟩⟩
 match i, hi with
 | 0, _ => simp
 | 1, _ => simp
 | 2, _ => simp
 | 3, _ => simp
end bki
namespace cents
open Go.RowKit
set_option maxHeartbeats 400000 in
theorem part_yes (a b : Int) (w : World) (h1 : 0 ≤ a) (h2 : a ≤ 1000000000000) (h3 : 0 ≤ b) (h4 : b ≤ 10000) :
  Calls Tryz.prog 115 #[.int .i64 a, .int .i64 b] w fun e w' => e = .returned (.tuple #[.int .i64 (a * b / 10000), .int .i64 0]) ∧ Below w.heap.size w w' := by
 obtain ⟨hp1, hp2⟩ := prod_bd a b _ _ h1 h2 h3 h4
 go_enter Tryz.func115, Tryz.ntmps115
 go_wp2_with fail
 refine (within_one_yes _ _ _ _ _ rfl h1 h2).mono ?_
 rintro e w' ⟨rfl, rfl⟩
 go_wp2_with fail
 refine (within_one_yes _ _ _ _ _ (by simp) h3 h4).mono ?_
 rintro e w' ⟨rfl, rfl⟩
 go_wp2
 go_ret2
 exact ⟨rfl, bel2 _ _ _⟩
set_option maxHeartbeats 400000 in
theorem part_no (a b : Int) (w : World) (h : (a < 0 ∨ 1000000000000 < a) ∨ (b < 0 ∨ 10000 < b)) :
  Calls Tryz.prog 115 #[.int .i64 a, .int .i64 b] w fun e w' => e = .returned (.tuple #[.int .i64 0, .int .i64 2]) ∧ Below w.heap.size w w' := by
 by_cases h0 : a < 0 ∨ 1000000000000 < a
 ·clear h
  go_enter Tryz.func115, Tryz.ntmps115
  go_wp2_with fail
  refine (within_one_no _ _ _ _ _ rfl h0).mono ?_
  rintro e w' ⟨rfl, rfl⟩
  go_wp2
  go_ret2
  exact ⟨rfl, bel1 _ _⟩
 ·have h5 : b < 0 ∨ 10000 < b := by omega
  have h1 : 0 ≤ a := by omega
  have h2 : a ≤ 1000000000000 := by omega
  clear h h0
  go_enter Tryz.func115, Tryz.ntmps115
  go_wp2_with fail
  refine (within_one_yes _ _ _ _ _ rfl h1 h2).mono ?_
  rintro e w' ⟨rfl, rfl⟩
  go_wp2_with fail
  refine (within_one_no _ _ _ _ _ (by simp) h5).mono ?_
  rintro e w' ⟨rfl, rfl⟩
  go_wp2
  go_ret2
  exact ⟨rfl, bel2 _ _ _⟩
end cents
namespace tar
open Go.RowKit
theorem run_min (x y m : Int) (h : min x y = m) (w : World) : (Builtin.min_ #[3, 3] 3 #[.int .i64 x, .int .i64 y]).run Tryz.prog w = .ok (.int .i64 m) w := by
 subst h
 unfold Builtin.min_
 by_cases h : y < x
 ·rw [show min x y = y by omega]
  simp [Builtin.min2, go_sem]
  omega
 ·rw [show min x y = x by omega]
  simp [Builtin.min2, go_sem]
  omega
end tar
namespace book
open Go.RowKit cell
set_option maxRecDepth 100000
def EncGot (w : World) (v : Ev) (e : Ending) (w' : World) : Prop := ∃ a n cap ws f, e = .returned (.tuple #[.slice a n cap, .int .i64 f]) ∧ EncIs v ws f ∧ RowU w' a n ws ∧ (a = none → cap = 0) ∧ n ≤ cap ∧ n ≤ 13 ∧ Below w.heap.size w w'
def KEnc : Prop := ∀ (W : World) (v : Ev), wf13 v → Calls Tryz.prog 40 #[v.v] W fun e w' => EncGot W v e w'
end book
end Go.Proofs.YtomibnggmhjdfaaGreat
