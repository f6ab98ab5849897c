import Derived.Test.YtomibnggmhjdfaaGreatVVRrs4
set_option linter.unusedVariables false
set_option linter.unusedSimpArgs false
namespace Go.Proofs.YtomibnggmhjdfaaGreat
namespace book
open Go.RowKit
set_option maxRecDepth 100000
def Ev.v (x : Ev) : Value := .agg #[.int .i64 x.kd, .int .i64 x.me, .int .i64 x.mo, .int .i64 x.id, .int .i64 x.te, .int .i64 x.de, .int .i64 x.fe, .int .i64 x.pr, .int .i64 x.ch, .int .i64 x.un, .int .i64 x.tg, .int .i64 x.ow, .int .i64 x.bp]
def Ev.cs (x : Ev) : Array Value := #[.int .i64 x.kd, .int .i64 x.me, .int .i64 x.mo, .int .i64 x.id, .int .i64 x.te, .int .i64 x.de, .int .i64 x.fe, .int .i64 x.pr, .int .i64 x.ch, .int .i64 x.un, .int .i64 x.tg, .int .i64 x.ow, .int .i64 x.bp]
def wf13 (x : Ev) : Prop := (Lit.int .i64 x.kd).wf = true ∧ (Lit.int .i64 x.me).wf = true ∧ (Lit.int .i64 x.mo).wf = true ∧ (Lit.int .i64 x.id).wf = true ∧ (Lit.int .i64 x.te).wf = true ∧ (Lit.int .i64 x.de).wf = true ∧ (Lit.int .i64 x.fe).wf = true ∧ (Lit.int .i64 x.pr).wf = true ∧ (Lit.int .i64 x.ch).wf = true ∧ (Lit.int .i64 x.un).wf = true ∧ (Lit.int .i64 x.tg).wf = true ∧ (Lit.int .i64 x.ow).wf = true ∧ (Lit.int .i64 x.bp).wf = true
theorem wf_may {x : Ev} (h : EMay x) : wf13 x := by
 have hh := may_word h
 have q : ∀ z, 0 ≤ z ∧ z < 4294967296 → (Lit.int .i64 z).wf = true := fun z hz => by
  simp only [Lit.wf, Bool.and_eq_true, decide_eq_true_eq]
  rw [show IntKind.i64.min = -9223372036854775808 from by decide, show IntKind.i64.max = 9223372036854775807 from by decide]
  omega
 exact ⟨q _ (hh _ (by simp [evL])), q _ (hh _ (by simp [evL])), q _ (hh _ (by simp [evL])), q _ (hh _ (by simp [evL])), q _ (hh _ (by simp [evL])), q _ (hh _ (by simp [evL])), q _ (hh _ (by simp [evL])), q _ (hh _ (by simp [evL])), q _ (hh _ (by simp [evL])), q _ (hh _ (by simp [evL])), q _ (hh _ (by simp [evL])), q _ (hh _ (by simp [evL])), q _ (hh _ (by simp [evL]))⟩
open acc (Ac Tm Bi APost BPost TFault TRight OpenIs)
def Ev.cl (x : Ev) : List Value := [.int .i64 x.kd, .int .i64 x.me, .int .i64 x.mo, .int .i64 x.id, .int .i64 x.te, .int .i64 x.de, .int .i64 x.fe, .int .i64 x.pr, .int .i64 x.ch, .int .i64 x.un, .int .i64 x.tg, .int .i64 x.ow, .int .i64 x.bp]
def RowE (w : World) (a : Option Addr) (n : Nat) (l : List Ev) : Prop := l.length = n ∧ (n = 0 ∨ ∃ b off, a = some ⟨b, off, none⟩ ∧ b < w.heap.size ∧ ∀ i j, i < n → j < 13 → w.cell? ⟨b, off + i * 13 + j, none⟩ = (l.getD i ev0).cl[j]?)
theorem putAll_get (vs : List Value) : ∀ (o : Nat) (cs : Array Value) (j : Nat), o + vs.length ≤ cs.size → (putAll cs o vs)[j]? = if o ≤ j ∧ j < o + vs.length then vs[j - o]? else cs[j]? := by
 induction vs with
 | nil => intro o cs j _; rw [if_neg (by simp only [List.length_nil]; omega)]; rfl
 | cons v r ih =>
  intro o cs j h
  simp only [List.length_cons] at h
  rw [putAll, ih (o + 1) _ j (by simp; omega)]
  by_cases h1 : o + 1 ≤ j ∧ j < o + 1 + r.length
  ·rw [if_pos h1, if_pos (by simp; omega), show j - o = (j - (o + 1)) + 1 by omega, List.getElem?_cons_succ]
  ·rw [if_neg h1]
   by_cases h2 : j = o
   ·subst h2
    rw [if_pos (by simp only [List.length_cons]; omega), Nat.sub_self]
    simp [show j < cs.size by omega]
   ·rw [if_neg (by simp; omega), Array.getElem?_setIfInBounds_ne (by omega)]
theorem putAll_size (vs : List Value) : ∀ (o : Nat) (cs : Array Value), (putAll cs o vs).size = cs.size := by
 induction vs with
 | nil => intro o cs; rfl
 | cons v r ih => intro o cs; rw [putAll, ih]; simp
theorem cellsC_get (xs : List Cu) (j : Nat) : (cellsC xs)[j]? = if j < xs.length * 8 then (xs.getD (j / 8) cu0).cs[j % 8]? else none := by
 by_cases h : j < xs.length * 8
 ·rw [if_pos h]
  have := cellsC_at xs (j / 8) (j % 8) (by omega) (by omega)
  rw [show j / 8 * 8 + j % 8 = j by omega] at this
  exact this
 ·rw [if_neg h, List.getElem?_eq_none (by rw [cellsC_len]; omega)]
theorem lc_put {w W : World} {base g n cap k : Nat} {xs : List Cu} {x' : Cu} {cur : Array Value} (h : Lc w base (.slice (some ⟨g, 0, none⟩) n cap) xs) (hB : Blk w g cur 62) (hk : k < xs.length) (hU : Upd w W g (putAll cur (k * 8) x'.cs) 62) : Lc W base (.slice (some ⟨g, 0, none⟩) n cap) (xs.set k x') := by
 unfold Lc at *
 rw [List.length_set]
 refine ⟨by rw [cellsC_len, List.length_set], ?_⟩
 rcases h.2 with ⟨h', _⟩ | ⟨g', cap', cur', hv, hg, hc, hn, hm, hz, ht⟩
 ·cases h'
 ·simp only [Value.slice.injEq, Option.some.injEq, Addr.mk.injEq, and_true] at hv
  obtain ⟨rfl, rfl, rfl⟩ := hv
  have e : cur' = cur := by
   have h1 : w.heap[g]? = some (.cells cur 62 (0, 0)) := hB
   rw [h1] at hc
   injection hc with hc
   injection hc with hc
   exact hc.symm
  subst e
  refine .inr ⟨g, cap, _, rfl, hg, hU.blk, hn, hm, by rw [putAll_size]; exact hz, ?_⟩
  apply List.ext_getElem?
  intro j
  have h8 : x'.cs.length = 8 := rfl
  rw [cellsC_get, List.length_set, getD_put xs x' cu0 k (j / 8) hk]
  by_cases hj : j < xs.length * 8
  ·rw [if_pos hj, List.getElem?_take_of_lt hj, Array.getElem?_toList, putAll_get _ _ _ _ (by rw [hz, h8]; omega), h8]
   by_cases h1 : k * 8 ≤ j ∧ j < k * 8 + 8
   ·rw [if_pos h1, if_pos (by omega), show j - k * 8 = j % 8 by omega]
   ·rw [if_neg h1, if_neg (by omega)]
    have h2 : cur'.toList[j]? = (cellsC xs)[j]? := by rw [← ht, List.getElem?_take_of_lt hj]
    rw [Array.getElem?_toList] at h2
    rw [h2, cellsC_get, if_pos hj]
  ·rw [if_neg hj, List.getElem?_eq_none (by rw [List.length_take]; omega)]
theorem wp_cust {w : World} {ops : Array Oper} {rest : List Oper} {o : Oper} {a : Act} {Q : Exit → Act → World → Prop} (hgd : o.guard = none) (s x : Operand)
  (ho : o.op = .call { callee := .builtin .append, args := #[s, x], argTypes := #[27, 27] })
  (base G : Nat) (v : Value) (l : List Cu) (r : Cu) (hs : a.eval s = v) (hx : a.eval x = .slice (some ⟨G, 0, none⟩) 1 1) (hv : Lc w base v l) (hu : Blk w G r.cs.toArray 62) (hn : l.length ≤ 2000000) (hbase : base ≤ w.heap.size)
  (h : ∀ v' w', Lc w' base v' (l ++ [r]) → w.grownBy w' v.ownBlock → (v'.ownBlock = v.ownBlock ∨ v'.ownBlock = some w.heap.size) → wpList Tryz.prog ops Q rest (a.put o.dst v') w') : wpList Tryz.prog ops Q (o :: rest) a w :=
 wpList_plain hgd fun K hK => step_cust s x ho base G v l r hs hx hv hu hn hbase (fun v' w' h1 h2 h3 => hK _ _ (h v' w' h1 h2 h3))
theorem lc_lies {w : World} {base n cap : Nat} {a : Option Addr} {xs : List Cu} (h : Lc w base (.slice a n cap) xs) (hn : 0 < n) : ∃ g cur, a = some ⟨g, 0, none⟩ ∧ base ≤ g ∧ Blk w g cur 62 ∧ n * 8 ≤ cur.size ∧ ∀ i j, i < xs.length → j < 8 → cur[i * 8 + j]? = (xs.getD i cu0).cs[j]? := by
 rcases h.2 with ⟨h', h0⟩ | ⟨g, cap', cur, hv, hg, hc, hle, hm, hz, ht⟩
 ·simp only [Value.slice.injEq] at h'; omega
 ·simp only [Value.slice.injEq] at hv
  obtain ⟨rfl, rfl, rfl⟩ := hv
  refine ⟨g, cur, rfl, hg, hc, by omega, fun i j hi hj => ?_⟩
  have h1 : cur.toList[i * 8 + j]? = (cellsC xs)[i * 8 + j]? := by rw [← ht, List.getElem?_take_of_lt (by omega)]
  rw [Array.getElem?_toList] at h1
  rw [h1]; exact cellsC_at xs i j hi hj
theorem cuA_of {x : Cu} {a : Ac} (h : Nums x a) : ∃ dp dn dc sp sn sc, x = ⟨a.me, a.rv, a.nx, a.mo, a.bo, a.fr, dp, dn, dc, sp, sn, sc⟩ := by
 cases x
 obtain ⟨h1, h2, h3, h4, h5, h6⟩ := h
 simp only at h1 h2 h3 h4 h5 h6
 subst h1 h2 h3 h4 h5 h6
 exact ⟨_, _, _, _, _, _, rfl⟩
theorem first_of {xs : List Cu} {bk : List Cm} {me at_ : Int} (hl : xs.length = bk.length) (hn : ∀ i, i < xs.length → Nums (xs.getD i cu0) (bk.getD i cm0).a) (h : FoundIs xs me at_) : (∃ k, FirstAt bk me k ∧ at_ = (k : Int)) ∨ (NoneAt bk me ∧ at_ = -1) := by
 rcases h with ⟨k, hk, e, hb, rfl⟩ | ⟨hb, rfl⟩
 ·exact .inl ⟨k, ⟨by rw [← hl]; exact hk, by rw [← (hn k hk).1]; exact e, fun j hj => by rw [← (hn j (by omega)).1]; exact hb j hj⟩, rfl⟩
 ·exact .inr ⟨fun j hj => by rw [← (hn j (by rw [hl]; exact hj)).1]; exact hb j (by rw [hl]; exact hj), rfl⟩
def cellsE : List Ev → List Value
 | [] => []
 | x :: l => x.cl ++ cellsE l
theorem cellsE_len (l : List Ev) : (cellsE l).length = l.length * 13 := by
 induction l with
 | nil => rfl
 | cons e l ih => rw [cellsE, List.length_append, ih, List.length_cons]; show 13 + _ = _; omega
theorem oneE (l : List Ev) : ∀ u ∈ cellsE l, u.oneCell' = true := by
 induction l with
 | nil => intro u hu; cases hu
 | cons e l ih =>
  intro u hu
  rw [cellsE] at hu
  rcases List.mem_append.1 hu with hu | hu
  ·simp only [Ev.cl, List.mem_cons, List.not_mem_nil, or_false] at hu
   rcases hu with rfl | rfl | rfl | rfl | rfl | rfl | rfl | rfl | rfl | rfl | rfl | rfl | rfl <;> rfl
  ·exact ih u hu
theorem cellsE_at (l : List Ev) (k j : Nat) (hk : k < l.length) (hj : j < 13) : (cellsE l)[k * 13 + j]? = (l.getD k ev0).cl[j]? := by
 induction l generalizing k with
 | nil => simp at hk
 | cons x l ih =>
  have h8 : x.cl.length = 13 := rfl
  cases k with
  | zero => rw [Nat.zero_mul, Nat.zero_add, cellsE, List.getElem?_append_left (by omega)]; rfl
  | succ k =>
   rw [show (k + 1) * 13 + j = x.cl.length + (k * 13 + j) by omega, cellsE, List.getElem?_append_right (by omega), Nat.add_sub_cancel_left]
   exact ih k (by simpa using hk)
structure ECame (w : World) (a : Option Addr) (n cap : Nat) (l : List Ev) : Prop where
 row : RowE w a n l
 nil : a = none → cap = 0
 room : n ≤ cap
 bytes : n * 104 ≤ 140737488351232
 wf : ∀ v ∈ l, wf13 v
theorem evI : (Tryz.prog.info? 71).map (fun i => (i.zero, i.size, i.bytes)) = some (some (.agg ev0.cl.toArray), 13, 104) := by kernel_rfl
end book
namespace vnd
open disk (RepIs repD lenAt itD)
open book (Ev ev0 evOf ECame)
open Go.RowKit
set_option maxRecDepth 100000
theorem it_in (c : List Int) (k : Nat) : ∀ z ∈ (disk.itD c k).1, ∀ x ∈ z, x ∈ c := by
 induction k with
 | zero => intro z hz; simp [disk.itD] at hz
 | succ k ih =>
  intro z hz x hx
  by_cases h : 0 < disk.lenAt c (disk.itD c k).2
  ·rw [disk.it_live h] at hz
   rcases List.mem_append.1 hz with hz | hz
   ·exact ih z hz x hx
   ·rw [List.mem_singleton.1 hz] at hx
    exact List.mem_of_mem_drop (List.mem_of_mem_take hx)
  ·have e := disk.it_dead h 1
   rw [e] at hz
   exact ih z hz x hx
theorem rep_in {c : List Int} {o : List (List Int)} {x f : Int} (h : RepIs c o x f) : ∀ z ∈ o, ∀ y ∈ z, y ∈ c := by
 rcases h with ⟨_, rfl, _⟩ | ⟨_, _, rfl, _⟩ | ⟨_, _, rfl, _⟩
 ·intro z hz; cases hz
 ·intro z hz; cases hz
 ·exact it_in c _
theorem rep_len {c : List Int} {o : List (List Int)} {x f : Int} (h : RepIs c o x f) : o.length ≤ 2048 := (disk.rep_few h).1
theorem getD_inR {o : List (List Int)} {j : Nat} (h : j < o.length) : o.getD j [] ∈ o := by
 have e : o.getD j [] = o[j] := by simp [List.getD, List.getElem?_eq_getElem h]
 rw [e]; exact List.getElem_mem _
theorem take_mapE (o : List (List Int)) (k : Nat) (h : k < o.length) : (o.take k).map evOf ++ [evOf (o.getD k [])] = (o.take (k + 1)).map evOf := by
 have e : o.getD k [] = o[k] := by simp [List.getD, List.getElem?_eq_getElem h]
 rw [List.take_succ_eq_append_getElem h, List.map_append, e]; rfl
def KeptPost (w : World) (c : List Int) (e : Ending) (w' : World) : Prop := ∃ p m cp l f, e = .returned (.tuple #[.slice p m cp, .int .i64 f]) ∧ KeptIs c l f ∧ ECame w' p m cp l ∧ m ≤ 2048 ∧ Below w.heap.size w w'
theorem ecame_nil (w : World) : ECame w none 0 0 [] := ⟨⟨rfl, .inl rfl⟩, fun _ => rfl, Nat.le_refl _, by omega, fun v hv => by cases hv⟩
end vnd
namespace disk
open Go.RowKit
set_option maxRecDepth 100000
structure Sli where
 a : Option Addr
 n : Nat
 c : Nat
def Sli.v (s : Sli) : Value := .slice s.a s.n s.c
def sl0 : Sli := ⟨none, 0, 0⟩
def cellsR (l : List Sli) : List Value := l.map Sli.v
theorem oneR (l : List Sli) : ∀ u ∈ cellsR l, u.oneCell' = true := fun u hu => by
 obtain ⟨s, _, rfl⟩ := List.mem_map.1 hu
 rfl
def Lr (T : TypeId) (w : World) (base : Nat) (v : Value) (l : List Sli) : Prop := w.ownsRow base T 1 v l.length (cellsR l)
theorem Lr.zero (T : TypeId) (w : World) (base : Nat) : Lr T w base (.slice none 0 0) [] := World.ownsRow_nil _ _ _ _
theorem Lr.alloc {T : TypeId} {w : World} {base : Nat} {v : Value} {l : List Sli} (h : Lr T w base v l) (o : Obj) : Lr T (w.alloc o) base v l := World.ownsRow.alloc h o
theorem Lr.next {T : TypeId} {w w' : World} {base : Nat} {v : Value} {l : List Sli} (h : Lr T w base v l) (hb : Below w.heap.size w w') : Lr T w' base v l := by
 refine ⟨h.1, ?_⟩
 rcases h.2 with hn | ⟨g, cap, cur, hv, hg, hc, rest⟩
 ·exact .inl hn
 ·exact .inr ⟨g, cap, cur, hv, hg, Blk.next hc hb, rest⟩
theorem Lr.row {T : TypeId} {w : World} {base : Nat} {v : Value} {l : List Sli} (h : Lr T w base v l) (h0 : 0 < l.length) : ∃ g cap, v = .slice (some ⟨g, 0, none⟩) l.length cap ∧ base ≤ g ∧ g < w.heap.size ∧ l.length ≤ cap ∧ ∀ i, i < l.length → w.cell? ⟨g, i, none⟩ = some (l.getD i sl0).v := by
 rcases h.2 with ⟨hv, hn⟩ | ⟨g, cap, cur, hv, hg, hc, h1, _⟩
 ·omega
 ·subst hv
  refine ⟨g, cap, rfl, hg, Blk.lt hc, h1, fun i hi => ?_⟩
  have e1 := World.ownsRow.cellAt h i (by omega)
  rw [e1]
  simp [cellsR, List.getD, hi]
theorem Lr.len {T : TypeId} {w : World} {base : Nat} {v : Value} {l : List Sli} (h : Lr T w base v l) : ∃ a cap, v = .slice a l.length cap := by
 rcases h.2 with ⟨hv, hn⟩ | ⟨g, cap, cur, hv, _⟩
 ·exact ⟨none, 0, by rw [hn]; exact hv⟩
 ·exact ⟨_, cap, hv⟩
structure SliT (P : Program) (T S : TypeId) : Prop where
 info : (P.info? T).map (fun i => (i.zero, i.size, i.bytes)) = some (some (sl0.v), 1, 24)
 under : P.underlying S = some (.slice T)
theorem wp_sli {P : Program} {T S : TypeId} (hP : SliT P T S) {w : World} {ops : Array Oper} {rest : List Oper} {o : Oper} {a : Act} {Q : Exit → Act → World → Prop} (hgd : o.guard = none) (s x : Operand)
  (ho : o.op = .call { callee := .builtin .append, args := #[s, x], argTypes := #[S, S] })
  (base G : Nat) (v : Value) (l : List Sli) (r : Sli) (hs : a.eval s = v) (hx : a.eval x = .slice (some ⟨G, 0, none⟩) 1 1) (hv : Lr T w base v l) (hu : w.cell? ⟨G, 0, none⟩ = some r.v) (hn : l.length ≤ 1000000) (hbase : base ≤ w.heap.size)
  (h : ∀ v' w', Lr T w' base v' (l ++ [r]) → w.grownBy w' v.ownBlock → (v'.ownBlock = v.ownBlock ∨ v'.ownBlock = some w.heap.size) → wpList P ops Q rest (a.put o.dst v') w') : wpList P ops Q (o :: rest) a w := by
 obtain ⟨i0, hi, hz0, hz1, hz2⟩ := info_parts hP.info
 refine wpList_append_own_at w hgd s x S ho base T i0 (sl0.v) 1 24 hP.under hi hz0 hz1 hz2 rfl (by decide) v l.length (cellsR l) hs hv ⟨G, 0, none⟩ 1 1 (cellsR [r]) hx rfl ?_ (oneR [r]) (by unfold maxLen; omega) (by omega) hbase ?_
 ·intro j u hj
  match j, hj with
  | 0, hj => simp [cellsR] at hj; subst hj; simpa [Addr.add] using hu
  | j + 1, hj => simp [cellsR] at hj
 intro v' w' h1 h2 _ h4
 refine h v' w' ?_ h2 h4
 unfold Lr
 rw [List.length_append]
 unfold cellsR at *
 rw [List.map_append]
 exact h1
def Recs (w : World) (own : Option Nat) (l : List Sli) (zs : List (List Int)) : Prop := l.length = zs.length ∧ ∀ i, i < l.length → (∃ b off, (l.getD i sl0).a = some ⟨b, off, none⟩ ∧ b < w.heap.size ∧ some b ≠ own) ∧ cell.RowU w (l.getD i sl0).a (l.getD i sl0).n (zs.getD i [])
theorem Recs.nil (w : World) (own : Option Nat) : Recs w own [] [] := ⟨rfl, fun i hi => by cases hi⟩
theorem Recs.below {w w' : World} {own : Option Nat} {l : List Sli} {zs : List (List Int)} (h : Recs w own l zs) (hb : Below w.heap.size w w') : Recs w' own l zs := ⟨h.1, fun i hi => by
 obtain ⟨⟨b, off, h1, h2, h3⟩, h4⟩ := h.2 i hi
 exact ⟨⟨b, off, h1, Nat.lt_of_lt_of_le h2 hb.size, h3⟩, h4.below hb⟩⟩
theorem Recs.snoc {w : World} {own : Option Nat} {l : List Sli} {zs : List (List Int)} (h : Recs w own l zs) {s : Sli} {z : List Int} (hs : (∃ b off, s.a = some ⟨b, off, none⟩ ∧ b < w.heap.size ∧ some b ≠ own) ∧ cell.RowU w s.a s.n z) : Recs w own (l ++ [s]) (zs ++ [z]) := by
 refine ⟨by rw [List.length_append, List.length_append, h.1]; rfl, fun i hi => ?_⟩
 by_cases h1 : i < l.length
 ·have e1 : (l ++ [s]).getD i sl0 = l.getD i sl0 := by simp [List.getD, List.getElem?_append_left h1]
  have e2 : (zs ++ [z]).getD i [] = zs.getD i [] := by simp [List.getD, List.getElem?_append_left (show i < zs.length from h.1 ▸ h1)]
  rw [e1, e2]
  exact h.2 i h1
 ·have hi' : i = l.length := by simp at hi; omega
  have e1 : (l ++ [s]).getD i sl0 = s := by rw [hi']; simp [List.getD]
  have e2 : (zs ++ [z]).getD i [] = z := by rw [hi', h.1]; simp [List.getD]
  rw [e1, e2]
  exact hs
theorem Recs.grown {w w' : World} {own own' : Option Nat} {l : List Sli} {zs : List (List Int)} (h : Recs w own l zs) (hg : w.grownBy w' own) (ho : own' = own ∨ own' = some w.heap.size) : Recs w' own' l zs := ⟨h.1, fun i hi => by
 obtain ⟨⟨b, off, h1, h2, h3⟩, h4⟩ := h.2 i hi
 have hb := hg.block b h2 h3
 refine ⟨⟨b, off, h1, Nat.lt_of_lt_of_le h2 hg.size, ?_⟩, h4.1, ?_⟩
 ·rcases ho with rfl | rfl
  ·exact h3
  ·intro e; have := Option.some.inj e; omega
 ·rcases h4.2 with h0 | ⟨b', off', e, hc⟩
  ·exact .inl h0
  ·rw [h1] at e
   have e1 := Option.some.inj e
   have e2 : b = b' := congrArg Addr.block e1
   subst e2
   refine .inr ⟨b, off', by rw [h1, e1], fun i hi => ?_⟩
   rw [← hc i hi]
   simp [World.cell?, hb]⟩
open cell
theorem sliT : SliT Tryz.prog 25 79 := ⟨by kernel_rfl, Tryz.underlying79⟩
end disk
namespace cell
open Go.RowKit
set_option maxRecDepth 100000
def arr (zs : List Int) : Array Value := (zs.map (Value.int .u32)).toArray
theorem arr_set (zs : List Int) (i : Nat) (v : Int) : (arr zs).setIfInBounds i (.int .u32 v) = arr (zs.set i v) := by
 unfold arr
 apply Array.ext'
 simp [List.map_set]
theorem Blk.rowU {w : World} {G n : Nat} {zs : List Int} {t : TypeId} (h : Blk w G (arr zs) t) (hn : zs.length = n) : RowU w (some ⟨G, 0, none⟩) n zs := by
 refine ⟨hn, .inr ⟨G, 0, rfl, fun i hi => ?_⟩⟩
 rw [Nat.zero_add, h.cell i]
 unfold arr
 simp [List.getD, show i < zs.length by omega]
theorem Blk.word {w : World} {G : Nat} {zs : List Int} {t : TypeId} (h : Blk w G (arr zs) t) (i : Nat) (hi : i < zs.length) : w.cell? ⟨G, i, none⟩ = some (.int .u32 (zs.getD i 0)) := by
 rw [h.cell i]
 unfold arr
 simp [List.getD, hi]
theorem made_zero (n : Nat) : madeCells (Value.int .u32 0).cells (n * 1) = arr (List.replicate n 0) := by
 unfold madeCells arr
 apply Array.ext'
 simp [Value.cells]
 apply List.ext_getElem
 ·simp
 ·intro i h1 h2
  simp [Nat.mod_one]
theorem make_u32 (n : Nat) (h : n ≤ 100000) (w : World) : (Instr.makeSlice 25 (.int .i64 (n : Int)) (.int .i64 (n : Int))).run Tryz.prog w = .ok (.slice (some ⟨w.heap.size, 0, none⟩) n n) (w.alloc (.cells (arr (List.replicate n 0)) 64)) := by
 obtain ⟨i0, hi, hz0, hz1, hz2⟩ := info_parts info_u32
 have := run_make (P := Tryz.prog) w 25 64 i0 (.int .u32 0) Tryz.underlying25 hi hz0 .i64 .i64 n n (by omega) (by omega) (by rw [hz2]; omega) (by omega)
 rw [hz1] at this
 simp only [Int.toNat_natCast] at this
 rw [made_zero] at this
 exact this
end cell
namespace disk
open Go.RowKit cell
set_option maxRecDepth 100000
def RepPost (w : World) (c : List Int) (e : Ending) (w' : World) : Prop :=
 ∃ V sl out x f, e = .returned (.tuple #[V, .int .i64 x, .int .i64 f]) ∧ Lr 25 w' w.heap.size V sl ∧ Recs w' V.ownBlock sl out ∧ RepIs c out x f ∧ Below w.heap.size w w'
theorem rec_at {c : List Int} {p m x : Nat} (hm : (c.getD p 0).toNat = m) (hx : x < m) : (recAt c p).getD x 0 = c.getD (p + 1 + x) 0 := by
 unfold recAt
 rw [hm]
 simp [List.getD, List.getElem?_drop, hx]
theorem rec_len {c : List Int} {p m : Nat} (hm : (c.getD p 0).toNat = m) (hf : p + m < c.length) : (recAt c p).length = m := by
 unfold recAt
 rw [hm, List.length_take, List.length_drop]
 omega
set_option maxHeartbeats 1000000 in
theorem length_any (a : Option Addr) (n cap p : Nat) (c : List Int) (w : World) (h : RowU w a n c) (hn : n ≤ 2048) (hp : p ≤ n) (hw : ∀ x ∈ c, 0 ≤ x ∧ x < 4294967296) :
  Calls Tryz.prog 55 #[.slice a n cap, .int .i64 (p : Int)] w fun e w' => e = .returned (.int .i64 (lenAt c p)) ∧ w' = w := by
 have hl := h.1
 by_cases h0 : p = n
 ·have hz : lenAt c p = 0 := by unfold lenAt; rw [if_pos (.inl (by omega))]
  rw [hz]
  have e0 : ((p : Int) == (n : Int)) = true := by simp; omega
  clear hz h hw hl hp
  go_enter Tryz.func55, Tryz.ntmps55
  go_wp2_with fail
  go_ret
  exact ⟨rfl, rfl⟩
 ·obtain ⟨b, o, rfl, lb, hc⟩ := h.at (by omega)
  have c0 := hc p (by omega)
  have hlt : p < n := by omega
  have e0 : ((p : Int) == (n : Int)) = false := by simp; omega
  have hz := hw (c.getD p 0) (by rw [List.getD_eq_getElem?_getD, List.getElem?_eq_getElem (by omega)]; exact List.getElem_mem _)
  have HL : Hid (lenAt c p = if p = c.length ∨ c.getD p 0 = 0 then 0 else if 64 < c.getD p 0 then -1 else if (c.length : Int) ≤ p + c.getD p 0 then -1 else c.getD p 0) := rfl
  have HN : Hid (c.length = n) := hl
  generalize c.getD p 0 = z at *
  obtain ⟨z0, z1⟩ := hz
  clear h hw hc lb hp h0 hl
  by_cases h1 : z = 0
  ·have hv : lenAt c p = 0 := by rw [HL.out, if_pos (.inr h1)]
   rw [hv]
   subst h1
   clear hv HL
   go_enter Tryz.func55, Tryz.ntmps55
   go_wp2_with fail
   go_ret
   exact ⟨rfl, rfl⟩
  ·have e1 : (z == 0) = false := by simpa using h1
   by_cases h2 : 64 < z
   ·have hv : lenAt c p = -1 := by rw [HL.out, if_neg (by have := HN.out; omega), if_pos h2]
    rw [hv]
    clear hv HL h1
    go_enter Tryz.func55, Tryz.ntmps55
    go_wp2_with fail
    go_ret
    exact ⟨rfl, rfl⟩
   ·have h64 : z ≤ 64 := by omega
    by_cases h3 : (n : Int) ≤ p + z
    ·have hv : lenAt c p = -1 := by rw [HL.out, if_neg (by have := HN.out; omega), if_neg h2, if_pos (by have := HN.out; omega)]
     rw [hv]
     clear hv HL h1
     go_enter Tryz.func55, Tryz.ntmps55
     go_wp2_with fail
     go_ret
     exact ⟨rfl, rfl⟩
    ·have hv : lenAt c p = z := by rw [HL.out, if_neg (by have := HN.out; omega), if_neg h2, if_neg (by have := HN.out; omega)]
     rw [hv]
     clear hv HL h1
     go_enter Tryz.func55, Tryz.ntmps55
     go_wp2_with fail
     go_ret
     exact ⟨rfl, rfl⟩
end disk
namespace cell
open Go.RowKit
set_option maxRecDepth 100000
theorem in_yes (n lo hi : Int) (w : World) (h1 : lo ≤ n) (h2 : n ≤ hi) :
  Calls Tryz.prog 25 #[.int .i64 n, .int .i64 lo, .int .i64 hi] w fun e w' => e = .returned (.bool true) ∧ w' = w := by
 go_enter Tryz.func25, Tryz.ntmps25
 go_wp2
 go_ret
 exact ⟨rfl, rfl⟩
theorem in_no (n lo hi : Int) (w : World) (h : n < lo ∨ hi < n) :
  Calls Tryz.prog 25 #[.int .i64 n, .int .i64 lo, .int .i64 hi] w fun e w' => e = .returned (.bool false) ∧ w' = w := by
 by_cases h0 : n < lo
 ·clear h
  go_enter Tryz.func25, Tryz.ntmps25
  go_wp2
  go_ret
  exact ⟨rfl, rfl⟩
 ·have h1 : lo ≤ n := by omega
  have h2 : decide (n ≤ hi) = false := by simp; omega
  clear h h0
  go_enter Tryz.func25, Tryz.ntmps25
  go_wp2
  go_ret
  exact ⟨rfl, rfl⟩
end cell
namespace disk
open Go.RowKit cell
set_option maxRecDepth 100000
set_option maxHeartbeats 4000000 in
theorem replayed (a : Option Addr) (n cap : Nat) (c : List Int) (w : World) (h : RowU w a n c) (hw : ∀ x ∈ c, 0 ≤ x ∧ x < 4294967296) :
  Calls Tryz.prog 32 #[.slice a n cap] w fun e w' => RepPost w c e w' := by
 have hcl := h.1
 by_cases hmay : 1 ≤ n ∧ n ≤ 2048
 ·have HM : Hid (∀ W, Calls Tryz.prog 25 #[.int .i64 (n : Int), .int .i64 1, .int .i64 2048] W fun e w' => e = .returned (.bool true) ∧ w' = W) := fun W => in_yes _ _ _ W (by omega) (by omega)
  have HLN : Hid (∀ W p, Below w.heap.size w W → p ≤ n → Calls Tryz.prog 55 #[.slice a n cap, .int .i64 (p : Int)] W fun e w' => e = .returned (.int .i64 (lenAt c p)) ∧ w' = W) := fun W p hB hp => length_any a n cap p c W (h.below hB) hmay.2 hp hw
  have HL0 : Hid (Calls Tryz.prog 55 #[.slice a n cap, .int .i64 0] w fun e w' => e = .returned (.int .i64 (lenAt c 0)) ∧ w' = w) := HLN.out w 0 (Below.refl _ _) (Nat.zero_le _)
  obtain ⟨b, o, rfl, lb, hc⟩ := h.at (by omega)
  have HCL : Hid (∀ W, Below w.heap.size w W → ∀ j, j < n → W.cell? ⟨b, o + j, none⟩ = some (.int .u32 (c.getD j 0))) := fun W hB j hj => (hB.cell (p := ⟨b, o + j, none⟩) lb).trans (hc j hj)
  have HMY : Hid (May c) := ⟨by omega, by omega⟩
  have HN : Hid (c.length = n) := hcl
  obtain ⟨hn1, hn2⟩ := hmay
  clear h hw hc lb hcl
  go_enter Tryz.func32, Tryz.ntmps32
  go_wp2_with fail
  refine (HM.out _).mono ?_
  rintro e w1 ⟨rfl, hq⟩
  subst w1
  clear HM
  go_wp2_with fail
  refine HL0.out.mono ?_
  rintro e w1 ⟨rfl, hq⟩
  subst w1
  clear HL0
  go_wp2_with fail
  go_loopw [5, 6, 7] (fun v5 v6 v7 wr => ∃ (k p : Nat) (V : Value) (sl : List Sli), p ≤ n ∧ V = v5 ∧ v6 = .int .i64 (p : Int) ∧ v7 = .int .i64 (lenAt c p) ∧ (itD c k).2 = p ∧ Lr 25 wr w.heap.size V sl ∧ Recs wr V.ownBlock sl (itD c k).1 ∧ sl.length ≤ p ∧ Below w.heap.size w wr) (fun _ v6 _ _ => n + 1 - (intOf v6).toNat)
  case atStart => exact ⟨0, 0, _, [], Nat.zero_le _, rfl, rfl, rfl, rfl, Lr.zero _ _ _, Recs.nil _ _, Nat.le_refl _, Below.refl _ _⟩
  case round =>
   obtain ⟨k, p, V, sl, hp, hV, rfl, rfl, hk, hlr, hrc, hsl, hbl⟩ := hrel
   subst hV
   have HLR : Hid (Lr 25 wr w.heap.size V sl) := hlr
   have HRC : Hid (Recs wr V.ownBlock sl (itD c k).1) := hrc
   have HBL : Hid (Below w.heap.size w wr) := hbl
   have HK : Hid ((itD c k).2 = p) := hk
   clear hlr hrc hbl hk
   obtain ⟨wo, hwo⟩ : ∃ wo, wo = wr := ⟨_, rfl⟩
   subst hwo
   by_cases hpos : 0 < lenAt c p
   ·obtain ⟨q0, q1, q2, q3⟩ := len_pos hpos
    obtain ⟨m, hm⟩ : ∃ m : Nat, lenAt c p = (m : Int) := ⟨(lenAt c p).toNat, by omega⟩
    have hgm : (c.getD p 0).toNat = m := by rw [← q0, hm]; simp
    have hpm : p + m < n := by have := HN.out; omega
    have hm1 : 1 ≤ m := by omega
    have hm2 : m ≤ 64 := by omega
    have HIT : Hid (itD c (k + 1) = ((itD c k).1 ++ [recAt c p], p + m + 1)) := by
     have h := it_live (c := c) (k := k) (by rw [HK.out]; exact hpos)
     rw [HK.out, hm, Int.toNat_natCast] at h
     exact h
    have HRL : Hid ((recAt c p).length = m) := rec_len hgm (by have := HN.out; omega)
    have HRA : Hid (∀ x, x < m → (recAt c p).getD x 0 = c.getD (p + 1 + x) 0) := fun x hx => rec_at hgm hx
    rw [hm]
    have e1 : decide ((0 : Int) < (m : Int)) = true := by simp; omega
    have hmk : ∀ W : World, (Instr.makeSlice 25 (.int .i64 (m : Int)) (.int .i64 (m : Int))).run Tryz.prog W = .ok (.slice (some ⟨W.heap.size, 0, none⟩) m m) (W.alloc (.cells (arr (List.replicate m 0)) 64)) := make_u32 m (by omega)
    have HG0 : Hid (Blk (wo.alloc (.cells (arr (List.replicate m 0)) 64)) wo.heap.size (arr (List.replicate m 0)) 64) := Blk.new _ _ _
    have HB0 : Hid (Below wo.heap.size wo (wo.alloc (.cells (arr (List.replicate m 0)) 64))) := (Below.refl _ _).alloc (Nat.le_refl _) _
    have HZL : Hid ((List.replicate m (0 : Int)).length = m) := List.length_replicate
    have HSZ : Hid (w.heap.size ≤ wo.heap.size) := HBL.out.size
    have HL2 : Hid (∀ W, Below w.heap.size w W → Calls Tryz.prog 55 #[.slice (some ⟨b, o, none⟩) n cap, .int .i64 ((p : Int) + (m : Int) + 1)] W fun e w' => e = .returned (.int .i64 (lenAt c (p + m + 1))) ∧ w' = W) := fun W hB => by
     have h := HLN.out W (p + m + 1) hB (by omega)
     rwa [show ((p + m + 1 : Nat) : Int) = (p : Int) + (m : Int) + 1 by omega] at h
    clear hpos q0 q1 q2 q3 hm hgm HLN
    generalize List.replicate m (0 : Int) = zz at *
    generalize recAt c p = R at *
    go_wp2_with fail
    generalize wo.alloc (.cells (arr zz) 64) = W0 at *
    generalize hgg : wo.heap.size = g at *
    have HGG : Hid (wo.heap.size = g) := hgg
    clear hgg hmk
    go_loopw [9] (fun i wq => ∃ (x : Nat) (zs : List Int), x ≤ m ∧ i = .int .i64 (x : Int) ∧ zs.length = m ∧ (∀ i, i < x → zs.getD i 0 = R.getD i 0) ∧ Blk wq g (arr zs) 64 ∧ Below g wo wq) (fun i _ => m - (intOf i).toNat)
    case atStart => exact ⟨0, zz, Nat.zero_le _, rfl, HZL.out, fun i hi => absurd hi (Nat.not_lt_zero _), HG0.out, HB0.out⟩
    case round =>
     obtain ⟨x, zs, hx, rfl, hzl, hze, hg, hb⟩ := hrel
     have HKB : Hid (Blk wr g (arr zs) 64) := hg
     have HB : Hid (Below g wo wr) := hb
     have HBW : Hid (Below w.heap.size w wr) := HBL.out.trans (hb.mono HSZ.out)
     have HZ : Hid (zs.length = m ∧ ∀ i, i < x → zs.getD i 0 = R.getD i 0) := ⟨hzl, hze⟩
     clear hzl hze hg hb HG0 HB0 HZL
     by_cases hxm : x < m
     ·have k2 := HCL.out wr HBW.out (p + 1 + x) (by omega)
      rw [← HRA.out x hxm] at k2
      have k0 := Blk.word HKB.out x (by rw [HZ.out.1]; exact hxm)
      have k1 := HKB.out.free x
      have HNX : Hid (Blk (wr.setCell ⟨g, x, none⟩ (.int .u32 (R.getD x 0))) g (arr (zs.set x (R.getD x 0))) 64) := by
       have h := HKB.out.set x (.int .u32 (R.getD x 0))
       rw [arr_set] at h
       exact h
      have HBX : Hid (Below g wo (wr.setCell ⟨g, x, none⟩ (.int .u32 (R.getD x 0)))) := bel_set HB.out g x _ (Nat.le_refl _)
      have HZX : Hid ((zs.set x (R.getD x 0)).length = m ∧ ∀ i, i < x + 1 → (zs.set x (R.getD x 0)).getD i 0 = R.getD i 0) := by
       refine ⟨by rw [List.length_set]; exact HZ.out.1, fun i hi => ?_⟩
       rw [set_at]
       by_cases e : i = x
       ·rw [if_pos ⟨e, by rw [HZ.out.1]; exact hxm⟩, e]
       ·rw [if_neg (by omega)]; exact HZ.out.2 i (by omega)
      generalize zs.set x (R.getD x 0) = zs2 at *
      generalize R.getD x 0 = u at *
      generalize zs.getD x 0 = u0 at *
      clear HKB HB HZ HBW
      go_wp2_with fail
      go_roundw
      case rel => exact ⟨x + 1, zs2, by omega, by go_num, HZX.out.1, HZX.out.2, HNX.out, HBX.out⟩
      case measure => simp [intOf]; omega
     ·obtain rfl : x = m := by omega
      have HX : Hid (RowU wr (some ⟨g, 0, none⟩) x R) := by
       have e : zs = R := list_ext (by rw [HZ.out.1, HRL.out]) (fun i hi => HZ.out.2 i (by rw [HZ.out.1] at hi; exact hi))
       rw [← e]
       exact Blk.rowU HKB.out HZ.out.1
      have HGL : Hid (g < wr.heap.size) := HKB.out.lt
      have HBO : Hid (Below wo.heap.size wo wr) := by show Below _ _ _; rw [HGG.out]; exact HB.out
      have HNE : Hid (some g ≠ V.ownBlock) := fun e => by have := (World.ownsRow.lt HLR.out g e.symm).2; have := HGG.out; omega
      have HUA : Hid (∀ o, Lr 25 (wr.alloc o) w.heap.size V sl) := fun o => (HLR.out.next HBO.out).alloc o
      have HBA : Hid (∀ o, Below w.heap.size w (wr.alloc o)) := fun o => HBW.out.alloc HBW.out.size o
      have HRA2 : Hid (∀ o, Recs (wr.alloc o) V.ownBlock (sl ++ [⟨some ⟨g, 0, none⟩, x, x⟩]) ((itD c k).1 ++ [R])) := fun o => ((HRC.out.below HBO.out).snoc ⟨⟨g, 0, rfl, HGL.out, HNE.out⟩, HX.out⟩).below ((Below.refl _ _).alloc (Nat.le_refl _) _)
      have hs6 : sl.length ≤ 1000000 := by omega
      clear HKB HB HZ HX HNE HGL HRA HRL
      go_wp2_with (first | (refine wp_sli sliT rfl _ _ rfl w.heap.size wr.heap.size V sl ⟨some ⟨g, 0, none⟩, x, x⟩ rfl rfl (HUA.out _) ((Blk.new wr _ _).cell 0) hs6 (by have := HBW.out.size; simp; omega) ?_; intro v3 w3 h3 hg3 ho3; have HB3 : Hid (Below w.heap.size w w3) := own_bel (HUA.out _) hg3 (HBA.out _) (Nat.le_refl _) (by have := HBW.out.size; simp; omega); have H3 : Hid (Lr 25 w3 w.heap.size v3 (sl ++ [⟨some ⟨g, 0, none⟩, x, x⟩])) := h3; have HR3 : Hid (Recs w3 v3.ownBlock (sl ++ [⟨some ⟨g, 0, none⟩, x, x⟩]) ((itD c k).1 ++ [R])) := (HRA2.out _).grown hg3 ho3; clear h3 hg3 ho3) | fail)
      refine (HL2.out _ HB3.out).mono ?_
      rintro e w4 ⟨rfl, hq⟩
      subst w4
      go_wp2_with fail
      go_roundw
      case rel => exact ⟨k + 1, p + x + 1, v3, sl ++ [⟨some ⟨g, 0, none⟩, x, x⟩], by omega, rfl, by go_num, rfl, by rw [HIT.out], H3.out, by rw [HIT.out]; exact HR3.out, by rw [List.length_append]; simp; omega, HB3.out⟩
      case measure => simp [intOf]; omega
   ·have HRD : Hid (repD c = itD c k) := rep_of (by rw [HK.out]; exact hpos)
    have e1 : decide ((0 : Int) < lenAt c p) = false := by simpa using hpos
    by_cases hneg : lenAt c p < 0
    ·have HRI : Hid (RepIs c [] 0 3) := .inr (.inl ⟨HMY.out, by rw [HRD.out, HK.out]; exact hneg, rfl, rfl, rfl⟩)
     have e2 : decide (lenAt c p < 0) = true := by simpa using hneg
     clear HRD hpos hneg HLN
     generalize lenAt c p = z at *
     go_wp2_with fail
     go_ret3
     exact ⟨.slice none 0 0, [], [], 0, 3, rfl, Lr.zero _ _ _, Recs.nil _ _, HRI.out, HBL.out⟩
    ·have HRI : Hid (RepIs c (itD c k).1 (p : Int) 0) := .inr (.inr ⟨HMY.out, by rw [HRD.out, HK.out]; omega, by rw [HRD.out], by rw [HRD.out, HK.out], rfl⟩)
     have e2 : decide (lenAt c p < 0) = false := by simpa using hneg
     clear HRD hpos hneg HLN
     generalize lenAt c p = z at *
     go_wp2_with fail
     go_ret3
     exact ⟨V, sl, _, _, 0, rfl, HLR.out, HRC.out, HRI.out, HBL.out⟩
 ·have HM : Hid (∀ W, Calls Tryz.prog 25 #[.int .i64 (n : Int), .int .i64 1, .int .i64 2048] W fun e w' => e = .returned (.bool false) ∧ w' = W) := fun W => in_no _ _ _ W (by omega)
  have HRI : Hid (RepIs c [] 0 1) := .inl ⟨fun h => hmay ⟨by rw [← hcl]; exact h.1, by rw [← hcl]; exact h.2⟩, rfl, rfl, rfl⟩
  clear h hw hcl hmay
  go_enter Tryz.func32, Tryz.ntmps32
  go_wp2_with fail
  refine (HM.out _).mono ?_
  rintro e w1 ⟨rfl, hq⟩
  subst w1
  go_wp2_with fail
  go_ret3
  exact ⟨.slice none 0 0, [], [], 0, 1, rfl, Lr.zero _ _ _, Recs.nil _ _, HRI.out, Below.refl _ _⟩
end disk
namespace book
open Go.RowKit
open acc (Ac Tm Bi APost BPost OweIs SellIs GrantIs RekeyIs)
set_option maxRecDepth 100000
def cuA (a : Ac) (dp : Option Addr) (dn dc : Nat) (sp : Option Addr) (sn sc : Nat) : Cu := ⟨a.me, a.rv, a.nx, a.mo, a.bo, a.fr, dp, dn, dc, sp, sn, sc⟩
theorem cuA_num (a : Ac) (dp : Option Addr) (dn dc : Nat) (sp : Option Addr) (sn sc : Nat) : Nums (cuA a dp dn dc sp sn sc) a := ⟨rfl, rfl, rfl, rfl, rfl, rfl⟩
def HapPost (w : World) (base : Nat) (t : Tm) (x : Cu) (c : Cm) (v : Ev) (e : Ending) (w' : World) : Prop := ∃ x' c' f, e = .returned (.tuple #[Cu.v x', .int .i64 f]) ∧ HapIs t c v c' f ∧ (f = 0 → Turned w w' base x x' c') ∧ w.grownBy w' x.sold.ownBlock
theorem grown_of {w w' : World} (h : Below w.heap.size w w') (own : Option Nat) : w.grownBy w' own := ⟨h.os, h.tape, h.output, h.size, fun k hk _ => h.block k hk⟩
theorem acc_upd {w W : World} {g : Nat} {cs : Array Value} {ty : TypeId} {a : Option Addr} {n cap : Nat} {zs : List tar.Du} (h : tar.Came w a n cap zs) (hU : Upd w W g cs ty) (hne : 0 < n → ∀ x, a = some x → x.block ≠ g) : tar.Came W a n cap zs := by
 refine ⟨⟨h.row.1, ?_⟩, h.nil, h.room, h.bytes, h.wf⟩
 rcases h.row.2 with h0 | ⟨b, off, rfl, hc⟩
 ·exact .inl h0
 ·refine .inr ⟨b, off, rfl, fun i hi => ?_⟩
  have h1 := hc i hi
  have hb : b ≠ g := hne (by omega) ⟨b, off, none⟩ rfl
  rw [hU.cell ⟨b, off + i * 2, none⟩ hb rfl, hU.cell ⟨b, off + i * 2 + 1, none⟩ hb rfl]
  exact h1
end book
end Go.Proofs.YtomibnggmhjdfaaGreat
