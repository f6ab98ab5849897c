import Derived.Test.YtomibnggmhjdfaaGreatVVCes11
import Derived.Test.YtomibnggmhjdfaaGreatVVCes14
set_option linter.unusedVariables false
set_option linter.unusedSimpArgs false
namespace Go.Proofs.YtomibnggmhjdfaaGreat
namespace book
open Go.RowKit
open acc (Ac Tm Bi APost BPost TFault TRight OpenIs)
set_option maxRecDepth 100000
def Ev.cl (x : Ev) : List Value := [.int .i64 x.kd, .int .i64 x.me, .int .i64 x.mo, .int .i64 x.id, .int .i64 x.te, .int .i64 x.de, .int .i64 x.fe, .int .i64 x.pr, .int .i64 x.ch, .int .i64 x.un, .int .i64 x.tg, .int .i64 x.ow, .int .i64 x.bp]
def RowE (w : World) (a : Option Addr) (n : Nat) (l : List Ev) : Prop := l.length = n ∧ (n = 0 ∨ ∃ b off, a = some ⟨b, off, none⟩ ∧ b < w.heap.size ∧ ∀ i j, i < n → j < 13 → w.cell? ⟨b, off + i * 13 + j, none⟩ = (l.getD i ev0).cl[j]?)
theorem putAll_get (vs : List Value) : ∀ (o : Nat) (cs : Array Value) (j : Nat), o + vs.length ≤ cs.size → (putAll cs o vs)[j]? = if o ≤ j ∧ j < o + vs.length then vs[j - o]? else cs[j]? := by
 induction vs with
 | nil => intro o cs j _; rw [if_neg (by simp only [List.length_nil]; omega)]; rfl
 | cons v r ih =>
  intro o cs j h
  simp only [List.length_cons] at h
  rw [putAll, ih (o + 1) _ j (by simp; omega)]
  by_cases h1 : o + 1 ≤ j ∧ j < o + 1 + r.length
  ·rw [if_pos h1, if_pos (by simp; omega), show j - o = (j - (o + 1)) + 1 by omega, List.getElem?_cons_succ]
  ·rw [if_neg h1]
   by_cases h2 : j = o
   ·subst h2
    rw [if_pos (by simp only [List.length_cons]; omega), Nat.sub_self]
    simp [show j < cs.size by omega]
   ·rw [if_neg (by simp; omega), Array.getElem?_setIfInBounds_ne (by omega)]
theorem putAll_size (vs : List Value) : ∀ (o : Nat) (cs : Array Value), (putAll cs o vs).size = cs.size := by
 induction vs with
 | nil => intro o cs; rfl
 | cons v r ih => intro o cs; rw [putAll, ih]; simp
theorem cellsC_get (xs : List Cu) (j : Nat) : (cellsC xs)[j]? = if j < xs.length * 8 then (xs.getD (j / 8) cu0).cs[j % 8]? else none := by
 by_cases h : j < xs.length * 8
 ·rw [if_pos h]
  have := cellsC_at xs (j / 8) (j % 8) (by omega) (by omega)
  rw [show j / 8 * 8 + j % 8 = j by omega] at this
  exact this
 ·rw [if_neg h, List.getElem?_eq_none (by rw [cellsC_len]; omega)]
theorem lc_put {w W : World} {base g n cap k : Nat} {xs : List Cu} {x' : Cu} {cur : Array Value} (h : Lc w base (.slice (some ⟨g, 0, none⟩) n cap) xs) (hB : Blk w g cur 62) (hk : k < xs.length) (hU : Upd w W g (putAll cur (k * 8) x'.cs) 62) : Lc W base (.slice (some ⟨g, 0, none⟩) n cap) (xs.set k x') := by
 unfold Lc at *
 rw [List.length_set]
 refine ⟨by rw [cellsC_len, List.length_set], ?_⟩
 rcases h.2 with ⟨h', _⟩ | ⟨g', cap', cur', hv, hg, hc, hn, hm, hz, ht⟩
 ·cases h'
 ·simp only [Value.slice.injEq, Option.some.injEq, Addr.mk.injEq, and_true] at hv
  obtain ⟨rfl, rfl, rfl⟩ := hv
  have e : cur' = cur := by
   have h1 : w.heap[g]? = some (.cells cur 62 (0, 0)) := hB
   rw [h1] at hc
   injection hc with hc
   injection hc with hc
   exact hc.symm
  subst e
  refine .inr ⟨g, cap, _, rfl, hg, hU.blk, hn, hm, by rw [putAll_size]; exact hz, ?_⟩
  apply List.ext_getElem?
  intro j
  have h8 : x'.cs.length = 8 := rfl
  rw [cellsC_get, List.length_set, getD_put xs x' cu0 k (j / 8) hk]
  by_cases hj : j < xs.length * 8
  ·rw [if_pos hj, List.getElem?_take_of_lt hj, Array.getElem?_toList, putAll_get _ _ _ _ (by rw [hz, h8]; omega), h8]
   by_cases h1 : k * 8 ≤ j ∧ j < k * 8 + 8
   ·rw [if_pos h1, if_pos (by omega), show j - k * 8 = j % 8 by omega]
   ·rw [if_neg h1, if_neg (by omega)]
    have h2 : cur'.toList[j]? = (cellsC xs)[j]? := by rw [← ht, List.getElem?_take_of_lt hj]
    rw [Array.getElem?_toList] at h2
    rw [h2, cellsC_get, if_pos hj]
  ·rw [if_neg hj, List.getElem?_eq_none (by rw [List.length_take]; omega)]
theorem wp_cust {w : World} {ops : Array Oper} {rest : List Oper} {o : Oper} {a : Act} {Q : Exit → Act → World → Prop} (hgd : o.guard = none) (s x : Operand)
  (ho : o.op = .call { callee := .builtin .append, args := #[s, x], argTypes := #[27, 27] })
  (base G : Nat) (v : Value) (l : List Cu) (r : Cu) (hs : a.eval s = v) (hx : a.eval x = .slice (some ⟨G, 0, none⟩) 1 1) (hv : Lc w base v l) (hu : Blk w G r.cs.toArray 62) (hn : l.length ≤ 2000000) (hbase : base ≤ w.heap.size)
  (h : ∀ v' w', Lc w' base v' (l ++ [r]) → w.grownBy w' v.ownBlock → (v'.ownBlock = v.ownBlock ∨ v'.ownBlock = some w.heap.size) → wpList Tryz.prog ops Q rest (a.put o.dst v') w') : wpList Tryz.prog ops Q (o :: rest) a w :=
 wpList_plain hgd fun K hK => step_cust s x ho base G v l r hs hx hv hu hn hbase (fun v' w' h1 h2 h3 => hK _ _ (h v' w' h1 h2 h3))
theorem lc_lies {w : World} {base n cap : Nat} {a : Option Addr} {xs : List Cu} (h : Lc w base (.slice a n cap) xs) (hn : 0 < n) : ∃ g cur, a = some ⟨g, 0, none⟩ ∧ base ≤ g ∧ Blk w g cur 62 ∧ n * 8 ≤ cur.size ∧ ∀ i j, i < xs.length → j < 8 → cur[i * 8 + j]? = (xs.getD i cu0).cs[j]? := by
 rcases h.2 with ⟨h', h0⟩ | ⟨g, cap', cur, hv, hg, hc, hle, hm, hz, ht⟩
 ·simp only [Value.slice.injEq] at h'; omega
 ·simp only [Value.slice.injEq] at hv
  obtain ⟨rfl, rfl, rfl⟩ := hv
  refine ⟨g, cur, rfl, hg, hc, by omega, fun i j hi hj => ?_⟩
  have h1 : cur.toList[i * 8 + j]? = (cellsC xs)[i * 8 + j]? := by rw [← ht, List.getElem?_take_of_lt (by omega)]
  rw [Array.getElem?_toList] at h1
  rw [h1]; exact cellsC_at xs i j hi hj
theorem cuA_of {x : Cu} {a : Ac} (h : Nums x a) : ∃ dp dn dc sp sn sc, x = ⟨a.me, a.rv, a.nx, a.mo, a.bo, a.fr, dp, dn, dc, sp, sn, sc⟩ := by
 cases x
 obtain ⟨h1, h2, h3, h4, h5, h6⟩ := h
 simp only at h1 h2 h3 h4 h5 h6
 subst h1 h2 h3 h4 h5 h6
 exact ⟨_, _, _, _, _, _, rfl⟩
theorem first_of {xs : List Cu} {bk : List Cm} {me at_ : Int} (hl : xs.length = bk.length) (hn : ∀ i, i < xs.length → Nums (xs.getD i cu0) (bk.getD i cm0).a) (h : FoundIs xs me at_) : (∃ k, FirstAt bk me k ∧ at_ = (k : Int)) ∨ (NoneAt bk me ∧ at_ = -1) := by
 rcases h with ⟨k, hk, e, hb, rfl⟩ | ⟨hb, rfl⟩
 ·exact .inl ⟨k, ⟨by rw [← hl]; exact hk, by rw [← (hn k hk).1]; exact e, fun j hj => by rw [← (hn j (by omega)).1]; exact hb j hj⟩, rfl⟩
 ·exact .inr ⟨fun j hj => by rw [← (hn j (by rw [hl]; exact hj)).1]; exact hb j (by rw [hl]; exact hj), rfl⟩
set_option maxHeartbeats 4000000 in
theorem bnum (kd me mo id te de fe pr ch un tg ow bp : Int) (w : World) : Calls Tryz.prog 97 #[.agg #[.int .i64 kd, .int .i64 me, .int .i64 mo, .int .i64 id, .int .i64 te, .int .i64 de, .int .i64 fe, .int .i64 pr, .int .i64 ch, .int .i64 un, .int .i64 tg, .int .i64 ow, .int .i64 bp]] w fun e w' => YN w (Numd id tg) e w' := by
 obtain ⟨W0, HWW, HX0, HB0, -⟩ := sh1 w #[.int .i64 kd, .int .i64 me, .int .i64 mo, .int .i64 id, .int .i64 te, .int .i64 de, .int .i64 fe, .int .i64 pr, .int .i64 ch, .int .i64 un, .int .i64 tg, .int .i64 ow, .int .i64 bp] 71
 go_enter Tryz.func97, Tryz.ntmps97
 go_upto_region 1 with fail
 rw [HWW.out]
 clear HWW
 have c0 : W0.cell? ⟨w.heap.size, 0, none⟩ = some (.int .i64 kd) := HX0.out.cell 0
 have c1 : W0.cell? ⟨w.heap.size, 1, none⟩ = some (.int .i64 me) := HX0.out.cell 1
 have c2 : W0.cell? ⟨w.heap.size, 2, none⟩ = some (.int .i64 mo) := HX0.out.cell 2
 have c3 : W0.cell? ⟨w.heap.size, 3, none⟩ = some (.int .i64 id) := HX0.out.cell 3
 have c4 : W0.cell? ⟨w.heap.size, 4, none⟩ = some (.int .i64 te) := HX0.out.cell 4
 have c5 : W0.cell? ⟨w.heap.size, 5, none⟩ = some (.int .i64 de) := HX0.out.cell 5
 have c6 : W0.cell? ⟨w.heap.size, 6, none⟩ = some (.int .i64 fe) := HX0.out.cell 6
 have c7 : W0.cell? ⟨w.heap.size, 7, none⟩ = some (.int .i64 pr) := HX0.out.cell 7
 have c8 : W0.cell? ⟨w.heap.size, 8, none⟩ = some (.int .i64 ch) := HX0.out.cell 8
 have c9 : W0.cell? ⟨w.heap.size, 9, none⟩ = some (.int .i64 un) := HX0.out.cell 9
 have c10 : W0.cell? ⟨w.heap.size, 10, none⟩ = some (.int .i64 tg) := HX0.out.cell 10
 have c11 : W0.cell? ⟨w.heap.size, 11, none⟩ = some (.int .i64 ow) := HX0.out.cell 11
 have c12 : W0.cell? ⟨w.heap.size, 12, none⟩ = some (.int .i64 bp) := HX0.out.cell 12
 have HW0 : Hid (Calls Tryz.prog 84 #[.int .i64 1, .int .i64 1048575, .slice (some ⟨W0.heap.size, 0, none⟩) 1 1] (W0.alloc (.cells #[.int .i64 id] 3)) fun e w' => e = .returned (.bool (decide (1 ≤ id ∧ id ≤ 1048575))) ∧ w' = (W0.alloc (.cells #[.int .i64 id] 3))) := bki.within_one 1 1048575 id W0 _ rfl
 have HB1 : Hid (Below w.heap.size w (W0.alloc (.cells #[.int .i64 id] 3))) := HB0.out.alloc HB0.out.size _
 have HX1 : Hid (Blk (W0.alloc (.cells #[.int .i64 id] 3)) w.heap.size #[.int .i64 kd, .int .i64 me, .int .i64 mo, .int .i64 id, .int .i64 te, .int .i64 de, .int .i64 fe, .int .i64 pr, .int .i64 ch, .int .i64 un, .int .i64 tg, .int .i64 ow, .int .i64 bp] 71) := HX0.out.alloc _
 by_cases h0 : 1 ≤ id ∧ id ≤ 1048575
 case neg =>
  rw [decide_eq_false h0] at HW0
  go_wp2_with fail
  refine HW0.out.mono ?_
  rintro e W ⟨rfl, hw⟩
  subst hw
  clear HW0
  go_wp2_with fail
  go_ret
  exact YN.no (fun q => h0 q.1) HB1.out
 rw [decide_eq_true h0] at HW0
 go_wp2_with fail
 refine HW0.out.mono ?_
 rintro e W ⟨rfl, hw⟩
 subst hw
 clear HW0 HB0 HX0
 clear c0 c1 c2 c3 c4 c5 c6 c7 c8 c9 c10 c11 c12
 generalize (W0.alloc (.cells #[.int .i64 id] 3)) = W1 at *
 have c0 : W1.cell? ⟨w.heap.size, 0, none⟩ = some (.int .i64 kd) := HX1.out.cell 0
 have c1 : W1.cell? ⟨w.heap.size, 1, none⟩ = some (.int .i64 me) := HX1.out.cell 1
 have c2 : W1.cell? ⟨w.heap.size, 2, none⟩ = some (.int .i64 mo) := HX1.out.cell 2
 have c3 : W1.cell? ⟨w.heap.size, 3, none⟩ = some (.int .i64 id) := HX1.out.cell 3
 have c4 : W1.cell? ⟨w.heap.size, 4, none⟩ = some (.int .i64 te) := HX1.out.cell 4
 have c5 : W1.cell? ⟨w.heap.size, 5, none⟩ = some (.int .i64 de) := HX1.out.cell 5
 have c6 : W1.cell? ⟨w.heap.size, 6, none⟩ = some (.int .i64 fe) := HX1.out.cell 6
 have c7 : W1.cell? ⟨w.heap.size, 7, none⟩ = some (.int .i64 pr) := HX1.out.cell 7
 have c8 : W1.cell? ⟨w.heap.size, 8, none⟩ = some (.int .i64 ch) := HX1.out.cell 8
 have c9 : W1.cell? ⟨w.heap.size, 9, none⟩ = some (.int .i64 un) := HX1.out.cell 9
 have c10 : W1.cell? ⟨w.heap.size, 10, none⟩ = some (.int .i64 tg) := HX1.out.cell 10
 have c11 : W1.cell? ⟨w.heap.size, 11, none⟩ = some (.int .i64 ow) := HX1.out.cell 11
 have c12 : W1.cell? ⟨w.heap.size, 12, none⟩ = some (.int .i64 bp) := HX1.out.cell 12
 have HW1 : Hid (Calls Tryz.prog 84 #[.int .i64 0, .int .i64 65535, .slice (some ⟨W1.heap.size, 0, none⟩) 1 1] (W1.alloc (.cells #[.int .i64 tg] 3)) fun e w' => e = .returned (.bool (decide (0 ≤ tg ∧ tg ≤ 65535))) ∧ w' = (W1.alloc (.cells #[.int .i64 tg] 3))) := bki.within_one 0 65535 tg W1 _ rfl
 have HB2 : Hid (Below w.heap.size w (W1.alloc (.cells #[.int .i64 tg] 3))) := HB1.out.alloc HB1.out.size _
 have HX2 : Hid (Blk (W1.alloc (.cells #[.int .i64 tg] 3)) w.heap.size #[.int .i64 kd, .int .i64 me, .int .i64 mo, .int .i64 id, .int .i64 te, .int .i64 de, .int .i64 fe, .int .i64 pr, .int .i64 ch, .int .i64 un, .int .i64 tg, .int .i64 ow, .int .i64 bp] 71) := HX1.out.alloc _
 by_cases h1 : 0 ≤ tg ∧ tg ≤ 65535
 case neg =>
  rw [decide_eq_false h1] at HW1
  go_wp2_with fail
  refine HW1.out.mono ?_
  rintro e W ⟨rfl, hw⟩
  subst hw
  clear HW1
  go_wp2_with fail
  go_ret
  exact YN.no (fun q => h1 q.2) HB2.out
 rw [decide_eq_true h1] at HW1
 go_wp2_with fail
 refine HW1.out.mono ?_
 rintro e W ⟨rfl, hw⟩
 subst hw
 clear HW1 HB1 HX1
 clear c0 c1 c2 c3 c4 c5 c6 c7 c8 c9 c10 c11 c12
 generalize (W1.alloc (.cells #[.int .i64 tg] 3)) = W2 at *
 have c0 : W2.cell? ⟨w.heap.size, 0, none⟩ = some (.int .i64 kd) := HX2.out.cell 0
 have c1 : W2.cell? ⟨w.heap.size, 1, none⟩ = some (.int .i64 me) := HX2.out.cell 1
 have c2 : W2.cell? ⟨w.heap.size, 2, none⟩ = some (.int .i64 mo) := HX2.out.cell 2
 have c3 : W2.cell? ⟨w.heap.size, 3, none⟩ = some (.int .i64 id) := HX2.out.cell 3
 have c4 : W2.cell? ⟨w.heap.size, 4, none⟩ = some (.int .i64 te) := HX2.out.cell 4
 have c5 : W2.cell? ⟨w.heap.size, 5, none⟩ = some (.int .i64 de) := HX2.out.cell 5
 have c6 : W2.cell? ⟨w.heap.size, 6, none⟩ = some (.int .i64 fe) := HX2.out.cell 6
 have c7 : W2.cell? ⟨w.heap.size, 7, none⟩ = some (.int .i64 pr) := HX2.out.cell 7
 have c8 : W2.cell? ⟨w.heap.size, 8, none⟩ = some (.int .i64 ch) := HX2.out.cell 8
 have c9 : W2.cell? ⟨w.heap.size, 9, none⟩ = some (.int .i64 un) := HX2.out.cell 9
 have c10 : W2.cell? ⟨w.heap.size, 10, none⟩ = some (.int .i64 tg) := HX2.out.cell 10
 have c11 : W2.cell? ⟨w.heap.size, 11, none⟩ = some (.int .i64 ow) := HX2.out.cell 11
 have c12 : W2.cell? ⟨w.heap.size, 12, none⟩ = some (.int .i64 bp) := HX2.out.cell 12
 go_wp2_with fail
 go_ret
 exact YN.yes (⟨h0, h1⟩) HB2.out
set_option maxHeartbeats 4000000 in
theorem bunt (kd me mo id te de fe pr ch un tg ow bp : Int) (w : World) : Calls Tryz.prog 98 #[.agg #[.int .i64 kd, .int .i64 me, .int .i64 mo, .int .i64 id, .int .i64 te, .int .i64 de, .int .i64 fe, .int .i64 pr, .int .i64 ch, .int .i64 un, .int .i64 tg, .int .i64 ow, .int .i64 bp]] w fun e w' => YN w (Unt un) e w' := by
 obtain ⟨W0, HWW, HX0, HB0, -⟩ := sh1 w #[.int .i64 kd, .int .i64 me, .int .i64 mo, .int .i64 id, .int .i64 te, .int .i64 de, .int .i64 fe, .int .i64 pr, .int .i64 ch, .int .i64 un, .int .i64 tg, .int .i64 ow, .int .i64 bp] 71
 go_enter Tryz.func98, Tryz.ntmps98
 go_upto_region 1 with fail
 rw [HWW.out]
 clear HWW
 have c0 : W0.cell? ⟨w.heap.size, 0, none⟩ = some (.int .i64 kd) := HX0.out.cell 0
 have c1 : W0.cell? ⟨w.heap.size, 1, none⟩ = some (.int .i64 me) := HX0.out.cell 1
 have c2 : W0.cell? ⟨w.heap.size, 2, none⟩ = some (.int .i64 mo) := HX0.out.cell 2
 have c3 : W0.cell? ⟨w.heap.size, 3, none⟩ = some (.int .i64 id) := HX0.out.cell 3
 have c4 : W0.cell? ⟨w.heap.size, 4, none⟩ = some (.int .i64 te) := HX0.out.cell 4
 have c5 : W0.cell? ⟨w.heap.size, 5, none⟩ = some (.int .i64 de) := HX0.out.cell 5
 have c6 : W0.cell? ⟨w.heap.size, 6, none⟩ = some (.int .i64 fe) := HX0.out.cell 6
 have c7 : W0.cell? ⟨w.heap.size, 7, none⟩ = some (.int .i64 pr) := HX0.out.cell 7
 have c8 : W0.cell? ⟨w.heap.size, 8, none⟩ = some (.int .i64 ch) := HX0.out.cell 8
 have c9 : W0.cell? ⟨w.heap.size, 9, none⟩ = some (.int .i64 un) := HX0.out.cell 9
 have c10 : W0.cell? ⟨w.heap.size, 10, none⟩ = some (.int .i64 tg) := HX0.out.cell 10
 have c11 : W0.cell? ⟨w.heap.size, 11, none⟩ = some (.int .i64 ow) := HX0.out.cell 11
 have c12 : W0.cell? ⟨w.heap.size, 12, none⟩ = some (.int .i64 bp) := HX0.out.cell 12
 have HW0 : Hid (Calls Tryz.prog 84 #[.int .i64 1, .int .i64 2097151, .slice (some ⟨W0.heap.size, 0, none⟩) 1 1] (W0.alloc (.cells #[.int .i64 un] 3)) fun e w' => e = .returned (.bool (decide (1 ≤ un ∧ un ≤ 2097151))) ∧ w' = (W0.alloc (.cells #[.int .i64 un] 3))) := bki.within_one 1 2097151 un W0 _ rfl
 have HB1 : Hid (Below w.heap.size w (W0.alloc (.cells #[.int .i64 un] 3))) := HB0.out.alloc HB0.out.size _
 have HX1 : Hid (Blk (W0.alloc (.cells #[.int .i64 un] 3)) w.heap.size #[.int .i64 kd, .int .i64 me, .int .i64 mo, .int .i64 id, .int .i64 te, .int .i64 de, .int .i64 fe, .int .i64 pr, .int .i64 ch, .int .i64 un, .int .i64 tg, .int .i64 ow, .int .i64 bp] 71) := HX0.out.alloc _
 by_cases h0 : 1 ≤ un ∧ un ≤ 2097151
 case neg =>
  rw [decide_eq_false h0] at HW0
  go_wp2_with fail
  refine HW0.out.mono ?_
  rintro e W ⟨rfl, hw⟩
  subst hw
  clear HW0
  go_wp2_with fail
  go_ret
  exact YN.no (fun q => h0 q) HB1.out
 rw [decide_eq_true h0] at HW0
 go_wp2_with fail
 refine HW0.out.mono ?_
 rintro e W ⟨rfl, hw⟩
 subst hw
 clear HW0 HB0 HX0
 clear c0 c1 c2 c3 c4 c5 c6 c7 c8 c9 c10 c11 c12
 generalize (W0.alloc (.cells #[.int .i64 un] 3)) = W1 at *
 have c0 : W1.cell? ⟨w.heap.size, 0, none⟩ = some (.int .i64 kd) := HX1.out.cell 0
 have c1 : W1.cell? ⟨w.heap.size, 1, none⟩ = some (.int .i64 me) := HX1.out.cell 1
 have c2 : W1.cell? ⟨w.heap.size, 2, none⟩ = some (.int .i64 mo) := HX1.out.cell 2
 have c3 : W1.cell? ⟨w.heap.size, 3, none⟩ = some (.int .i64 id) := HX1.out.cell 3
 have c4 : W1.cell? ⟨w.heap.size, 4, none⟩ = some (.int .i64 te) := HX1.out.cell 4
 have c5 : W1.cell? ⟨w.heap.size, 5, none⟩ = some (.int .i64 de) := HX1.out.cell 5
 have c6 : W1.cell? ⟨w.heap.size, 6, none⟩ = some (.int .i64 fe) := HX1.out.cell 6
 have c7 : W1.cell? ⟨w.heap.size, 7, none⟩ = some (.int .i64 pr) := HX1.out.cell 7
 have c8 : W1.cell? ⟨w.heap.size, 8, none⟩ = some (.int .i64 ch) := HX1.out.cell 8
 have c9 : W1.cell? ⟨w.heap.size, 9, none⟩ = some (.int .i64 un) := HX1.out.cell 9
 have c10 : W1.cell? ⟨w.heap.size, 10, none⟩ = some (.int .i64 tg) := HX1.out.cell 10
 have c11 : W1.cell? ⟨w.heap.size, 11, none⟩ = some (.int .i64 ow) := HX1.out.cell 11
 have c12 : W1.cell? ⟨w.heap.size, 12, none⟩ = some (.int .i64 bp) := HX1.out.cell 12
 go_wp2_with fail
 go_ret
 exact YN.yes (h0) HB1.out
set_option maxHeartbeats 4000000 in
theorem bmony (id te de fe pr ch un : Int) (w : World) : Calls Tryz.prog 99 #[.agg #[.int .i64 id, .int .i64 te, .int .i64 de, .int .i64 fe, .int .i64 pr, .int .i64 ch, .int .i64 un]] w fun e w' => YN w (Mony te de fe pr ch) e w' := by
 obtain ⟨W0, HWW, HX0, HB0, -⟩ := sh1 w #[.int .i64 id, .int .i64 te, .int .i64 de, .int .i64 fe, .int .i64 pr, .int .i64 ch, .int .i64 un] 69
 go_enter Tryz.func99, Tryz.ntmps99
 go_upto_region 1 with fail
 rw [HWW.out]
 clear HWW
 obtain ⟨c0, c1, c2, c3, c4, c5, c6⟩ := scl7 HX0
 have HW0 : Hid (Calls Tryz.prog 84 #[.int .i64 1, .int .i64 100000000, .slice (some ⟨W0.heap.size, 0, none⟩) 1 1] (W0.alloc (.cells #[.int .i64 te] 3)) fun e w' => e = .returned (.bool (decide (1 ≤ te ∧ te ≤ 100000000))) ∧ w' = (W0.alloc (.cells #[.int .i64 te] 3))) := bki.within_one 1 100000000 te W0 _ rfl
 have HB1 : Hid (Below w.heap.size w (W0.alloc (.cells #[.int .i64 te] 3))) := HB0.out.alloc HB0.out.size _
 have HX1 : Hid (Blk (W0.alloc (.cells #[.int .i64 te] 3)) w.heap.size #[.int .i64 id, .int .i64 te, .int .i64 de, .int .i64 fe, .int .i64 pr, .int .i64 ch, .int .i64 un] 69) := HX0.out.alloc _
 by_cases h0 : 1 ≤ te ∧ te ≤ 100000000
 case neg =>
  rw [decide_eq_false h0] at HW0
  go_wp2_with fail
  refine HW0.out.mono ?_
  rintro e W ⟨rfl, hw⟩
  subst hw
  clear HW0
  go_wp2_with fail
  go_ret
  exact YN.no (fun q => h0 q.1) HB1.out
 rw [decide_eq_true h0] at HW0
 go_wp2_with fail
 refine HW0.out.mono ?_
 rintro e W ⟨rfl, hw⟩
 subst hw
 clear HW0 HB0 HX0
 clear c0 c1 c2 c3 c4 c5 c6
 generalize (W0.alloc (.cells #[.int .i64 te] 3)) = W1 at *
 obtain ⟨c0, c1, c2, c3, c4, c5, c6⟩ := scl7 HX1
 have HW1 : Hid (Calls Tryz.prog 84 #[.int .i64 0, .int .i64 100000000, .slice (some ⟨W1.heap.size, 0, none⟩) 4 4] (W1.alloc (.cells #[.int .i64 de, .int .i64 fe, .int .i64 pr, .int .i64 ch] 3)) fun e w' => e = .returned (.bool (bki.okAll 0 100000000 [de, fe, pr, ch])) ∧ w' = (W1.alloc (.cells #[.int .i64 de, .int .i64 fe, .int .i64 pr, .int .i64 ch] 3))) := bki.within_any 0 100000000 _ 4 4 [de, fe, pr, ch] _ (bki.row_four W1 de fe pr ch 3) (by decide)
 have HB2 : Hid (Below w.heap.size w (W1.alloc (.cells #[.int .i64 de, .int .i64 fe, .int .i64 pr, .int .i64 ch] 3))) := HB1.out.alloc HB1.out.size _
 have HX2 : Hid (Blk (W1.alloc (.cells #[.int .i64 de, .int .i64 fe, .int .i64 pr, .int .i64 ch] 3)) w.heap.size #[.int .i64 id, .int .i64 te, .int .i64 de, .int .i64 fe, .int .i64 pr, .int .i64 ch, .int .i64 un] 69) := HX1.out.alloc _
 by_cases h1 : bki.okAll 0 100000000 [de, fe, pr, ch] = true
 case neg =>
  rw [show bki.okAll 0 100000000 [de, fe, pr, ch] = false by simpa using h1] at HW1
  go_wp2_with fail
  refine HW1.out.mono ?_
  rintro e W ⟨rfl, hw⟩
  subst hw
  clear HW1
  go_wp2_with fail
  go_ret
  exact YN.no (fun q => h1 (by simpa [bki.okAll] using q.2.1)) HB2.out
 rw [h1] at HW1
 go_wp2_with fail
 refine HW1.out.mono ?_
 rintro e W ⟨rfl, hw⟩
 subst hw
 clear HW1 HB1 HX1
 clear c0 c1 c2 c3 c4 c5 c6
 generalize (W1.alloc (.cells #[.int .i64 de, .int .i64 fe, .int .i64 pr, .int .i64 ch] 3)) = W2 at *
 obtain ⟨c0, c1, c2, c3, c4, c5, c6⟩ := scl7 HX2
 have hh : (0 ≤ de ∧ de ≤ 100000000) ∧ (0 ≤ fe ∧ fe ≤ 100000000) ∧ (0 ≤ pr ∧ pr ≤ 100000000) ∧ 0 ≤ ch ∧ ch ≤ 100000000 := by simpa [bki.okAll] using h1
 have e1 : IntKind.i64.wrap (de + fe) = de + fe := by rw [IntKind.wrap_i64]; omega
 have e2 : IntKind.i64.wrap (de + fe + pr) = de + fe + pr := by rw [IntKind.wrap_i64]; omega
 have e3 : IntKind.i64.wrap (de + fe + pr + ch) = de + fe + pr + ch := by rw [IntKind.wrap_i64]; omega
 have HH : Hid ((0 ≤ de ∧ de ≤ 100000000) ∧ (0 ≤ fe ∧ fe ≤ 100000000) ∧ (0 ≤ pr ∧ pr ≤ 100000000) ∧ 0 ≤ ch ∧ ch ≤ 100000000) := hh
 have H0 : Hid (1 ≤ te ∧ te ≤ 100000000) := h0
 clear hh h1 h0
 by_cases h2 : de + fe + pr + ch = te
 ·have hq : ((de + fe + pr + ch) == te) = true := by simpa using h2
  have H2 : Hid (de + fe + pr + ch = te) := h2
  clear h2
  go_wp2_with fail
  go_ret
  exact YN.yes ⟨H0.out, HH.out, H2.out⟩ HB2.out
 ·have hq : ((de + fe + pr + ch) == te) = false := by simpa using h2
  have H2 : Hid (¬ de + fe + pr + ch = te) := h2
  clear h2
  go_wp2_with fail
  go_ret
  exact YN.no (fun q => H2.out q.2.2) HB2.out
open Go.ChangeMaps (setBlock heap_setBlock_same heap_setBlock_other)
def entI (m : Int) (i : Nat) : MapEntry := { key := .int .i64 m, val := .int .i64 (i : Int), born := i }
def entsI : List Int → Nat → List MapEntry
 | [], _ => []
 | p :: l, i => entI p i :: entsI l (i + 1)
theorem entsI_app (l : List Int) (p : Int) (i : Nat) : entsI (l ++ [p]) i = entsI l i ++ [entI p (i + l.length)] := by
 induction l generalizing i with
 | nil => rfl
 | cons x l ih => simp only [List.cons_append, entsI, ih, List.length_cons]; rw [show i + 1 + l.length = i + (l.length + 1) by omega]
def MpI (w : World) (B : Nat) (l : List Int) : Prop := w.heap[B]? = some (.map (entsI l 0).toArray l.length)
theorem MpI.lt {w : World} {B : Nat} {l : List Int} (h : MpI w B l) : B < w.heap.size := by
 unfold MpI at h
 by_cases hh : B < w.heap.size
 ·exact hh
 ·rw [Array.getElem?_eq_none (by omega)] at h; cases h
theorem MpI.below {w w' : World} {B : Nat} {l : List Int} (h : MpI w B l) (hb : Below w.heap.size w w') : MpI w' B l := by
 have hl := h.lt
 unfold MpI at *; rw [hb.block B hl]; exact h
theorem MpI.upd {w W : World} {B g : Nat} {cs : Array Value} {t : TypeId} {l : List Int} (h : MpI w B l) (hU : Upd w W g cs t) (hne : B ≠ g) : MpI W B l := by
 unfold MpI at *; rw [hU.oth B hne]; exact h
theorem MpI.new (w : World) : MpI (w.alloc (.map #[] 0)) w.heap.size [] := by
 show (w.heap.push _)[w.heap.size]? = _
 rw [Array.getElem?_push_size]; rfl
def firstI : List Int → Int → Option Nat
 | [], _ => none
 | m :: l, x => if x = m then some 0 else (firstI l x).map (· + 1)
theorem findingI (x : Int) : ∀ (l : List Int) (i j : Nat), Instr.findNow (.int .i64) (.int .i64 x) (entsI l i) j = some ((firstI l x).map fun k => (j + k, Value.int .i64 ((i + k : Nat) : Int)))
 | [], i, j => rfl
 | m :: l, i, j => by
  have ih := findingI x l (i + 1) (j + 1)
  unfold firstI
  by_cases h : x = m
  ·subst h
   simp [entsI, entI, Instr.findNow, Instr.sameNow]
  ·have hb : (x == m) = false := by simpa using h
   rw [if_neg h]
   simp only [entsI, entI, Instr.findNow, Instr.sameNow, if_true, hb]
   rw [ih]
   cases firstI l x with
   | none => rfl
   | some k => simp [show j + 1 + k = j + (k + 1) by omega, show i + 1 + k = i + (k + 1) by omega]; omega
theorem zintI (w : World) : (zeroValue 3).run Tryz.prog w = .ok (.int .i64 0) w := by kernel_rfl
theorem chkI (em : Bool) (x : Int) (w : World) : (Instr.checkKey em 10000 3 (.int .i64 x)).run Tryz.prog w = .ok () w := by kernel_rfl
theorem keyI (x : Int) (l : List Int) (w : World) : (Instr.findKey 3 (.int .i64 x) (entsI l 0)).run Tryz.prog w = .ok ((firstI l x).map fun k => (k, Value.int .i64 (k : Int))) w := by
 have h := findingI x l 0 0
 simp only [Nat.zero_add] at h
 simp [Instr.findKey, run_underlying Tryz.underlying3, Sem.run_bind, h]
theorem lookI_run {w : World} {B : Nat} {l : List Int} (h : MpI w B l) (x : Int) :
  (Instr.lookup 104 (.map (some B)) (.int .i64 x) true).run Tryz.prog w = .ok (.tuple #[.int .i64 (((firstI l x).getD 0 : Nat) : Int), .bool (firstI l x).isSome]) w := by
 have hf := keyI x l w
 cases hl : firstI l x with
 | none => rw [hl] at hf; simp [Instr.lookup, run_underlying Tryz.underlying104, MapKept.run_getObj_map h, chkI, hf, zintI, Result.andThen, Sem.run_bind]
 | some k => rw [hl] at hf; simp [Instr.lookup, run_underlying Tryz.underlying104, MapKept.run_getObj_map h, chkI, hf, Result.andThen, Sem.run_bind]
theorem updI_run {w : World} {B : Nat} {l : List Int} (h : MpI w B l) (x : Int) (hn : firstI l x = none) :
  ∃ W, (Instr.mapUpdate 104 (.map (some B)) (.int .i64 x) (.int .i64 (l.length : Int))).run Tryz.prog w = .ok () W ∧ MpI W B (l ++ [x]) ∧ (∀ G, G ≠ B → W.heap[G]? = w.heap[G]?) ∧ (∀ B0 w0, B0 ≤ B → Below B0 w0 w → Below B0 w0 W) ∧ W.heap.size = w.heap.size ∧ w.grownBy W (some B) := by
 have hf := keyI x l w
 rw [hn] at hf
 refine ⟨setBlock w B (.map ((entsI l 0).toArray.push ⟨.int .i64 x, .int .i64 (l.length : Int), l.length⟩) (l.length + 1)), ?_, ?_, fun G hG => heap_setBlock_other h _ hG, fun B0 w0 hB hb => ?_, by simp [setBlock], ⟨rfl, rfl, rfl, by simp [setBlock], fun k hk hne => heap_setBlock_other h _ (fun e => hne (by rw [e]))⟩⟩
 ·simp [Instr.mapUpdate, run_underlying Tryz.underlying104, MapKept.run_getObj_map h, chkI, hf, MapKept.run_setObj_map _ h, Result.andThen, setBlock, Sem.run_bind]
 ·unfold MpI
  rw [heap_setBlock_same h, entsI_app, List.length_append]
  simp [entI]
 ·refine ⟨hb.os, hb.tape, hb.output, by simp [setBlock]; exact hb.size, fun k hk => ?_⟩
  rw [heap_setBlock_other h _ (by omega)]; exact hb.block k hk
theorem mkMapI (w : World) : (Instr.makeMap 104 none).run Tryz.prog w = .ok (.map (some w.heap.size)) (w.alloc (.map #[] 0)) := by kernel_rfl
def mes (bk : List Cm) : List Int := bk.map fun c => c.a.me
theorem mes_len (bk : List Cm) : (mes bk).length = bk.length := by simp [mes]
theorem first_some {bk : List Cm} {x : Int} {k : Nat} (h : firstI (mes bk) x = some k) : FirstAt bk x k := by
 induction bk generalizing k with
 | nil => cases h
 | cons c bk ih =>
  unfold mes firstI at h
  simp only [List.map_cons] at h
  by_cases hx : x = c.a.me
  ·rw [if_pos hx] at h
   cases h
   exact ⟨by simp, hx.symm, fun j hj => absurd hj (Nat.not_lt_zero _)⟩
  ·rw [if_neg hx] at h
   cases hf : firstI (mes bk) x with
   | none => rw [show firstI (List.map (fun c => c.a.me) bk) x = none from hf] at h; cases h
   | some m =>
    rw [show firstI (List.map (fun c => c.a.me) bk) x = some m from hf] at h
    cases h
    have := ih hf
    exact ⟨by have := this.1; simp; omega, this.2.1, fun j hj => by
     cases j with
     | zero => exact fun e => hx e.symm
     | succ j => exact this.2.2 j (by have : j + 1 < m + 1 := hj; omega)⟩
theorem first_none {bk : List Cm} {x : Int} (h : firstI (mes bk) x = none) : NoneAt bk x := by
 induction bk with
 | nil => intro j hj; cases hj
 | cons c bk ih =>
  unfold mes firstI at h
  simp only [List.map_cons] at h
  by_cases hx : x = c.a.me
  ·rw [if_pos hx] at h; cases h
  ·rw [if_neg hx] at h
   have hf : firstI (mes bk) x = none := by
    cases hf : firstI (mes bk) x with
    | none => rfl
    | some m => rw [show firstI (List.map (fun c => c.a.me) bk) x = some m from hf] at h; cases h
   intro j hj
   cases j with
   | zero => exact fun e => hx e.symm
   | succ j => exact ih hf j (by simpa using hj)
theorem mes_set {bk : List Cm} {k : Nat} {c : Cm} (h : c.a.me = (bk.getD k cm0).a.me) : mes (bk.set k c) = mes bk := by
 unfold mes
 apply List.ext_getElem?
 intro j
 simp only [List.getElem?_map, List.getElem?_set]
 by_cases hj : k = j
 ·subst hj
  rw [if_pos rfl]
  by_cases hl : k < bk.length
  ·rw [if_pos hl, List.getElem?_eq_getElem hl]
   simp only [Option.map_some, h, List.getD, List.getElem?_eq_getElem hl, Option.getD]
  ·rw [if_neg hl, List.getElem?_eq_none (by omega)]
 ·rw [if_neg hj]
end book
end Go.Proofs.YtomibnggmhjdfaaGreat
