/- Disks: a record is copied, and put behind the others in a box. -/
import Derived.Test.YtfllkhlnnihndaaDkR
import Derived.Test.YtfllkhlnnihndaaDkEr
import Derived.Test.YtfllkhlnnihndaaDkPn
import Derived.Test.YtfllkhlnnihndaaClGvU
import Derived.Test.YtfllkhlnnihndaaOpAt
namespace Go.Proofs.Ytfllkhlnnihndaa.disk
open Go.RowKit Go.Proofs.Ytfllkhlnnihndaa.cell
set_option maxRecDepth 100000
set_option linter.unusedVariables false

set_option maxHeartbeats 400000 in
theorem clone_any (x : Addr) (len cap : Nat) (zs : List Int) (w : World) (hr : RowU w (some x) len zs) (hl : len ≤ 100000) :
    Calls Try.prog 25 #[.slice (some x) len cap] w fun e w' => GaveU w zs e w' := by
  obtain ⟨i0, hi, hz0, hz1, hz2⟩ := info_parts info_u32
  obtain ⟨hz, hr⟩ := hr
  have hown : (w.alloc (.cells #[] 42)).ownsRow w.heap.size 42 1 (.slice (some ⟨w.heap.size, 0, none⟩) 0 0) 0 [] := World.ownsRow_lit w #[] 0 (Nat.le_refl _) (by unfold maxLen; omega) rfl
  have HO : Hid ((w.alloc (.cells #[] 42)).ownsRow w.heap.size 42 1 (.slice (some ⟨w.heap.size, 0, none⟩) 0 0) 0 []) := hown
  have HSZ : Hid (w.heap.size ≤ (w.alloc (.cells #[] 42)).heap.size) := alloc_le (Nat.le_refl _) _
  clear hown
  have heq : ∀ W : World, (binOp BinOp.eql 22 (.slice (some x) len cap) (.slice none 0 0)).run Try.prog W = .ok (.bool false) W := fun W => by kernel_rfl
  go_enter Try.func25, Try.ntmps25
  go_wp2_with (first
    | (at_builtin; refine wpList_append_own _ rfl _ _ 22 rfl w.heap.size 42 i0 (.int .u32 0) 1 4 Try.underlying22 hi hz0 hz1 hz2 rfl (by decide) _ _ _ rfl HO.out x len cap (zs.map (.int .u32)) rfl ?c0 ?c1 ?c2 ?c3 ?c4 HSZ.out ?_)
    | go_in)
  case c0 => simp [hz]
  case c1 =>
    intro j u hu
    rcases hr with h | ⟨b, off, h, hc⟩
    · rw [List.getElem?_eq_none (by simp; omega)] at hu; cases hu
    · obtain rfl := Option.some.inj h
      by_cases hj : j < zs.length
      · simp [List.getElem?_eq_getElem hj] at hu
        subst hu
        have := hc j (by omega)
        rw [Addr.add_lit, World.cell?_alloc_lt w _ _ (World.block_lt_of_cell? w _ this)]
        simpa [List.getD, List.getElem?_eq_getElem hj] using this
      · rw [List.getElem?_eq_none (by simp; omega)] at hu; cases hu
  case c2 => intro u hu; obtain ⟨z, _, rfl⟩ := List.mem_map.1 hu; rfl
  case c3 => unfold maxLen; omega
  case c4 => omega
  intro v' w' hown hg _
  have HW : Hid (Ws w' w.heap.size v' zs) := by show w'.ownsRow _ _ _ _ _ _; rw [hz]; simpa using hown
  have HG : Hid (Below w.heap.size w w') := own_bel HO.out hg ((Below.refl _ _).alloc (Nat.le_refl _) _) (Nat.le_refl _) HSZ.out
  clear hown hg
  go_wp2
  go_ret
  exact GaveU.mk HW.out HG.out
/-- One slice is put behind the others, in a region that draws its order. -/
theorem step_sli {P : Program} {T S : TypeId} (hP : SliT P T S) {w : World} {ops : Array Oper} {o : Oper} {a : Act} {K : Act → World → Prop} {Q : Exit → Act → World → Prop} {E : Prop} (hgd : o.guard = none) (s x : Operand)
    (ho : o.op = .call { callee := .builtin .append, args := #[s, x], argTypes := #[S, S] })
    (base G : Nat) (v : Value) (l : List Sli) (r : Sli) (hs : a.eval s = v) (hx : a.eval x = .slice (some ⟨G, 0, none⟩) 1 1) (hv : Lr T w base v l) (hu : w.cell? ⟨G, 0, none⟩ = some r.v) (hn : l.length ≤ 1000000) (hbase : base ≤ w.heap.size)
    (h : ∀ v' w', Lr T w' base v' (l ++ [r]) → w.grownBy w' v.ownBlock → (v'.ownBlock = v.ownBlock ∨ v'.ownBlock = some w.heap.size) → K (a.put o.dst v') w') : if Region.wanted o (yielded ops a.tmps) = true then Oper.wp P o a w K Q else E := by
  have hw : Region.wanted o (yielded ops a.tmps) = true := by simp [Region.wanted, hgd]
  rw [if_pos hw]
  obtain ⟨i0, hi, hz0, hz1, hz2⟩ := info_parts hP.info
  obtain ⟨v', w', hr, h2, h3, _, h4⟩ := run_append_own_at (P := P) w base S o.type T i0 (sl0.v) 1 24 hP.under hi hz0 hz1 hz2 rfl (by decide) v l.length (cellsR l) hv ⟨G, 0, none⟩ 1 1 (cellsR [r]) rfl (by
    intro j u hj
    match j, hj with
    | 0, hj => simp [cellsR] at hj; subst hj; simpa [Addr.add] using hu
    | j + 1, hj => simp [cellsR] at hj) (oneR [r]) (by unfold maxLen; omega) (by omega) hbase
  unfold Oper.wp execOp
  simp only [ho, resolve, invoke, builtin, Sem.run_bind, Sem.run_pure, Result.andThen_ok, List.map_toArray, List.map_cons, List.map_nil, hs, hx, hr]
  refine h v' w' ?_ h3 h4
  unfold Lr
  rw [List.length_append]
  unfold cellsR at *
  rw [List.map_append]
  exact h2
/-- One cell is stored, in a region that draws its order. -/
theorem wp_letOne {P : Program} {o : Oper} {a : Act} {w : World} {K : Act → World → Prop} {Q : Exit → Act → World → Prop} (ty : TypeId) (x y : Operand) (ho : o.op = .store ty x y)
    (g : Nat) (hx : a.eval x = .pointer (some ⟨g, 0, none⟩)) (v : Value) (hy : a.eval y = v) (hv : v.cells = #[v]) (hi : (P.info? ty).map (·.size) = some 1) (h1 : v.oneCell' = true)
    (u : Value) (t : TypeId) (hB : Blk w g #[u] t) (hd : o.dst = none)
    (h : ∀ W, Upd w W g #[v] t → K a W) : o.wp P a w K Q := by
  have hs := run_storeVar_let (P := P) (w := w) (g := g) (off := 0) (ty := ty) (t := t) (v := v) (cells := #[v]) (cs := #[u]) hv (by simpa using hi) (by simpa using h1) hB (by simp)
  have hu := upd_cells g t [v] 0 w #[u] hB
  unfold Oper.wp execOp
  simp only [ho, hx, hy, Instr.storeAt, Instr.sureAddr, Sem.run_bind, Sem.run_pure, Result.andThen_ok, hs]
  have := h _ hu
  have e : a.put o.dst undef = a := by rw [hd]; rfl
  rw [← e] at this
  exact this
/-- What a box at L holds: these records, all of them new since it was made. -/
structure Box (w : World) (L : Nat) (V : Value) (sl : List Sli) (zs : List (List Int)) (W : World) : Prop where
  blk : Blk W L #[V] 24
  row : Lr 22 W (L + 1) V sl
  recs : Recs W V.ownBlock sl zs
  new : ∀ i, i < sl.length → (sl.getD i sl0).n ≤ 100000 ∧ ∀ x, (sl.getD i sl0).a = some x → L + 1 ≤ x.block
  bel : Below L w W
theorem Box.next {w : World} {L : Nat} {V : Value} {sl : List Sli} {zs : List (List Int)} {W W' : World} (h : Box w L V sl zs W) (hb : Below W.heap.size W W') : Box w L V sl zs W' :=
  ⟨h.blk.next hb, h.row.next hb, h.recs.below hb, h.new, h.bel.trans (hb.mono (Nat.le_of_lt h.blk.lt))⟩
theorem Box.far {w : World} {L : Nat} {V : Value} {sl : List Sli} {zs : List (List Int)} {W : World} (h : Box w L V sl zs W) : some L ≠ V.ownBlock := own_far h.row (Nat.lt_succ_self _)
theorem Box.kept {w : World} {L : Nat} {V : Value} {sl : List Sli} {zs : List (List Int)} {W W' : World} (h : Box w L V sl zs W) (hg : W.grownBy W' V.ownBlock) : Blk W' L #[V] 24 := by
  have h1 : W.heap[L]? = _ := h.blk
  show W'.heap[L]? = _
  rw [hg.block L h.blk.lt h.far]
  exact h1
theorem lr_upd {T t : TypeId} {w W : World} {L : Nat} {cs : Array Value} {v : Value} {l : List Sli} (h : Lr T w (L + 1) v l) (hU : Upd w W L cs t) : Lr T W (L + 1) v l := by
  refine ⟨h.1, ?_⟩
  rcases h.2 with hn | ⟨g, cap, cur, hv, hg, hc, rest⟩
  · exact .inl hn
  · exact .inr ⟨g, cap, cur, hv, hg, hU.keep hc (by omega), rest⟩
theorem snoc_at (sl : List Sli) (r : Sli) (i : Nat) (hi : i < (sl ++ [r]).length) : (i < sl.length ∧ (sl ++ [r]).getD i sl0 = sl.getD i sl0) ∨ (i = sl.length ∧ (sl ++ [r]).getD i sl0 = r) := by
  by_cases h1 : i < sl.length
  · exact .inl ⟨h1, by simp [List.getD, List.getElem?_append_left h1]⟩
  · have hi' : i = sl.length := by simp at hi; omega
    exact .inr ⟨hi', by rw [hi']; simp [List.getD]⟩
theorem box_step {w U W3 W4 : World} {L : Nat} {V v : Value} {sl : List Sli} {r : Sli} {zs : List (List Int)} {R : List Int} (hB : Box w L V sl zs U) {g off : Nat} (ha : r.a = some ⟨g, off, none⟩) (hg : g < U.heap.size) (hne : some g ≠ V.ownBlock) (hL : L + 1 ≤ g) (hrow : RowU U r.a r.n R) (hn : r.n ≤ 100000)
    (h3 : Lr 22 W3 (L + 1) v (sl ++ [r])) (hgr : U.grownBy W3 V.ownBlock) (ho : v.ownBlock = V.ownBlock ∨ v.ownBlock = some U.heap.size) (hU : Upd W3 W4 L #[v] 24) : Box w L v (sl ++ [r]) (zs ++ [R]) W4 := by
  have hnew : ∀ i, i < (sl ++ [r]).length → ((sl ++ [r]).getD i sl0).n ≤ 100000 ∧ ∀ x, ((sl ++ [r]).getD i sl0).a = some x → L + 1 ≤ x.block := fun i hi => by
    rcases snoc_at sl r i hi with ⟨h1, e⟩ | ⟨_, e⟩
    · rw [e]; exact hB.new i h1
    · rw [e]; refine ⟨hn, fun x hx => ?_⟩
      rw [ha] at hx
      cases hx
      exact hL
  have hrc : Recs W3 v.ownBlock (sl ++ [r]) (zs ++ [R]) := (hB.recs.snoc (s := r) (z := R) ⟨⟨g, off, ha, hg, hne⟩, hrow⟩).grown hgr ho
  refine ⟨hU.blk, lr_upd h3 hU, ⟨hrc.1, fun i hi => ?_⟩, hnew, ?_⟩
  · obtain ⟨⟨b, o, e1, e2, e3⟩, e4⟩ := hrc.2 i hi
    have hLb := (hnew i hi).2 _ e1
    refine ⟨⟨b, o, e1, by rw [hU.size]; exact e2, e3⟩, e4.1, ?_⟩
    rcases e4.2 with h0 | ⟨b', o', e5, hc⟩
    · exact .inl h0
    · rw [e1] at e5
      cases e5
      exact .inr ⟨b, o, e1, fun j hj => (hU.cell ⟨b, o + j, none⟩ (by show b ≠ L; simp only at hLb; omega) rfl).trans (hc j hj)⟩
  · refine hU.bel _ _ (Nat.le_refl _) ?_
    exact own_bel hB.row hgr hB.bel (Nat.le_succ _) (Nat.le_of_lt hB.blk.lt)
/-- What the box holds at the end is handed over. -/
theorem Box.reads {w : World} {L : Nat} {V : Value} {sl : List Sli} {zs : List (List Int)} {W : World} (h : Box w L V sl zs W) : ∃ a cap, V = .slice a zs.length cap ∧ ReadsF W L a zs.length zs := by
  obtain ⟨a, cap, hv⟩ := h.row.len
  have hl := h.recs.1
  refine ⟨a, cap, by rw [← hl]; exact hv, rfl, ?_⟩
  by_cases h0 : zs.length = 0
  · exact .inl h0
  · obtain ⟨g, cap2, hv2, hge, lg, _, hc⟩ := h.row.row (by rw [hl]; omega)
    rw [hv] at hv2
    injection hv2 with ea _ _
    refine .inr ⟨g, 0, ea, by omega, lg, fun i hi => ?_⟩
    have hi' : i < sl.length := by rw [hl]; exact hi
    refine ⟨sl.getD i sl0, by rw [Nat.zero_add]; exact hc i hi', (h.recs.2 i hi').2, (h.new i hi').1, fun x hx => ?_⟩
    have := (h.new i hi').2 x hx
    omega

end Go.Proofs.Ytfllkhlnnihndaa.disk
