import Derived.Test.YtomibnggmhjdfaaGreatVVendLoads1
import Derived.Test.YtomibnggmhjdfaaGreatVVendLoads4
import Derived.Test.YtomibnggmhjdfaaGreatVVendLoads5
import Derived.Test.YtomibnggmhjdfaaGreatVVendLoads6
import Derived.Test.YtomibnggmhjdfaaGreatVVendLoads23
import Derived.Test.YtomibnggmhjdfaaGreatVVendLoads24
set_option linter.unusedVariables false
set_option linter.unusedSimpArgs false
namespace Go.Proofs.YtomibnggmhjdfaaGreat
namespace disk
open Go.RowKit cell
set_option maxRecDepth 100000
set_option maxHeartbeats 400000 in
theorem clone_any (x : Addr) (len cap : Nat) (zs : List Int) (w : World) (hr : RowU w (some x) len zs) (hl : len ≤ 100000) :
  Calls Tryz.prog 72 #[.slice (some x) len cap] w fun e w' => GaveU w zs e w' := by
 obtain ⟨i0, hi, hz0, hz1, hz2⟩ := info_parts info_u32
 obtain ⟨hz, hr⟩ := hr
 have hown : (w.alloc (.cells #[] 64)).ownsRow w.heap.size 64 1 (.slice (some ⟨w.heap.size, 0, none⟩) 0 0) 0 [] := World.ownsRow_lit w #[] 0 (Nat.le_refl _) (by unfold maxLen; omega) rfl
 have HO : Hid ((w.alloc (.cells #[] 64)).ownsRow w.heap.size 64 1 (.slice (some ⟨w.heap.size, 0, none⟩) 0 0) 0 []) := hown
 have HSZ : Hid (w.heap.size ≤ (w.alloc (.cells #[] 64)).heap.size) := alloc_le (Nat.le_refl _) _
 clear hown
 have heq : ∀ W : World, (binOp BinOp.eql 25 (.slice (some x) len cap) (.slice none 0 0)).run Tryz.prog W = .ok (.bool false) W := fun W => by kernel_rfl
 go_enter Tryz.func72, Tryz.ntmps72
 go_wp2_with (first
  | (at_builtin; refine wpList_append_own _ rfl _ _ 25 rfl w.heap.size 64 i0 (.int .u32 0) 1 4 Tryz.underlying25 hi hz0 hz1 hz2 rfl (by decide) _ _ _ rfl HO.out x len cap (zs.map (.int .u32)) rfl ?c0 ?c1 ?c2 ?c3 ?c4 HSZ.out ?_)
  | go_in)
 case c0 => simp [hz]
 case c1 =>
  intro j u hu
  rcases hr with h | ⟨b, off, h, hc⟩
  ·rw [List.getElem?_eq_none (by simp; omega)] at hu; cases hu
  ·obtain rfl := Option.some.inj h
   by_cases hj : j < zs.length
   ·simp [List.getElem?_eq_getElem hj] at hu
    subst hu
    have := hc j (by omega)
    rw [Addr.add_lit, World.cell?_alloc_lt w _ _ (World.block_lt_of_cell? w _ this)]
    simpa [List.getD, List.getElem?_eq_getElem hj] using this
   ·rw [List.getElem?_eq_none (by simp; omega)] at hu; cases hu
 case c2 => intro u hu; obtain ⟨z, _, rfl⟩ := List.mem_map.1 hu; rfl
 case c3 => unfold maxLen; omega
 case c4 => omega
 intro v' w' hown hg _
 have HW : Hid (Ws w' w.heap.size v' zs) := by show w'.ownsRow _ _ _ _ _ _; rw [hz]; simpa using hown
 have HG : Hid (Below w.heap.size w w') := own_bel HO.out hg ((Below.refl _ _).alloc (Nat.le_refl _) _) (Nat.le_refl _) HSZ.out
 clear hown hg
 go_wp2
 go_ret
 exact GaveU.mk HW.out HG.out
theorem step_sli {P : Program} {T S : TypeId} (hP : SliT P T S) {w : World} {ops : Array Oper} {o : Oper} {a : Act} {K : Act → World → Prop} {Q : Exit → Act → World → Prop} {E : Prop} (hgd : o.guard = none) (s x : Operand)
  (ho : o.op = .call { callee := .builtin .append, args := #[s, x], argTypes := #[S, S] })
  (base G : Nat) (v : Value) (l : List Sli) (r : Sli) (hs : a.eval s = v) (hx : a.eval x = .slice (some ⟨G, 0, none⟩) 1 1) (hv : Lr T w base v l) (hu : w.cell? ⟨G, 0, none⟩ = some r.v) (hn : l.length ≤ 1000000) (hbase : base ≤ w.heap.size)
  (h : ∀ v' w', Lr T w' base v' (l ++ [r]) → w.grownBy w' v.ownBlock → (v'.ownBlock = v.ownBlock ∨ v'.ownBlock = some w.heap.size) → K (a.put o.dst v') w') : if Region.wanted o (yielded ops a.tmps) = true then Oper.wp P o a w K Q else E := by
 have hw : Region.wanted o (yielded ops a.tmps) = true := by simp [Region.wanted, hgd]
 rw [if_pos hw]
 obtain ⟨i0, hi, hz0, hz1, hz2⟩ := info_parts hP.info
 obtain ⟨v', w', hr, h2, h3, _, h4⟩ := run_append_own_at (P := P) w base S o.type T i0 (sl0.v) 1 24 hP.under hi hz0 hz1 hz2 rfl (by decide) v l.length (cellsR l) hv ⟨G, 0, none⟩ 1 1 (cellsR [r]) rfl (by
  intro j u hj
  match j, hj with
  | 0, hj => simp [cellsR] at hj; subst hj; simpa [Addr.add] using hu
  | j + 1, hj => simp [cellsR] at hj) (oneR [r]) (by unfold maxLen; omega) (by omega) hbase
 unfold Oper.wp execOp
 simp only [ho, resolve, invoke, builtin, Sem.run_bind, Sem.run_pure, Result.andThen_ok, List.map_toArray, List.map_cons, List.map_nil, hs, hx, hr]
 refine h v' w' ?_ h3 h4
 unfold Lr
 rw [List.length_append]
 unfold cellsR at *
 rw [List.map_append]
 exact h2
theorem wp_letOne {P : Program} {o : Oper} {a : Act} {w : World} {K : Act → World → Prop} {Q : Exit → Act → World → Prop} (ty : TypeId) (x y : Operand) (ho : o.op = .store ty x y)
  (g : Nat) (hx : a.eval x = .pointer (some ⟨g, 0, none⟩)) (v : Value) (hy : a.eval y = v) (hv : v.cells = #[v]) (hi : (P.info? ty).map (·.size) = some 1) (h1 : v.oneCell' = true)
  (u : Value) (t : TypeId) (hB : Blk w g #[u] t) (hd : o.dst = none)
  (h : ∀ W, Upd w W g #[v] t → K a W) : o.wp P a w K Q := by
 have hs := run_storeVar_let (P := P) (w := w) (g := g) (off := 0) (ty := ty) (t := t) (v := v) (cells := #[v]) (cs := #[u]) hv (by simpa using hi) (by simpa using h1) hB (by simp)
 have hu := upd_cells g t [v] 0 w #[u] hB
 unfold Oper.wp execOp
 simp only [ho, hx, hy, Instr.storeAt, Instr.sureAddr, Sem.run_bind, Sem.run_pure, Result.andThen_ok, hs]
 have := h _ hu
 have e : a.put o.dst undef = a := by rw [hd]; rfl
 rw [← e] at this
 exact this
structure Box (w : World) (L : Nat) (V : Value) (sl : List Sli) (zs : List (List Int)) (W : World) : Prop where
 blk : Blk W L #[V] 79
 row : Lr 25 W (L + 1) V sl
 recs : Recs W V.ownBlock sl zs
 new : ∀ i, i < sl.length → ((sl.getD i sl0).n ≤ 100000 ∧ (sl.getD i sl0).n ≤ (sl.getD i sl0).c ∧ ((sl.getD i sl0).a = none → (sl.getD i sl0).c = 0)) ∧ ∀ x, (sl.getD i sl0).a = some x → L + 1 ≤ x.block
 bel : Below L w W
theorem Box.next {w : World} {L : Nat} {V : Value} {sl : List Sli} {zs : List (List Int)} {W W' : World} (h : Box w L V sl zs W) (hb : Below W.heap.size W W') : Box w L V sl zs W' :=
 ⟨h.blk.next hb, h.row.next hb, h.recs.below hb, h.new, h.bel.trans (hb.mono (Nat.le_of_lt h.blk.lt))⟩
theorem Box.far {w : World} {L : Nat} {V : Value} {sl : List Sli} {zs : List (List Int)} {W : World} (h : Box w L V sl zs W) : some L ≠ V.ownBlock := own_far h.row (Nat.lt_succ_self _)
theorem Box.kept {w : World} {L : Nat} {V : Value} {sl : List Sli} {zs : List (List Int)} {W W' : World} (h : Box w L V sl zs W) (hg : W.grownBy W' V.ownBlock) : Blk W' L #[V] 79 := by
 have h1 : W.heap[L]? = _ := h.blk
 show W'.heap[L]? = _
 rw [hg.block L h.blk.lt h.far]
 exact h1
theorem lr_upd {T t : TypeId} {w W : World} {L : Nat} {cs : Array Value} {v : Value} {l : List Sli} (h : Lr T w (L + 1) v l) (hU : Upd w W L cs t) : Lr T W (L + 1) v l := by
 refine ⟨h.1, ?_⟩
 rcases h.2 with hn | ⟨g, cap, cur, hv, hg, hc, rest⟩
 ·exact .inl hn
 ·exact .inr ⟨g, cap, cur, hv, hg, hU.keep hc (by omega), rest⟩
theorem snoc_at (sl : List Sli) (r : Sli) (i : Nat) (hi : i < (sl ++ [r]).length) : (i < sl.length ∧ (sl ++ [r]).getD i sl0 = sl.getD i sl0) ∨ (i = sl.length ∧ (sl ++ [r]).getD i sl0 = r) := by
 by_cases h1 : i < sl.length
 ·exact .inl ⟨h1, by simp [List.getD, List.getElem?_append_left h1]⟩
 ·have hi' : i = sl.length := by simp at hi; omega
  exact .inr ⟨hi', by rw [hi']; simp [List.getD]⟩
theorem box_step {w U W3 W4 : World} {L : Nat} {V v : Value} {sl : List Sli} {r : Sli} {zs : List (List Int)} {R : List Int} (hB : Box w L V sl zs U) {g off : Nat} (ha : r.a = some ⟨g, off, none⟩) (hg : g < U.heap.size) (hne : some g ≠ V.ownBlock) (hL : L + 1 ≤ g) (hrow : RowU U r.a r.n R) (hn : r.n ≤ 100000 ∧ r.n ≤ r.c ∧ (r.a = none → r.c = 0))
  (h3 : Lr 25 W3 (L + 1) v (sl ++ [r])) (hgr : U.grownBy W3 V.ownBlock) (ho : v.ownBlock = V.ownBlock ∨ v.ownBlock = some U.heap.size) (hU : Upd W3 W4 L #[v] 79) : Box w L v (sl ++ [r]) (zs ++ [R]) W4 := by
 have hnew : ∀ i, i < (sl ++ [r]).length → (((sl ++ [r]).getD i sl0).n ≤ 100000 ∧ ((sl ++ [r]).getD i sl0).n ≤ ((sl ++ [r]).getD i sl0).c ∧ (((sl ++ [r]).getD i sl0).a = none → ((sl ++ [r]).getD i sl0).c = 0)) ∧ ∀ x, ((sl ++ [r]).getD i sl0).a = some x → L + 1 ≤ x.block := fun i hi => by
  rcases snoc_at sl r i hi with ⟨h1, e⟩ | ⟨_, e⟩
  ·rw [e]; exact hB.new i h1
  ·rw [e]; refine ⟨hn, fun x hx => ?_⟩
   rw [ha] at hx
   cases hx
   exact hL
 have hrc : Recs W3 v.ownBlock (sl ++ [r]) (zs ++ [R]) := (hB.recs.snoc (s := r) (z := R) ⟨⟨g, off, ha, hg, hne⟩, hrow⟩).grown hgr ho
 refine ⟨hU.blk, lr_upd h3 hU, ⟨hrc.1, fun i hi => ?_⟩, hnew, ?_⟩
 ·obtain ⟨⟨b, o, e1, e2, e3⟩, e4⟩ := hrc.2 i hi
  have hLb := (hnew i hi).2 _ e1
  refine ⟨⟨b, o, e1, by rw [hU.size]; exact e2, e3⟩, e4.1, ?_⟩
  rcases e4.2 with h0 | ⟨b', o', e5, hc⟩
  ·exact .inl h0
  ·rw [e1] at e5
   cases e5
   exact .inr ⟨b, o, e1, fun j hj => (hU.cell ⟨b, o + j, none⟩ (by show b ≠ L; simp only at hLb; omega) rfl).trans (hc j hj)⟩
 ·refine hU.bel _ _ (Nat.le_refl _) ?_
  exact own_bel hB.row hgr hB.bel (Nat.le_succ _) (Nat.le_of_lt hB.blk.lt)
theorem Box.reads {w : World} {L : Nat} {V : Value} {sl : List Sli} {zs : List (List Int)} {W : World} (h : Box w L V sl zs W) : ∃ a cap, V = .slice a zs.length cap ∧ ReadsF W L a zs.length zs := by
 obtain ⟨a, cap, hv⟩ := h.row.len
 have hl := h.recs.1
 refine ⟨a, cap, by rw [← hl]; exact hv, rfl, ?_⟩
 by_cases h0 : zs.length = 0
 ·exact .inl h0
 ·obtain ⟨g, cap2, hv2, hge, lg, _, hc⟩ := h.row.row (by rw [hl]; omega)
  rw [hv] at hv2
  injection hv2 with ea _ _
  refine .inr ⟨g, 0, ea, by omega, lg, fun i hi => ?_⟩
  have hi' : i < sl.length := by rw [hl]; exact hi
  refine ⟨sl.getD i sl0, by rw [Nat.zero_add]; exact hc i hi', (h.recs.2 i hi').2, (h.new i hi').1, fun x hx => ?_⟩
  have := (h.new i hi').2 x hx
  omega
end disk
namespace disk
open Go.RowKit cell
set_option maxRecDepth 100000
theorem lr_cells {T : TypeId} {w : World} {base : Nat} {v : Value} {l : List Sli} (h : Lr T w base v l) : v.cells = #[v] := by
 obtain ⟨a, cap, rfl⟩ := h.len
 rfl
theorem lr_one {T : TypeId} {w : World} {base : Nat} {v : Value} {l : List Sli} (h : Lr T w base v l) : v.oneCell' = true := by
 obtain ⟨a, cap, rfl⟩ := h.len
 rfl
set_option maxHeartbeats 4000000 in
theorem put_record (w : World) (L : Nat) (V : Value) (sl : List Sli) (zs : List (List Int)) (R : List Int) (b off m : Nat) (W : World) (h : Box w L V sl zs W) (hr : RowU W (some ⟨b, off, none⟩) m R) (h1 : 1 ≤ m) (h2 : m ≤ 64) (hs : sl.length ≤ 1000000) :
  Calls Tryz.prog 71 #[.slice (some ⟨b, off, none⟩) m m, .pointer (some ⟨L, 0, none⟩)] W fun e w' => e = .returned (.tuple #[]) ∧ ∃ V' sl', Box w L V' sl' (zs ++ [R]) w' := by
 have HC : Hid (Calls Tryz.prog 72 #[.slice (some ⟨b, off, none⟩) m m] W.drew fun e w' => GaveU W.drew R e w') := clone_any _ m m R _ hr (by omega)
 have HBU0 : Hid (Box w L V sl zs W.drew) := h.next (Below.refl _ _).drew
 have HB0 : Hid (Box w L V sl zs W.drew) := HBU0.out
 have HRL : Hid (R.length = m) := hr.1
 have HM1 : Hid (0 < m) := h1
 have HM6 : Hid (m ≤ 100000) := Nat.le_trans h2 (by decide)
 have HS6 : Hid (sl.length ≤ 1000000) := hs
 clear hr h h1 h2 hs
 go_enter Tryz.func71, Tryz.ntmps71
 refine wp_region_held_drew (S := fun v => True) (by kernel_rfl) trivial (fun hHeld => ?_)
 generalize W.drew = U0 at *
 refine zqt 1 4 (.slice (some ⟨b, off, none⟩) m m) rfl rfl (by kernel_rfl) (fun _ _ _ h => h) (Or.inl ⟨by rfl, fun v hv => by clear hv; go_simp⟩) hHeld ?_
 simp only [Act.put, zqa, zqb, zqc]
 refine wpAnyH_ready (rs := [0, 2]) (by kernel_rfl) (by simp) (AllReadyH.cons rfl (fun K hK => ?_) (AllReadyH.cons rfl (fun K hK => ?_) AllReadyH.nil))
 ·rw [if_pos (by rfl)]
  have cU0 : U0.cell? ⟨L, 0, none⟩ = some V := HBU0.out.blk.cell 0
  refine wp_runOp (v := V) (w' := U0) 3 rfl (by clear hK; go_simp) ?_
  refine hK.out _ _ trivial (fun hHeld => ?_)
  clear hK cU0
  simp only [Act.put, zqa, zqb, zqc]
  refine wpAnyH_ready (rs := [2]) (by kernel_rfl) (by simp) (AllReadyH.cons rfl (fun K hK => ?_) AllReadyH.nil)
  rw [if_pos (by rfl)]
  refine wp_callOp 5 rfl (by clear hK; go_simp) (HC.out) ?_
  rintro e U1 ⟨v5, rfl, hws, hb⟩
  obtain ⟨a5, cap5, rfl, hrow, hnl, hcp⟩ := Ws.row hws
  rw [HRL.out] at hrow hcp ⊢
  obtain ⟨g, o5, rfl, hg5, hc5⟩ := hrow.at HM1.out
  have HCP : Hid (m ≤ cap5) := hcp
  have HG : Hid (U0.heap.size ≤ g) := (World.ownsRow.lt hws g rfl).1
  have HRU1 : Hid (RowU U1 (some ⟨g, o5, none⟩) m R ∧ g < U1.heap.size) := ⟨hrow, hg5⟩
  have HBU1 : Hid (Box w L V sl zs U1) := HBU0.out.next hb
  refine ⟨_, rfl, hK.out _ _ trivial (fun hHeld => ?_)⟩
  clear hK HC hws hb hnl hcp hc5 hg5 hrow HBU0
  simp only [Act.put, zqa, zqb, zqc]
  have HNE : Hid (some g ≠ V.ownBlock) := fun e => by have := (World.ownsRow.lt HB0.out.row g e.symm).2; have := HG.out; omega
  have HGL : Hid (L + 1 ≤ g) := by have := HB0.out.blk.lt; have := HG.out; show _ ≤ _; omega
  refine wpAnyH_ready (rs := [3]) (by kernel_rfl) (by simp) (AllReadyH.cons rfl (fun K hK => ?_) AllReadyH.nil)
  rw [if_pos (by rfl)]
  have hb : Below U1.heap.size U1 (U1.alloc (.cells #[.slice (some ⟨g, o5, none⟩) m cap5] 25)) := (Below.refl _ _).alloc (Nat.le_refl _) _
  have HBU2 : Hid (Box w L V sl zs (U1.alloc (.cells #[.slice (some ⟨g, o5, none⟩) m cap5] 25))) := HBU1.out.next hb
  have HRU2 : Hid (RowU (U1.alloc (.cells #[.slice (some ⟨g, o5, none⟩) m cap5] 25)) (some ⟨g, o5, none⟩) m R ∧ g < (U1.alloc (.cells #[.slice (some ⟨g, o5, none⟩) m cap5] 25)).heap.size) := ⟨HRU1.out.1.below hb, Nat.lt_of_lt_of_le HRU1.out.2 hb.size⟩
  have HX : Hid ((U1.alloc (.cells #[.slice (some ⟨g, o5, none⟩) m cap5] 25)).cell? ⟨U1.heap.size, 0, none⟩ = some (.slice (some ⟨g, o5, none⟩) m cap5)) := (Blk.new _ _ _).cell 0
  clear hb
  refine wp_runOp (v := .slice (some ⟨U1.heap.size, 0, none⟩) 1 1) (w' := (U1.alloc (.cells #[.slice (some ⟨g, o5, none⟩) m cap5] 25))) 6 rfl (by clear hK; go_simp) ?_
  refine hK.out _ _ trivial (fun hHeld => ?_)
  clear hK HBU1 HRU1
  simp only [Act.put, zqa, zqb, zqc]
  generalize U1.heap.size = G at *
  generalize (U1.alloc (.cells #[.slice (some ⟨g, o5, none⟩) m cap5] 25)) = U2 at *
  refine wpAnyH_ready (rs := [4]) (by kernel_rfl) (by simp) (AllReadyH.cons rfl (fun K hK => ?_) AllReadyH.nil)
  refine step_sli sliT rfl _ _ rfl (L + 1) G V sl ⟨some ⟨g, o5, none⟩, m, cap5⟩ rfl rfl HBU2.out.row HX.out HS6.out (HBU2.out.blk.lt) ?_
  intro v7 W3 h3 hg3 ho3
  refine hK.out _ _ trivial (fun hHeld => ?_)
  clear hK
  simp only [Act.put, zqa, zqb, zqc]
  refine wpAnyH_ready (rs := [5]) (by kernel_rfl) (by simp) (AllReadyH.cons rfl (fun K hK => ?_) AllReadyH.nil)
  rw [if_pos (by rfl)]
  refine wp_letOne 79 _ _ rfl L rfl v7 rfl (lr_cells h3) (by kernel_rfl) (lr_one h3) V 79 (HBU2.out.kept hg3) rfl ?_
  intro W4 hU
  have HF : Hid (Box w L v7 (sl ++ [⟨some ⟨g, o5, none⟩, m, cap5⟩]) (zs ++ [R]) W4) := box_step HBU2.out rfl HRU2.out.2 HNE.out HGL.out HRU2.out.1 ⟨HM6.out, HCP.out, fun h => by cases h⟩ h3 hg3 ho3 hU
  refine hK.out _ _ trivial (fun hHeld => ?_)
  clear hK hU h3 hg3 ho3
  refine wpAnyH_done (by kernel_rfl) ?_ _
  clear hHeld
  go_wp2_with fail
  go_end0
  exact ⟨rfl, _, _, HF.out⟩
 ·rw [if_pos (by rfl)]
  refine wp_callOp 5 rfl (by clear hK; go_simp) (HC.out) ?_
  rintro e U1 ⟨v5, rfl, hws, hb⟩
  obtain ⟨a5, cap5, rfl, hrow, hnl, hcp⟩ := Ws.row hws
  rw [HRL.out] at hrow hcp ⊢
  obtain ⟨g, o5, rfl, hg5, hc5⟩ := hrow.at HM1.out
  have HCP : Hid (m ≤ cap5) := hcp
  have HG : Hid (U0.heap.size ≤ g) := (World.ownsRow.lt hws g rfl).1
  have HRU1 : Hid (RowU U1 (some ⟨g, o5, none⟩) m R ∧ g < U1.heap.size) := ⟨hrow, hg5⟩
  have HBU1 : Hid (Box w L V sl zs U1) := HBU0.out.next hb
  refine ⟨_, rfl, hK.out _ _ trivial (fun hHeld => ?_)⟩
  clear hK HC hws hb hnl hcp hc5 hg5 hrow HBU0
  simp only [Act.put, zqa, zqb, zqc]
  have HNE : Hid (some g ≠ V.ownBlock) := fun e => by have := (World.ownsRow.lt HB0.out.row g e.symm).2; have := HG.out; omega
  have HGL : Hid (L + 1 ≤ g) := by have := HB0.out.blk.lt; have := HG.out; show _ ≤ _; omega
  refine wpAnyH_ready (rs := [0, 3]) (by kernel_rfl) (by simp) (AllReadyH.cons rfl (fun K hK => ?_) (AllReadyH.cons rfl (fun K hK => ?_) AllReadyH.nil))
  ·rw [if_pos (by rfl)]
   have cU1 : U1.cell? ⟨L, 0, none⟩ = some V := HBU1.out.blk.cell 0
   refine wp_runOp (v := V) (w' := U1) 3 rfl (by clear hK; go_simp) ?_
   refine hK.out _ _ trivial (fun hHeld => ?_)
   clear hK cU1
   simp only [Act.put, zqa, zqb, zqc]
   refine wpAnyH_ready (rs := [3]) (by kernel_rfl) (by simp) (AllReadyH.cons rfl (fun K hK => ?_) AllReadyH.nil)
   rw [if_pos (by rfl)]
   have hb : Below U1.heap.size U1 (U1.alloc (.cells #[.slice (some ⟨g, o5, none⟩) m cap5] 25)) := (Below.refl _ _).alloc (Nat.le_refl _) _
   have HBU2 : Hid (Box w L V sl zs (U1.alloc (.cells #[.slice (some ⟨g, o5, none⟩) m cap5] 25))) := HBU1.out.next hb
   have HRU2 : Hid (RowU (U1.alloc (.cells #[.slice (some ⟨g, o5, none⟩) m cap5] 25)) (some ⟨g, o5, none⟩) m R ∧ g < (U1.alloc (.cells #[.slice (some ⟨g, o5, none⟩) m cap5] 25)).heap.size) := ⟨HRU1.out.1.below hb, Nat.lt_of_lt_of_le HRU1.out.2 hb.size⟩
   have HX : Hid ((U1.alloc (.cells #[.slice (some ⟨g, o5, none⟩) m cap5] 25)).cell? ⟨U1.heap.size, 0, none⟩ = some (.slice (some ⟨g, o5, none⟩) m cap5)) := (Blk.new _ _ _).cell 0
   clear hb
   refine wp_runOp (v := .slice (some ⟨U1.heap.size, 0, none⟩) 1 1) (w' := (U1.alloc (.cells #[.slice (some ⟨g, o5, none⟩) m cap5] 25))) 6 rfl (by clear hK; go_simp) ?_
   refine hK.out _ _ trivial (fun hHeld => ?_)
   clear hK HBU1 HRU1
   simp only [Act.put, zqa, zqb, zqc]
   generalize U1.heap.size = G at *
   generalize (U1.alloc (.cells #[.slice (some ⟨g, o5, none⟩) m cap5] 25)) = U2 at *
   refine wpAnyH_ready (rs := [4]) (by kernel_rfl) (by simp) (AllReadyH.cons rfl (fun K hK => ?_) AllReadyH.nil)
   refine step_sli sliT rfl _ _ rfl (L + 1) G V sl ⟨some ⟨g, o5, none⟩, m, cap5⟩ rfl rfl HBU2.out.row HX.out HS6.out (HBU2.out.blk.lt) ?_
   intro v7 W3 h3 hg3 ho3
   refine hK.out _ _ trivial (fun hHeld => ?_)
   clear hK
   simp only [Act.put, zqa, zqb, zqc]
   refine wpAnyH_ready (rs := [5]) (by kernel_rfl) (by simp) (AllReadyH.cons rfl (fun K hK => ?_) AllReadyH.nil)
   rw [if_pos (by rfl)]
   refine wp_letOne 79 _ _ rfl L rfl v7 rfl (lr_cells h3) (by kernel_rfl) (lr_one h3) V 79 (HBU2.out.kept hg3) rfl ?_
   intro W4 hU
   have HF : Hid (Box w L v7 (sl ++ [⟨some ⟨g, o5, none⟩, m, cap5⟩]) (zs ++ [R]) W4) := box_step HBU2.out rfl HRU2.out.2 HNE.out HGL.out HRU2.out.1 ⟨HM6.out, HCP.out, fun h => by cases h⟩ h3 hg3 ho3 hU
   refine hK.out _ _ trivial (fun hHeld => ?_)
   clear hK hU h3 hg3 ho3
   refine wpAnyH_done (by kernel_rfl) ?_ _
   clear hHeld
   go_wp2_with fail
   go_end0
   exact ⟨rfl, _, _, HF.out⟩
  ·rw [if_pos (by rfl)]
   have hb : Below U1.heap.size U1 (U1.alloc (.cells #[.slice (some ⟨g, o5, none⟩) m cap5] 25)) := (Below.refl _ _).alloc (Nat.le_refl _) _
   have HBU2 : Hid (Box w L V sl zs (U1.alloc (.cells #[.slice (some ⟨g, o5, none⟩) m cap5] 25))) := HBU1.out.next hb
   have HRU2 : Hid (RowU (U1.alloc (.cells #[.slice (some ⟨g, o5, none⟩) m cap5] 25)) (some ⟨g, o5, none⟩) m R ∧ g < (U1.alloc (.cells #[.slice (some ⟨g, o5, none⟩) m cap5] 25)).heap.size) := ⟨HRU1.out.1.below hb, Nat.lt_of_lt_of_le HRU1.out.2 hb.size⟩
   have HX : Hid ((U1.alloc (.cells #[.slice (some ⟨g, o5, none⟩) m cap5] 25)).cell? ⟨U1.heap.size, 0, none⟩ = some (.slice (some ⟨g, o5, none⟩) m cap5)) := (Blk.new _ _ _).cell 0
   clear hb
   refine wp_runOp (v := .slice (some ⟨U1.heap.size, 0, none⟩) 1 1) (w' := (U1.alloc (.cells #[.slice (some ⟨g, o5, none⟩) m cap5] 25))) 6 rfl (by clear hK; go_simp) ?_
   refine hK.out _ _ trivial (fun hHeld => ?_)
   clear hK HBU1 HRU1
   simp only [Act.put, zqa, zqb, zqc]
   generalize U1.heap.size = G at *
   generalize (U1.alloc (.cells #[.slice (some ⟨g, o5, none⟩) m cap5] 25)) = U2 at *
   refine wpAnyH_ready (rs := [0]) (by kernel_rfl) (by simp) (AllReadyH.cons rfl (fun K hK => ?_) AllReadyH.nil)
   rw [if_pos (by rfl)]
   have cU2 : U2.cell? ⟨L, 0, none⟩ = some V := HBU2.out.blk.cell 0
   refine wp_runOp (v := V) (w' := U2) 3 rfl (by clear hK; go_simp) ?_
   refine hK.out _ _ trivial (fun hHeld => ?_)
   clear hK cU2
   simp only [Act.put, zqa, zqb, zqc]
   refine wpAnyH_ready (rs := [4]) (by kernel_rfl) (by simp) (AllReadyH.cons rfl (fun K hK => ?_) AllReadyH.nil)
   refine step_sli sliT rfl _ _ rfl (L + 1) G V sl ⟨some ⟨g, o5, none⟩, m, cap5⟩ rfl rfl HBU2.out.row HX.out HS6.out (HBU2.out.blk.lt) ?_
   intro v7 W3 h3 hg3 ho3
   refine hK.out _ _ trivial (fun hHeld => ?_)
   clear hK
   simp only [Act.put, zqa, zqb, zqc]
   refine wpAnyH_ready (rs := [5]) (by kernel_rfl) (by simp) (AllReadyH.cons rfl (fun K hK => ?_) AllReadyH.nil)
   rw [if_pos (by rfl)]
   refine wp_letOne 79 _ _ rfl L rfl v7 rfl (lr_cells h3) (by kernel_rfl) (lr_one h3) V 79 (HBU2.out.kept hg3) rfl ?_
   intro W4 hU
   have HF : Hid (Box w L v7 (sl ++ [⟨some ⟨g, o5, none⟩, m, cap5⟩]) (zs ++ [R]) W4) := box_step HBU2.out rfl HRU2.out.2 HNE.out HGL.out HRU2.out.1 ⟨HM6.out, HCP.out, fun h => by cases h⟩ h3 hg3 ho3 hU
   refine hK.out _ _ trivial (fun hHeld => ?_)
   clear hK hU h3 hg3 ho3
   refine wpAnyH_done (by kernel_rfl) ?_ _
   clear hHeld
   go_wp2_with fail
   go_end0
   exact ⟨rfl, _, _, HF.out⟩
end disk
namespace disk
open Go.RowKit cell
set_option maxRecDepth 100000
def EPost (J : Nat → World → Prop) (c : List Int) (e : Ending) (w' : World) : Prop :=
 ∃ x f k, e = .returned (.tuple #[.int .i64 x, .int .i64 f]) ∧ J k w' ∧ ((¬ May c ∧ x = 0 ∧ f = 1) ∨ (May c ∧ lenAt c (repD c).2 < 0 ∧ x = 0 ∧ f = 3) ∨ (May c ∧ lenAt c (repD c).2 = 0 ∧ repD c = itD c k ∧ x = ((repD c).2 : Int) ∧ f = 0))
theorem len_zero {c : List Int} {p : Nat} (h : c.getD p 0 = 0) : lenAt c p = 0 := by unfold lenAt; rw [if_pos (.inr h)]
theorem len_end {c : List Int} {p : Nat} (h : p = c.length) : lenAt c p = 0 := by unfold lenAt; rw [if_pos (.inl h)]
theorem len_bad {c : List Int} {p : Nat} (hp : p < c.length) (h0 : c.getD p 0 ≠ 0) (h : 64 < c.getD p 0 ∨ (c.length : Int) ≤ p + c.getD p 0) : lenAt c p < 0 := by
 unfold lenAt
 rw [if_neg (by omega)]
 by_cases h1 : 64 < c.getD p 0
 ·rw [if_pos h1]; decide
 ·rw [if_neg h1, if_pos (by omega)]; decide
theorem get_wd {c : List Int} (hw : ∀ x ∈ c, 0 ≤ x ∧ x < 4294967296) (p : Nat) : 0 ≤ c.getD p 0 ∧ c.getD p 0 < 4294967296 := by
 by_cases h : p < c.length
 ·have e : c.getD p 0 = c[p] := by simp [List.getD, h]
  rw [e]
  exact hw _ (List.getElem_mem h)
 ·have e : c.getD p 0 = 0 := by simp [List.getD, Nat.le_of_not_lt h]
  rw [e]; decide
theorem rowU_part {W : World} {b o n : Nat} {c : List Int} (h : RowU W (some ⟨b, o, none⟩) n c) {p m : Nat} (hm : (c.getD p 0).toNat = m) (hp : p + m < n) : RowU W (some ⟨b, o + (p + 1), none⟩) m (recAt c p) := by
 refine ⟨rec_len hm (by rw [h.1]; exact hp), .inr ⟨b, o + (p + 1), rfl, fun i hi => ?_⟩⟩
 obtain ⟨b', o', e, _, hc⟩ := h.at (by omega)
 cases e
 rw [rec_at hm hi, show o + (p + 1) + i = o + (p + 1 + i) by omega]
 exact hc (p + 1 + i) (by omega)
set_option maxHeartbeats 4000000 in
theorem each_any (F : Nat) (caps : Array Value) (J : Nat → World → Prop) (a : Option Addr) (n cap : Nat) (c : List Int) (w : World) (hJ : ∀ k W, J k W → RowU W a n c) (h0 : J 0 w) (hcap : n ≤ cap) (hw : ∀ x ∈ c, 0 ≤ x ∧ x < 4294967296) (hK : ∀ args w, (callFunc F args).run Tryz.prog w = .ok (.enter F args) w)
  (hf : ∀ (k p m b o : Nat) (W : World), J k W → (itD c k).2 = p → itD c (k + 1) = ((itD c k).1 ++ [recAt c p], p + m + 1) → RowU W (some ⟨b, o, none⟩) m (recAt c p) → 1 ≤ m → m ≤ 64 → p ≤ 2048 → Calls Tryz.prog F (#[.slice (some ⟨b, o, none⟩) m m] ++ caps) W fun e w' => e = .returned (.tuple #[]) ∧ J (k + 1) w') :
  Calls Tryz.prog 65 #[.slice a n cap, .func (.func F) #[] caps] w fun e w' => EPost J c e w' := by
 have hcl := (hJ 0 w h0).1
 have H0 : Hid (J 0 w) := h0
 have HN : Hid (c.length = n) := hcl
 by_cases hmay : 1 ≤ n ∧ n ≤ 2048
 ·obtain ⟨b, o, rfl, _, _⟩ := (hJ 0 w h0).at (by omega)
  have HJ : Hid (∀ k W, J k W → RowU W (some ⟨b, o, none⟩) n c) := hJ
  have HCL : Hid (∀ k W, J k W → ∀ j, j < n → W.cell? ⟨b, o + j, none⟩ = some (.int .u32 (c.getD j 0))) := fun k W h j hj => by
   obtain ⟨b', o', e, _, hc⟩ := (hJ k W h).at (by omega)
   cases e
   exact hc j hj
  have HW : Hid (∀ p, 0 ≤ c.getD p 0 ∧ c.getD p 0 < 4294967296) := get_wd hw
  have HF : Hid (∀ (k p m b o : Nat) (W : World), J k W → (itD c k).2 = p → itD c (k + 1) = ((itD c k).1 ++ [recAt c p], p + m + 1) → RowU W (some ⟨b, o, none⟩) m (recAt c p) → 1 ≤ m → m ≤ 64 → p ≤ 2048 → Calls Tryz.prog F (#[.slice (some ⟨b, o, none⟩) m m] ++ caps) W fun e w' => e = .returned (.tuple #[]) ∧ J (k + 1) w') := hf
  have HMY : Hid (May c) := ⟨by omega, by omega⟩
  obtain ⟨hn1, hn2⟩ := hmay
  have d1 : decide ((n : Int) < 1) = false := by simp; omega
  have d2 : decide ((2048 : Int) < (n : Int)) = false := by simp; omega
  clear hJ hf hw hcl h0
  go_enter Tryz.func65, Tryz.ntmps65
  go_wp2_with fail
  go_loopw [6] (fun v6 wr => ∃ (k p : Nat), p ≤ n ∧ v6 = .int .i64 (p : Int) ∧ (itD c k).2 = p ∧ J k wr) (fun v6 _ => n + 1 - (intOf v6).toNat)
  case atStart => exact ⟨0, 0, Nat.zero_le _, rfl, rfl, H0.out⟩
  case round =>
   obtain ⟨k, p, hp, rfl, hk, hj⟩ := hrel
   have HJK : Hid (J k wr) := hj
   have HK : Hid ((itD c k).2 = p) := hk
   clear hj hk H0
   by_cases hpn : p < n
   ·have k2 := HCL.out k wr HJK.out p hpn
    have hz := HW.out p
    have e1 : decide ((p : Int) < (n : Int)) = true := by simp; omega
    by_cases hz0 : c.getD p 0 = 0
    ·have HL0 : Hid (lenAt c p = 0) := len_zero hz0
     have HE : Hid (EPost J c (.returned (.tuple #[.int .i64 (p : Int), .int .i64 0])) wr) := by
      have hd : ¬ 0 < lenAt c (itD c k).2 := by rw [HK.out, HL0.out]; decide
      have hr := rep_of hd
      exact ⟨_, _, k, rfl, HJK.out, .inr (.inr ⟨HMY.out, by rw [hr, HK.out]; exact HL0.out, hr, by rw [hr, HK.out], rfl⟩)⟩
     rw [hz0] at k2
     clear hz hz0 HJ HCL HW HF HK HJK HL0
     go_wp2_with fail
     go_ret2
     exact HE.out
    ·by_cases hbad : 64 < c.getD p 0 ∨ (n : Int) ≤ p + c.getD p 0
     ·have HE : Hid (EPost J c (.returned (.tuple #[.int .i64 0, .int .i64 3])) wr) := by
       have hl := len_bad (c := c) (p := p) (by rw [HN.out]; exact hpn) hz0 (by rw [HN.out]; exact hbad)
       have hd : ¬ 0 < lenAt c (itD c k).2 := by rw [HK.out]; omega
       exact ⟨_, _, k, rfl, HJK.out, .inr (.inl ⟨HMY.out, by rw [rep_of hd, HK.out]; exact hl, rfl, rfl⟩)⟩
      have e0 : (c.getD p 0 != 0) = true := by simpa using hz0
      clear HJ HCL HW HF HK HJK
      generalize c.getD p 0 = z at *
      obtain ⟨hz1, hz2⟩ := hz
      by_cases h64 : 64 < z
      ·have e3 : decide ((64 : Int) < z) = true := by simpa using h64
       clear hbad
       go_wp2_with fail
       go_ret2
       exact HE.out
      ·have e3 : decide ((64 : Int) < z) = false := by simpa using h64
       have e4 : decide ((n : Int) < (p : Int) + 1 + z) = true := by simp; omega
       clear hbad
       go_wp2_with fail
       go_ret2
       exact HE.out
     ·obtain ⟨m, hm⟩ : ∃ m : Nat, c.getD p 0 = (m : Int) := ⟨(c.getD p 0).toNat, by omega⟩
      have hgm : (c.getD p 0).toNat = m := by rw [hm]; simp
      have hm1 : 1 ≤ m := by omega
      have hm2 : m ≤ 64 := by omega
      have hpm : p + m < n := by omega
      have hla : lenAt c p = (m : Int) := by rw [len_of (by omega) (by omega) (by rw [HN.out]; omega), hm]
      have HIT : Hid (itD c (k + 1) = ((itD c k).1 ++ [recAt c p], p + m + 1)) := by
       have h := it_live (c := c) (k := k) (by rw [HK.out, hla]; omega)
       rw [HK.out, hla, Int.toNat_natCast] at h
       exact h
      have HCC : Hid (Calls Tryz.prog F (#[.slice (some ⟨b, o + (p + 1), none⟩) m m] ++ caps) wr fun e w' => e = .returned (.tuple #[]) ∧ J (k + 1) w') := HF.out k p m b (o + (p + 1)) wr HJK.out HK.out HIT.out (rowU_part (HJ.out k wr HJK.out) hgm hpm) hm1 hm2 (by omega)
      rw [hm] at k2
      have e0 : ((m : Int) != 0) = true := by simp; omega
      have e3 : decide ((64 : Int) < (m : Int)) = false := by simp; omega
      have e4 : decide ((n : Int) < (p : Int) + 1 + (m : Int)) = false := by simp; omega
      have hc1 : p + 1 < cap := by omega
      clear hz hz0 hbad hm hgm hla HF HJ HW HCL
      go_wp2_with fail
      refine HCC.out.mono ?_
      rintro e w1 ⟨rfl, hj1⟩
      have HJ1 : Hid (J (k + 1) w1) := hj1
      clear hj1
      go_wp2_with fail
      go_roundw
      case rel => exact ⟨k + 1, p + m + 1, by omega, by go_num, by rw [HIT.out], HJ1.out⟩
      case measure => simp [intOf]; omega
   ·have e1 : decide ((p : Int) < (n : Int)) = false := by simp; omega
    have HE : Hid (EPost J c (.returned (.tuple #[.int .i64 (p : Int), .int .i64 0])) wr) := by
     have hl : lenAt c p = 0 := len_end (by rw [HN.out]; omega)
     have hd : ¬ 0 < lenAt c (itD c k).2 := by rw [HK.out, hl]; decide
     have hr := rep_of hd
     exact ⟨_, _, k, rfl, HJK.out, .inr (.inr ⟨HMY.out, by rw [hr, HK.out]; exact hl, hr, by rw [hr, HK.out], rfl⟩)⟩
    clear HJ HCL HW HF HK HJK
    go_wp2_with fail
    go_ret2
    exact HE.out
 ·have HE : Hid (EPost J c (.returned (.tuple #[.int .i64 0, .int .i64 1])) w) := ⟨0, 1, 0, rfl, H0.out, .inl ⟨fun h => hmay ⟨by rw [← hcl]; exact h.1, by rw [← hcl]; exact h.2⟩, rfl, rfl⟩⟩
  clear hJ hf hw h0 H0 hcl HN
  go_enter Tryz.func65, Tryz.ntmps65
  by_cases h1 : 1 ≤ n
  ·have d1 : decide ((n : Int) < 1) = false := by simp; omega
   have d2 : decide ((2048 : Int) < (n : Int)) = true := by simp; omega
   go_wp2_with fail
   go_ret2
   exact HE.out
  ·have d1 : decide ((n : Int) < 1) = true := by simp; omega
   go_wp2_with fail
   go_ret2
   exact HE.out
end disk
namespace cell
open Go.RowKit
set_option maxRecDepth 100000
def RowW (w : World) (a : Option Addr) (len : Nat) (ls : List Wr) : Prop :=
 ls.length = len ∧ (len = 0 ∨ ∃ b off, a = some ⟨b, off, none⟩ ∧ ∀ i, i < len → w.cell? ⟨b, off + i * 2, none⟩ = some (.int .i64 (ls.getD i wr0).p) ∧ w.cell? ⟨b, off + i * 2 + 1, none⟩ = some (.int .u32 (ls.getD i wr0).d))
theorem RowW.at {w : World} {a : Option Addr} {n : Nat} {zs : List Wr} (h : RowW w a n zs) (h0 : 0 < n) : ∃ b off, a = some ⟨b, off, none⟩ ∧ b < w.heap.size ∧ ∀ i, i < n → w.cell? ⟨b, off + i * 2, none⟩ = some (.int .i64 (zs.getD i wr0).p) ∧ w.cell? ⟨b, off + i * 2 + 1, none⟩ = some (.int .u32 (zs.getD i wr0).d) := by
 rcases h.2 with h1 | ⟨b, off, rfl, hc⟩
 ·omega
 ·exact ⟨b, off, rfl, World.block_lt_of_cell? w _ (hc 0 h0).1, hc⟩
end cell
namespace disk
open Go.RowKit cell
set_option maxRecDepth 100000
def RepNew (w : World) (c : List Int) (e : Ending) (w' : World) : Prop :=
 ∃ a n cap out x f, e = .returned (.tuple #[.slice a n cap, .int .i64 x, .int .i64 f]) ∧ ReadsF w' w.heap.size a n out ∧ n ≤ 100000 ∧ RepIs c out x f ∧ Below w.heap.size w w'
end disk
namespace disk
open Go.RowKit cell
set_option maxRecDepth 100000
def KReplay : Prop := ∀ (W : World) (a : Option Addr) (n cap : Nat) (c : List Int), RowU W a n c → (a = none → cap = 0) → n ≤ cap → n * 4 ≤ 140737488351232 → (∀ x ∈ c, 0 ≤ x ∧ x < 4294967296) → Calls Tryz.prog 49 #[.slice a n cap] W fun e w' => RepNew W c e w'
end disk
namespace disk
open Go.RowKit cell
set_option maxRecDepth 100000
def JR (w : World) (c : List Int) (k : Nat) (W : World) : Prop := ∃ V sl, Box w w.heap.size V sl (itD c k).1 W
set_option maxHeartbeats 4000000 in
theorem kreplay : KReplay := by
 intro w a n cap c h hnil hcap hby hw
 have H0 : JR w c 0 (w.alloc (.cells #[.slice none 0 0] 79)) := ⟨.slice none 0 0, [], Blk.new _ _ _, Lr.zero _ _ _, Recs.nil _ _, (fun i hi => by cases hi), (Below.refl _ _).alloc (Nat.le_refl _) _⟩
 have HE : Hid (Calls Tryz.prog 65 #[.slice a n cap, .func (.func 71) #[] #[.pointer (some ⟨w.heap.size, 0, none⟩)]] (w.alloc (.cells #[.slice none 0 0] 79)) fun e w' => EPost (JR w c) c e w') := by
  refine each_any 71 #[.pointer (some ⟨w.heap.size, 0, none⟩)] (JR w c) a n cap c _ (fun k W hj => ?_) H0 hcap hw (fun _ _ => by kernel_rfl) ?_
  ·obtain ⟨V, sl, hb⟩ := hj
   exact h.below hb.bel
  ·intro k p m b o W hj hp hit hr h1 h2 h3
   obtain ⟨V, sl, hb⟩ := hj
   have hs : sl.length ≤ 1000000 := by have := hb.recs.1; have := it_count c k; omega
   refine (put_record w w.heap.size V sl _ (recAt c p) b o m W hb hr h1 h2 hs).mono ?_
   rintro e w' ⟨rfl, V', sl', hb'⟩
   refine ⟨rfl, V', sl', ?_⟩
   rw [hit]
   exact hb'
 clear H0 h hnil hcap hby hw
 go_enter Tryz.func49, Tryz.ntmps49
 go_wp2_with fail
 refine HE.out.mono ?_
 rintro e w1 ⟨x, f, k, rfl, ⟨V, sl, hb⟩, hi⟩
 have HB : Hid (Box w w.heap.size V sl (itD c k).1 w1) := hb
 have HI : Hid ((¬ May c ∧ x = 0 ∧ f = 1) ∨ (May c ∧ lenAt c (repD c).2 < 0 ∧ x = 0 ∧ f = 3) ∨ (May c ∧ lenAt c (repD c).2 = 0 ∧ repD c = itD c k ∧ x = ((repD c).2 : Int) ∧ f = 0)) := hi
 clear hb hi HE
 by_cases hf : f = 0
 ·have HR : Hid (RepIs c (itD c k).1 x 0) := by
   rcases HI.out with ⟨_, _, e⟩ | ⟨_, _, _, e⟩ | ⟨q1, q2, q3, q4, _⟩
   ·rw [hf] at e; exact absurd e (by decide)
   ·rw [hf] at e; exact absurd e (by decide)
   ·exact .inr (.inr ⟨q1, q2, by rw [q3], q4, rfl⟩)
  have q0 : w1.cell? ⟨w.heap.size, 0, none⟩ = some V := HB.out.blk.cell 0
  obtain ⟨va, vc, hV, hrd⟩ := HB.out.reads
  have HRD : Hid (ReadsF w1 w.heap.size va (itD c k).1.length (itD c k).1) := hrd
  have HBL : Hid (Below w.heap.size w w1) := HB.out.bel
  subst hf
  subst hV
  clear hrd HB HI
  generalize (itD c k).1 = zs at *
  have HFW : Hid (zs.length ≤ 100000) := Nat.le_trans (rep_few HR.out).1 (by decide)
  generalize hzl : zs.length = zl at *
  clear hzl
  go_wp2_with fail
  go_ret3
  exact ⟨va, _, vc, zs, x, 0, rfl, HRD.out, HFW.out, HR.out, HBL.out⟩
 ·have HR : Hid (RepIs c [] 0 f) := by
   rcases HI.out with ⟨q1, _, e⟩ | ⟨q1, q2, _, e⟩ | ⟨_, _, _, _, e⟩
   ·exact .inl ⟨q1, rfl, rfl, e⟩
   ·exact .inr (.inl ⟨q1, q2, rfl, rfl, e⟩)
   ·exact absurd e hf
  have HBL : Hid (Below w.heap.size w w1) := HB.out.bel
  have hne : (f != 0) = true := by simpa using hf
  clear HB HI hf
  go_wp2_with fail
  go_ret3
  exact ⟨none, 0, 0, [], 0, f, rfl, ⟨rfl, .inl rfl⟩, Nat.zero_le _, HR.out, HBL.out⟩
end disk
end Go.Proofs.YtomibnggmhjdfaaGreat
