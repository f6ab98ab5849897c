/- The lines of a bill, in the program. -/
import Derived.Test.YtmjjfljaelahoabTpL
import Derived.Test.YtmjjfljaelahoabTpU
import Derived.Test.YtmjjfljaelahoabTfL
import Derived.Test.YtmjjfljaelahoabKtB
namespace Go.Proofs.Ytmjjfljaelahoab.tar
open Go.RowKit Go.Shelf
set_option maxRecDepth 100000
set_option linter.unusedVariables false
set_option linter.unusedSimpArgs false
attribute [local go_sem] Oper.semAt_some

/-- One line is put behind the others, inside a fence. -/
theorem wpIn_line {F : Fence} {n : Nat} {P : Program} {T S : TypeId} (hP : LineT P T S) {w : World} {ops : Array Oper} {rest : List Oper} {o : Oper} {a : Act} {Q : Exit → Act → World → Prop} (hgd : o.guard = none) (s x : Operand)
    (ho : o.op = .call { callee := .builtin .append, args := #[s, x], argTypes := #[S, S] })
    (base G : Nat) (v : Value) (l : List Tr) (r : Tr) (hs : a.eval s = v) (hx : a.eval x = .slice (some ⟨G, 0, none⟩) 1 1) (hv : Lt T w base v l) (hu : w.cell? ⟨G, 0, none⟩ = some (.int .i64 r.a) ∧ w.cell? ⟨G, 1, none⟩ = some (.int .i64 r.b) ∧ w.cell? ⟨G, 2, none⟩ = some (.int .i64 r.c)) (hn : l.length ≤ 1000000) (hbase : base ≤ w.heap.size)
    (h : ∀ v' w', Lt T w' base v' (l ++ [r]) → w.grownBy w' v.ownBlock → wpListIn F n P ops Q rest (a.put o.dst v') w') : wpListIn F n P ops Q (o :: rest) a w := by
  obtain ⟨i0, hi, hz0, hz1, hz2⟩ := info_parts hP.info
  refine wpListIn_append_own w hgd s x S ho base T i0 (.agg #[.int .i64 0, .int .i64 0, .int .i64 0]) 3 24 hP.under hi hz0 hz1 hz2 rfl (by decide) v l.length (cellsL l) hs hv ⟨G, 0, none⟩ 1 1 (cellsL [r]) hx rfl ?_ (oneL [r]) (by unfold maxLen; omega) (by omega) hbase ?_
  · intro j u hj
    match j, hj with
    | 0, hj => simp [cellsL] at hj; subst hj; simpa [Addr.add] using hu.1
    | 1, hj => simp [cellsL] at hj; subst hj; simpa [Addr.add] using hu.2.1
    | 2, hj => simp [cellsL] at hj; subst hj; simpa [Addr.add] using hu.2.2
    | j + 3, hj => simp [cellsL] at hj
  intro v' w' h1 h2 _
  refine h v' w' ?_ h2
  unfold Lt
  rw [List.length_append, cellsL_app]
  exact h1
theorem Lt.one {T : TypeId} {w : World} {base : Nat} {v : Value} {l : List Tr} {r : Tr} (h : Lt T w base v (l ++ [r])) : ∃ g cap, v = .slice (some ⟨g, 0, none⟩) (l.length + 1) cap := by
  unfold Lt at h
  rw [List.length_append] at h
  exact ownsRow_succ h
/-- What lies where, behind an append to a slice that a variable holds. -/
theorem put_behind {W w1 : World} {n lo hi base B : Nat} {t T : TypeId} {v v' : Value} {l l' : List Tr} {o : Obj} (hv : Boxed W B t v) (hr : Lt T W base v l) (hr' : Lt T w1 base v' l') (hg : (W.alloc o).grownBy w1 v.ownBlock) (hB : B < base) (hn : n ≤ B) (hl : B < lo) (hh : hi ≤ base) (hb : base ≤ W.heap.size) :
    Boxed w1 B t v ∧ Boxed (w1.setCell ⟨B, 0, none⟩ v') B t v' ∧ Lt T (w1.setCell ⟨B, 0, none⟩ v') base v' l' ∧ KeepsOthers W (w1.setCell ⟨B, 0, none⟩ v') ∧ Kq n lo hi W (w1.setCell ⟨B, 0, none⟩ v') ∧ W.heap.size ≤ (w1.setCell ⟨B, 0, none⟩ v').heap.size := by
  have hv1 : Boxed w1 B t v := (hv.alloc o).kept hg (own_far hr hB)
  have hk : Kq n lo hi W w1 := ⟨own_bel (Lt.alloc hr o) hg ((Below.refl n W).alloc (by omega) o) (by omega) (by simp; omega), fun j a b => (hg.block j (by simp; omega) (own_far hr (by omega))).trans (Below.heap_alloc W o j (by omega))⟩
  refine ⟨hv1, hv1.set v', World.ownsRow.kept hr' (grownBy_setCell' w1 B v') (.inr (fun e => own_far hr' hB e.symm)), ?_, hk.set B 0 v' hn (.inl hl), ?_⟩
  · refine ((KeepsOthers.alloc W o).trans (KeepsOthers.of_grownBy hg fun j ob ej hj => ?_)).trans (KeepsOthers.setCell _ _ _)
    rcases (Lt.alloc hr o).2 with ⟨rfl, _⟩ | ⟨g, cap, cur, rfl, _, hgb, _⟩
    · simp [Value.ownBlock] at ej
    · obtain rfl : g = j := by simpa [Value.ownBlock] using ej
      rw [hgb] at hj; cases hj; rfl
  · have := hg.size
    simp [World.setCell] at this ⊢
    omega

set_option maxHeartbeats 4000000 in
theorem pbill_in (F : Fence) (m : Nat) (hm : 6 ≤ m) (hF : F.fn 9) (hFl : F.fn 12) (hF1 : F.fn 15) (hFu : F.fn 13) (hro : F.round = none) (w : World) (a : Option Addr) (len cap : Nat) (ls : List Du) (x n : Int) (hc : Came w a len cap ls)
    (HMY : Hid (CallsIn F (m - 1) Try.prog 13 #[.slice a len cap, .int .i64 x, .int .i64 n] w fun e w' => ErrPost w (MayIs ls x n) e w')) :
    CallsIn F m Try.prog 9 #[.slice a len cap, .int .i64 x, .int .i64 n] w fun e w' => BillPost 36 w ls x n e w' := by
  have h1 : 1 ≤ m := by omega
  have HRW := hc.row
  have HLEN : Hid (ls.length = len) := hc.row.1
  clear hc
  refine callsIn_of_wp_marks Try.func9 rfl hF ?_ hro
  simp only [Try.ntmps9, List.size_toArray, List.length_cons, List.length_nil, Nat.reduceAdd, Nat.reduceSub, Array.replicate_succ, Array.replicate_zero, List.push_toArray, List.append_toArray, List.nil_append, List.cons_append]
  gi_wp2_with fail
  refine HMY.out.mono ?_
  rintro e w1 ⟨f, rfl, hf, hb⟩
  have HB : Hid (Below w.heap.size w w1) := hb
  have HF : Hid (MayIs ls x n f) := hf
  clear HMY
  by_cases h0 : f = 0
  · subst h0
    obtain ⟨hR, ⟨⟨hx0, hx1⟩, ⟨hn0, hn1⟩, hxn⟩⟩ := hf.ok.1 rfl
    have hpos : 0 < len := by have := hR.1.1; have := HLEN.out; omega
    obtain ⟨b, off, rfl, hbl, hcl⟩ := HRW.at hpos
    have HC : Hid (∀ i, i < len → w.cell? ⟨b, off + i * 2, none⟩ = some (.int .i64 (ls.getD i du0).a) ∧ w.cell? ⟨b, off + i * 2 + 1, none⟩ = some (.int .i64 (ls.getD i du0).b)) := hcl
    have HR : Hid (Right ls) := hR
    have hl8 : len ≤ 8 := by have := hR.1.2; have := HLEN.out; omega
    clear hf hb hcl HRW hR
    gi_wp2_with (gi_at_call 12; refine (lines_in F (m - 1) hFl hro _ _ _ _ _ _).mono ?_; rintro e w' ⟨rfl, rfl⟩)
    have HSZ : Hid (w.heap.size ≤ w1.heap.size) := HB.out.size
    have bP := Boxed.new w1 32 (.slice none 0 0)
    have hL := lnd_of (w := w) (w1 := w1.alloc (.cells #[.slice none 0 0] 32)) w.heap.size (w1.heap.size + 1) b off len cap HR.out HLEN.out ⟨hx0, hx1⟩ ⟨hn0, hxn⟩ (by simp) hbl (by simp; have := HSZ.out; omega) (HB.out.alloc HSZ.out _) HC.out
    have bP2 := boxes_boxed bP (.slice (some ⟨b, off, none⟩) len cap) x n
    have hB2 : Below w1.heap.size w1 (boxes (w1.alloc (.cells #[.slice none 0 0] 32)) (.slice (some ⟨b, off, none⟩) len cap) x n) := boxes_bel ((Below.refl _ w1).alloc (Nat.le_refl _) _) (by simp) _ _ _
    have hsz := boxes_size (w1.alloc (.cells #[.slice none 0 0] 32)) (.slice (some ⟨b, off, none⟩) len cap) x n
    rw [World.size_alloc] at hsz
    generalize boxes (w1.alloc (.cells #[.slice none 0 0] 32)) (.slice (some ⟨b, off, none⟩) len cap) x n = W0 at *
    generalize hP0 : w1.heap.size = P0 at *
    have HNW : Hid (w.heap.size ≤ P0) := HSZ.out
    clear bP
    refine wpIn_rangeFunc_ownH hro h1 (gf := 15) (lb := #[.pointer (some ⟨P0 + 1 + 1, 0, none⟩), .pointer (some ⟨P0 + 1, 0, none⟩), .pointer (some ⟨P0 + 1 + 1 + 1, 0, none⟩)]) rfl hF1 (enters_of Try.func15 (by kernel_rfl) rfl)
      (lines_stops F (m - 1) hF1 hro (by omega) w.heap.size (P0 + 1) b off len cap ls x n W0 hL) Kq.trans (kq_b hL.hn (by omega)) (Below.refl _ _) (fun _ => rfl)
      (fun pre W => (∃ v, Boxed W P0 32 v ∧ W.ownsRow W0.heap.size 36 3 v (lns pre).length (cellsL (lns pre)) ∧ True) ∧ Below P0 w1 W ∧ W0.heap.size ≤ W.heap.size)
      (fun _ _ _ => False)
      (OwnFrom.and (Own.from (holdsRow_own W0.heap.size P0 32 36 3 (fun pre => (lns pre).length) (fun pre => cellsL (lns pre)) (fun _ _ => True)) _) (OwnFrom.and (ownFrom_below (by omega) (by omega)) (fun _ _ _ _ hs hg _ => Nat.le_trans hs hg.size)))
      (fun _ _ _ _ _ hs _ _ => hs)
      ⟨⟨_, bP2, World.ownsRow_nil _ _ _ _, trivial⟩, hB2, Nat.le_refl _⟩
      (fun t a' W => ∃ Bx, P0 + 4 ≤ Bx ∧ Blk W Bx #[.int .i64 t.1.a, .int .i64 t.1.b, .int .i64 t.1.c] 36 ∧ a' = { tmps := #[.slice (some ⟨b, off, none⟩) len cap, .int .i64 x, .int .i64 n, undef, undef, undef, .slice none 0 0, .int .i64 0, .int .i64 0, .pointer (some ⟨P0, 0, none⟩), .pointer (some ⟨Bx, 0, none⟩), .slice (some ⟨b, off, none⟩) len cap, .int .i64 x, .int .i64 n, .int .i64 0, .int .i64 0, .bool false, undef, .slice (some ⟨b, off, none⟩) len cap, .int .i64 x, .int .i64 n, .func (.func 15) #[] #[.pointer (some ⟨P0 + 1 + 1, 0, none⟩), .pointer (some ⟨P0 + 1, 0, none⟩), .pointer (some ⟨P0 + 1 + 1 + 1, 0, none⟩)], .agg #[.int .i64 t.1.a, .int .i64 t.1.b, .int .i64 t.1.c], undef, undef, undef, undef, undef], defers := [] })
      (fun t a' _ X Y row hs hg hr => by obtain ⟨Bx, h1, h2, h3⟩ := hs; exact ⟨Bx, h1, blk_own Bx 36 (fun (_ : Unit) => #[.int .i64 t.1.a, .int .i64 t.1.b, .int .i64 t.1.c]) () X Y row h2 hg (fun r e => (hr r e).2), h3⟩)
      ?assign ?body ?done ?stop
    case assign =>
      rintro l pre t W K ⟨⟨v, bS, hrow, _⟩, hBS, hSW⟩ hK
      simp only [encL]
      gi_wp2
      exact hK _ _ ((KeepsOthers.alloc _ _).from _) ((Kq.refl _ _ _ W).alloc _ (by have := HNW.out; omega) (by omega)) ⟨⟨v, bS.alloc _, hrow.alloc _, trivial⟩, hBS.alloc (by omega) _, by simp; omega⟩ ⟨W.heap.size, by omega, Blk.new W _ _, rfl⟩
    case body =>
      rintro l pre t a' W hl ⟨r, hr⟩ ⟨⟨v, bS, hrow, _⟩, hBS, hSW⟩ ⟨Bx, hBx, bX, rfl⟩ hlt
      have h3 := lns_len pre
      have HN : Hid (lns (pre ++ [t]) = lns pre ++ [⟨t.1.a, t.1.b, t.1.c⟩]) := by show _ = _; rw [lns_app]; rfl
      have HRO : Hid (Lt 36 W W0.heap.size v (lns pre)) := hrow
      have cS := bS.cell
      have cX0 : W.cell? ⟨Bx, 0, none⟩ = some (.int .i64 t.1.a) := bX.cell 0
      have cX1 : W.cell? ⟨Bx, 1, none⟩ = some (.int .i64 t.1.b) := bX.cell 1
      have cX2 : W.cell? ⟨Bx, 2, none⟩ = some (.int .i64 t.1.c) := bX.cell 2
      have hpl : (lns pre).length ≤ 1000000 := by omega
      clear hrow h3
      generalize t.1.a = ta at *
      generalize t.1.b = tb at *
      generalize t.1.c = tc at *
      generalize lns pre = L at *
      gi_wp2_with (gi_at_builtin; refine wpIn_line lineT rfl _ _ rfl W0.heap.size W.heap.size v L ⟨ta, tb, tc⟩ rfl rfl (HRO.out.alloc _) ⟨(Blk.new W _ _).cell 0, (Blk.new W _ _).cell 1, (Blk.new W _ _).cell 2⟩ hpl (by simp; omega) ?_; intro v' w3 hown' hgrow; obtain ⟨g', cap', rfl⟩ := hown'.one; obtain ⟨hv1, hv2, hr2, hk2, hq2, hs2⟩ := put_behind (n := P0) (lo := P0 + 1) (hi := P0 + 1 + 3) bS HRO.out hown' hgrow (by omega) (Nat.le_refl _) (by omega) (by omega) hSW; have hc1 := hv1.cell; have hf1 := hv1.frozen)
      exact ⟨hk2.from _, ⟨hq2.1.mono HNW.out, hq2.2⟩, ⟨⟨_, hv2, by rw [HN.out]; exact hr2, trivial⟩, hBS.trans hq2.1, Nat.le_trans hSW hs2⟩⟩
    case done =>
      rintro D ys W hD hys ⟨⟨v, bS, hrow, _⟩, hBS, hSW⟩ hK
      have cS := bS.cell
      have HBZ : Hid (Below w.heap.size w (W.putObj D (.deferred none))) := (HB.out.trans (hBS.mono HNW.out)).trans (belowK_b (w := w) (Nat.le_refl _) W D _ _ (by have := HNW.out; omega) hK rfl rfl)
      have HV : Hid (lns ys = billK ls x (x + n) ls.length) := by show _ = _; rw [HLEN.out]; exact hys
      have HRO : Hid (Lt 36 (W.putObj D (.deferred none)) w.heap.size v (lns ys)) := Lt.low (ownsRow_putObj hrow _ hK rfl) (by have := HNW.out; omega)
      clear hys hBS bS hrow
      generalize lns ys = L at *
      gi_wp2
      refine ⟨by simp, .inl ⟨_, _, rfl, run_takeDeferred hK, ?_⟩⟩
      exact ⟨_, results_tmp2 rfl _ _ _, v, L, 0, rfl, ⟨HF.out, .inl ⟨rfl, HV.out⟩⟩, HRO.out, HBZ.out⟩
    case stop =>
      rintro D c pre W _ _ h _
      exact h.elim
  · have hne : (f != 0) = true := by simpa using h0
    have HN : Hid (f ≠ 0) := h0
    clear hf h0 hb HRW
    gi_wp2_with fail
    exact ⟨_, results_tmp2 rfl _ _ _, .slice none 0 0, [], f, rfl, ⟨HF.out, .inr ⟨HN.out, rfl⟩⟩, Lt.zero _ _ _, HB.out⟩

theorem kbill : KtBill := fun w a len cap ls x n hc _ _ => (callsIn_wide (n := 6)).1 (pbill_in Fence.wide 6 (by omega) trivial trivial trivial trivial rfl w a len cap ls x n hc (callsIn_wide.2 (pmay a len cap ls x n w hc)))

end Go.Proofs.Ytmjjfljaelahoab.tar
