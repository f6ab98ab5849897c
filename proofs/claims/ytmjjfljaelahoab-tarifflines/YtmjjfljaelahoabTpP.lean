/- What units cost, in the program. -/
import Derived.Test.YtmjjfljaelahoabTpL
import Derived.Test.YtmjjfljaelahoabTpU
import Derived.Test.YtmjjfljaelahoabKtP
namespace Go.Proofs.Ytmjjfljaelahoab.tar
open Go.RowKit Go.Shelf
set_option maxRecDepth 100000
set_option linter.unusedVariables false
set_option linter.unusedSimpArgs false
attribute [local go_sem] Oper.semAt_some

theorem sumC_bd (l : List Tr) (h : ∀ t ∈ l, LineOk t) : 0 ≤ sumC l ∧ sumC l ≤ (l.length : Int) * 1000000000000 := by
  induction l with
  | nil => exact ⟨Int.le_refl _, Int.le_refl _⟩
  | cons t l ih =>
    have h1 := ih fun x hx => h x (List.mem_cons_of_mem _ hx)
    obtain ⟨a1, a2, a3, a4, a5⟩ := h t List.mem_cons_self
    have h2 := prod_bd (show 0 ≤ t.a by omega) a2 a3 a4
    rw [← a5] at h2
    have e : ((t :: l).length : Int) = (l.length : Int) + 1 := by simp
    rw [e, Int.add_mul]
    exact ⟨by show 0 ≤ t.c + sumC l; omega, by show t.c + sumC l ≤ _; omega⟩

set_option maxHeartbeats 4000000 in
theorem pprice_in (F : Fence) (m : Nat) (hm : 6 ≤ m) (hF : F.fn 8) (hFl : F.fn 12) (hF1 : F.fn 15) (hFu : F.fn 13) (hro : F.round = none) (w : World) (a : Option Addr) (len cap : Nat) (ls : List Du) (x n : Int) (hc : Came w a len cap ls)
    (HMY : Hid (CallsIn F (m - 1) Try.prog 13 #[.slice a len cap, .int .i64 x, .int .i64 n] w fun e w' => ErrPost w (MayIs ls x n) e w')) :
    CallsIn F m Try.prog 8 #[.slice a len cap, .int .i64 x, .int .i64 n] w fun e w' => TwoPost w (PriceIs ls x n) e w' := by
  have h1 : 1 ≤ m := by omega
  have HRW := hc.row
  have HLEN : Hid (ls.length = len) := hc.row.1
  clear hc
  refine callsIn_of_wp_marks Try.func8 rfl hF ?_ hro
  simp only [Try.ntmps8, List.size_toArray, List.length_cons, List.length_nil, Nat.reduceAdd, Nat.reduceSub, Array.replicate_succ, Array.replicate_zero, List.push_toArray, List.append_toArray, List.nil_append, List.cons_append]
  gi_wp2_with fail
  refine HMY.out.mono ?_
  rintro e w1 ⟨f, rfl, hf, hb⟩
  have HB : Hid (Below w.heap.size w w1) := hb
  have HF : Hid (MayIs ls x n f) := hf
  clear HMY
  by_cases h0 : f = 0
  · subst h0
    obtain ⟨hR, ⟨⟨hx0, hx1⟩, ⟨hn0, hn1⟩, hxn⟩⟩ := hf.ok.1 rfl
    have hpos : 0 < len := by have := hR.1.1; have := HLEN.out; omega
    obtain ⟨b, off, rfl, hbl, hcl⟩ := HRW.at hpos
    have HC : Hid (∀ i, i < len → w.cell? ⟨b, off + i * 2, none⟩ = some (.int .i64 (ls.getD i du0).a) ∧ w.cell? ⟨b, off + i * 2 + 1, none⟩ = some (.int .i64 (ls.getD i du0).b)) := hcl
    have HR : Hid (Right ls) := hR
    have hl8 : len ≤ 8 := by have := hR.1.2; have := HLEN.out; omega
    clear hf hb hcl HRW hR
    gi_wp2_with (gi_at_call 12; refine (lines_in F (m - 1) hFl hro _ _ _ _ _ _).mono ?_; rintro e w' ⟨rfl, rfl⟩)
    have HSZ : Hid (w.heap.size ≤ w1.heap.size) := HB.out.size
    have bP := Boxed.new w1 3 (.int .i64 0)
    have hL := lnd_of (w := w) (w1 := w1.alloc (.cells #[.int .i64 0] 3)) w.heap.size (w1.heap.size + 1) b off len cap HR.out HLEN.out ⟨hx0, hx1⟩ ⟨hn0, hxn⟩ (by simp) hbl (by simp; have := HSZ.out; omega) (HB.out.alloc HSZ.out _) HC.out
    have bP2 := boxes_boxed bP (.slice (some ⟨b, off, none⟩) len cap) x n
    have hB2 : Below w1.heap.size w1 (boxes (w1.alloc (.cells #[.int .i64 0] 3)) (.slice (some ⟨b, off, none⟩) len cap) x n) := boxes_bel ((Below.refl _ w1).alloc (Nat.le_refl _) _) (by simp) _ _ _
    have hsz := boxes_size (w1.alloc (.cells #[.int .i64 0] 3)) (.slice (some ⟨b, off, none⟩) len cap) x n
    rw [World.size_alloc] at hsz
    generalize boxes (w1.alloc (.cells #[.int .i64 0] 3)) (.slice (some ⟨b, off, none⟩) len cap) x n = W0 at *
    generalize hP0 : w1.heap.size = P0 at *
    have HNW : Hid (w.heap.size ≤ P0) := HSZ.out
    clear bP
    refine wpIn_rangeFunc_ownH hro h1 (gf := 15) (lb := #[.pointer (some ⟨P0 + 1 + 1, 0, none⟩), .pointer (some ⟨P0 + 1, 0, none⟩), .pointer (some ⟨P0 + 1 + 1 + 1, 0, none⟩)]) rfl hF1 (enters_of Try.func15 (by kernel_rfl) rfl)
      (lines_stops F (m - 1) hF1 hro (by omega) w.heap.size (P0 + 1) b off len cap ls x n W0 hL) Kq.trans (kq_b hL.hn (by omega)) (Below.refl _ _) (fun _ => rfl)
      (fun pre W => Boxed W P0 3 (.int .i64 (sumC (lns pre))) ∧ Below P0 w1 W ∧ W0.heap.size ≤ W.heap.size)
      (fun _ _ _ => False)
      (OwnFrom.and (Own.from (boxed_own _ _ _) _) (OwnFrom.and (ownFrom_below (by omega) (by omega)) (fun _ _ _ _ hs hg _ => Nat.le_trans hs hg.size)))
      (fun _ _ _ _ _ hs _ _ => hs)
      ⟨bP2, hB2, Nat.le_refl _⟩
      (fun t a' W => ∃ Bx, P0 + 4 ≤ Bx ∧ Blk W Bx #[.int .i64 t.1.a, .int .i64 t.1.b, .int .i64 t.1.c] 36 ∧ a' = { tmps := #[.slice (some ⟨b, off, none⟩) len cap, .int .i64 x, .int .i64 n, undef, undef, undef, .int .i64 0, .int .i64 0, .int .i64 0, .pointer (some ⟨P0, 0, none⟩), .pointer (some ⟨Bx, 0, none⟩), .slice (some ⟨b, off, none⟩) len cap, .int .i64 x, .int .i64 n, .int .i64 0, .int .i64 0, .bool false, undef, .slice (some ⟨b, off, none⟩) len cap, .int .i64 x, .int .i64 n, .func (.func 15) #[] #[.pointer (some ⟨P0 + 1 + 1, 0, none⟩), .pointer (some ⟨P0 + 1, 0, none⟩), .pointer (some ⟨P0 + 1 + 1 + 1, 0, none⟩)], .agg #[.int .i64 t.1.a, .int .i64 t.1.b, .int .i64 t.1.c], undef, undef, undef, undef, undef], defers := [] })
      (fun t a' _ X Y row hs hg hr => by obtain ⟨Bx, h1, h2, h3⟩ := hs; exact ⟨Bx, h1, blk_own Bx 36 (fun (_ : Unit) => #[.int .i64 t.1.a, .int .i64 t.1.b, .int .i64 t.1.c]) () X Y row h2 hg (fun r e => (hr r e).2), h3⟩)
      ?assign ?body ?done ?stop
    case assign =>
      rintro l pre t W K ⟨bS, hBS, hSW⟩ hK
      simp only [encL]
      gi_wp2
      exact hK _ _ ((KeepsOthers.alloc _ _).from _) ((Kq.refl _ _ _ W).alloc _ (by have := HNW.out; omega) (by omega)) ⟨bS.alloc _, hBS.alloc (by omega) _, by simp; omega⟩ ⟨W.heap.size, by omega, Blk.new W _ _, rfl⟩
    case body =>
      rintro l pre t a' W hl ⟨r, hr⟩ ⟨bS, hBS, hSW⟩ ⟨Bx, hBx, bX, rfl⟩ hlt
      have h2 := sumC_bd (lns pre) (lns_ok pre)
      have h3 := lns_len pre
      have h4 := prod_bd (show 0 ≤ t.1.a by have := t.2.1; omega) t.2.2.1 t.2.2.2.1 t.2.2.2.2.1
      have h5 := t.2.2.2.2.2
      have HN : Hid (sumC (lns (pre ++ [t])) = sumC (lns pre) + t.1.c) := by show _ = _; rw [lns_app, sumC_app]; show sumC (lns pre) + (t.1.c + 0) = _; omega
      have cS := bS.cell
      have fS := bS.frozen
      have cX : W.cell? ⟨Bx, 2, none⟩ = some (.int .i64 t.1.c) := bX.cell 2
      have hc0 : 0 ≤ t.1.c := by omega
      have hc1 : t.1.c ≤ 1000000000000 := by omega
      have hs0 : 0 ≤ sumC (lns pre) := h2.1
      have hs1 : sumC (lns pre) ≤ 8000000000000 := by omega
      clear h2 h3 h4 h5
      generalize t.1.a = ta at *
      generalize t.1.b = tb at *
      generalize t.1.c = tc at *
      generalize sumC (lns pre) = s at *
      gi_wp2
      exact ⟨(KeepsOthers.setCell _ _ _).from _, (Kq.refl _ _ _ W).set P0 0 _ HNW.out (.inl (by omega)), by rw [HN.out]; exact bS.set _, hBS.setCell (p := ⟨P0, 0, none⟩) (Nat.le_refl _) _, by simp [World.setCell]; omega⟩
    case done =>
      rintro D ys W hD hys ⟨bS, hBS, hSW⟩ hK
      have cS := bS.cell
      have HBZ : Hid (Below w.heap.size w (W.putObj D (.deferred none))) := (HB.out.trans (hBS.mono HNW.out)).trans (belowK_b (w := w) (Nat.le_refl _) W D _ _ (by have := HNW.out; omega) hK rfl rfl)
      have HV : Hid (sumC (lns ys) = cost ls x (x + n)) := by
        show _ = _
        rw [hys, (bill_sums ls x (x + n) len).2]; unfold cost; rw [HLEN.out]
      clear hys hBS bS
      generalize sumC (lns ys) = s at *
      gi_wp2
      refine ⟨by simp, .inl ⟨_, _, rfl, run_takeDeferred hK, ?_⟩⟩
      exact ⟨_, results_tmp2 rfl _ _ _, s, 0, rfl, ⟨HF.out, .inl ⟨rfl, HV.out⟩⟩, HBZ.out⟩
    case stop =>
      rintro D c pre W _ _ h _
      exact h.elim
  · have hne : (f != 0) = true := by simpa using h0
    have HN : Hid (f ≠ 0) := h0
    clear hf h0 hb HRW
    gi_wp2_with fail
    exact ⟨_, results_tmp2 rfl _ _ _, 0, f, rfl, ⟨HF.out, .inr ⟨HN.out, rfl⟩⟩, HB.out⟩

theorem kprice : KtPrice := fun w a len cap ls x n hc _ _ => (callsIn_wide (n := 6)).1 (pprice_in Fence.wide 6 (by omega) trivial trivial trivial trivial rfl w a len cap ls x n hc (callsIn_wide.2 (pmay a len cap ls x n w hc)))

end Go.Proofs.Ytmjjfljaelahoab.tar
