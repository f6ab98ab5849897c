/- Oracles, copied and compared. -/
import Derived.Test.YtmpapnblpjnlmaaDoorOrD
import Derived.Laws.StructEq
namespace Go.Proofs.YtmpapnblpjnlmaaDoor.ora
open Go.RowKit
set_option maxRecDepth 100000
set_option linter.unusedVariables false
set_option linter.unusedSimpArgs false

set_option maxHeartbeats 1000000 in
theorem oracles_any (a : Option Addr) (len cap : Nat) (l : List Pr) (w : World) (hr : RowP w a len l) (hn : a = none → cap = 0) (hl : len * 32 ≤ 140737488351232) :
    Calls Tryd.prog 4 #[.agg #[.slice a len cap]] w fun e w' => GaveO w l e w' := by
  obtain ⟨i0, hi, hz0, hz1, hz2⟩ := info_parts info_pr
  have HX : Hid (Bi w ((w.alloc (.cells #[.slice a len cap] 29)).alloc (.cells #[.slice none 0 0] 29)) a len cap l) := ⟨(Bo.new hr).alloc _, Blk.new1 w _ _ _⟩
  have HZ : Hid (l.length = len) := hr.1
  have c0 := HX.out.bo.box.cell 0
  cases a with
  | none =>
    have hc := hn rfl
    have h0 : len = 0 := by rcases hr.2 with h | ⟨b, off, h, _⟩; exact h; cases h
    subst hc h0
    obtain rfl : l = [] := List.eq_nil_of_length_eq_zero HZ.out
    have happ : ∀ w : World, (Builtin.append_ #[27, 27] 27 #[.slice none 0 0, .slice none 0 0]).run Tryd.prog w = .ok (.slice none 0 0) w := fun w => by kernel_rfl
    have R0 : Hid (_ = _) := HX.out.out.cell 0
    clear hr
    go_enter Tryd.func4, Tryd.ntmps4
    go_wp2_with fail
    exact bodyPost_ret (v := .agg #[.slice none 0 0]) (by simp [results, Tryd.results4, R0.out, go_sem]) rfl ⟨_, rfl, Pw.zero _ _, HX.out.bo.bel⟩
  | some x =>
    have HR : Hid (RowP ((w.alloc (.cells #[.slice (some x) len cap] 29)).alloc (.cells #[.slice none 0 0] 29)) (some x) len l) := HX.out.bo.row
    have HSZ : Hid (w.heap.size + 2 ≤ ((w.alloc (.cells #[.slice (some x) len cap] 29)).alloc (.cells #[.slice none 0 0] 29)).heap.size) := HX.out.out.lt
    clear hr
    go_enter Tryd.func4, Tryd.ntmps4
    go_wp2_with (first
      | (at_builtin; refine wpList_append_own _ rfl _ _ 27 rfl (w.heap.size + 2) 49 i0 (.agg #[.int .i64 0, .int .i64 0, .int .i64 0, .int .i64 0]) 4 32 Tryd.underlying27 hi hz0 hz1 hz2 rfl (by decide) _ _ _ rfl (World.ownsRow_nil _ _ _ _) x len cap (cellsP l) rfl ?c0 ?c1 (oneP l) ?c3 ?c4 HSZ.out ?_)
      | go_in)
    case c0 => rw [cellsP_len, HZ.out]
    case c1 =>
      intro j u hu
      rcases HR.out.2 with h | ⟨b, off, h, hc⟩
      · rw [List.getElem?_eq_none (by rw [cellsP_len, HZ.out]; omega)] at hu; cases hu
      · obtain rfl := Option.some.inj h
        rw [Addr.add_lit]
        exact cellsP_get HZ.out hc j u hu
    case c3 => unfold maxLen; omega
    case c4 => omega
    intro v' w' hown hg _
    have HW : Hid (Pw w' (w.heap.size + 2) v' l) := by show w'.ownsRow _ _ _ _ _ _; rw [HZ.out]; simpa using hown
    have hb' : Below w.heap.size w w' := HX.out.bo.bel.grown hg (by have := HSZ.out; omega) (fun k hk => by simp [Value.ownBlock] at hk)
    have hout := Blk.pgrown HX.out.out hg (by simp [Value.ownBlock])
    have z0 := hout.cell 0
    have y0 := hout.free 0
    have HXX := hout.set 0 v'
    have R0 : Hid (_ = _) := HXX.cell 0
    have HF : Hid (Pw (w'.setCell ⟨w.heap.size + 1, 0, none⟩ v') w.heap.size v' l ∧ Below w.heap.size w (w'.setCell ⟨w.heap.size + 1, 0, none⟩ v')) := ⟨(HW.out.put _ _ _ (by omega)).low (by omega), bel_set hb' _ _ _ (by omega)⟩
    obtain ⟨av, cv, hV, _, _, _⟩ := HW.out.row
    clear hown hg hb' hout HXX HW HX HR HSZ c0
    subst hV
    go_wp2_with fail
    exact bodyPost_ret (v := .agg #[.slice av l.length cv]) (by simp [results, Tryd.results4, R0.out, go_sem]) rfl ⟨_, rfl, HF.out.1, HF.out.2⟩
theorem peq (d : Nat) (a b : Int) (w : World) : (Op.equalIn (d + 1) 3 (.int .i64 a) (.int .i64 b)).run Tryd.prog w = .ok (a == b) w := run_equalIn_int w d _ _ _ a b Tryd.underlying3
theorem pt0 (a b c e : Int) (w : World) : (part 3 #[.int .i64 a, .int .i64 b, .int .i64 c, .int .i64 e] 0).run Tryd.prog w = .ok (.int .i64 a) w := by kernel_rfl
theorem pt1 (a b c e : Int) (w : World) : (part 3 #[.int .i64 a, .int .i64 b, .int .i64 c, .int .i64 e] 1).run Tryd.prog w = .ok (.int .i64 b) w := by kernel_rfl
theorem pt2 (a b c e : Int) (w : World) : (part 3 #[.int .i64 a, .int .i64 b, .int .i64 c, .int .i64 e] 2).run Tryd.prog w = .ok (.int .i64 c) w := by kernel_rfl
theorem pt3 (a b c e : Int) (w : World) : (part 3 #[.int .i64 a, .int .i64 b, .int .i64 c, .int .i64 e] 3).run Tryd.prog w = .ok (.int .i64 e) w := by kernel_rfl
theorem eqPr (a b c e : Int) (w : World) :
    (Op.equalIn 10000 49 (.agg #[.int .i64 a, .int .i64 b, .int .i64 c, .int .i64 e]) (.agg #[.int .i64 a, .int .i64 b, .int .i64 c, .int .i64 e])).run Tryd.prog w = .ok true w := by
  rw [show (10000 : Nat) = 9999 + 1 from rfl, run_equalIn_agg w 9999 49 _ _ (by kernel_rfl) (by kernel_rfl)]
  simp only [Program.fieldsOf, Tryd.underlying49, Op.eqFields, Sem.run_bind, Sem.run_ite]
  simp [pt0, pt1, pt2, pt3, show (9999 : Nat) = 9998 + 1 from rfl, peq]
set_option maxHeartbeats 2000000 in
theorem same_any (a b : Option Addr) (n c1 c2 : Nat) (l : List Pr) (w : World) (h1 : RowP w a n l) (h2 : RowP w b n l) (hn : n * 32 ≤ 140737488351232) :
    Calls Tryd.prog 7 #[.agg #[.slice a n c1], .agg #[.slice b n c2]] w fun e w' => e = .returned (.bool true) ∧ Below w.heap.size w w' := by
  have hne : ((n : Int) != (n : Int)) = false := by simp
  have hn' : n ≤ 140737488351232 := by omega
  clear hn
  have HB0 : Hid (Blk ((w.alloc (.cells #[.slice a n c1] 29)).alloc (.cells #[.slice b n c2] 29)) w.heap.size #[.slice a n c1] 29 ∧ Blk ((w.alloc (.cells #[.slice a n c1] 29)).alloc (.cells #[.slice b n c2] 29)) (w.heap.size + 1) #[.slice b n c2] 29 ∧ Below w.heap.size w ((w.alloc (.cells #[.slice a n c1] 29)).alloc (.cells #[.slice b n c2] 29))) :=
    ⟨(Blk.new w _ _).alloc _, Blk.new1 w _ _ _, ((Below.refl _ _).alloc (Nat.le_refl _) _).alloc (palloc_le (Nat.le_refl _) _) _⟩
  have HR : Hid (RowP w a n l ∧ RowP w b n l) := ⟨h1, h2⟩
  clear h1 h2
  have c0 := HB0.out.1.cell 0
  have e0 := HB0.out.2.1.cell 0
  go_enter Tryd.func7, Tryd.ntmps7
  go_wp2_with fail
  clear c0 e0
  generalize (w.alloc (.cells #[.slice a n c1] 29)).alloc (.cells #[.slice b n c2] 29) = W0 at *
  go_loopw [5] (fun j wr => ∃ k : Nat, k ≤ n ∧ j = .int .i64 (k : Int) ∧ Blk wr w.heap.size #[.slice a n c1] 29 ∧ Blk wr (w.heap.size + 1) #[.slice b n c2] 29 ∧ Below w.heap.size w wr) (fun j _ => n - (intOf j).toNat)
  case atStart => exact ⟨0, Nat.zero_le _, rfl, HB0.out⟩
  case round =>
    obtain ⟨k, hk, rfl, hx⟩ := hrel
    have HI : Hid (Blk wr w.heap.size #[.slice a n c1] 29 ∧ Blk wr (w.heap.size + 1) #[.slice b n c2] 29 ∧ Below w.heap.size w wr) := hx
    clear hx HB0
    have c0 := HI.out.1.cell 0
    have e0 := HI.out.2.1.cell 0
    by_cases hlt : k < n
    · obtain ⟨b1, o1, rfl, _, hc1⟩ := (HR.out.1.below HI.out.2.2).at (by omega)
      obtain ⟨b2, o2, rfl, _, hc2⟩ := (HR.out.2.below HI.out.2.2).at (by omega)
      obtain ⟨f0, f1, f2, f3⟩ := hc1 k hlt
      obtain ⟨g0, g1, g2, g3⟩ := hc2 k hlt
      have hq := eqPr (l.getD k pr0).m (l.getD k pr0).r (l.getD k pr0).b (l.getD k pr0).t
      clear hc1 hc2
      generalize (l.getD k pr0).m = pm at *
      generalize (l.getD k pr0).r = prr at *
      generalize (l.getD k pr0).b = pb at *
      generalize (l.getD k pr0).t = pt at *
      go_wp2_with fail
      go_region
      all_goals go_wp2_with fail
      go_roundw
      case rel => exact ⟨k + 1, by omega, by go_num, HI.out.1, HI.out.2.1, HI.out.2.2.drew⟩
      case measure => simp [intOf]; omega
    · go_wp2_with fail
      go_ret
      exact ⟨rfl, HI.out.2.2⟩
theorem oracles_row (a : Option Addr) (n cap : Nat) (l : List Pr) (w : World) (h : Came w a n cap l) :
    Calls Tryd.prog 4 #[.agg #[.slice a n cap]] w fun e w' => Copied w n l e w' :=
  (oracles_any a n cap l w h.row h.nil h.small).mono fun e w' ⟨v, he, hv, hb⟩ => by
    obtain ⟨x, c, rfl, rx, h1, h2⟩ := hv.row
    rw [h.row.1] at he rx h2
    exact ⟨x, c, he, ⟨rx, h1, h2, h.small⟩, hb⟩

end Go.Proofs.YtmpapnblpjnlmaaDoor.ora
