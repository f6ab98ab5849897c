/- Oracles: the document's own issuing and verifying. -/
import Derived.Test.YtllnafjfbmhimaaOrC
namespace Go.Proofs.Ytllnafjfbmhimaa.ora
open Go.RowKit
set_option maxRecDepth 100000
set_option linter.unusedVariables false

set_option maxHeartbeats 1000000 in
theorem verified_any (a : Option Addr) (n cap : Nat) (l : List Pr) (m r b t : Int) (w : World) (hr : RowP w a n l) :
    Calls Try.prog 15 #[.agg #[.slice a n cap], .int .i64 m, .int .i64 r, .int .i64 b, .int .i64 t] w fun e w' => Told w (Is l m r b t) e w' := by
  have HB0 : Hid (Bo w (w.alloc (.cells #[.slice a n cap] 24)) a n cap l) := Bo.new hr
  have HL : Hid (l.length = n) := hr.1
  clear hr
  have c0 := HB0.out.box.cell 0
  have HMY : Hid (∀ W, RowP W a n l → Calls Try.prog 10 #[.agg #[.slice a n cap]] W fun e w' => Told W (May l) e w') := fun W h => omay_any a n cap l W h
  have HTG : Hid (∀ W a, n ≤ 500 → RowP W a n l → Calls Try.prog 20 #[.agg #[.slice a n cap], .int .i64 m, .int .i64 r, .int .i64 b] W fun e w' => TagPost W l m r b e w') := fun W a hn h => tagged_any a n cap l m r b W h (by omega)
  go_enter Try.func15, Try.ntmps15
  go_wp2_with fail
  refine (HMY.out _ HB0.out.row).mono ?_
  rintro e w1 ⟨rr, rfl, hrr, hb1⟩
  have HI : Hid (Bo w w1 a n cap l) := HB0.out.next hb1
  clear hb1 c0 HB0
  cases rr with
  | false =>
    have HF : Hid (¬ Is l m r b t) := fun h => by have := hrr.2 h.1; cases this
    clear hrr
    go_wp2_with fail
    go_ret
    exact Told.no HF.out HI.out.bel
  | true =>
    have HM : Hid (May l) := hrr.1 rfl
    have hn : n ≤ 500 := by rw [← HL.out]; exact HM.out.few
    clear hrr
    have c0 := HI.out.box.cell 0
    go_wp2_with fail
    refine (HTG.out _ _ hn HI.out.row).mono ?_
    rintro e w3 ⟨hb3, hor⟩
    have HI4 : Hid (Bo w w3 a n cap l) := HI.out.next hb3
    clear hb3 c0 HI
    have c0 := HI4.out.box.cell 0
    rcases hor with ⟨i, hi, rfl⟩ | ⟨hno, rfl⟩
    · have hil : i < n := by rw [← HL.out]; exact hi.lt
      obtain ⟨bl, off, rfl, _, hc⟩ := HI4.out.row.at (by omega)
      obtain ⟨f0, f1, f2, f3⟩ := hc i hil
      have HIS : Hid (Is l m r b t ↔ (l.getD i pr0).t = t) := ⟨fun h => by obtain ⟨_, j, hj, hx⟩ := h; have := hi.one hj; subst this; exact hx, fun h => ⟨HM.out, i, hi, h⟩⟩
      have hge : (0 : Int) ≤ (i : Int) := by omega
      clear hc hi f0 f1 f2
      generalize (l.getD i pr0).t = pt at *
      by_cases hx : pt = t
      · have hq : (pt == t) = true := by simp [hx]
        have HF : Hid (Is l m r b t) := HIS.out.2 hx
        clear hx
        go_wp2_with fail
        go_ret
        exact Told.yes HF.out HI4.out.bel
      · have hq : (pt == t) = false := by simp [hx]
        have HF : Hid (¬ Is l m r b t) := fun h => hx (HIS.out.1 h)
        clear hx
        go_wp2_with fail
        go_ret
        exact Told.no HF.out HI4.out.bel
    · have HF : Hid (¬ Is l m r b t) := fun h => by obtain ⟨_, j, hj, _⟩ := h; exact hj.not hno
      clear hno
      obtain ⟨z, hz⟩ : ∃ z : Int, z = -1 := ⟨_, rfl⟩
      have hz' : z < 0 := by omega
      rw [← hz]
      clear hz
      go_wp2_with fail
      go_ret
      exact Told.no HF.out HI4.out.bel
set_option maxHeartbeats 4000000 in
theorem issued_any (a : Option Addr) (n cap : Nat) (l : List Pr) (m r b d : Int) (w : World) (hr : RowP w a n l) :
    Calls Try.prog 13 #[.agg #[.slice a n cap], .int .i64 m, .int .i64 r, .int .i64 b, .int .i64 d] w fun e w' => IssuePost w l m r b d e w' := by
  have HB0 : Hid (Bi w ((w.alloc (.cells #[.slice a n cap] 24)).alloc (.cells #[.slice none 0 0] 24)) a n cap l) := ⟨(Bo.new hr).alloc _, Blk.new1 w _ _ _⟩
  have HL : Hid (l.length = n) := hr.1
  clear hr
  have c0 := HB0.out.bo.box.cell 0
  have HMY : Hid (∀ W, RowP W a n l → Calls Try.prog 10 #[.agg #[.slice a n cap]] W fun e w' => Told W (May l) e w') := fun W h => omay_any a n cap l W h
  have HPM : Hid (∀ W, Calls Try.prog 19 #[.agg #[.int .i64 m, .int .i64 r, .int .i64 b, .int .i64 d]] W fun e w' => Told W (Pr.mk m r b d).may e w') := fun W => pairMay_any m r b d W
  have HTG : Hid (∀ W a, n ≤ 500 → RowP W a n l → Calls Try.prog 20 #[.agg #[.slice a n cap], .int .i64 m, .int .i64 r, .int .i64 b] W fun e w' => TagPost W l m r b e w') := fun W a hn h => tagged_any a n cap l m r b W h (by omega)
  have HCP : Hid (∀ W a, n ≤ 500 → RowP W a n l → Calls Try.prog 24 #[.agg #[.slice a n cap]] W fun e w' => GaveO W l e w') := fun W a hn h => copy_any a n cap l W h hn
  go_enter Try.func13, Try.ntmps13
  go_wp2_with fail
  refine (HMY.out _ HB0.out.bo.row).mono ?_
  rintro e w1 ⟨rr, rfl, hrr, hb1⟩
  have HI : Hid (Bi w w1 a n cap l) := HB0.out.next hb1
  clear hb1 c0 HB0
  cases rr with
  | false =>
    have HF : Hid (IssueIs l m r b d [] 0 5) := .inl ⟨(fun h => by have := hrr.2 h; cases this), rfl, rfl, rfl⟩
    clear hrr
    have z0 := HI.out.out.cell 0
    have y0 := HI.out.out.free 0
    have HXX := HI.out.out.set 0 (.slice none 0 0)
    have R0 : Hid (_ = _) := HXX.cell 0
    have HB : Hid (Below w.heap.size w (w1.setCell ⟨w.heap.size + 1, 0, none⟩ (.slice none 0 0))) := bel_set HI.out.bo.bel _ _ _ (by omega)
    clear HXX HI
    go_wp2_with fail
    exact bodyPost_ret (v := .tuple #[.agg #[.slice none 0 0], .int .i64 0, .int .i64 5]) (by simp [results, Try.results13, R0.out, go_sem]) rfl ⟨none, 0, 0, [], 0, 5, rfl, RowP.nil _ _, fun _ => rfl, Nat.le_refl _, HF.out, HB.out⟩
  | true =>
    have HM : Hid (May l) := hrr.1 rfl
    have hn : n ≤ 500 := by rw [← HL.out]; exact HM.out.few
    clear hrr
    have hN := Blk.new w1 #[.int .i64 m, .int .i64 r, .int .i64 b, .int .i64 d] 43
    have p0 := hN.cell 0
    have p1 := hN.cell 1
    have p2 := hN.cell 2
    have p3 := hN.cell 3
    have HP : Hid (Blk (w1.alloc (.cells #[.int .i64 m, .int .i64 r, .int .i64 b, .int .i64 d] 43)) w1.heap.size #[.int .i64 m, .int .i64 r, .int .i64 b, .int .i64 d] 43) := hN
    have HI1 : Hid (Bi w (w1.alloc (.cells #[.int .i64 m, .int .i64 r, .int .i64 b, .int .i64 d] 43)) a n cap l) := HI.out.alloc _
    clear hN HI
    go_wp2_with fail
    refine (HPM.out _).mono ?_
    rintro e w2 ⟨rr, rfl, hrr, hb2⟩
    have HI2 : Hid (Bi w w2 a n cap l) := HI1.out.next hb2
    have HP2 : Hid (Blk w2 w1.heap.size #[.int .i64 m, .int .i64 r, .int .i64 b, .int .i64 d] 43) := HP.out.next hb2
    clear hb2 p0 p1 p2 p3 HP HI1
    generalize w1.heap.size = gp at *
    cases rr with
    | false =>
      have HF : Hid (IssueIs l m r b d [] 0 2) := .inr (.inl ⟨HM.out, (fun h => by have := hrr.2 h; cases this), rfl, rfl, rfl⟩)
      clear hrr
      have z0 := HI2.out.out.cell 0
      have y0 := HI2.out.out.free 0
      have HXX := HI2.out.out.set 0 (.slice none 0 0)
      have R0 : Hid (_ = _) := HXX.cell 0
      have HB : Hid (Below w.heap.size w (w2.setCell ⟨w.heap.size + 1, 0, none⟩ (.slice none 0 0))) := bel_set HI2.out.bo.bel _ _ _ (by omega)
      clear HXX HI2
      go_wp2_with fail
      exact bodyPost_ret (v := .tuple #[.agg #[.slice none 0 0], .int .i64 0, .int .i64 2]) (by simp [results, Try.results13, R0.out, go_sem]) rfl ⟨none, 0, 0, [], 0, 2, rfl, RowP.nil _ _, fun _ => rfl, Nat.le_refl _, HF.out, HB.out⟩
    | true =>
      have HPY : Hid ((Pr.mk m r b d).may) := hrr.1 rfl
      clear hrr
      have c0 := HI2.out.bo.box.cell 0
      go_wp2_with fail
      refine (HCP.out _ _ hn HI2.out.bo.row).mono ?_
      rintro e w3 ⟨v, rfl, hv, hb3⟩
      obtain ⟨av, cv, rfl, hrv, hnv, hcv⟩ := hv.row
      have hln := HL.out
      rw [hln] at hrv hcv hv
      rw [hln]
      have HV3 : Hid (Pw (w3.alloc (.cells #[.slice av n cv] 24)) w2.heap.size (.slice av n cv) l) := hv.alloc _
      have HI3 : Hid (Bi w (w3.alloc (.cells #[.slice av n cv] 24)) a n cap l) := (HI2.out.next hb3).alloc _
      have HP3 : Hid (Blk (w3.alloc (.cells #[.slice av n cv] 24)) gp #[.int .i64 m, .int .i64 r, .int .i64 b, .int .i64 d] 43) := (HP2.out.next hb3).alloc _
      have HO3 : Hid (Blk (w3.alloc (.cells #[.slice av n cv] 24)) w3.heap.size #[.slice av n cv] 24) := Blk.new _ _ _
      have HNV : Hid ((av = none → cv = 0) ∧ n ≤ cv) := ⟨hnv, hcv⟩
      have HLT : Hid (gp < w2.heap.size ∧ w.heap.size + 2 ≤ w2.heap.size ∧ w2.heap.size ≤ w3.heap.size) := ⟨HP2.out.lt, HI2.out.out.lt, hb3.size⟩
      have HFAR : Hid (some w3.heap.size ≠ (Value.slice av n cv).ownBlock) := fun e => by
        have := (World.ownsRow.lt hv _ e.symm).2
        omega
      clear hv hrv hnv hcv hb3 hln HI2 HP2 c0
      have c0 := HI3.out.bo.box.cell 0
      go_wp2_with fail
      refine (HTG.out _ _ hn HI3.out.bo.row).mono ?_
      rintro e w4 ⟨hb4, hor⟩
      have HI4 : Hid (Bi w w4 a n cap l) := HI3.out.next hb4
      have HV4 : Hid (Pw w4 w2.heap.size (.slice av n cv) l) := HV3.out.next hb4
      have HP4 : Hid (Blk w4 gp #[.int .i64 m, .int .i64 r, .int .i64 b, .int .i64 d] 43) := HP3.out.next hb4
      have HO4 : Hid (Blk w4 w3.heap.size #[.slice av n cv] 24) := HO3.out.next hb4
      clear hb4 c0 HI3 HV3 HP3 HO3
      generalize w3.heap.size = go at *
      generalize w2.heap.size = g2 at *
      have c0 := HI4.out.bo.box.cell 0
      have o0 := HO4.out.cell 0
      have z0 := HI4.out.out.cell 0
      have y0 := HI4.out.out.free 0
      rcases hor with ⟨i, hi, rfl⟩ | ⟨hno, rfl⟩
      · have hil : i < n := by rw [← HL.out]; exact hi.lt
        obtain ⟨bl, off, rfl, lbl, hc⟩ := HI4.out.bo.row.at (by omega)
        obtain ⟨f0, f1, f2, f3⟩ := hc i hil
        have HF : Hid (IssueIs l m r b d l (l.getD i pr0).t 0) := .inr (.inr (.inl ⟨HM.out, HPY.out, ⟨i, hi, rfl⟩, rfl, rfl⟩))
        have hge : (0 : Int) ≤ (i : Int) := by omega
        have HXX := HI4.out.out.set 0 (.slice av n cv)
        have R0 : Hid ((w4.setCell ⟨w.heap.size + 1, 0, none⟩ (.slice av n cv)).drew.cell? ⟨w.heap.size + 1, 0, none⟩ = some (.slice av n cv)) := HXX.cell 0
        have HRV : Hid (RowP (w4.setCell ⟨w.heap.size + 1, 0, none⟩ (.slice av n cv)).drew av n l ∧ Below w.heap.size w (w4.setCell ⟨w.heap.size + 1, 0, none⟩ (.slice av n cv)).drew) := by
          obtain ⟨av', cv', e1, e2, _, _⟩ := (HV4.out.put (w.heap.size + 1) 0 (.slice av n cv) (by have := HLT.out; omega)).row
          rw [HL.out] at e1 e2
          simp only [Value.slice.injEq] at e1
          obtain ⟨rfl, _, rfl⟩ := e1
          exact ⟨e2, (bel_set HI4.out.bo.bel _ _ _ (by omega)).drew⟩
        clear hc hi f0 f1 f2 HXX HI4 HV4 HP4 HO4
        generalize (l.getD i pr0).t = pt at *
        go_wp2_with fail
        go_region
        all_goals go_wp2_with fail
        exact bodyPost_ret (v := .tuple #[.agg #[.slice av n cv], .int .i64 pt, .int .i64 0]) (by simp [results, Try.results13, R0.out, go_sem]) rfl ⟨av, n, cv, l, pt, 0, rfl, HRV.out.1, HNV.out.1, HNV.out.2, HF.out, HRV.out.2⟩
      · obtain ⟨z, hz⟩ : ∃ z : Int, z = -1 := ⟨_, rfl⟩
        have hz' : z < 0 := by omega
        rw [← hz]
        clear hz
        by_cases h5 : n = 500
        · have hq : ((n : Int) == 500) = true := by simp; omega
          have HF : Hid (IssueIs l m r b d [] 0 16) := .inr (.inr (.inr (.inl ⟨HM.out, HPY.out, hno, by rw [HL.out]; exact h5, rfl, rfl, rfl⟩)))
          have HXX := HI4.out.out.set 0 (.slice none 0 0)
          have R0 : Hid (_ = _) := HXX.cell 0
          have HB : Hid (Below w.heap.size w (w4.setCell ⟨w.heap.size + 1, 0, none⟩ (.slice none 0 0))) := bel_set HI4.out.bo.bel _ _ _ (by omega)
          clear HXX hno h5 HI4
          go_wp2_with fail
          exact bodyPost_ret (v := .tuple #[.agg #[.slice none 0 0], .int .i64 0, .int .i64 16]) (by simp [results, Try.results13, R0.out, go_sem]) rfl ⟨none, 0, 0, [], 0, 16, rfl, RowP.nil _ _, fun _ => rfl, Nat.le_refl _, HF.out, HB.out⟩
        · have hq : ((n : Int) == 500) = false := by simp; omega
          have HF : Hid (IssueIs l m r b d (l ++ [⟨m, r, b, d⟩]) d 0) := .inr (.inr (.inr (.inr ⟨HM.out, HPY.out, hno, by rw [HL.out]; omega, rfl, rfl, rfl⟩)))
          have p0 := HP4.out.cell 0
          have p1 := HP4.out.cell 1
          have p2 := HP4.out.cell 2
          have p3 := HP4.out.cell 3
          have HG : Hid (PrAt (w4.alloc (.cells #[.int .i64 m, .int .i64 r, .int .i64 b, .int .i64 d] 43)) w4.heap.size 0 ⟨m, r, b, d⟩) := pr_cell w4 _ _ _ _
          have HOA : Hid (Pw (w4.alloc (.cells #[.int .i64 m, .int .i64 r, .int .i64 b, .int .i64 d] 43)) g2 (.slice av n cv) l) := HV4.out.alloc _
          have HG4 : Hid (g2 ≤ w4.heap.size) := Nat.le_trans HLT.out.2.2 (Nat.le_of_lt HO4.out.lt)
          have HSZ : Hid (g2 ≤ (w4.alloc (.cells #[.int .i64 m, .int .i64 r, .int .i64 b, .int .i64 d] 43)).heap.size) := palloc_le HG4.out _
          have HLN : Hid (l.length ≤ 1000000) := by show _ ≤ _; rw [HL.out]; omega
          have HI5 : Hid (Bi w (w4.alloc (.cells #[.int .i64 m, .int .i64 r, .int .i64 b, .int .i64 d] 43)) a n cap l ∧ Blk (w4.alloc (.cells #[.int .i64 m, .int .i64 r, .int .i64 b, .int .i64 d] 43)) go #[.slice av n cv] 24) := ⟨HI4.out.alloc _, HO4.out.alloc _⟩
          clear hno h5 HI4 HV4 HP4 HO4
          go_wp2_with (first
            | (at_builtin; refine wp_pr rfl _ _ rfl g2 w4.heap.size _ l ⟨m, r, b, d⟩ rfl rfl HOA.out HG.out HLN.out HSZ.out ?_)
            | go_in)
          intro v' w5 hL5 hg5
          have hb5 : Below w.heap.size w w5 := pown_bel HOA.out hg5 HI5.out.1.bo.bel (by have := HLT.out; omega) (by have := HSZ.out; have := HLT.out; omega)
          have hout := Blk.pgrown HI5.out.1.out hg5 (pown_far HOA.out (by have := HLT.out; omega))
          have hgo := Blk.pgrown HI5.out.2 hg5 HFAR.out
          obtain ⟨av', cv', rfl, _, hnv', hcv'⟩ := hL5.row
          obtain ⟨n', hn'⟩ : ∃ n', (l ++ [(⟨m, r, b, d⟩ : Pr)]).length = n' := ⟨_, rfl⟩
          rw [hn'] at hcv' hL5 ⊢
          have g0 := hgo.cell 0
          have g1 := hgo.free 0
          have hgo2 := hgo.set 0 (.slice av' n' cv')
          have k0 := hgo2.cell 0
          have hne : w.heap.size + 1 ≠ go := by have := HLT.out; omega
          have hout2 := Blk.other hout (G' := go) 0 (.slice av' n' cv') (by omega)
          have u0 := hout2.cell 0
          have u1 := hout2.free 0
          have hout3 := hout2.set 0 (.slice av' n' cv')
          have R0 : Hid (_ = _) := hout3.cell 0
          have hP6 := Pw.put2 (Pw.put2 hL5 hgo (by decide) 0 (.slice av' n' cv')) hout2 (by decide) 0 (.slice av' n' cv')
          have HRV : Hid (RowP ((w5.setCell ⟨go, 0, none⟩ (.slice av' n' cv')).setCell ⟨w.heap.size + 1, 0, none⟩ (.slice av' n' cv')) av' n' (l ++ [⟨m, r, b, d⟩]) ∧ Below w.heap.size w ((w5.setCell ⟨go, 0, none⟩ (.slice av' n' cv')).setCell ⟨w.heap.size + 1, 0, none⟩ (.slice av' n' cv'))) := by
            obtain ⟨a6, c6, e1, e2, _, _⟩ := hP6.row
            rw [hn'] at e1 e2
            simp only [Value.slice.injEq] at e1
            obtain ⟨rfl, _, rfl⟩ := e1
            exact ⟨e2, bel_set (bel_set hb5 _ _ _ (by have := HLT.out; omega)) _ _ _ (by omega)⟩
          have HNN : Hid ((av' = none → cv' = 0) ∧ n' ≤ cv') := ⟨hnv', hcv'⟩
          clear hL5 hg5 hb5 hout hgo hgo2 hout2 hout3 hP6 hnv' hcv' hn' hne HOA HG HSZ HI5 c0 o0 z0 y0 p0 p1 p2 p3
          go_wp2_with fail
          exact bodyPost_ret (v := .tuple #[.agg #[.slice av' n' cv'], .int .i64 d, .int .i64 0]) (by simp [results, Try.results13, R0.out, go_sem]) rfl ⟨av', n', cv', _, d, 0, rfl, HRV.out.1, HNN.out.1, HNN.out.2, HF.out, HRV.out.2⟩

end Go.Proofs.Ytllnafjfbmhimaa.ora
