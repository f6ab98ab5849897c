/- Oracles: the document's own issuing and verifying. -/
import Derived.Test.YtmpapnblpjnlmaaDoorOrR
namespace Go.Proofs.YtmpapnblpjnlmaaDoor.ora
open Go.RowKit
set_option maxRecDepth 100000
set_option linter.unusedVariables false

set_option maxHeartbeats 2000000 in
theorem omay_any (a : Option Addr) (n cap : Nat) (l : List Pr) (w : World) (hr : RowP w a n l) :
    Calls Tryd.prog 12 #[.agg #[.slice a n cap]] w fun e w' => Told w (May l) e w' := by
  have HB0 : Hid (Bo w (w.alloc (.cells #[.slice a n cap] 29)) a n cap l) := Bo.new hr
  have HL : Hid (l.length = n) := hr.1
  clear hr
  have c0 := HB0.out.box.cell 0
  by_cases hn : n ≤ 500
  · have hgt : ¬ (500 : Int) < (n : Int) := by omega
    have hgt' : decide ((500 : Int) < (n : Int)) = false := by simp; omega
    have HPM : Hid (∀ W m r b t, Calls Tryd.prog 23 #[.agg #[.int .i64 m, .int .i64 r, .int .i64 b, .int .i64 t]] W fun e w' => Told W (Pr.mk m r b t).may e w') := fun W m r b t => pairMay_any m r b t W
    have HTG : Hid (∀ W a m r b, RowP W a n l → Calls Tryd.prog 24 #[.agg #[.slice a n cap], .int .i64 m, .int .i64 r, .int .i64 b] W fun e w' => TagPost W l m r b e w') := fun W a m r b h => tagged_any a n cap l m r b W h (by omega)
    go_enter Tryd.func12, Tryd.ntmps12
    go_wp2_with fail
    clear c0
    generalize w.alloc (.cells #[.slice a n cap] 29) = W0 at *
    go_loopw [3] (fun j wr => ∃ k : Nat, k ≤ n ∧ j = .int .i64 (k : Int) ∧ Hid (∀ i, i < k → (l.getD i pr0).may ∧ At l (l.getD i pr0).m (l.getD i pr0).r (l.getD i pr0).b i) ∧ Bo w wr a n cap l) (fun j _ => n - (intOf j).toNat)
    case atStart => exact ⟨0, Nat.zero_le _, rfl, fun i hi => absurd hi (Nat.not_lt_zero _), HB0.out⟩
    case round =>
      obtain ⟨k, hk, rfl, HA, hbo⟩ := hrel
      have HI : Hid (Bo w wr a n cap l) := hbo
      clear hbo HB0
      have c0 := HI.out.box.cell 0
      by_cases hlt : k < n
      · obtain ⟨bl, off, rfl, _, hc⟩ := HI.out.row.at (by omega)
        obtain ⟨f0, f1, f2, f3⟩ := hc k hlt
        have HNX : Hid ((Pr.mk (l.getD k pr0).m (l.getD k pr0).r (l.getD k pr0).b (l.getD k pr0).t).may → At l (l.getD k pr0).m (l.getD k pr0).r (l.getD k pr0).b k → ∀ i, i < k + 1 → (l.getD i pr0).may ∧ At l (l.getD i pr0).m (l.getD i pr0).r (l.getD i pr0).b i) := fun h1 h2 i hi => by
          by_cases e : i = k
          · subst e; exact ⟨h1, h2⟩
          · exact HA.out i (by omega)
        have HN1 : Hid (May l → (Pr.mk (l.getD k pr0).m (l.getD k pr0).r (l.getD k pr0).b (l.getD k pr0).t).may ∧ At l (l.getD k pr0).m (l.getD k pr0).r (l.getD k pr0).b k) := fun hm => hm.each k (by rw [HL.out]; exact hlt)
        clear hc HA
        generalize (l.getD k pr0).m = pm at *
        generalize (l.getD k pr0).r = prr at *
        generalize (l.getD k pr0).b = pb at *
        generalize (l.getD k pr0).t = pt at *
        have hN := Blk.new wr #[.int .i64 pm, .int .i64 prr, .int .i64 pb, .int .i64 pt] 49
        have n0 := hN.cell 0
        have n1 := hN.cell 1
        have n2 := hN.cell 2
        have n3 := hN.cell 3
        have HNB : Hid (Blk (wr.alloc (.cells #[.int .i64 pm, .int .i64 prr, .int .i64 pb, .int .i64 pt] 49)) wr.heap.size #[.int .i64 pm, .int .i64 prr, .int .i64 pb, .int .i64 pt] 49) := hN
        have HI2 : Hid (Bo w (wr.alloc (.cells #[.int .i64 pm, .int .i64 prr, .int .i64 pb, .int .i64 pt] 49)) (some ⟨bl, off, none⟩) n cap l) := HI.out.alloc _
        clear hN HI
        go_wp2_with fail
        refine (HPM.out _ _ _ _ _).mono ?_
        rintro e w2 ⟨rr, rfl, hrr, hb2⟩
        have HI3 : Hid (Bo w w2 (some ⟨bl, off, none⟩) n cap l) := HI2.out.next hb2
        have hM := HNB.out.next hb2
        have m0 := hM.cell 0
        have m1 := hM.cell 1
        have m2 := hM.cell 2
        have d0 := HI3.out.box.cell 0
        clear hM HNB hb2 n0 n1 n2 n3 HI2 c0
        generalize wr.heap.size = gn at *
        cases rr with
        | false =>
          have HF : Hid (¬ May l) := fun hm => by have := hrr.2 (HN1.out hm).1; cases this
          clear hrr
          go_wp2_with fail
          go_ret
          exact Told.no HF.out HI3.out.bel
        | true =>
          have HPY : Hid ((Pr.mk pm prr pb pt).may) := hrr.1 rfl
          clear hrr
          go_wp2_with fail
          refine (HTG.out _ _ _ _ _ HI3.out.row).mono ?_
          rintro e w3 ⟨hb3, hor⟩
          have HI4 : Hid (Bo w w3 (some ⟨bl, off, none⟩) n cap l) := HI3.out.next hb3
          clear hb3
          rcases hor with ⟨i, hi, rfl⟩ | ⟨hno, rfl⟩
          · by_cases hik : i = k
            · subst hik
              have hq : ((i : Int) != (i : Int)) = false := by simp
              have HF : Hid (∀ j, j < i + 1 → (l.getD j pr0).may ∧ At l (l.getD j pr0).m (l.getD j pr0).r (l.getD j pr0).b j) := HNX.out HPY.out hi
              clear hi
              go_wp2_with fail
              go_roundw
              case rel => exact ⟨i + 1, by omega, by go_num, HF, HI4.out⟩
              case measure => simp [intOf]; omega
            · have hq : ((i : Int) != (k : Int)) = true := by simp; omega
              have HF : Hid (¬ May l) := fun hm => hik (hi.one (HN1.out hm).2)
              clear hi hik
              go_wp2_with fail
              go_ret
              exact Told.no HF.out HI4.out.bel
          · have hq : ((-1 : Int) != (k : Int)) = true := by simp only [bne_iff_ne, ne_eq]; omega
            have HF : Hid (¬ May l) := fun hm => (HN1.out hm).2.not hno
            clear hno
            go_wp2_with fail
            go_ret
            exact Told.no HF.out HI4.out.bel
      · obtain rfl : n = k := by omega
        have HF : Hid (May l) := ⟨by rw [HL.out]; exact hn, fun i hi => HA.out i (by rw [HL.out] at hi; exact hi)⟩
        go_wp2_with fail
        go_ret
        exact Told.yes HF.out HI.out.bel
  · have HF : Hid (¬ May l) := fun hm => by have := hm.few; rw [HL.out] at this; omega
    have hgt : decide ((500 : Int) < (n : Int)) = true := by simp; omega
    clear hn
    go_enter Tryd.func12, Tryd.ntmps12
    go_wp2_with fail
    go_ret
    exact Told.no HF.out HB0.out.bel

end Go.Proofs.YtmpapnblpjnlmaaDoor.ora
