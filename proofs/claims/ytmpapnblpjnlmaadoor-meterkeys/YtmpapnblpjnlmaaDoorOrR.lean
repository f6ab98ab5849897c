/- Oracles: what the document says of them. -/
import Derived.Test.YtmpapnblpjnlmaaDoorOrD
namespace Go.Proofs.YtmpapnblpjnlmaaDoor.ora
open Go.RowKit
set_option maxRecDepth 100000
set_option linter.unusedVariables false

theorem in_yes (n lo hi : Int) (w : World) (h1 : lo ≤ n) (h2 : n ≤ hi) :
    Calls Tryd.prog 21 #[.int .i64 n, .int .i64 lo, .int .i64 hi] w fun e w' => e = .returned (.bool true) ∧ w' = w := by
  go_enter Tryd.func21, Tryd.ntmps21
  go_wp2
  go_ret
  exact ⟨rfl, rfl⟩
theorem in_no (n lo hi : Int) (w : World) (h : n < lo ∨ hi < n) :
    Calls Tryd.prog 21 #[.int .i64 n, .int .i64 lo, .int .i64 hi] w fun e w' => e = .returned (.bool false) ∧ w' = w := by
  by_cases h0 : n < lo
  · clear h
    go_enter Tryd.func21, Tryd.ntmps21
    go_wp2
    go_ret
    exact ⟨rfl, rfl⟩
  · have h1 : lo ≤ n := by omega
    have h2 : decide (n ≤ hi) = false := by simp; omega
    clear h h0
    go_enter Tryd.func21, Tryd.ntmps21
    go_wp2
    go_ret
    exact ⟨rfl, rfl⟩
set_option maxHeartbeats 1000000 in
theorem pairMay_any (m r b t : Int) (w : World) :
    Calls Tryd.prog 23 #[.agg #[.int .i64 m, .int .i64 r, .int .i64 b, .int .i64 t]] w fun e w' => Told w (Pr.mk m r b t).may e w' := by
  have hN := Blk.new w #[.int .i64 m, .int .i64 r, .int .i64 b, .int .i64 t] 49
  have c0 := hN.cell 0
  have c1 := hN.cell 1
  have c2 := hN.cell 2
  have c3 := hN.cell 3
  have HB : Hid (Below w.heap.size w (w.alloc (.cells #[.int .i64 m, .int .i64 r, .int .i64 b, .int .i64 t] 49))) := (Below.refl _ _).alloc (Nat.le_refl _) _
  clear hN
  by_cases h1 : 0 ≤ m ∧ m ≤ 49
  · have H1 : Hid (∀ W, Calls Tryd.prog 21 #[.int .i64 m, .int .i64 0, .int .i64 49] W fun e w' => e = .returned (.bool true) ∧ w' = W) := fun W => in_yes _ _ _ W h1.1 h1.2
    by_cases h2 : 0 ≤ r ∧ r ≤ 15
    · have H2 : Hid (∀ W, Calls Tryd.prog 21 #[.int .i64 r, .int .i64 0, .int .i64 15] W fun e w' => e = .returned (.bool true) ∧ w' = W) := fun W => in_yes _ _ _ W h2.1 h2.2
      by_cases h3 : 0 ≤ b ∧ b ≤ 8796093022207
      · have H3 : Hid (∀ W, Calls Tryd.prog 21 #[.int .i64 b, .int .i64 0, .int .i64 8796093022207] W fun e w' => e = .returned (.bool true) ∧ w' = W) := fun W => in_yes _ _ _ W h3.1 h3.2
        by_cases h4 : 0 ≤ t ∧ t ≤ 65535
        · have H4 : Hid (∀ W, Calls Tryd.prog 21 #[.int .i64 t, .int .i64 0, .int .i64 65535] W fun e w' => e = .returned (.bool true) ∧ w' = W) := fun W => in_yes _ _ _ W h4.1 h4.2
          have HM : Hid ((Pr.mk m r b t).may) := ⟨h1, h2, h3, h4⟩
          clear h1 h2 h3 h4
          go_enter Tryd.func23, Tryd.ntmps23
          go_wp2_with fail
          refine (H1.out _).mono ?_
          rintro e w1 ⟨rfl, rfl⟩
          go_wp2_with fail
          refine (H2.out _).mono ?_
          rintro e w2 ⟨rfl, rfl⟩
          go_wp2_with fail
          refine (H3.out _).mono ?_
          rintro e w3 ⟨rfl, rfl⟩
          go_wp2_with fail
          refine (H4.out _).mono ?_
          rintro e w4 ⟨rfl, rfl⟩
          go_wp2_with fail
          go_ret
          exact Told.yes HM.out HB.out
        · have H4 : Hid (∀ W, Calls Tryd.prog 21 #[.int .i64 t, .int .i64 0, .int .i64 65535] W fun e w' => e = .returned (.bool false) ∧ w' = W) := fun W => in_no _ _ _ W (by omega)
          have HM : Hid (¬ (Pr.mk m r b t).may) := fun h => h4 h.2.2.2
          clear h1 h2 h3 h4
          go_enter Tryd.func23, Tryd.ntmps23
          go_wp2_with fail
          refine (H1.out _).mono ?_
          rintro e w1 ⟨rfl, rfl⟩
          go_wp2_with fail
          refine (H2.out _).mono ?_
          rintro e w2 ⟨rfl, rfl⟩
          go_wp2_with fail
          refine (H3.out _).mono ?_
          rintro e w3 ⟨rfl, rfl⟩
          go_wp2_with fail
          refine (H4.out _).mono ?_
          rintro e w4 ⟨rfl, rfl⟩
          go_wp2_with fail
          go_ret
          exact Told.no HM.out HB.out
      · have H3 : Hid (∀ W, Calls Tryd.prog 21 #[.int .i64 b, .int .i64 0, .int .i64 8796093022207] W fun e w' => e = .returned (.bool false) ∧ w' = W) := fun W => in_no _ _ _ W (by omega)
        have HM : Hid (¬ (Pr.mk m r b t).may) := fun h => h3 h.2.2.1
        clear h1 h2 h3
        go_enter Tryd.func23, Tryd.ntmps23
        go_wp2_with fail
        refine (H1.out _).mono ?_
        rintro e w1 ⟨rfl, rfl⟩
        go_wp2_with fail
        refine (H2.out _).mono ?_
        rintro e w2 ⟨rfl, rfl⟩
        go_wp2_with fail
        refine (H3.out _).mono ?_
        rintro e w3 ⟨rfl, rfl⟩
        go_wp2_with fail
        go_ret
        exact Told.no HM.out HB.out
    · have H2 : Hid (∀ W, Calls Tryd.prog 21 #[.int .i64 r, .int .i64 0, .int .i64 15] W fun e w' => e = .returned (.bool false) ∧ w' = W) := fun W => in_no _ _ _ W (by omega)
      have HM : Hid (¬ (Pr.mk m r b t).may) := fun h => h2 h.2.1
      clear h1 h2
      go_enter Tryd.func23, Tryd.ntmps23
      go_wp2_with fail
      refine (H1.out _).mono ?_
      rintro e w1 ⟨rfl, rfl⟩
      go_wp2_with fail
      refine (H2.out _).mono ?_
      rintro e w2 ⟨rfl, rfl⟩
      go_wp2_with fail
      go_ret
      exact Told.no HM.out HB.out
  · have H1 : Hid (∀ W, Calls Tryd.prog 21 #[.int .i64 m, .int .i64 0, .int .i64 49] W fun e w' => e = .returned (.bool false) ∧ w' = W) := fun W => in_no _ _ _ W (by omega)
    have HM : Hid (¬ (Pr.mk m r b t).may) := fun h => h1 h.1
    clear h1
    go_enter Tryd.func23, Tryd.ntmps23
    go_wp2_with fail
    refine (H1.out _).mono ?_
    rintro e w1 ⟨rfl, rfl⟩
    go_wp2_with fail
    go_ret
    exact Told.no HM.out HB.out
set_option maxHeartbeats 2000000 in
theorem tagged_any (a : Option Addr) (n cap : Nat) (l : List Pr) (m r b : Int) (w : World) (hr : RowP w a n l) (hn : n ≤ 9223372036854775807) :
    Calls Tryd.prog 24 #[.agg #[.slice a n cap], .int .i64 m, .int .i64 r, .int .i64 b] w fun e w' => TagPost w l m r b e w' := by
  have HB0 : Hid (Bo w (w.alloc (.cells #[.slice a n cap] 29)) a n cap l) := Bo.new hr
  have HL : Hid (l.length = n) := hr.1
  clear hr
  go_enter Tryd.func24, Tryd.ntmps24
  go_wp2_with fail
  generalize w.alloc (.cells #[.slice a n cap] 29) = W0 at *
  go_loopw [9] (fun j wr => ∃ k : Nat, k ≤ n ∧ j = .int .i64 (k : Int) ∧ Hid (∀ i, i < k → ¬ (l.getD i pr0).key m r b) ∧ Bo w wr a n cap l) (fun j _ => n - (intOf j).toNat)
  case atStart => exact ⟨0, Nat.zero_le _, rfl, fun i hi => absurd hi (Nat.not_lt_zero _), HB0.out⟩
  case round =>
    obtain ⟨k, hk, rfl, HA, hbo⟩ := hrel
    have HI : Hid (Bo w wr a n cap l) := hbo
    clear hbo HB0
    have c0 := HI.out.box.cell 0
    by_cases hlt : k < n
    · obtain ⟨bl, off, rfl, _, hc⟩ := HI.out.row.at (by omega)
      obtain ⟨f0, f1, f2, f3⟩ := hc k hlt
      have HKEY : Hid ((l.getD k pr0).key m r b ↔ (l.getD k pr0).m = m ∧ (l.getD k pr0).r = r ∧ (l.getD k pr0).b = b) := Iff.rfl
      have HNX : Hid (¬ (l.getD k pr0).key m r b → ∀ i, i < k + 1 → ¬ (l.getD i pr0).key m r b) := fun hx i hi => by
        by_cases e : i = k
        · subst e; exact hx
        · exact HA.out i (by omega)
      have HYS : Hid ((l.getD k pr0).key m r b → At l m r b k) := fun hx => ⟨by rw [HL.out]; exact hlt, hx, HA.out⟩
      clear hc HA
      generalize (l.getD k pr0).key m r b = KEY at *
      generalize (l.getD k pr0).m = pm at *
      generalize (l.getD k pr0).r = prr at *
      generalize (l.getD k pr0).b = pb at *
      generalize (l.getD k pr0).t = pt at *
      have hN := Blk.new wr #[.int .i64 pm, .int .i64 prr, .int .i64 pb, .int .i64 pt] 49
      have n0 := hN.cell 0
      have n1 := hN.cell 1
      have n2 := hN.cell 2
      have HI2 : Hid (Bo w (wr.alloc (.cells #[.int .i64 pm, .int .i64 prr, .int .i64 pb, .int .i64 pt] 49)) (some ⟨bl, off, none⟩) n cap l) := HI.out.alloc _
      clear hN HI
      by_cases e1 : pm = m
      · have q1 : (pm == m) = true := by simp [e1]
        by_cases e2 : prr = r
        · have q2 : (prr == r) = true := by simp [e2]
          by_cases e3 : pb = b
          · have q3 : (pb == b) = true := by simp [e3]
            have HF : Hid (At l m r b k) := HYS.out (HKEY.out.2 ⟨e1, e2, e3⟩)
            clear e1 e2 e3
            go_wp2_with fail
            go_ret
            exact ⟨HI2.out.bel, .inl ⟨k, HF.out, rfl⟩⟩
          · have q3 : (pb == b) = false := by simp [e3]
            have HF : Hid (∀ i, i < k + 1 → ¬ (l.getD i pr0).key m r b) := HNX.out fun h => e3 (HKEY.out.1 h).2.2
            clear e1 e2 e3
            go_wp2_with fail
            go_roundw
            case rel => exact ⟨k + 1, by omega, by go_num, HF, HI2.out⟩
            case measure => simp [intOf]; omega
        · have q2 : (prr == r) = false := by simp [e2]
          have HF : Hid (∀ i, i < k + 1 → ¬ (l.getD i pr0).key m r b) := HNX.out fun h => e2 (HKEY.out.1 h).2.1
          clear e1 e2
          go_wp2_with fail
          go_roundw
          case rel => exact ⟨k + 1, by omega, by go_num, HF, HI2.out⟩
          case measure => simp [intOf]; omega
      · have q1 : (pm == m) = false := by simp [e1]
        have HF : Hid (∀ i, i < k + 1 → ¬ (l.getD i pr0).key m r b) := HNX.out fun h => e1 (HKEY.out.1 h).1
        clear e1
        go_wp2_with fail
        go_roundw
        case rel => exact ⟨k + 1, by omega, by go_num, HF, HI2.out⟩
        case measure => simp [intOf]; omega
    · obtain rfl : n = k := by omega
      have HF : Hid (No l m r b) := fun j hj => HA.out j (by rw [HL.out] at hj; exact hj)
      go_wp2_with fail
      go_ret
      exact ⟨HI.out.bel, .inr ⟨HF.out, rfl⟩⟩

end Go.Proofs.YtmpapnblpjnlmaaDoor.ora
