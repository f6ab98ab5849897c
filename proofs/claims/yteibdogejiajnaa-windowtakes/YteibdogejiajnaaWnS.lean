/- Windows: the document's own judging and taking. -/
import Derived.Test.YteibdogejiajnaaWnR
namespace Go.Proofs.Yteibdogejiajnaa.win
open Go.RowKit Go.Proofs.Yteibdogejiajnaa.irow
set_option maxRecDepth 100000
set_option linter.unusedVariables false

/-- Whether a window may be was told. -/
def MayPost (w : World) (h : Int) (b : Nat) (e : Ending) (w' : World) : Prop := ∃ r : Bool, e = .returned (.bool r) ∧ (r = true ↔ May h b) ∧ Below w.heap.size w w'
theorem MayPost.yes {w w' : World} {h : Int} {b : Nat} (hm : May h b) (hb : Below w.heap.size w w') : MayPost w h b (.returned (.bool true)) w' := ⟨true, rfl, by simp [hm], hb⟩
theorem MayPost.no {w w' : World} {h : Int} {b : Nat} (hm : ¬ May h b) (hb : Below w.heap.size w w') : MayPost w h b (.returned (.bool false)) w' := ⟨false, rfl, by simp [hm], hb⟩
theorem may_zero (b : Nat) : May 0 b ↔ b = 0 := by
  constructor
  · rintro (⟨_, h⟩ | ⟨h, _⟩)
    · exact h
    · omega
  · exact fun h => .inl ⟨rfl, h⟩
theorem may_out {h : Int} {b : Nat} (h0 : h ≠ 0) (h1 : h < 1 ∨ 1048575 < h) : ¬ May h b := by
  rintro (⟨h2, _⟩ | ⟨h2, h3, _⟩)
  · exact h0 h2
  · omega

set_option maxHeartbeats 2000000 in
theorem wmay_any (h : Int) (b : Nat) (w : World) (hb : b < 18446744073709551616) :
    Calls Try.prog 20 #[.agg #[.int .i64 h, .int .u64 (b : Int)]] w fun e w' => MayPost w h b e w' := by
  have hW := Blk.new w #[.int .i64 h, .int .u64 (b : Int)] 24
  have c0 := hW.cell 0
  have c1 := hW.cell 1
  have HB0 : Hid (Below w.heap.size w (w.alloc (.cells #[.int .i64 h, .int .u64 (b : Int)] 24))) := (Below.refl _ _).alloc (Nat.le_refl _) _
  by_cases h0 : h = 0
  · subst h0
    have hz : ((0 : Int) == 0) = true := by decide
    clear hW
    by_cases hb0 : b = 0
    · have hq : ((b : Int) == 0) = true := by simp; omega
      have HM : Hid (May 0 b) := (may_zero b).2 hb0
      clear hb0
      go_enter Try.func20, Try.ntmps20
      go_wp2_with fail
      go_ret
      exact MayPost.yes HM.out HB0.out
    · have hq : ((b : Int) == 0) = false := by simp; omega
      have HM : Hid (¬ May 0 b) := fun hm => hb0 ((may_zero b).1 hm)
      clear hb0
      go_enter Try.func20, Try.ntmps20
      go_wp2_with fail
      go_ret
      exact MayPost.no HM.out HB0.out
  · have hz : (h == 0) = false := by simp [h0]
    by_cases h1 : 1 ≤ h ∧ h ≤ 1048575
    · obtain ⟨h1, h2⟩ := h1
      have HI : Hid (∀ W, Calls Try.prog 21 #[.int .i64 h, .int .i64 1, .int .i64 1048575] W fun e w' => e = .returned (.bool true) ∧ w' = W) := fun W => in_yes _ _ _ W h1 h2
      have HME : Hid (∀ W, Calls Try.prog 22 #[.agg #[.int .i64 h, .int .u64 (b : Int)]] W fun e w' => GaveI W (mem h b 64) e w') := fun W => members_any h b W hb (by omega) h2
      have HMI : Hid (May h b ↔ 0 < (mem h b 64).length ∧ 1 ≤ (mem h b 64).getD 0 0 ∧ (mem h b 64).getD ((mem h b 64).length - 1) 0 = h) := may_iff h b h1 h2
      have HLN := mem_len h b 64
      have HWB : Hid (∀ W', Below (w.alloc (.cells #[.int .i64 h, .int .u64 (b : Int)] 24)).heap.size (w.alloc (.cells #[.int .i64 h, .int .u64 (b : Int)] 24)) W' → W'.cell? ⟨w.heap.size, 0, none⟩ = some (.int .i64 h)) := fun W' hb' => (hW.next hb').cell 0
      clear hW
      generalize mem h b 64 = l at *
      go_enter Try.func20, Try.ntmps20
      go_wp2_with fail
      refine (HI.out _).mono ?_
      rintro e w1 ⟨rfl, rfl⟩
      go_wp2_with fail
      refine (HME.out _).mono ?_
      rintro e w2 ⟨v, rfl, hv, hb2⟩
      obtain ⟨a, cap, rfl, hr, _, _⟩ := hv.row
      have d0 := HWB.out w2 hb2
      have HB2 : Hid (Below w.heap.size w w2) := bel_step HB0.out hb2
      obtain ⟨n, hn⟩ : ∃ n, l.length = n := ⟨_, rfl⟩
      rw [hn] at hr HMI HLN
      rw [hn]
      clear hv hb2 hn c0 c1 HWB
      cases n with
      | zero =>
        have HM : Hid (¬ May h b) := fun hm => by have := (HMI.out.1 hm).1; omega
        clear hr
        go_wp2_with fail
        go_quiet (fail)
        go_wp2_with fail
        go_ret
        exact MayPost.no HM.out (bel_drew HB2.out _)
      | succ m =>
        obtain ⟨bl, off, rfl, _, hc⟩ := hr.at (by omega)
        have g0 : w2.cell? ⟨bl, off, none⟩ = some (.int .i64 (l.getD 0 0)) := hc 0 (by omega)
        have g1 : w2.cell? ⟨bl, off + m, none⟩ = some (.int .i64 (l.getD m 0)) := hc m (by omega)
        have HMI' : Hid (May h b ↔ 1 ≤ l.getD 0 0 ∧ l.getD m 0 = h) := by
          show _ ↔ _
          rw [HMI.out, show m + 1 - 1 = m by omega]
          simp
        clear hc hr HMI
        generalize l.getD 0 0 = x at *
        generalize l.getD m 0 = y at *
        by_cases hx : 1 ≤ x
        · have dx : decide (1 ≤ x) = true := by simp [hx]
          by_cases hy : y = h
          · have dy : (y == h) = true := by simp [hy]
            have HM : Hid (May h b) := HMI'.out.2 ⟨hx, hy⟩
            clear hy HMI'
            go_wp2_with fail
            go_quiet (fail)
            go_wp2_with fail
            go_ret
            exact MayPost.yes HM.out (bel_drew HB2.out _)
          · have dy : (y == h) = false := by simp [hy]
            have HM : Hid (¬ May h b) := fun hm => hy (HMI'.out.1 hm).2
            clear hy HMI'
            go_wp2_with fail
            go_quiet (fail)
            go_wp2_with fail
            go_ret
            exact MayPost.no HM.out (bel_drew HB2.out _)
        · have dx : decide (1 ≤ x) = false := by simp [hx]
          have HM : Hid (¬ May h b) := fun hm => hx (HMI'.out.1 hm).1
          clear HMI'
          go_wp2_with fail
          go_quiet (fail)
          go_wp2_with fail
          go_ret
          exact MayPost.no HM.out (bel_drew HB2.out _)
    · have HI : Hid (∀ W, Calls Try.prog 21 #[.int .i64 h, .int .i64 1, .int .i64 1048575] W fun e w' => e = .returned (.bool false) ∧ w' = W) := fun W => in_no _ _ _ W (by omega)
      have HM : Hid (¬ May h b) := may_out h0 (by omega)
      clear h1 hW
      go_enter Try.func20, Try.ntmps20
      go_wp2_with fail
      refine (HI.out _).mono ?_
      rintro e w1 ⟨rfl, rfl⟩
      go_wp2_with fail
      go_ret
      exact MayPost.no HM.out HB0.out

/-- A number was judged. -/
def JudgePost (w : World) (h : Int) (b : Nat) (id : Int) (e : Ending) (w' : World) : Prop := ∃ c, e = .returned (.int .i64 c) ∧ JudgeIs h b id c ∧ Below w.heap.size w w'
theorem JudgePost.mk {w w' : World} {h : Int} {b : Nat} {id c : Int} (hj : JudgeIs h b id c) (hb : Below w.heap.size w w') : JudgePost w h b id (.returned (.int .i64 c)) w' := ⟨c, rfl, hj, hb⟩
theorem may_low {h : Int} {b : Nat} (hm : May h b) : 0 ≤ h ∧ h ≤ 1048575 := by
  rcases hm with ⟨h0, _⟩ | ⟨h1, h2, _⟩ <;> omega
set_option maxHeartbeats 2000000 in
theorem judged_any (h : Int) (b : Nat) (id : Int) (w : World) (hb : b < 18446744073709551616) :
    Calls Try.prog 10 #[.agg #[.int .i64 h, .int .u64 (b : Int)], .int .i64 id] w fun e w' => JudgePost w h b id e w' := by
  have HMY : Hid (∀ W, Calls Try.prog 20 #[.agg #[.int .i64 h, .int .u64 (b : Int)]] W fun e w' => MayPost W h b e w') := fun W => wmay_any h b W hb
  have hW := Blk.new w #[.int .i64 h, .int .u64 (b : Int)] 24
  have c0 := hW.cell 0
  have c1 := hW.cell 1
  have HB0 : Hid (Below w.heap.size w (w.alloc (.cells #[.int .i64 h, .int .u64 (b : Int)] 24))) := (Below.refl _ _).alloc (Nat.le_refl _) _
  have HWB : Hid (∀ W', Below (w.alloc (.cells #[.int .i64 h, .int .u64 (b : Int)] 24)).heap.size (w.alloc (.cells #[.int .i64 h, .int .u64 (b : Int)] 24)) W' → W'.cell? ⟨w.heap.size, 0, none⟩ = some (.int .i64 h) ∧ W'.cell? ⟨w.heap.size, 1, none⟩ = some (.int .u64 (b : Int))) := fun W' hb' => ⟨(hW.next hb').cell 0, (hW.next hb').cell 1⟩
  clear hW
  go_enter Try.func10, Try.ntmps10
  go_wp2_with fail
  refine (HMY.out _).mono ?_
  rintro e w1 ⟨r, rfl, hr, hb1⟩
  have HB1 : Hid (Below w.heap.size w w1) := bel_step HB0.out hb1
  obtain ⟨d0, d1⟩ := HWB.out w1 hb1
  clear hb1 c0 c1 HB0 HWB HMY
  cases r with
  | false =>
    have HM : Hid (¬ May h b) := fun hm => by have := hr.2 hm; cases this
    clear hr
    go_wp2_with fail
    go_ret
    exact JudgePost.mk (.inl ⟨HM.out, rfl⟩) HB1.out
  | true =>
    have HM : Hid (May h b) := hr.1 rfl
    clear hr
    by_cases hid : 1 ≤ id ∧ id ≤ 1048575
    · have HID : Hid (1 ≤ id ∧ id ≤ 1048575) := hid
      have HI : Hid (∀ W, Calls Try.prog 21 #[.int .i64 id, .int .i64 1, .int .i64 1048575] W fun e w' => e = .returned (.bool true) ∧ w' = W) := fun W => in_yes _ _ _ W hid.1 hid.2
      obtain ⟨i1, i2⟩ := hid
      obtain ⟨l1, l2⟩ := may_low HM.out
      by_cases hold : id ≤ h - 64
      · go_wp2_with fail
        refine (HI.out _).mono ?_
        rintro e w2 ⟨rfl, rfl⟩
        go_wp2_with fail
        go_ret
        exact JudgePost.mk (.inr (.inr (.inl ⟨HM.out, HID.out, hold, rfl⟩))) HB1.out
      · have HOL : Hid (¬ id ≤ h - 64) := hold
        have hd : decide (id ≤ h - 64) = false := by simp; omega
        have HME : Hid (∀ W, Calls Try.prog 22 #[.agg #[.int .i64 h, .int .u64 (b : Int)]] W fun e w' => GaveI W (mem h b 64) e w') := fun W => members_any h b W hb l1 l2
        have HY : Hid (id ∈ mem h b 64 → JudgeIs h b id 14) := fun hx => .inr (.inr (.inr (.inl ⟨HM.out, HID.out, hold, hx, rfl⟩)))
        have HN : Hid (id ∉ mem h b 64 → JudgeIs h b id 0) := fun hx => .inr (.inr (.inr (.inr ⟨HM.out, HID.out, hold, hx, rfl⟩)))
        have HLN := mem_len h b 64
        clear hold
        generalize mem h b 64 = l at *
        go_wp2_with fail
        refine (HI.out _).mono ?_
        rintro e w2 ⟨rfl, rfl⟩
        go_wp2_with fail
        refine (HME.out _).mono ?_
        rintro e w3 ⟨v, rfl, hv, hb3⟩
        have HB3 : Hid (Below w.heap.size w w3) := bel_step HB1.out hb3
        obtain ⟨a, cap, rfl, hrow, _, _⟩ := hv.row
        obtain ⟨n, hn⟩ : ∃ n, l.length = n := ⟨_, rfl⟩
        rw [hn] at hrow HLN
        rw [hn]
        have HR : Hid (RowN w3 a n l) := hrow
        have HN' : Hid (l.length = n) := hn
        clear hv hrow hb3 hn d0 d1 hd
        go_wp2_with fail
        go_loopw [6] (fun j wr => ∃ k : Nat, k ≤ n ∧ j = .int .i64 (k : Int) ∧ (∀ i, i < k → l.getD i 0 ≠ id) ∧ wr = w3) (fun j _ => n - (intOf j).toNat)
        case atStart => exact ⟨0, Nat.zero_le _, rfl, fun i hi => absurd hi (Nat.not_lt_zero _), rfl⟩
        case round =>
          obtain ⟨k, hk, rfl, hall, rfl⟩ := hrel
          have HA : Hid (∀ i, i < k → l.getD i 0 ≠ id) := hall
          clear hall
          by_cases hlt : k < n
          · obtain ⟨bl, off, rfl, _, hc⟩ := HR.out.at (by omega)
            have g1 := hc k hlt
            clear hc
            by_cases hx : l.getD k 0 = id
            · have HF : Hid (JudgeIs h b id 14) := HY.out (by rw [← hx]; exact getD_mem (by rw [HN'.out]; exact hlt))
              have hq : (l.getD k 0 == id) = true := by rw [hx]; exact beq_self_eq_true id
              clear hx HA
              generalize l.getD k 0 = x at *
              go_wp2_with fail
              go_ret
              exact JudgePost.mk HF.out HB3.out
            · have HA' : Hid (∀ i, i < k + 1 → l.getD i 0 ≠ id) := fun i hi => by
                by_cases e : i = k
                · subst e; exact hx
                · exact HA.out i (by omega)
              have hq : (l.getD k 0 == id) = false := by simp only [beq_eq_false_iff_ne, ne_eq]; exact hx
              clear hx HA
              generalize l.getD k 0 = x at g1 hq
              go_wp2_with fail
              go_roundw
              case rel => exact ⟨k + 1, by omega, by go_num, HA'.out, trivial⟩
              case measure => simp [intOf]; omega
          · obtain rfl : n = k := by omega
            have HF : Hid (JudgeIs h b id 0) := HN.out fun hm => by
              obtain ⟨i, hi, he⟩ := List.getElem_of_mem hm
              have hi' : i < n := by rw [← HN'.out]; exact hi
              refine HA.out i hi' ?_
              rw [List.getD_eq_getElem?_getD, List.getElem?_eq_getElem hi]; exact he
            go_wp2_with fail
            go_ret
            exact JudgePost.mk HF.out HB3.out
    · have HI : Hid (∀ W, Calls Try.prog 21 #[.int .i64 id, .int .i64 1, .int .i64 1048575] W fun e w' => e = .returned (.bool false) ∧ w' = W) := fun W => in_no _ _ _ W (by omega)
      have HID : Hid (¬ (1 ≤ id ∧ id ≤ 1048575)) := hid
      clear hid
      go_wp2_with fail
      refine (HI.out _).mono ?_
      rintro e w2 ⟨rfl, rfl⟩
      go_wp2_with fail
      go_ret
      exact JudgePost.mk (.inr (.inl ⟨HM.out, HID.out, rfl⟩)) HB1.out

end Go.Proofs.Yteibdogejiajnaa.win
