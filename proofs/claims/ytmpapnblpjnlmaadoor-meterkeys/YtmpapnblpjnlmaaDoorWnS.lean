/- Windows: what the document judges. -/
import Derived.Test.YtmpapnblpjnlmaaDoorWnS0
namespace Go.Proofs.YtmpapnblpjnlmaaDoor.win
open Go.RowKit Go.Proofs.YtmpapnblpjnlmaaDoor.irow
set_option maxRecDepth 100000
set_option linter.unusedVariables false

set_option maxHeartbeats 2000000 in
theorem judged_any (h : Int) (b : Nat) (id : Int) (w : World) (hb : b < 18446744073709551616) :
    Calls Tryd.prog 26 #[.agg #[.int .i64 h, .int .u64 (b : Int)], .int .i64 id] w fun e w' => JudgePost w h b id e w' := by
  have HMY : Hid (∀ W, Calls Tryd.prog 22 #[.agg #[.int .i64 h, .int .u64 (b : Int)]] W fun e w' => MayPost W h b e w') := fun W => wmay_any h b W hb
  have hW := Blk.new w #[.int .i64 h, .int .u64 (b : Int)] 24
  have c0 := hW.cell 0
  have c1 := hW.cell 1
  have HB0 : Hid (Below w.heap.size w (w.alloc (.cells #[.int .i64 h, .int .u64 (b : Int)] 24))) := (Below.refl _ _).alloc (Nat.le_refl _) _
  have HWB : Hid (∀ W', Below (w.alloc (.cells #[.int .i64 h, .int .u64 (b : Int)] 24)).heap.size (w.alloc (.cells #[.int .i64 h, .int .u64 (b : Int)] 24)) W' → W'.cell? ⟨w.heap.size, 0, none⟩ = some (.int .i64 h) ∧ W'.cell? ⟨w.heap.size, 1, none⟩ = some (.int .u64 (b : Int))) := fun W' hb' => ⟨(hW.next hb').cell 0, (hW.next hb').cell 1⟩
  clear hW
  go_enter Tryd.func26, Tryd.ntmps26
  go_wp2_with fail
  refine (HMY.out _).mono ?_
  rintro e w1 ⟨r, rfl, hr, hb1⟩
  have HB1 : Hid (Below w.heap.size w w1) := bel_step HB0.out hb1
  obtain ⟨d0, d1⟩ := HWB.out w1 hb1
  clear hb1 c0 c1 HB0 HWB HMY
  cases r with
  | false =>
    have HM : Hid (¬ May h b) := fun hm => by have := hr.2 hm; cases this
    clear hr
    go_wp2_with fail
    go_ret
    exact JudgePost.mk (.inl ⟨HM.out, rfl⟩) HB1.out
  | true =>
    have HM : Hid (May h b) := hr.1 rfl
    clear hr
    by_cases hid : 1 ≤ id ∧ id ≤ 1048575
    · have HID : Hid (1 ≤ id ∧ id ≤ 1048575) := hid
      have HI : Hid (∀ W, Calls Tryd.prog 21 #[.int .i64 id, .int .i64 1, .int .i64 1048575] W fun e w' => e = .returned (.bool true) ∧ w' = W) := fun W => in_yes _ _ _ W hid.1 hid.2
      obtain ⟨i1, i2⟩ := hid
      obtain ⟨l1, l2⟩ := may_low HM.out
      by_cases hold : id ≤ h - 64
      · go_wp2_with fail
        refine (HI.out _).mono ?_
        rintro e w2 ⟨rfl, rfl⟩
        go_wp2_with fail
        go_ret
        exact JudgePost.mk (.inr (.inr (.inl ⟨HM.out, HID.out, hold, rfl⟩))) HB1.out
      · have HOL : Hid (¬ id ≤ h - 64) := hold
        have hd : decide (id ≤ h - 64) = false := by simp; omega
        have HME : Hid (∀ W, Calls Tryd.prog 27 #[.agg #[.int .i64 h, .int .u64 (b : Int)]] W fun e w' => GaveI W (mem h b 64) e w') := fun W => members_any h b W hb l1 l2
        have HY : Hid (id ∈ mem h b 64 → JudgeIs h b id 14) := fun hx => .inr (.inr (.inr (.inl ⟨HM.out, HID.out, hold, hx, rfl⟩)))
        have HN : Hid (id ∉ mem h b 64 → JudgeIs h b id 0) := fun hx => .inr (.inr (.inr (.inr ⟨HM.out, HID.out, hold, hx, rfl⟩)))
        have HLN := mem_len h b 64
        clear hold
        generalize mem h b 64 = l at *
        go_wp2_with fail
        refine (HI.out _).mono ?_
        rintro e w2 ⟨rfl, rfl⟩
        go_wp2_with fail
        refine (HME.out _).mono ?_
        rintro e w3 ⟨v, rfl, hv, hb3⟩
        have HB3 : Hid (Below w.heap.size w w3) := bel_step HB1.out hb3
        obtain ⟨a, cap, rfl, hrow, _, _⟩ := hv.row
        obtain ⟨n, hn⟩ : ∃ n, l.length = n := ⟨_, rfl⟩
        rw [hn] at hrow HLN
        rw [hn]
        have HR : Hid (RowN w3 a n l) := hrow
        have HN' : Hid (l.length = n) := hn
        clear hv hrow hb3 hn d0 d1 hd
        go_wp2_with fail
        go_loopw [6] (fun j wr => ∃ k : Nat, k ≤ n ∧ j = .int .i64 (k : Int) ∧ (∀ i, i < k → l.getD i 0 ≠ id) ∧ wr = w3) (fun j _ => n - (intOf j).toNat)
        case atStart => exact ⟨0, Nat.zero_le _, rfl, fun i hi => absurd hi (Nat.not_lt_zero _), rfl⟩
        case round =>
          obtain ⟨k, hk, rfl, hall, rfl⟩ := hrel
          have HA : Hid (∀ i, i < k → l.getD i 0 ≠ id) := hall
          clear hall
          by_cases hlt : k < n
          · obtain ⟨bl, off, rfl, _, hc⟩ := HR.out.at (by omega)
            have g1 := hc k hlt
            clear hc
            by_cases hx : l.getD k 0 = id
            · have HF : Hid (JudgeIs h b id 14) := HY.out (by rw [← hx]; exact getD_mem (by rw [HN'.out]; exact hlt))
              have hq : (l.getD k 0 == id) = true := by rw [hx]; exact beq_self_eq_true id
              clear hx HA
              generalize l.getD k 0 = x at *
              go_wp2_with fail
              go_ret
              exact JudgePost.mk HF.out HB3.out
            · have HA' : Hid (∀ i, i < k + 1 → l.getD i 0 ≠ id) := fun i hi => by
                by_cases e : i = k
                · subst e; exact hx
                · exact HA.out i (by omega)
              have hq : (l.getD k 0 == id) = false := by simp only [beq_eq_false_iff_ne, ne_eq]; exact hx
              clear hx HA
              generalize l.getD k 0 = x at g1 hq
              go_wp2_with fail
              go_roundw
              case rel => exact ⟨k + 1, by omega, by go_num, HA'.out, trivial⟩
              case measure => simp [intOf]; omega
          · obtain rfl : n = k := by omega
            have HF : Hid (JudgeIs h b id 0) := HN.out fun hm => by
              obtain ⟨i, hi, he⟩ := List.getElem_of_mem hm
              have hi' : i < n := by rw [← HN'.out]; exact hi
              refine HA.out i hi' ?_
              rw [List.getD_eq_getElem?_getD, List.getElem?_eq_getElem hi]; exact he
            go_wp2_with fail
            go_ret
            exact JudgePost.mk HF.out HB3.out
    · have HI : Hid (∀ W, Calls Tryd.prog 21 #[.int .i64 id, .int .i64 1, .int .i64 1048575] W fun e w' => e = .returned (.bool false) ∧ w' = W) := fun W => in_no _ _ _ W (by omega)
      have HID : Hid (¬ (1 ≤ id ∧ id ≤ 1048575)) := hid
      clear hid
      go_wp2_with fail
      refine (HI.out _).mono ?_
      rintro e w2 ⟨rfl, rfl⟩
      go_wp2_with fail
      go_ret
      exact JudgePost.mk (.inr (.inl ⟨HM.out, HID.out, rfl⟩)) HB1.out

end Go.Proofs.YtmpapnblpjnlmaaDoor.win
