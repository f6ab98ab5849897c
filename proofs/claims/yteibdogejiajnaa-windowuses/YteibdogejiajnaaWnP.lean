/- The program's windows: judging, taking, telling which were taken. -/
import Derived.Test.YteibdogejiajnaaWnP0
import Derived.Test.YteibdogejiajnaaWnO
import Derived.Test.YteibdogejiajnaaWnQ2
import Derived.Test.YteibdogejiajnaaWnL
import Derived.Test.YteibdogejiajnaaWnOpen
namespace Go.Proofs.Yteibdogejiajnaa.win
open Go.RowKit Go.Proofs.Yteibdogejiajnaa.irow
set_option maxRecDepth 100000
set_option linter.unusedVariables false
set_option linter.unusedSimpArgs false

set_option maxHeartbeats 2000000 in
theorem pjudge (h : Int) (b : Nat) (id : Int) (w : World) (hb : b < 18446744073709551616) :
    Calls Try.prog 9 #[.agg #[.int .i64 h, .int .u64 (b : Int)], .int .i64 id] w fun e w' => JudgePost w h b id e w' := by
  have HMY : Hid (∀ W, Calls Try.prog 17 #[.agg #[.int .i64 h, .int .u64 (b : Int)]] W fun e w' => MayPost W h b e w') := fun W => maybe_any h b W hb
  have HX : Hid (Box w (w.alloc (.cells #[.int .i64 h, .int .u64 (b : Int)] 24)) h b) := Box.new w h b
  have c0 := HX.out.win.cell 0
  have c1 := HX.out.win.cell 1
  go_enter Try.func9, Try.ntmps9
  go_wp2_with fail
  refine (HMY.out _).mono ?_
  rintro e w1 ⟨r, rfl, hr, hb1⟩
  have HX1 : Hid (Box w w1 h b) := HX.out.next hb1
  clear hb1 c0 c1 HX HMY
  have c0 := HX1.out.win.cell 0
  have c1 := HX1.out.win.cell 1
  cases r with
  | false =>
    have HM : Hid (¬ May h b) := fun hm => by have := hr.2 hm; cases this
    clear hr
    go_wp2_with fail
    go_ret
    exact JudgePost.mk (.inl ⟨HM.out, rfl⟩) HX1.out.bel
  | true =>
    have HM : Hid (May h b) := hr.1 rfl
    clear hr
    obtain ⟨l1, l2⟩ := may_low HM.out
    by_cases h1 : id < 1
    · have HID : Hid (¬ (1 ≤ id ∧ id ≤ 1048575)) := fun hx => by omega
      go_wp2_with fail
      go_ret
      exact JudgePost.mk (.inr (.inl ⟨HM.out, HID.out, rfl⟩)) HX1.out.bel
    · have d1 : decide (id < 1) = false := by simp; omega
      by_cases h2 : 1048575 < id
      · have HID : Hid (¬ (1 ≤ id ∧ id ≤ 1048575)) := fun hx => by omega
        have d2 : decide (1048575 < id) = true := by simp [h2]
        go_wp2_with fail
        go_ret
        exact JudgePost.mk (.inr (.inl ⟨HM.out, HID.out, rfl⟩)) HX1.out.bel
      · have d2 : decide (1048575 < id) = false := by simp [h2]
        have HID : Hid (1 ≤ id ∧ id ≤ 1048575) := ⟨by omega, by omega⟩
        have HOLD : Hid (∀ W, Calls Try.prog 18 #[.agg #[.int .i64 h, .int .u64 (b : Int)]] W fun e w' => e = .returned (.int .i64 (h - 63)) ∧ Below W.heap.size W w') := fun W => oldest_any h b W l1 l2
        by_cases h3 : id ≤ h - 64
        · have d3 : decide (id < h - 63) = true := by simp; omega
          have H3 : Hid (id ≤ h - 64) := h3
          clear h1 h2 h3
          go_wp2_with fail
          refine (HOLD.out _).mono ?_
          rintro e w2 ⟨rfl, hb2⟩
          have HX2 : Hid (Box w w2 h b) := HX1.out.next hb2
          clear hb2 c0 c1 HX1
          go_wp2_with fail
          go_ret
          exact JudgePost.mk (.inr (.inr (.inl ⟨HM.out, HID.out, H3.out, rfl⟩))) HX2.out.bel
        · have d3 : decide (id < h - 63) = false := by simp; omega
          have H3 : Hid (¬ id ≤ h - 64) := h3
          have HTK : Hid (∀ W, Calls Try.prog 19 #[.agg #[.int .i64 h, .int .u64 (b : Int)], .int .i64 id] W fun e w' => e = .returned (.bool (decide (id ∈ mem h b 64))) ∧ Below W.heap.size W w') := fun W => taken_any h b id W hb h3
          have HC : Hid ((id ∈ mem h b 64 → JudgeIs h b id 14) ∧ (id ∉ mem h b 64 → JudgeIs h b id 0)) := ⟨fun hx => .inr (.inr (.inr (.inl ⟨HM.out, HID.out, h3, hx, rfl⟩))), fun hx => .inr (.inr (.inr (.inr ⟨HM.out, HID.out, h3, hx, rfl⟩)))⟩
          clear h1 h2 h3
          go_wp2_with fail
          refine (HOLD.out _).mono ?_
          rintro e w2 ⟨rfl, hb2⟩
          have HX2 : Hid (Box w w2 h b) := HX1.out.next hb2
          clear hb2 c0 c1 HX1
          have c0 := HX2.out.win.cell 0
          have c1 := HX2.out.win.cell 1
          go_wp2_with fail
          refine (HTK.out _).mono ?_
          rintro e w3 ⟨rfl, hb3⟩
          have HX3 : Hid (Box w w3 h b) := HX2.out.next hb3
          clear hb3 c0 c1 HX2
          by_cases h4 : id ∈ mem h b 64
          · have HF : Hid (JudgeIs h b id 14) := HC.out.1 h4
            rw [decide_eq_true h4]
            clear h4 HC HTK
            go_wp2_with fail
            go_ret
            exact JudgePost.mk HF.out HX3.out.bel
          · have HF : Hid (JudgeIs h b id 0) := HC.out.2 h4
            rw [decide_eq_false h4]
            clear h4 HC HTK
            go_wp2_with fail
            go_ret
            exact JudgePost.mk HF.out HX3.out.bel

set_option maxHeartbeats 2000000 in
theorem pused (h : Int) (b : Nat) (w : World) (hb : b < 18446744073709551616) :
    Calls Try.prog 13 #[.agg #[.int .i64 h, .int .u64 (b : Int)]] w fun e w' => UsedPost w h b e w' := by
  have HMY : Hid (∀ W, Calls Try.prog 17 #[.agg #[.int .i64 h, .int .u64 (b : Int)]] W fun e w' => MayPost W h b e w') := fun W => maybe_any h b W hb
  have HX : Hid (Box w (w.alloc (.cells #[.int .i64 h, .int .u64 (b : Int)] 24)) h b) := Box.new w h b
  have HS0 : Hid ((w.alloc (.cells #[.int .i64 h, .int .u64 (b : Int)] 24)).heap.size = w.heap.size + 1) := by show _ = _; simp
  have c0 := HX.out.win.cell 0
  have c1 := HX.out.win.cell 1
  go_enter Try.func13, Try.ntmps13
  go_wp2_with fail
  refine (HMY.out _).mono ?_
  rintro e w1 ⟨r, rfl, hr, hb1⟩
  have HX1 : Hid (Box w w1 h b) := HX.out.next hb1
  have HS1 : Hid (w.heap.size + 1 ≤ w1.heap.size) := by have := hb1.size; rw [HS0.out] at this; exact this
  clear hb1 c0 c1 HX HMY HS0
  have c0 := HX1.out.win.cell 0
  have c1 := HX1.out.win.cell 1
  cases r with
  | false =>
    have HM : Hid (¬ May h b) := fun hm => by have := hr.2 hm; cases this
    clear hr
    go_wp2_with fail
    go_ret2
    exact ⟨_, [], 5, rfl, Iw.zero _ _, HX1.out.bel, .inr ⟨HM.out, rfl, rfl⟩⟩
  | true =>
    have HM : Hid (May h b) := hr.1 rfl
    clear hr
    obtain ⟨l1, l2⟩ := may_low HM.out
    have HOLD : Hid (∀ W, Calls Try.prog 18 #[.agg #[.int .i64 h, .int .u64 (b : Int)]] W fun e w' => e = .returned (.int .i64 (h - 63)) ∧ Below W.heap.size W w') := fun W => oldest_any h b W l1 l2
    have HTK : Hid (∀ W k, k < 64 → Calls Try.prog 19 #[.agg #[.int .i64 h, .int .u64 (b : Int)], .int .i64 (h - 63 + ((k : Nat) : Int))] W fun e w' => e = .returned (.bool (b.testBit (63 - k))) ∧ Below W.heap.size W w') := fun W k hk => taken_in h b (63 - k) _ W hb (by omega) (by omega)
    clear hb
    go_wp2_with fail
    refine (HOLD.out _).mono ?_
    rintro e w2 ⟨rfl, hb2⟩
    have HX2 : Hid (Box w w2 h b) := HX1.out.next hb2
    have HS2 : Hid (w.heap.size + 1 ≤ w2.heap.size) := Nat.le_trans HS1.out hb2.size
    clear hb2 c0 c1 HX1 HS1 HOLD
    go_wp2_with fail
    go_loopw [4, 5] (fun v j wr => ∃ (k : Nat) (V : Value), V = v ∧ k ≤ 64 ∧ j = .int .i64 (h - 63 + (k : Int)) ∧ Iw wr w2.heap.size V (mem h b k) ∧ Below w2.heap.size w2 wr) (fun _ j _ => (h + 1 - intOf j).toNat)
    case atStart => exact ⟨0, _, rfl, Nat.zero_le _, by simp, Iw.zero _ _, Below.refl _ _⟩
    case round =>
      obtain ⟨k, V, hV, hk, rfl, hown, hbr⟩ := hrel
      subst hV
      have HO : Hid (Iw wr w2.heap.size V (mem h b k)) := hown
      have HB : Hid (Below w2.heap.size w2 wr) := hbr
      have HXr : Hid (Box w wr h b) := HX2.out.next hbr
      clear hown hbr
      have c0 := HXr.out.win.cell 0
      have c1 := HXr.out.win.cell 1
      by_cases hlt : k < 64
      · have hle : h - 63 + (k : Int) ≤ h := by omega
        have HTB := fun W => HTK.out W k hlt
        have HTB' : Hid (∀ W, Calls Try.prog 19 #[.agg #[.int .i64 h, .int .u64 (b : Int)], .int .i64 (h - 63 + (k : Int))] W fun e w' => e = .returned (.bool (b.testBit (63 - k))) ∧ Below W.heap.size W w') := HTB
        clear HTB
        cases hbit : b.testBit (63 - k) with
        | true =>
          rw [hbit] at HTB'
          have HD : Hid (mem h b k ++ [h - 63 + (k : Int)] = mem h b (k + 1)) := by
            show _ = _
            rw [mem_yes hbit, show h - ((63 - k : Nat) : Int) = h - 63 + (k : Int) by omega]
          have HLN : Hid ((mem h b k).length ≤ 1000000) := by have := mem_len h b k; show _ ≤ _; omega
          clear hbit
          generalize mem h b k = ms at *
          go_wp2_with fail
          refine (HTB'.out _).mono ?_
          rintro e w5 ⟨rfl, hb5⟩
          have HO5 : Hid (Iw w5 w2.heap.size V ms) := HO.out.next hb5
          have HB5 : Hid (Below w2.heap.size w2 w5) := bel_step HB.out hb5
          clear hb5 c0 c1 HO HB HTB'
          have HG : Hid ((w5.alloc (.cells #[.int .i64 (h - 63 + (k : Int))] 3)).cell? ⟨w5.heap.size, 0, none⟩ = some (.int .i64 (h - 63 + (k : Int)))) := num_cell w5 _
          have HOA : Hid (Iw (w5.alloc (.cells #[.int .i64 (h - 63 + (k : Int))] 3)) w2.heap.size V ms) := HO5.out.alloc _
          have HSZ : Hid (w2.heap.size ≤ (w5.alloc (.cells #[.int .i64 (h - 63 + (k : Int))] 3)).heap.size) := ialloc_le HB5.out.size _
          go_wp2_with (first
            | (at_builtin; refine wp_num rfl _ _ rfl w2.heap.size w5.heap.size _ ms (h - 63 + (k : Int)) rfl rfl HOA.out HG.out HLN.out HSZ.out ?_)
            | go_in)
          intro v' w4 hL4 hg4
          have HL4 : Hid (Iw w4 w2.heap.size v' (mem h b (k + 1))) := by have := HD.out; rw [this] at hL4; exact hL4
          have HB4 : Hid (Below w2.heap.size w2 w4) := iown_bel HOA.out hg4 (HB5.out.alloc HB5.out.size _) (Nat.le_refl _) HSZ.out
          clear hL4 hg4 HOA HO5 HB5 HG HSZ HD
          go_wp2_with fail
          go_roundw
          case rel => exact ⟨k + 1, _, rfl, by omega, by go_num, HL4.out, HB4.out⟩
          case measure => simp [intOf]; omega
        | false =>
          rw [hbit] at HTB'
          have HD : Hid (mem h b (k + 1) = mem h b k) := mem_no hbit
          clear hbit
          go_wp2_with fail
          refine (HTB'.out _).mono ?_
          rintro e w5 ⟨rfl, hb5⟩
          have HO5 : Hid (Iw w5 w2.heap.size V (mem h b k)) := HO.out.next hb5
          have HB5 : Hid (Below w2.heap.size w2 w5) := bel_step HB.out hb5
          clear hb5 c0 c1 HO HB HTB'
          go_wp2_with fail
          go_roundw
          case rel => exact ⟨k + 1, _, rfl, by omega, by go_num, by rw [HD.out]; exact HO5.out, HB5.out⟩
          case measure => simp [intOf]; omega
      · obtain rfl : k = 64 := by omega
        have hnle : ¬ (h - 63 + ((64 : Nat) : Int) ≤ h) := by omega
        have hdl : decide (h - 63 + ((64 : Nat) : Int) ≤ h) = false := by simp only [decide_eq_false_iff_not]; exact hnle
        have HF : Hid (Iw wr w.heap.size V (mem h b 64) ∧ Below w.heap.size w wr) := ⟨HO.out.low HX2.out.bel.size, bel_step HX2.out.bel HB.out⟩
        go_wp2_with fail
        go_ret2
        exact ⟨_, _, 0, rfl, HF.out.1, HF.out.2, .inl ⟨HM.out, rfl, rfl⟩⟩

theorem took_low {h : Int} {b : Nat} {id : Int} (hb : b < 2 ^ 64) (h1 : id < h) (h2 : ¬ id ≤ h - 64) (hn : id ∉ mem h b 64) : took h b id = b ||| 2 ^ (h - id).toNat := by
  have hk : 2 ^ (h - id).toNat < 2 ^ 64 := Nat.pow_lt_pow_right (by decide) (by omega)
  refine bits_ext (took_lt hn) (Nat.or_lt_two_pow hb hk) fun t ht => ?_
  rw [took_bit hn t ht, Nat.testBit_or, Nat.testBit_two_pow, show max h id = h by omega]
  have e1 : (h - (t : Int) ∈ mem h b 64) ↔ b.testBit t = true := by
    rw [mem_all, show (h - (h - (t : Int))).toNat = t by omega]
    exact ⟨fun hx => hx.2.2, fun hx => ⟨by omega, by omega, hx⟩⟩
  have e2 : (h - (t : Int) = id) ↔ ((h - id).toNat = t) := by omega
  rw [Bool.eq_iff_iff, decide_eq_true_eq, Bool.or_eq_true, decide_eq_true_eq, e1, e2]
theorem took_high {h : Int} {b : Nat} {id : Int} (hb : b < 2 ^ 64) (h1 : h < id) (hn : id ∉ mem h b 64) : took h b id = b * 2 ^ min (id - h).toNat 64 % 2 ^ 64 ||| 1 := by
  have hk : b * 2 ^ min (id - h).toNat 64 % 2 ^ 64 < 2 ^ 64 := Nat.mod_lt _ (by decide)
  refine bits_ext (took_lt hn) (Nat.or_lt_two_pow hk (by decide)) fun t ht => ?_
  rw [took_bit hn t ht, Nat.testBit_or, Nat.testBit_mod_two_pow, Nat.testBit_mul_two_pow, show max h id = id by omega, decide_eq_true ht, Bool.true_and]
  have e2 : (id - (t : Int) = id) ↔ Nat.testBit 1 t = true := by
    rw [show (1 : Nat) = 2 ^ 0 from rfl, Nat.testBit_two_pow, decide_eq_true_eq]; omega
  have e1 : (id - (t : Int) ∈ mem h b 64) ↔ (decide (min (id - h).toNat 64 ≤ t) && b.testBit (t - min (id - h).toNat 64)) = true := by
    rw [mem_all, Bool.and_eq_true, decide_eq_true_eq]
    constructor
    · rintro ⟨a1, a2, a3⟩
      have e : min (id - h).toNat 64 = (id - h).toNat := by omega
      refine ⟨by omega, ?_⟩
      rw [e, show t - (id - h).toNat = (h - (id - (t : Int))).toNat by omega]; exact a3
    · rintro ⟨a1, a2⟩
      have e : min (id - h).toNat 64 = (id - h).toNat := by omega
      refine ⟨by omega, by omega, ?_⟩
      rw [show (h - (id - (t : Int))).toNat = t - (id - h).toNat by omega, ← e]; exact a2
  rw [Bool.eq_iff_iff, decide_eq_true_eq, Bool.or_eq_true, e1, e2]
theorem low_put {h : Int} {b : Nat} {id : Int} (hb : b < 2 ^ 64) (h1 : id < h) (h2 : ¬ id ≤ h - 64) (hn : id ∉ mem h b 64) :
    ∃ D : Int, Op.shift .shl .u64 1 .i64 (h - id) = pure (.int .u64 D) ∧ bits .or .u64 (b : Int) D = ((took h b id : Nat) : Int) := by
  have hk : 2 ^ (h - id).toNat < 2 ^ 64 := Nat.pow_lt_pow_right (by decide) (by omega)
  refine ⟨((2 ^ (h - id).toNat : Nat) : Int), ?_, ?_⟩
  · have := shl_any 1 (h - id) (by omega)
    rw [show min (h - id).toNat 64 = (h - id).toNat by omega] at this
    have e : IntKind.u64.wrap (((1 : Nat) : Int) * 2 ^ (h - id).toNat) = ((2 ^ (h - id).toNat : Nat) : Int) := by
      rw [show (((1 : Nat) : Int) * 2 ^ (h - id).toNat) = ((2 ^ (h - id).toNat : Nat) : Int) by simp, IntKind.wrap_u64]
      generalize 2 ^ (h - id).toNat = X at hk ⊢
      omega
    rw [e] at this
    exact this
  · rw [or64 _ _ hb hk, took_low hb h1 h2 hn]
theorem high_put {h : Int} {b : Nat} {id : Int} (hb : b < 2 ^ 64) (h1 : h < id) (hn : id ∉ mem h b 64) :
    ∃ D : Int, Op.shift .shl .u64 (b : Int) .i64 (id - h) = pure (.int .u64 D) ∧ bits .or .u64 D 1 = ((took h b id : Nat) : Int) := by
  refine ⟨((b * 2 ^ min (id - h).toNat 64 % 2 ^ 64 : Nat) : Int), ?_, ?_⟩
  · have := shl_any b (id - h) (by omega)
    have e : IntKind.u64.wrap ((b : Int) * 2 ^ min (id - h).toNat 64) = ((b * 2 ^ min (id - h).toNat 64 % 2 ^ 64 : Nat) : Int) := by
      rw [show ((b : Int) * 2 ^ min (id - h).toNat 64) = ((b * 2 ^ min (id - h).toNat 64 : Nat) : Int) by simp, IntKind.wrap_u64]
      omega
    rw [e] at this
    exact this
  · have := or64 (b * 2 ^ min (id - h).toNat 64 % 2 ^ 64) 1 (Nat.mod_lt _ (by decide)) (by decide)
    rw [← took_high hb h1 hn] at this
    exact this

set_option maxHeartbeats 4000000 in
theorem ptake (h : Int) (b : Nat) (id : Int) (w : World) (hb : b < 18446744073709551616) :
    Calls Try.prog 11 #[.agg #[.int .i64 h, .int .u64 (b : Int)], .int .i64 id] w fun e w' => TakePost w h b id e w' := by
  have HJ : Hid (∀ W, Calls Try.prog 9 #[.agg #[.int .i64 h, .int .u64 (b : Int)], .int .i64 id] W fun e w' => JudgePost W h b id e w') := fun W => pjudge h b id W hb
  have HX : Hid (Bxs w ((w.alloc (.cells #[.int .i64 h, .int .u64 (b : Int)] 24)).alloc (.cells #[.int .i64 0, .int .u64 0] 24)) h b) := Bxs.new w h b
  have c0 := HX.out.inn.cell 0
  have c1 := HX.out.inn.cell 1
  go_enter Try.func11, Try.ntmps11
  go_wp2_with fail
  refine (HJ.out _).mono ?_
  rintro e w1 ⟨c, rfl, hj, hb1⟩
  have HX1 : Hid (Bxs w w1 h b) := HX.out.next hb1
  have HJI : Hid (JudgeIs h b id c) := hj
  clear hb1 hj c0 c1 HX HJ
  have d0 := HX1.out.inn.cell 0
  have d1 := HX1.out.inn.cell 1
  have z0 := HX1.out.out.cell 0
  have z1 := HX1.out.out.cell 1
  have y0 := HX1.out.out.free 0
  have y1 := HX1.out.out.free 1
  by_cases hc : c = 0
  · subst hc
    have hin : May h b ∧ (1 ≤ id ∧ id ≤ 1048575) ∧ ¬ id ≤ h - 64 ∧ id ∉ mem h b 64 := by
      rcases HJI.out with ⟨_, h⟩ | ⟨_, _, h⟩ | ⟨_, _, _, h⟩ | ⟨_, _, _, _, h⟩ | ⟨a1, a2, a3, a4, _⟩
      · exact absurd h (by decide)
      · exact absurd h (by decide)
      · exact absurd h (by decide)
      · exact absurd h (by decide)
      · exact ⟨a1, a2, a3, a4⟩
    obtain ⟨hm, ⟨i1, i2⟩, h3, hnm⟩ := hin
    obtain ⟨l1, l2⟩ := may_low hm
    by_cases hlt : id < h
    · obtain ⟨D, hs, ho⟩ := low_put hb hlt h3 hnm
      have HTK : Hid (h = max h id) := by show _ = _; omega
      obtain ⟨N, hN⟩ : ∃ N, took h b id = N := ⟨_, rfl⟩
      have HN : Hid (N = took h b id) := hN.symm
      rw [hN] at ho
      have y2 := HX1.out.inn.free 1
      have x1 := HX1.out.inn.set 1 (.int .u64 (N : Int))
      have x2 : Blk (w1.setCell ⟨w.heap.size, 1, none⟩ (.int .u64 (N : Int))) (w.heap.size + 1) #[.int .i64 0, .int .u64 0] 24 := HX1.out.out.other 1 _ (by omega)
      clear hm hnm hN h3
      go_wp2_with fail
      go_region
      have HP : Hid (Blk (w1.setCell ⟨w.heap.size, 1, none⟩ (.int .u64 (N : Int))).drew w.heap.size #[.int .i64 h, .int .u64 (N : Int)] 24) := x1
      have HQ : Hid (Blk (w1.setCell ⟨w.heap.size, 1, none⟩ (.int .u64 (N : Int))).drew (w.heap.size + 1) #[.int .i64 0, .int .u64 0] 24) := x2
      have HR : Hid (Below w.heap.size w (w1.setCell ⟨w.heap.size, 1, none⟩ (.int .u64 (N : Int))).drew) := bel_drew (bel_set HX1.out.bel w.heap.size 1 (.int .u64 (N : Int)) (Nat.le_refl _)) 1
      clear x1 x2 HX1 y2 d0 d1 z0 z1 y0 y1 hs ho
      generalize (w1.setCell ⟨w.heap.size, 1, none⟩ (.int .u64 (N : Int))).drew = W2 at *
      have d0 := HP.out.cell 0
      have d1 := HP.out.cell 1
      have z0 := HQ.out.cell 0
      have z1 := HQ.out.cell 1
      have y0 := HQ.out.free 0
      have y1 := HQ.out.free 1
      have HXX := (HQ.out.set 0 (.int .i64 h)).set 1 (.int .u64 (N : Int))
      have R0 : Hid (_ = _) := HXX.cell 0
      have R1 : Hid (_ = _) := HXX.cell 1
      have HB : Hid (Below w.heap.size w ((W2.setCell ⟨w.heap.size + 1, 0, none⟩ (.int .i64 h)).setCell ⟨w.heap.size + 1, 1, none⟩ (.int .u64 (N : Int)))) := bel_set (bel_set HR.out _ _ _ (Nat.le_succ _)) _ _ _ (Nat.le_succ _)
      clear HXX HP HQ HR
      go_wp2_with fail
      exact bodyPost_ret (v := .tuple #[.agg #[.int .i64 h, .int .u64 (N : Int)], .int .i64 0]) (by simp [results, Try.results11, R0.out, R1.out, go_sem]) rfl ⟨h, N, 0, rfl, HJI.out, fun h => absurd rfl h, fun _ => ⟨HTK.out, HN.out⟩, HB.out⟩
    · have hgt : h < id := by
        rcases hm with ⟨hx, _⟩ | ⟨_, _, hx, _⟩
        · omega
        · by_cases e : h < id
          · exact e
          · exfalso
            have e' : id = h := by omega
            exact hnm ((mem_all h b id).2 ⟨by omega, by omega, by rw [e', Int.sub_self]; exact hx⟩)
      obtain ⟨D, hs, ho⟩ := high_put hb hgt hnm
      have HTK : Hid (id = max h id) := by show _ = _; omega
      obtain ⟨N, hN⟩ : ∃ N, took h b id = N := ⟨_, rfl⟩
      have HN : Hid (N = took h b id) := hN.symm
      rw [hN] at ho
      have HXX := (HX1.out.out.set 0 (.int .i64 id)).set 1 (.int .u64 (N : Int))
      have R0 : Hid (_ = _) := HXX.cell 0
      have R1 : Hid (_ = _) := HXX.cell 1
      have HB : Hid (Below w.heap.size w ((w1.setCell ⟨w.heap.size + 1, 0, none⟩ (.int .i64 id)).setCell ⟨w.heap.size + 1, 1, none⟩ (.int .u64 (N : Int)))) := bel_set (bel_set HX1.out.bel _ _ _ (Nat.le_succ _)) _ _ _ (Nat.le_succ _)
      have dl : decide (id < h) = false := by simp; omega
      clear HXX hm hnm hN h3 hlt
      go_wp2_with fail
      exact bodyPost_ret (v := .tuple #[.agg #[.int .i64 id, .int .u64 (N : Int)], .int .i64 0]) (by simp [results, Try.results11, R0.out, R1.out, go_sem]) rfl ⟨id, N, 0, rfl, HJI.out, fun h => absurd rfl h, fun _ => ⟨HTK.out, HN.out⟩, HB.out⟩
  · have HNZ : Hid (c ≠ 0) := hc
    have hq : (c != 0) = true := by simp [hc]
    have HXX := (HX1.out.out.set 0 (.int .i64 0)).set 1 (.int .u64 0)
    have R0 : Hid (_ = _) := HXX.cell 0
    have R1 : Hid (_ = _) := HXX.cell 1
    have HB : Hid (Below w.heap.size w ((w1.setCell ⟨w.heap.size + 1, 0, none⟩ (.int .i64 0)).setCell ⟨w.heap.size + 1, 1, none⟩ (.int .u64 0))) := bel_set (bel_set HX1.out.bel _ _ _ (Nat.le_succ _)) _ _ _ (Nat.le_succ _)
    clear HXX HX1 hc
    go_wp2_with fail
    exact bodyPost_ret (v := .tuple #[.agg #[.int .i64 0, .int .u64 0], .int .i64 c]) (by simp [results, Try.results11, R0.out, R1.out, go_sem]) rfl ⟨0, 0, c, rfl, HJI.out, fun _ => ⟨rfl, rfl⟩, fun h => absurd h HNZ.out, HB.out⟩
theorem wkit : WKit := ⟨fun W h b id hb => ptake h b id W hb, fun W h b id hb => pjudge h b id W hb, fun W h b hb => pused h b W hb⟩

end Go.Proofs.Yteibdogejiajnaa.win
