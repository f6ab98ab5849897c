/- The program's windows: the oldest number, whether one was taken, and whether a window may be. -/
import Derived.Test.YtnhidiefchamlaaDoorWnJd
import Derived.Laws.Bits64
import Derived.Laws.StructEq
namespace Go.Proofs.YtnhidiefchamlaaDoor.win
open Go.RowKit
set_option maxRecDepth 100000
set_option linter.unusedVariables false
set_option linter.unusedSimpArgs false

theorem ofInt64 (a : Nat) (h : a < 2 ^ 64) : (BitVec.ofInt 64 (a : Int)).toNat = a := by
  rw [BitVec.ofInt_natCast, BitVec.toNat_ofNat]; exact Nat.mod_eq_of_lt h
theorem and64 (a b : Nat) (ha : a < 2 ^ 64) (hb : b < 2 ^ 64) : bits .and .u64 (a : Int) (b : Int) = ((a &&& b : Nat) : Int) := by
  have h : a &&& b < 2 ^ 64 := Nat.and_lt_two_pow a hb
  show IntKind.u64.wrap ((BitVec.ofInt 64 (a : Int) &&& BitVec.ofInt 64 (b : Int)).toNat : Int) = _
  rw [BitVec.toNat_and, ofInt64 a ha, ofInt64 b hb, IntKind.wrap_u64]
  omega
theorem or64 (a b : Nat) (ha : a < 2 ^ 64) (hb : b < 2 ^ 64) : bits .or .u64 (a : Int) (b : Int) = ((a ||| b : Nat) : Int) := by
  have h := Nat.or_lt_two_pow ha hb
  show IntKind.u64.wrap ((BitVec.ofInt 64 (a : Int) ||| BitVec.ofInt 64 (b : Int)).toNat : Int) = _
  rw [BitVec.toNat_or, ofInt64 a ha, ofInt64 b hb, IntKind.wrap_u64]
  omega
theorem and_one (x : Nat) (hx : x < 2 ^ 64) : bits .and .u64 (x : Int) 1 = ((x % 2 : Nat) : Int) := by
  have := and64 x 1 hx (by decide)
  rw [Nat.and_one_is_mod] at this
  exact this
theorem bit_told (b k : Nat) (hb : b < 2 ^ 64) : (bits .and .u64 ((b : Int) / 2 ^ k) 1 == 1) = b.testBit k := by
  have e : (b : Int) / 2 ^ k = ((b / 2 ^ k : Nat) : Int) := by simp
  rw [e, and_one _ (Nat.lt_of_le_of_lt (Nat.div_le_self _ _) hb), bit_at]
  by_cases h : b / 2 ^ k % 2 = 1
  · rw [h]; rfl
  · rw [show b / 2 ^ k % 2 = 0 by omega]; rfl
theorem low_told (b : Nat) (hb : b < 2 ^ 64) : (bits .and .u64 (b : Int) 1 == 1) = b.testBit 0 := by
  have := bit_told b 0 hb
  rw [show ((b : Int) / 2 ^ 0) = (b : Int) by simp] at this
  exact this
theorem may_bits {h : Int} {b : Nat} (h1 : 1 ≤ h) (h2 : h ≤ 1048575) (hb : b < 2 ^ 64) : May h b ↔ b.testBit 0 = true ∧ (b : Int) / 2 ^ min h.toNat 64 = 0 := by
  obtain ⟨n, rfl⟩ := Int.eq_ofNat_of_zero_le (show 0 ≤ h by omega)
  have e : (b : Int) / 2 ^ min n 64 = ((b / 2 ^ min n 64 : Nat) : Int) := by simp
  rw [Int.toNat_natCast, e]
  constructor
  · rintro (⟨h0, _⟩ | ⟨_, _, h3, h4⟩)
    · omega
    · refine ⟨h3, ?_⟩
      have hz : b / 2 ^ min n 64 = 0 := Nat.eq_of_testBit_eq fun j => by
        rw [Nat.testBit_div_two_pow, Nat.zero_testBit]
        by_cases hj : j + min n 64 < 64
        · cases e : b.testBit (j + min n 64) with
          | false => rfl
          | true => have := h4 _ hj e; exfalso; omega
        · exact Nat.testBit_lt_two_pow (Nat.lt_of_lt_of_le hb (Nat.pow_le_pow_right (by decide) (by omega)))
      rw [hz]; rfl
  · rintro ⟨h3, h4⟩
    refine .inr ⟨h1, h2, h3, fun i hi ht => ?_⟩
    by_cases hin : i < n
    · omega
    · exfalso
      have hz : b / 2 ^ min n 64 = 0 := by omega
      have := congrArg (fun x => x.testBit (i - n)) hz
      simp only [Nat.testBit_div_two_pow, Nat.zero_testBit] at this
      rw [show min n 64 = n by omega, show i - n + n = i by omega, ht] at this
      cases this

theorem oldest_any (h : Int) (b : Nat) (w : World) (h0 : 0 ≤ h) (h1 : h ≤ 1048575) :
    Calls Tryd.prog 54 #[.agg #[.int .i64 h, .int .u64 (b : Int)]] w fun e w' => e = .returned (.int .i64 (h - 63)) ∧ Below w.heap.size w w' := by
  have hW := Blk.new w #[.int .i64 h, .int .u64 (b : Int)] 24
  have c0 := hW.cell 0
  have c1 := hW.cell 1
  have HB0 : Hid (Below w.heap.size w (w.alloc (.cells #[.int .i64 h, .int .u64 (b : Int)] 24))) := (Below.refl _ _).alloc (Nat.le_refl _) _
  have HE : Hid (h - 64 + 1 = h - 63) := by show _ = _; omega
  clear hW
  go_enter Tryd.func54, Tryd.ntmps54
  go_wp2_with fail
  go_ret
  exact ⟨congrArg (fun x => Ending.returned (.int .i64 x)) HE.out, HB0.out⟩
theorem taken_over (h : Int) (b : Nat) (id : Int) (w : World) (h1 : h < id) :
    Calls Tryd.prog 55 #[.agg #[.int .i64 h, .int .u64 (b : Int)], .int .i64 id] w fun e w' => e = .returned (.bool false) ∧ Below w.heap.size w w' := by
  have hW := Blk.new w #[.int .i64 h, .int .u64 (b : Int)] 24
  have c0 := hW.cell 0
  have c1 := hW.cell 1
  have HB0 : Hid (Below w.heap.size w (w.alloc (.cells #[.int .i64 h, .int .u64 (b : Int)] 24))) := (Below.refl _ _).alloc (Nat.le_refl _) _
  have hd : decide (id ≤ h) = false := by simp; omega
  clear hW
  go_enter Tryd.func55, Tryd.ntmps55
  go_wp2_with fail
  go_ret
  exact ⟨rfl, HB0.out⟩
theorem taken_in (h : Int) (b k : Nat) (id : Int) (w : World) (hb : b < 18446744073709551616) (hk : k < 64) (he : h - id = (k : Int)) :
    Calls Tryd.prog 55 #[.agg #[.int .i64 h, .int .u64 (b : Int)], .int .i64 id] w fun e w' => e = .returned (.bool (b.testBit k)) ∧ Below w.heap.size w w' := by
  have hW := Blk.new w #[.int .i64 h, .int .u64 (b : Int)] 24
  have c0 := hW.cell 0
  have c1 := hW.cell 1
  have HB0 : Hid (Below w.heap.size w (w.alloc (.cells #[.int .i64 h, .int .u64 (b : Int)] 24))) := (Below.refl _ _).alloc (Nat.le_refl _) _
  have hd : decide (id ≤ h) = true := by simp; omega
  have hkk : IntKind.i64.wrap (h - id) = (k : Int) := by rw [he]; rw [IntKind.wrap_i64]; omega
  have HT : Hid ((bits .and .u64 ((b : Int) / 2 ^ k) 1 == 1) = b.testBit k) := bit_told b k hb
  clear hW
  go_enter Tryd.func55, Tryd.ntmps55
  go_wp2_with fail
  go_ret
  exact ⟨congrArg (fun x => Ending.returned (.bool x)) HT.out, HB0.out⟩
/-- Whether a number was taken, where it is not too far back. -/
theorem taken_any (h : Int) (b : Nat) (id : Int) (w : World) (hb : b < 18446744073709551616) (hk : ¬ id ≤ h - 64) :
    Calls Tryd.prog 55 #[.agg #[.int .i64 h, .int .u64 (b : Int)], .int .i64 id] w fun e w' => e = .returned (.bool (decide (id ∈ mem h b 64))) ∧ Below w.heap.size w w' := by
  by_cases hlt : h < id
  · rw [decide_eq_false (fun hm => by have := ((mem_all h b id).1 hm).2.1; omega)]
    exact taken_over h b id w hlt
  · have e : (id ∈ mem h b 64) ↔ b.testBit (h - id).toNat = true := by
      rw [mem_all]
      exact ⟨fun hx => hx.2.2, fun hx => ⟨by omega, by omega, hx⟩⟩
    rw [show decide (id ∈ mem h b 64) = b.testBit (h - id).toNat by
      cases hx : b.testBit (h - id).toNat with
      | true => exact decide_eq_true (e.2 hx)
      | false => exact decide_eq_false (fun hm => by have := e.1 hm; rw [hx] at this; cases this)]
    exact taken_in h b (h - id).toNat id w hb (by omega) (by omega)

theorem eqJ (d : Nat) (a b : Int) (w : World) : (Op.equalIn (d + 1) 3 (.int .i64 a) (.int .i64 b)).run Tryd.prog w = .ok (a == b) w := run_equalIn_int w d _ _ _ a b Tryd.underlying3
theorem eqV (d : Nat) (a b : Int) (w : World) : (Op.equalIn (d + 1) 22 (.int .u64 a) (.int .u64 b)).run Tryd.prog w = .ok (a == b) w := run_equalIn_int w d _ _ _ a b Tryd.underlying22
theorem ws0 (s c : Int) (w : World) : (part 3 #[.int .i64 s, .int .u64 c] 0).run Tryd.prog w = .ok (.int .i64 s) w := by kernel_rfl
theorem ws1 (s c : Int) (w : World) : (part 22 #[.int .i64 s, .int .u64 c] 1).run Tryd.prog w = .ok (.int .u64 c) w := by kernel_rfl
theorem neWin (s b : Int) (hn : ¬ (s = 0 ∧ b = 0)) (w : World) :
    (Op.equalIn 10000 24 (.agg #[.int .i64 s, .int .u64 b]) (.agg #[.int .i64 0, .int .u64 0])).run Tryd.prog w = .ok false w := by
  rw [show (10000 : Nat) = 9999 + 1 from rfl, run_equalIn_agg w 9999 24 _ _ (by kernel_rfl) (by kernel_rfl)]
  simp only [Program.fieldsOf, Tryd.underlying24, Op.eqFields, Sem.run_bind, Sem.run_ite]
  by_cases h0 : s = 0
  · have hb : ¬ b = 0 := fun e => hn ⟨h0, e⟩
    simp [ws0, ws1, show (9999 : Nat) = 9998 + 1 from rfl, eqJ, eqV, h0, hb]
  · simp [ws0, ws1, show (9999 : Nat) = 9998 + 1 from rfl, eqJ, eqV, h0]

theorem shr_any (x : Nat) (h : Int) (h0 : 0 ≤ h) : Op.shift .shr .u64 (x : Int) .i64 h = pure (.int .u64 ((x : Int) / 2 ^ min h.toNat 64)) := by
  have hm : ¬ h < 0 := by omega
  have hp : (0 : Int) ≤ 2 ^ min h.toNat 64 := Int.le_of_lt (Int.pow_pos (by decide))
  simp [Op.shift, hm, IntKind.bits, Int.fdiv_eq_ediv_of_nonneg _ hp]
theorem shl_any (x : Nat) (h : Int) (h0 : 0 ≤ h) : Op.shift .shl .u64 (x : Int) .i64 h = pure (.int .u64 (IntKind.u64.wrap ((x : Int) * 2 ^ min h.toNat 64))) := by
  have hm : ¬ h < 0 := by omega
  simp [Op.shift, hm, IntKind.bits]
set_option maxHeartbeats 2000000 in
theorem maybe_any (h : Int) (b : Nat) (w : World) (hb : b < 18446744073709551616) :
    Calls Tryd.prog 53 #[.agg #[.int .i64 h, .int .u64 (b : Int)]] w fun e w' => MayPost w h b e w' := by
  have hW := Blk.new w #[.int .i64 h, .int .u64 (b : Int)] 24
  have c0 := hW.cell 0
  have c1 := hW.cell 1
  have HB0 : Hid (Below w.heap.size w (w.alloc (.cells #[.int .i64 h, .int .u64 (b : Int)] 24))) := (Below.refl _ _).alloc (Nat.le_refl _) _
  clear hW
  by_cases hz : h = 0 ∧ b = 0
  · obtain ⟨rfl, rfl⟩ := hz
    go_enter Tryd.func53, Tryd.ntmps53
    go_wp2_with fail
    go_ret
    exact MayPost.yes (.inl ⟨rfl, rfl⟩) HB0.out
  · have hqw : ∀ W : World, (Op.equalIn 10000 24 (.agg #[.int .i64 h, .int .u64 (b : Int)]) (.agg #[.int .i64 0, .int .u64 0])).run Tryd.prog W = .ok false W := fun W => neWin h (b : Int) (fun hx => hz ⟨hx.1, by omega⟩) W
    by_cases h1 : 1 ≤ h
    · have d1 : decide (1 ≤ h) = true := by simp [h1]
      by_cases h2 : h ≤ 1048575
      · have d2 : decide (h ≤ 1048575) = true := by simp [h2]
        have HM : Hid (May h b ↔ b.testBit 0 = true ∧ (b : Int) / 2 ^ min h.toNat 64 = 0) := may_bits h1 h2 hb
        have HL : Hid ((bits .and .u64 (b : Int) 1 == 1) = b.testBit 0) := low_told b hb
        clear hz
        cases hl : b.testBit 0 with
        | false =>
          have q0 : (bits .and .u64 (b : Int) 1 == 1) = false := by rw [HL.out, hl]
          have HN : Hid (¬ May h b) := fun hm => by have := (HM.out.1 hm).1; rw [hl] at this; cases this
          clear hl HL HM
          go_enter Tryd.func53, Tryd.ntmps53
          go_wp2_with fail
          go_ret
          exact MayPost.no HN.out HB0.out
        | true =>
          have q0 : (bits .and .u64 (b : Int) 1 == 1) = true := by rw [HL.out, hl]
          have HN : Hid (May h b ↔ (b : Int) / 2 ^ min h.toNat 64 = 0) := ⟨fun hm => (HM.out.1 hm).2, fun hx => HM.out.2 ⟨hl, hx⟩⟩
          have hs := shr_any b h (by omega)
          clear hl HL HM
          generalize (b : Int) / 2 ^ min h.toNat 64 = D at *
          by_cases hD : D = 0
          · have q1 : (D == 0) = true := by simp [hD]
            have HF : Hid (May h b) := HN.out.2 hD
            clear hD HN
            go_enter Tryd.func53, Tryd.ntmps53
            go_wp2_with fail
            go_ret
            exact MayPost.yes HF.out HB0.out
          · have q1 : (D == 0) = false := by simp [hD]
            have HF : Hid (¬ May h b) := fun hm => hD (HN.out.1 hm)
            clear hD HN
            go_enter Tryd.func53, Tryd.ntmps53
            go_wp2_with fail
            go_ret
            exact MayPost.no HF.out HB0.out
      · have d2 : decide (h ≤ 1048575) = false := by simp [h2]
        have HN : Hid (¬ May h b) := may_out (by omega) (by omega)
        clear hz h1 h2
        go_enter Tryd.func53, Tryd.ntmps53
        go_wp2_with fail
        go_ret
        exact MayPost.no HN.out HB0.out
    · have d1 : decide (1 ≤ h) = false := by simp [h1]
      have HN : Hid (¬ May h b) := by
        rintro (hx | ⟨hx, _⟩)
        · exact hz hx
        · omega
      clear hz h1
      go_enter Tryd.func53, Tryd.ntmps53
      go_wp2_with fail
      go_ret
      exact MayPost.no HN.out HB0.out

end Go.Proofs.YtnhidiefchamlaaDoor.win
