/- Windows: what the document says of them. -/
import Derived.Test.YtnhidiefchamlaaDoorWnJd
import Derived.Test.YtnhidiefchamlaaDoorIRow
namespace Go.Proofs.YtnhidiefchamlaaDoor.win
open Go.RowKit Go.Proofs.YtnhidiefchamlaaDoor.irow
set_option maxRecDepth 100000
set_option linter.unusedVariables false

theorem in_yes (n lo hi : Int) (w : World) (h1 : lo ≤ n) (h2 : n ≤ hi) :
    Calls Tryd.prog 33 #[.int .i64 n, .int .i64 lo, .int .i64 hi] w fun e w' => e = .returned (.bool true) ∧ w' = w := by
  go_enter Tryd.func33, Tryd.ntmps33
  go_wp2
  go_ret
  exact ⟨rfl, rfl⟩
theorem in_no (n lo hi : Int) (w : World) (h : n < lo ∨ hi < n) :
    Calls Tryd.prog 33 #[.int .i64 n, .int .i64 lo, .int .i64 hi] w fun e w' => e = .returned (.bool false) ∧ w' = w := by
  by_cases h0 : n < lo
  · clear h
    go_enter Tryd.func33, Tryd.ntmps33
    go_wp2
    go_ret
    exact ⟨rfl, rfl⟩
  · have h1 : lo ≤ n := by omega
    have h2 : decide (n ≤ hi) = false := by simp; omega
    clear h h0
    go_enter Tryd.func33, Tryd.ntmps33
    go_wp2
    go_ret
    exact ⟨rfl, rfl⟩

set_option maxHeartbeats 1000000 in
theorem bitAt_any (b i : Nat) (w : World) (hb : b < 18446744073709551616) (hi : i ≤ 64) :
    Calls Tryd.prog 62 #[.int .u64 (b : Int), .int .i64 (i : Int)] w fun e w' => e = .returned (.bool (b.testBit i)) ∧ w' = w := by
  have HB : Hid (∀ k, b / 2 ^ k < 18446744073709551616) := fun k => Nat.lt_of_le_of_lt (div_le' b k) hb
  have HR : Hid (b.testBit i = decide (b / 2 ^ i % 2 = 1)) := bit_at b i
  have H0 : Hid (b = b / 2 ^ 0) := by show b = b / 2 ^ 0; simp
  go_enter Tryd.func62, Tryd.ntmps62
  go_wp2_with fail
  go_loopw [0, 5] (fun v j wr => ∃ (k x : Nat), v = .int .u64 (x : Int) ∧ j = .int .i64 (k : Int) ∧ k ≤ i ∧ Hid (x = b / 2 ^ k) ∧ wr = w) (fun _ j _ => i - (intOf j).toNat)
  case atStart => exact ⟨0, b, rfl, rfl, Nat.zero_le _, H0, rfl⟩
  case round =>
    obtain ⟨k, x, rfl, rfl, hk, HX, rfl⟩ := hrel
    have hx : x < 18446744073709551616 := by rw [HX.out]; exact HB.out k
    by_cases hlt : k < i
    · have HN : Hid (x / 2 = b / 2 ^ (k + 1)) := by show _ = _; rw [HX.out, half_next]
      go_wp2_with fail
      go_roundw
      case rel => exact ⟨k + 1, x / 2, by go_num, by go_num, by omega, HN, trivial⟩
      case measure => simp [intOf]; omega
    · obtain rfl : i = k := by omega
      have HE : Hid (b.testBit i = decide (x % 2 = 1)) := by show _ = _; rw [HR.out, HX.out]
      clear HX HR HB
      by_cases hm : x % 2 = 1
      · have hq : ((x : Int) % 2 == 1) = true := by simp; omega
        have HF : Hid (b.testBit i = true) := by show _ = _; rw [HE.out, decide_eq_true hm]
        clear HE
        go_wp2_with fail
        go_ret
        exact ⟨by rw [HF.out]; rfl, rfl⟩
      · have hq : ((x : Int) % 2 == 1) = false := by simp; omega
        have HF : Hid (b.testBit i = false) := by show _ = _; rw [HE.out, decide_eq_false hm]
        clear HE
        go_wp2_with fail
        go_ret
        exact ⟨by rw [HF.out]; rfl, rfl⟩

/-- A window's value. -/
def wv (h : Int) (b : Nat) : Value := .agg #[.int .i64 h, .int .u64 (b : Int)]
def GaveI (w : World) (zs : List Int) (e : Ending) (w' : World) : Prop := ∃ v, e = .returned v ∧ Iw w' w.heap.size v zs ∧ Below w.heap.size w w'
theorem GaveI.mk {w w' : World} {zs : List Int} {v : Value} (h1 : Iw w' w.heap.size v zs) (h2 : Below w.heap.size w w') : GaveI w zs (.returned v) w' := ⟨v, rfl, h1, h2⟩
set_option maxHeartbeats 1000000 in
theorem members_any (h : Int) (b : Nat) (w : World) (hb : b < 18446744073709551616) (h0 : 0 ≤ h) (h1 : h ≤ 1048575) :
    Calls Tryd.prog 47 #[.agg #[.int .i64 h, .int .u64 (b : Int)]] w fun e w' => GaveI w (mem h b 64) e w' := by
  have HT : Hid (∀ W i, i ≤ 64 → Calls Tryd.prog 62 #[.int .u64 (b : Int), .int .i64 ((i : Nat) : Int)] W fun e w' => e = .returned (.bool (b.testBit i)) ∧ w' = W) := fun W i hi => bitAt_any b i W hb hi
  have HW : Hid (Blk (w.alloc (.cells #[.int .i64 h, .int .u64 (b : Int)] 24)) w.heap.size #[.int .i64 h, .int .u64 (b : Int)] 24) := Blk.new w _ _
  have HB0 : Hid (Below w.heap.size w (w.alloc (.cells #[.int .i64 h, .int .u64 (b : Int)] 24)) ∧ Below (w.heap.size + 1) (w.alloc (.cells #[.int .i64 h, .int .u64 (b : Int)] 24)) (w.alloc (.cells #[.int .i64 h, .int .u64 (b : Int)] 24))) := ⟨(Below.refl _ _).alloc (Nat.le_refl _) _, Below.refl _ _⟩
  have HS : Hid ((w.alloc (.cells #[.int .i64 h, .int .u64 (b : Int)] 24)).heap.size = w.heap.size + 1) := by show _ = _; simp
  clear hb
  go_enter Tryd.func47, Tryd.ntmps47
  go_wp2_with fail
  generalize w.alloc (.cells #[.int .i64 h, .int .u64 (b : Int)] 24) = W0 at *
  go_loopw [3, 4] (fun v j wr => ∃ (k : Nat) (V : Value), V = v ∧ k ≤ 64 ∧ j = .int .i64 (63 - (k : Int)) ∧ Iw wr (w.heap.size + 1) V (mem h b k) ∧ Below (w.heap.size + 1) W0 wr) (fun _ j _ => (intOf j + 1).toNat)
  case atStart => exact ⟨0, _, rfl, Nat.zero_le _, rfl, Iw.zero _ _, HB0.out.2⟩
  case round =>
    obtain ⟨k, V, hV, hk, rfl, hown, hb⟩ := hrel
    subst hV
    have HO : Hid (Iw wr (w.heap.size + 1) V (mem h b k)) := hown
    have HB : Hid (Below (w.heap.size + 1) W0 wr) := hb
    clear hown hb
    have HBL : Hid (Blk wr w.heap.size #[.int .i64 h, .int .u64 (b : Int)] 24) := HW.out.below HB.out (Nat.lt_succ_self _)
    have c0 := HBL.out.cell 0
    have c1 := HBL.out.cell 1
    by_cases hlt : k < 64
    · have hge : ¬ (63 - (k : Int)) < 0 := by omega
      have hge' : (0 : Int) ≤ 63 - (k : Int) := by omega
      have HTB : Hid (∀ W, Calls Tryd.prog 62 #[.int .u64 (b : Int), .int .i64 (63 - (k : Int))] W fun e w' => e = .returned (.bool (b.testBit (63 - k))) ∧ w' = W) := fun W => by
        have := HT.out W (63 - k) (by omega)
        rw [show ((63 - k : Nat) : Int) = 63 - (k : Int) by omega] at this
        exact this
      cases hbit : b.testBit (63 - k) with
      | true =>
        rw [hbit] at HTB
        have HD : Hid (mem h b k ++ [h - (63 - (k : Int))] = mem h b (k + 1)) := by
          show _ = _
          rw [mem_yes hbit, show ((63 - k : Nat) : Int) = 63 - (k : Int) by omega]
        have HLN : Hid ((mem h b k).length ≤ 1000000) := by have := mem_len h b k; show _ ≤ _; omega
        clear hbit
        generalize mem h b k = ms at *
        go_wp2_with fail
        refine (HTB.out _).mono ?_
        rintro e w5 ⟨rfl, rfl⟩
        have HG : Hid ((w5.alloc (.cells #[.int .i64 (h - (63 - (k : Int)))] 3)).cell? ⟨w5.heap.size, 0, none⟩ = some (.int .i64 (h - (63 - (k : Int))))) := num_cell w5 _
        have HOA : Hid (Iw (w5.alloc (.cells #[.int .i64 (h - (63 - (k : Int)))] 3)) (w.heap.size + 1) V ms) := HO.out.alloc _
        have HSZ : Hid (w.heap.size + 1 ≤ (w5.alloc (.cells #[.int .i64 (h - (63 - (k : Int)))] 3)).heap.size) := ialloc_le (by have := HB.out.size; rw [HS.out] at this; exact this) _
        go_wp2_with (first
          | (at_builtin; refine wp_num rfl _ _ rfl (w.heap.size + 1) w5.heap.size _ ms (h - (63 - (k : Int))) rfl rfl HOA.out HG.out HLN.out HSZ.out ?_)
          | go_in)
        intro v' w4 hL4 hg4
        have HL4 : Hid (Iw w4 (w.heap.size + 1) v' (mem h b (k + 1))) := by have := HD.out; rw [this] at hL4; exact hL4
        have HB4 : Hid (Below (w.heap.size + 1) W0 w4) := iown_bel HOA.out hg4 (HB.out.alloc (by have := HB.out.size; rw [HS.out] at this; exact this) _) (Nat.le_refl _) HSZ.out
        clear hL4 hg4 HOA HO HB HG HSZ HD
        go_wp2_with fail
        go_roundw
        case rel => exact ⟨k + 1, _, rfl, by omega, by go_num, HL4.out, HB4.out⟩
        case measure => simp [intOf]; omega
      | false =>
        rw [hbit] at HTB
        have HD : Hid (mem h b (k + 1) = mem h b k) := mem_no hbit
        clear hbit
        go_wp2_with fail
        refine (HTB.out _).mono ?_
        rintro e w5 ⟨rfl, rfl⟩
        go_wp2_with fail
        go_roundw
        case rel => exact ⟨k + 1, _, rfl, by omega, by go_num, by rw [HD.out]; exact HO.out, HB.out⟩
        case measure => simp [intOf]; omega
    · obtain rfl : k = 64 := by omega
      have hlt' : (63 - ((64 : Nat) : Int)) < 0 := by decide
      have HF : Hid (Iw wr w.heap.size V (mem h b 64) ∧ Below w.heap.size w wr) := ⟨HO.out.low (Nat.le_succ _), HB0.out.1.trans (HB.out.mono (Nat.le_succ _))⟩
      go_wp2_with fail
      go_ret
      exact GaveI.mk HF.out.1 HF.out.2

end Go.Proofs.YtnhidiefchamlaaDoor.win
