/- What a code tells, as the document has it. -/
import Derived.Test.YtnhidiefchamlaaDoorCdD
import Derived.Test.YtnhidiefchamlaaDoorDigitsN
import Derived.Test.YtnhidiefchamlaaDoorLet
import Derived.Test.YtnhidiefchamlaaDoorProg
import Derived.WalkKit
import Derived.Deep.DeepCutAuto
namespace Go.Proofs.YtnhidiefchamlaaDoor.cod
open Go.Proofs.YtnhidiefchamlaaDoor.met (Mt)
open Go.Proofs.YtnhidiefchamlaaDoor.check (allD isD)
open Go.Proofs.YtnhidiefchamlaaDoor.token (dv dv_snoc dv_lt)
open Go.RowKit
set_option maxRecDepth 100000
set_option linter.unusedVariables false
set_option linter.unusedSimpArgs false

theorem dig_yes (z : Int) (w : World) (h1 : 48 ≤ z) (h2 : z ≤ 57) :
    Calls Tryd.prog 24 #[.int .u8 z] w fun e w' => e = .returned (.bool true) ∧ w' = w := by
  go_enter Tryd.func24, Tryd.ntmps24
  go_wp2
  go_ret
  exact ⟨rfl, rfl⟩
theorem dig_no (z : Int) (w : World) (h : z < 48 ∨ 57 < z) :
    Calls Tryd.prog 24 #[.int .u8 z] w fun e w' => e = .returned (.bool false) ∧ w' = w := by
  by_cases h1 : z < 48
  · have hd : decide (48 ≤ z) = false := by simp; omega
    clear h h1
    go_enter Tryd.func24, Tryd.ntmps24
    go_wp2
    go_ret
    exact ⟨rfl, rfl⟩
  · have hd : decide (48 ≤ z) = true := by simp; omega
    have hd2 : decide (z ≤ 57) = false := by simp; omega
    clear h h1
    go_enter Tryd.func24, Tryd.ntmps24
    go_wp2
    go_ret
    exact ⟨rfl, rfl⟩
set_option maxHeartbeats 1000000 in
theorem unc_len (s : ByteArray) (w : World) (h : s.size ≠ 18) : Calls Tryd.prog 10 #[.string s] w fun e w' => UncPost w s.data.toList e w' := by
  have hl : s.data.toList.length = s.size := Array.length_toList
  have HI : Hid (UncIs s.data.toList sh0 6) := .inl ⟨by omega, rfl, rfl⟩
  have hq : ((s.size : Int) != 18) = true := by simp; omega
  have HZ0 : Hid (Blk (w.alloc (.cells #[.int .i64 0, .int .i64 0, .int .i64 0] 32)) w.heap.size #[.int .i64 0, .int .i64 0, .int .i64 0] 32) := Blk.new _ _ _
  have HB0 : Hid (Below w.heap.size w (w.alloc (.cells #[.int .i64 0, .int .i64 0, .int .i64 0] 32))) := (Below.refl _ _).alloc (Nat.le_refl _) _
  clear hl h
  go_enter Tryd.func10, Tryd.ntmps10
  go_upto_region 1 with fail
  generalize w.alloc (.cells #[.int .i64 0, .int .i64 0, .int .i64 0] 32) = W0 at *
  go_wp2_with (first | (refine wp_letAll rfl 32 _ _ rfl w.heap.size rfl #[.int .i64 0, .int .i64 0, .int .i64 0] rfl (by kernel_rfl) (by simp [Value.oneCell']) #[.int .i64 0, .int .i64 0, .int .i64 0] 32 HZ0.out rfl ?_) | fail)
  intro WF hUF
  have HBF : Hid (Below w.heap.size w WF) := hUF.bel _ _ (Nat.le_refl _) HB0.out
  have R0 : Hid (WF.cell? ⟨w.heap.size, 0, none⟩ = some (.int .i64 0)) := hUF.blk.cell 0
  have R1 : Hid (WF.cell? ⟨w.heap.size, 1, none⟩ = some (.int .i64 0)) := hUF.blk.cell 1
  have R2 : Hid (WF.cell? ⟨w.heap.size, 2, none⟩ = some (.int .i64 0)) := hUF.blk.cell 2
  clear hUF
  go_wp2_with fail
  exact bodyPost_ret (v := .tuple #[.agg #[.int .i64 0, .int .i64 0, .int .i64 0], .int .i64 6]) (by simp [results, Tryd.results10, R0.out, R1.out, R2.out, go_sem]) rfl ⟨sh0, 6, rfl, HI.out, HBF.out⟩
set_option maxHeartbeats 4000000 in
theorem unc_18 (s : ByteArray) (w : World) (h : s.size = 18) : Calls Tryd.prog 10 #[.string s] w fun e w' => UncPost w s.data.toList e w' := by
  have HLN : Hid (s.data.toList.length = 18) := (Array.length_toList).trans h
  have hq : ((s.size : Int) != 18) = false := by simp; omega
  have HSZ : Hid (s.size = 18) := h
  have HZ0 : Hid (Blk (w.alloc (.cells #[.int .i64 0, .int .i64 0, .int .i64 0] 32)) w.heap.size #[.int .i64 0, .int .i64 0, .int .i64 0] 32) := Blk.new _ _ _
  have HB0 : Hid (Below w.heap.size w (w.alloc (.cells #[.int .i64 0, .int .i64 0, .int .i64 0] 32))) := (Below.refl _ _).alloc (Nat.le_refl _) _
  clear h
  go_enter Tryd.func10, Tryd.ntmps10
  go_upto_region 1 with fail
  generalize w.alloc (.cells #[.int .i64 0, .int .i64 0, .int .i64 0] 32) = W0 at *
  go_wp2_with fail
  go_loopw [4, 5] (fun v z wr => ∃ k : Nat, k ≤ 18 ∧ z = .int .i64 (k : Int) ∧ allD (s.data.toList.take k) = true ∧ v = .int .i64 ((dv (s.data.toList.take k) : Nat) : Int) ∧ wr = W0) (fun _ z _ => 18 - (intOf z).toNat)
  case atStart => exact ⟨0, Nat.zero_le _, rfl, rfl, rfl, rfl⟩
  case round =>
    obtain ⟨k, hk, rfl, hall, rfl, hwr⟩ := hrel
    subst wr
    by_cases hlt : k < 18
    · have hks : k < s.size := by have := HSZ.out; omega
      have HT : Hid (s.data.toList.take (k + 1) = s.data.toList.take k ++ [s[k]'hks]) := cents.take_snoc s k hks
      have hcb : (0 : Int) ≤ (((s[k]'hks).toNat : Nat) : Int) ∧ (((s[k]'hks).toNat : Nat) : Int) < 256 := ⟨by omega, by have := (s[k]'hks).toNat_lt; omega⟩
      have HAL : Hid (allD (s.data.toList.take k) = true) := hall
      have hdv : dv (s.data.toList.take k) < 100000000000000000 := by
        have h1 := dv_lt _ hall
        have h2 : (s.data.toList.take k).length ≤ 17 := by rw [List.length_take]; omega
        exact Nat.lt_of_lt_of_le h1 (by simpa using Nat.pow_le_pow_right (n := 10) (by decide) h2)
      by_cases hc : (((s[k]'hks).toNat : Nat) : Int) < 48 ∨ 57 < (((s[k]'hks).toNat : Nat) : Int)
      · have HI : Hid (UncIs s.data.toList sh0 7) := .inr (.inl ⟨HLN.out, cents.allD_take_no s k hks (by rcases hc with h | h; exact cents.isD_lo h; exact cents.isD_hi h), rfl, rfl⟩)
        have HDG : Hid (∀ W, Calls Tryd.prog 24 #[.int .u8 (((s[k]'hks).toNat : Nat) : Int)] W fun e w' => e = .returned (.bool false) ∧ w' = W) := fun W => dig_no _ W hc
        clear hc HT HAL hall hdv
        generalize ((dv (s.data.toList.take k) : Nat) : Int) = d at *
        go_wp2_with fail
        refine (HDG.out _).mono ?_
        rintro e wz ⟨rfl, hwz⟩
        subst wz
        go_wp2_with (first | (refine wp_letAll rfl 32 _ _ rfl w.heap.size rfl #[.int .i64 0, .int .i64 0, .int .i64 0] rfl (by kernel_rfl) (by simp [Value.oneCell']) #[.int .i64 0, .int .i64 0, .int .i64 0] 32 HZ0.out rfl ?_) | fail)
        intro WF hUF
        have HBF : Hid (Below w.heap.size w WF) := hUF.bel _ _ (Nat.le_refl _) HB0.out
        have R0 : Hid (WF.cell? ⟨w.heap.size, 0, none⟩ = some (.int .i64 0)) := hUF.blk.cell 0
        have R1 : Hid (WF.cell? ⟨w.heap.size, 1, none⟩ = some (.int .i64 0)) := hUF.blk.cell 1
        have R2 : Hid (WF.cell? ⟨w.heap.size, 2, none⟩ = some (.int .i64 0)) := hUF.blk.cell 2
        clear hUF
        go_wp2_with fail
        exact bodyPost_ret (v := .tuple #[.agg #[.int .i64 0, .int .i64 0, .int .i64 0], .int .i64 7]) (by simp [results, Tryd.results10, R0.out, R1.out, R2.out, go_sem]) rfl ⟨sh0, 7, rfl, HI.out, HBF.out⟩
      · have c1 : 48 ≤ (((s[k]'hks).toNat : Nat) : Int) := by omega
        have c2 : (((s[k]'hks).toNat : Nat) : Int) ≤ 57 := by omega
        have HDG : Hid (∀ W, Calls Tryd.prog 24 #[.int .u8 (((s[k]'hks).toNat : Nat) : Int)] W fun e w' => e = .returned (.bool true) ∧ w' = W) := fun W => dig_yes _ W c1 c2
        have HA2 : Hid (allD (s.data.toList.take (k + 1)) = true) := by
          show _ = _
          rw [HT.out]
          unfold allD at *
          rw [List.all_append, HAL.out]
          have : isD (s[k]'hks) = true := cents.isD_yes c1 c2
          simp [this]
        have HV2 : Hid (((dv (s.data.toList.take (k + 1)) : Nat) : Int) = 10 * ((dv (s.data.toList.take k) : Nat) : Int) + ((((s[k]'hks).toNat : Nat) : Int) - 48)) := by show _ = _; rw [HT.out, dv_snoc]; omega
        have hd0 : (0 : Int) ≤ ((dv (s.data.toList.take k) : Nat) : Int) := by omega
        have hd1 : ((dv (s.data.toList.take k) : Nat) : Int) < 100000000000000000 := by omega
        clear hc HT HAL hall hdv
        generalize ((dv (s.data.toList.take k) : Nat) : Int) = d at *
        go_wp2_with fail
        refine (HDG.out _).mono ?_
        rintro e wz ⟨rfl, hwz⟩
        subst wz
        go_wp2_with fail
        go_roundw
        case rel => exact ⟨k + 1, by omega, by go_num, HA2.out, by rw [HV2.out], by first | rfl | trivial⟩
        case measure => simp [intOf]; omega
    · obtain rfl : k = 18 := by omega
      have hta : s.data.toList.take 18 = s.data.toList := by rw [← HLN.out, List.take_length]
      rw [hta] at hall ⊢
      have hdv : dv s.data.toList < 1000000000000000000 := by
        have h1 := dv_lt _ hall
        rw [HLN.out] at h1
        simpa using h1
      have HALL : Hid (allD s.data.toList = true) := hall
      clear hta hall
      generalize hn : dv s.data.toList = n at *
      have HNN : Hid (dv s.data.toList = n) := hn
      clear hn
      by_cases h97 : n % 97 = 0
      · have hr : (((n : Int) % 97) != 0) = false := by simp; omega
        obtain ⟨q, hq1⟩ : ∃ q : Int, (n : Int) / 97 = q := ⟨_, rfl⟩
        obtain ⟨x0, hx0⟩ : ∃ x : Int, q % 50 = x := ⟨_, rfl⟩
        obtain ⟨x1, hx1⟩ : ∃ x : Int, q / 52428800 = x := ⟨_, rfl⟩
        obtain ⟨y2, hy2⟩ : ∃ x : Int, q / 50 = x := ⟨_, rfl⟩
        obtain ⟨x2, hx2⟩ : ∃ x : Int, y2 % 1048576 = x := ⟨_, rfl⟩
        have hq0 : 0 ≤ q := by omega
        have hy0 : 0 ≤ y2 := by omega
        have hqb : q < 1000000000000000000 := by omega
        have HSH : Hid (shOf n = ⟨x0, x1, x2⟩) := by
          show _ = _
          unfold shOf
          congr 1 <;> omega
        have hxb : (0 ≤ x0 ∧ x0 < 50) ∧ (0 ≤ x1 ∧ x1 < 1000000000000000000) ∧ (0 ≤ x2 ∧ x2 < 1048576) := by omega
        have HX1 : Hid (x1 = ((n / 97 / 52428800 : Nat) : Int)) := by show _ = _; omega
        have H97 : Hid (n % 97 = 0) := h97
        have HW1 : Hid (Blk (W0.alloc (.cells #[.int .i64 x0, .int .i64 x1, .int .i64 x2] 32)) w.heap.size #[.int .i64 0, .int .i64 0, .int .i64 0] 32) := HZ0.out.alloc _
        have HG1 : Hid (Blk (W0.alloc (.cells #[.int .i64 x0, .int .i64 x1, .int .i64 x2] 32)) W0.heap.size #[.int .i64 x0, .int .i64 x1, .int .i64 x2] 32) := Blk.new _ _ _
        have HB1 : Hid (Below w.heap.size w (W0.alloc (.cells #[.int .i64 x0, .int .i64 x1, .int .i64 x2] 32))) := HB0.out.alloc HB0.out.size _
        clear h97 hdv
        go_upto_region 14 with fail
        generalize W0.alloc (.cells #[.int .i64 x0, .int .i64 x1, .int .i64 x2] 32) = W1 at *
        generalize W0.heap.size = g1 at *
        have k1 : W1.cell? ⟨g1, 1, none⟩ = some (.int .i64 x1) := HG1.out.cell 1
        by_cases hbig : 99999999 < x1
        · have HI : Hid (UncIs s.data.toList sh0 2) := .inr (.inr (.inr (.inl ⟨HLN.out, HALL.out, by rw [HNN.out]; exact H97.out, by rw [HNN.out]; have := HX1.out; omega, rfl, rfl⟩)))
          go_wp2_with (first | (refine wp_letAll rfl 32 _ _ rfl w.heap.size rfl #[.int .i64 0, .int .i64 0, .int .i64 0] rfl (by kernel_rfl) (by simp [Value.oneCell']) #[.int .i64 0, .int .i64 0, .int .i64 0] 32 HW1.out rfl ?_) | fail)
          intro WF hUF
          have HBF : Hid (Below w.heap.size w WF) := hUF.bel _ _ (Nat.le_refl _) HB1.out
          have R0 : Hid (WF.cell? ⟨w.heap.size, 0, none⟩ = some (.int .i64 0)) := hUF.blk.cell 0
          have R1 : Hid (WF.cell? ⟨w.heap.size, 1, none⟩ = some (.int .i64 0)) := hUF.blk.cell 1
          have R2 : Hid (WF.cell? ⟨w.heap.size, 2, none⟩ = some (.int .i64 0)) := hUF.blk.cell 2
          clear hUF
          go_wp2_with fail
          exact bodyPost_ret (v := .tuple #[.agg #[.int .i64 0, .int .i64 0, .int .i64 0], .int .i64 2]) (by simp [results, Tryd.results10, R0.out, R1.out, R2.out, go_sem]) rfl ⟨sh0, 2, rfl, HI.out, HBF.out⟩
        · have HI : Hid (UncIs s.data.toList (shOf n) 0) := .inr (.inr (.inr (.inr ⟨HLN.out, HALL.out, by rw [HNN.out]; exact H97.out, by rw [HNN.out]; have := HX1.out; omega, by rw [HNN.out], rfl⟩)))
          have k0 : W1.cell? ⟨g1, 0, none⟩ = some (.int .i64 x0) := HG1.out.cell 0
          have k2 : W1.cell? ⟨g1, 2, none⟩ = some (.int .i64 x2) := HG1.out.cell 2
          go_wp2_with (first | (refine wp_letAll rfl 32 _ _ rfl w.heap.size rfl #[.int .i64 x0, .int .i64 x1, .int .i64 x2] rfl (by kernel_rfl) (by simp [Value.oneCell']) #[.int .i64 0, .int .i64 0, .int .i64 0] 32 HW1.out rfl ?_) | fail)
          intro WF hUF
          have HBF : Hid (Below w.heap.size w WF) := hUF.bel _ _ (Nat.le_refl _) HB1.out
          have R0 : Hid (WF.cell? ⟨w.heap.size, 0, none⟩ = some (.int .i64 x0)) := hUF.blk.cell 0
          have R1 : Hid (WF.cell? ⟨w.heap.size, 1, none⟩ = some (.int .i64 x1)) := hUF.blk.cell 1
          have R2 : Hid (WF.cell? ⟨w.heap.size, 2, none⟩ = some (.int .i64 x2)) := hUF.blk.cell 2
          clear hUF
          go_wp2_with fail
          exact bodyPost_ret (v := .tuple #[.agg #[.int .i64 x0, .int .i64 x1, .int .i64 x2], .int .i64 0]) (by simp [results, Tryd.results10, R0.out, R1.out, R2.out, go_sem]) rfl ⟨shOf n, 0, by rw [HSH.out]; rfl, HI.out, HBF.out⟩
      · have hr : (((n : Int) % 97) != 0) = true := by simp; omega
        have HI : Hid (UncIs s.data.toList sh0 8) := .inr (.inr (.inl ⟨HLN.out, HALL.out, by rw [HNN.out]; exact h97, rfl, rfl⟩))
        clear h97
        go_wp2_with (first | (refine wp_letAll rfl 32 _ _ rfl w.heap.size rfl #[.int .i64 0, .int .i64 0, .int .i64 0] rfl (by kernel_rfl) (by simp [Value.oneCell']) #[.int .i64 0, .int .i64 0, .int .i64 0] 32 HZ0.out rfl ?_) | fail)
        intro WF hUF
        have HBF : Hid (Below w.heap.size w WF) := hUF.bel _ _ (Nat.le_refl _) HB0.out
        have R0 : Hid (WF.cell? ⟨w.heap.size, 0, none⟩ = some (.int .i64 0)) := hUF.blk.cell 0
        have R1 : Hid (WF.cell? ⟨w.heap.size, 1, none⟩ = some (.int .i64 0)) := hUF.blk.cell 1
        have R2 : Hid (WF.cell? ⟨w.heap.size, 2, none⟩ = some (.int .i64 0)) := hUF.blk.cell 2
        clear hUF
        go_wp2_with fail
        exact bodyPost_ret (v := .tuple #[.agg #[.int .i64 0, .int .i64 0, .int .i64 0], .int .i64 8]) (by simp [results, Tryd.results10, R0.out, R1.out, R2.out, go_sem]) rfl ⟨sh0, 8, rfl, HI.out, HBF.out⟩

theorem runcoded (s : ByteArray) (w : World) : Calls Tryd.prog 10 #[.string s] w fun e w' => UncPost w s.data.toList e w' := by
  by_cases h : s.size = 18
  · exact unc_18 s w h
  · exact unc_len s w h

end Go.Proofs.YtnhidiefchamlaaDoor.cod
