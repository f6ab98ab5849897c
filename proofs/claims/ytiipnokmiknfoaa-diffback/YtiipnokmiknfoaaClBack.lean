/- What differs makes the one of the other: the walk. -/
import Derived.Test.YtiipnokmiknfoaaClSome
import Derived.Test.YtiipnokmiknfoaaClSameK
import Derived.Test.YtiipnokmiknfoaaClDiff
import Derived.Test.YtiipnokmiknfoaaClApp
import Derived.Test.YtiipnokmiknfoaaWqL
namespace Go.Proofs.Ytiipnokmiknfoaa.cell
open Go.RowKit
set_option maxRecDepth 100000
set_option linter.unusedVariables false
set_option linter.unusedSimpArgs false

theorem dif_prev (xs ys : List Int) (n i : Nat) (hi : i + 1 < (dif xs ys n).length) : ((dif xs ys n).getD i wr0).p < ((dif xs ys n).getD (i + 1) wr0).p := by
  have h := List.pairwise_iff_getElem.1 (dif_rises xs ys n) i (i + 1) (by omega) hi (by omega)
  simpa [List.getD, List.getElem?_eq_getElem hi, List.getElem?_eq_getElem (show i < (dif xs ys n).length by omega)] using h
theorem dif_at (xs ys : List Int) (n i : Nat) (hi : i < (dif xs ys n).length) : ∃ j : Nat, j < n ∧ ((dif xs ys n).getD i wr0).p = j ∧ ¬ xs.getD j 0 = ((dif xs ys n).getD i wr0).d := by
  obtain ⟨j, hj, he, hne⟩ := dif_mem (List.getElem_mem hi)
  have e : (dif xs ys n).getD i wr0 = ⟨(j : Int), ys.getD j 0⟩ := by
    rw [← he]; simp [List.getD, List.getElem?_eq_getElem hi]
  rw [e]
  exact ⟨j, hj, rfl, hne⟩

set_option maxHeartbeats 1000000 in
theorem back_walk (a0 a1 : Option Addr) (len0 cap0 len1 cap1 : Nat) (z0 z1 : List Int) (w : World) (h0 : RowU w a0 len0 z0) (h1 : RowU w a1 len1 z1) :
    Calls Try.prog 7 #[.slice a0 len0 cap0, .slice a1 len1 cap1] w fun e w' => e = .returned (.bool true) ∧ Below w.heap.size w w' := by
  have HS0 : Hid (Calls Try.prog 18 #[.slice a0 len0 cap0, .int .i64 200] w fun e w' => SomePost w 200 e w') := some_any a0 len0 cap0 200 z0 w h0 (by decide) (by decide)
  have HS1 : Hid (∀ W, Below w.heap.size w W → ∀ n : Nat, 1 ≤ n → n ≤ 200 → Calls Try.prog 18 #[.slice a1 len1 cap1, .int .i64 (n : Int)] W fun e w' => SomePost W n e w') := fun W hb n h1' h2' => some_any a1 len1 cap1 n z1 W (h1.below hb) h1' (by omega)
  clear h0 h1
  go_enter Try.func7, Try.ntmps7
  go_wp2_with fail
  refine HS0.out.mono ?_
  rintro e w1 ⟨v1, xs, rfl, hv1, hx1, hx2, hb1⟩
  obtain ⟨A, ca, rfl, rA, _, _⟩ := hv1.row
  obtain ⟨n, hn⟩ : ∃ n, xs.length = n := ⟨_, rfl⟩
  rw [hn] at rA hx1 hx2
  have HC1 : Hid (Calls Try.prog 18 #[.slice a1 len1 cap1, .int .i64 (n : Int)] w1 fun e w' => SomePost w1 n e w') := HS1.out w1 hb1 n hx1 hx2
  have HA : Hid (RowU w1 A n xs) := rA
  have HB1 : Hid (Below w.heap.size w w1) := hb1
  have HN : Hid (xs.length = n) := hn
  rw [hn]
  clear hv1 rA hb1 hn HS0 HS1
  go_wp2_with fail
  refine HC1.out.mono ?_
  rintro e w2 ⟨v2, ys, rfl, hv2, hy1, hy2, hb2⟩
  have HO0 : Hid (Ws w2 w1.heap.size v2 ys ∧ 1 ≤ ys.length ∧ ys.length ≤ n ∧ Below w1.heap.size w1 w2) := ⟨hv2, hy1, hy2, hb2⟩
  clear hv2 hy1 hy2 hb2 HC1
  obtain ⟨bA, oA, rfl, lA, cA⟩ := HA.out.at (by omega)
  have HCA : Hid (∀ wr, Below w1.heap.size w1 wr → ∀ k, k < n → wr.cell? ⟨bA, oA + k, none⟩ = some (.int .u32 (xs.getD k 0))) := fun wr hb k hk => (hb.cell (p := ⟨bA, oA + k, none⟩) lA).trans (cA k hk)
  clear lA cA
  go_wp2_with fail
  go_loopw [6] (fun v wr => ∃ (V : Value) (ys : List Int), V = v ∧ Ws wr w1.heap.size V ys ∧ 1 ≤ ys.length ∧ ys.length ≤ n ∧ Below w1.heap.size w1 wr) (fun v _ => n - lenV v)
  case atStart => exact ⟨_, ys, rfl, HO0.out⟩
  case round =>
    obtain ⟨V, ys, hV, hown, hy1, hy2, hb⟩ := hrel
    subst hV
    clear HO0
    obtain ⟨B, cb, rfl, rB, _, _⟩ := hown.row
    obtain ⟨k, hk⟩ : ∃ k, ys.length = k := ⟨_, rfl⟩
    have HYL : Hid (ys.length = k) := hk
    have HO : Hid (Ws wr w1.heap.size (.slice B k cb) ys) := by rw [hk] at hown; exact hown
    have HB : Hid (Below w1.heap.size w1 wr) := hb
    have HRB : Hid (RowU wr B k ys) := by rw [hk] at rB; exact rB
    rw [hk] at hy1 hy2
    rw [hk]
    clear hown hb rB hk
    by_cases hlt : k < n
    · have g1 := HCA.out wr HB.out k hlt
      generalize xs.getD k 0 = z at *
      have HG : Hid ((wr.alloc (.cells #[.int .u32 z] 39)).cell? ⟨wr.heap.size, 0, none⟩ = some (.int .u32 z)) := word_cell wr z
      have HOA : Hid (Ws (wr.alloc (.cells #[.int .u32 z] 39)) w1.heap.size (.slice B k cb) ys) := HO.out.alloc _
      have HSZ : Hid (w1.heap.size ≤ (wr.alloc (.cells #[.int .u32 z] 39)).heap.size) := alloc_le HB.out.size _
      go_wp2_with (first
        | (at_builtin; refine wp_word rfl _ _ rfl w1.heap.size wr.heap.size _ ys z rfl rfl HOA.out HG.out (by have := HYL.out; omega) HSZ.out ?_)
        | go_in)
      intro v' w4 hL4 hg4
      have HB4 : Hid (Below w1.heap.size w1 w4) := own_bel HOA.out hg4 (HB.out.alloc HB.out.size _) (Nat.le_refl _) HSZ.out
      obtain ⟨B', cb', rfl, rB', _, _⟩ := hL4.row
      have hl : (ys ++ [z]).length = k + 1 := by rw [List.length_append, HYL.out]; rfl
      have HL4 : Hid (Ws w4 w1.heap.size (.slice B' (k + 1) cb') (ys ++ [z])) := by rw [hl] at hL4; exact hL4
      have HLL : Hid ((ys ++ [z]).length = k + 1) := hl
      rw [hl]
      clear hL4 hg4 HOA HO HB HG HSZ rB' hl
      go_wp2_with fail
      go_roundw
      case rel => exact ⟨_, ys ++ [z], rfl, HL4.out, by rw [HLL.out]; omega, by rw [HLL.out]; omega, HB4.out⟩
      case measure => simp [lenV]; omega
    · obtain rfl : k = n := by omega
      have HDF : Hid (Calls Try.prog 16 #[.slice (some ⟨bA, oA, none⟩) k ca, .slice B k cb] wr fun e w' => GaveL wr (dif xs ys k) 0 e w') := diff_yes _ _ k ca cb xs ys wr (HA.out.below HB.out) HRB.out hx1 (by omega)
      clear hlt
      go_wp2_with fail
      refine HDF.out.mono ?_
      rintro e w3 ⟨v3, rfl, hv3, hb3⟩
      obtain ⟨C, cc, rfl, rC, _, hcc, _⟩ := hv3.row
      have hal : allN k (dif xs ys k) = true := dif_all xs ys k k (Nat.le_refl _)
      have hdl := dif_len xs ys k
      have HDP : Hid (∀ i, i + 1 < (dif xs ys k).length → ((dif xs ys k).getD i wr0).p < ((dif xs ys k).getD (i + 1) wr0).p) := dif_prev xs ys k
      have HDA : Hid (∀ i, i < (dif xs ys k).length → ∃ j : Nat, j < k ∧ ((dif xs ys k).getD i wr0).p = j ∧ ¬ xs.getD j 0 = ((dif xs ys k).getD i wr0).d) := dif_at xs ys k
      have hbk : wrt xs ((dif xs ys k).take (dif xs ys k).length) = ys := by
        rw [List.take_length, ← HN.out]
        exact dif_back xs ys (by rw [HN.out, HYL.out])
      have HB3 : Hid (Below w1.heap.size w1 w3) := bel_step HB.out hb3
      have hb3B : RowU w3 B k ys := HRB.out.below hb3
      have HCR : Hid (∀ wr, Below w3.heap.size w3 wr → RowU wr B k ys ∧ (∀ j, j < k → wr.cell? ⟨bA, oA + j, none⟩ = some (.int .u32 (xs.getD j 0))) ∧ RowW wr C (dif xs ys k).length (dif xs ys k) ∧ Below w.heap.size w wr) := fun wr hb =>
        ⟨hb3B.below hb, HCA.out wr (bel_step HB3.out hb), rC.below hb, bel_step HB1.out ((HB3.out.trans (hb.mono HB3.out.size)))⟩
      have HAP : Hid (∀ wr, Below w3.heap.size w3 wr → Calls Try.prog 13 #[.slice (some ⟨bA, oA, none⟩) k ca, .slice C (dif xs ys k).length cc, .int .i64 ((dif xs ys k).length : Int)] wr fun e w' => GaveR wr ys 0 e w') := fun wr hb => by
        have h := apply_yes (some ⟨bA, oA, none⟩) C k (dif xs ys k).length ca cc (dif xs ys k).length xs (dif xs ys k) wr ((HA.out.below HB3.out).below hb) (rC.below hb) hx1 (by omega) (by omega) hcc hal (Nat.le_refl _)
        rw [hbk] at h; exact h
      clear hv3 hb3 rC hcc hal hbk HDF HA HB1 HCA HO HB HRB HB3 hb3B
      obtain ⟨m, hm⟩ : ∃ m, (dif xs ys k).length = m := ⟨_, rfl⟩
      rw [hm] at HDP HDA HCR HAP hdl ⊢
      clear hm
      generalize dif xs ys k = ls at *
      go_wp2_with fail
      go_loopw [9] (fun i wr => ∃ j : Nat, j ≤ m ∧ i = .int .i64 (j : Int) ∧ Below w3.heap.size w3 wr) (fun i _ => m - (intOf i).toNat)
      case atStart => exact ⟨0, Nat.zero_le _, rfl, Below.refl _ _⟩
      case round =>
        obtain ⟨j, hj, rfl, hb⟩ := hrel
        have HB : Hid (Below w3.heap.size w3 wr) := hb
        clear hb
        by_cases hlt : j < m
        · have hR := HCR.out wr HB.out
          obtain ⟨q, hq, hpe, hne⟩ := HDA.out j hlt
          obtain ⟨b2, o2, rfl, l2, hc2⟩ := hR.2.2.1.at (by omega)
          have f1 := (hc2 j hlt).1
          have f2 := (hc2 j hlt).2
          have fa := hR.2.1 q hq
          rw [hpe] at f1
          have la := World.block_lt_of_cell? wr _ fa
          have HBX : Hid (Below w3.heap.size w3 (wr.alloc (.cells #[.int .i64 (q : Int), .int .u32 (ls.getD j wr0).d] 42))) := HB.out.alloc HB.out.size _
          have hN := Blk.new wr #[.int .i64 (q : Int), .int .u32 (ls.getD j wr0).d] 42
          have n0 := hN.cell 0
          have n1 := hN.cell 1
          have fa2 : (wr.alloc (.cells #[.int .i64 (q : Int), .int .u32 (ls.getD j wr0).d] 42)).cell? ⟨bA, oA + q, none⟩ = some (.int .u32 (xs.getD q 0)) := by rw [World.cell?_alloc_lt wr _ _ la]; exact fa
          have hd1 : decide ((q : Int) < 0) = false := by simp
          have hd2 : decide ((k : Int) ≤ (q : Int)) = false := by simp; omega
          have hd3 : (xs.getD q 0 == (ls.getD j wr0).d) = false := by simpa using hne
          cases j with
          | zero =>
            simp only [Nat.zero_mul, Nat.add_zero] at f1 f2
            clear hR hc2 l2 la hN HDP HDA HCR HAP hne hpe fa
            generalize (ls.getD 0 wr0).d = d at *
            generalize xs.getD q 0 = x at *
            go_wp2_with fail
            generalize wr.alloc (.cells #[.int .i64 (q : Int), .int .u32 d] 42) = W4 at *
            refine wl_lit (by kernel_rfl) (by kernel_rfl) ?_
            iterate 24 (refine wl_step (fun K hK => ?_); go_simp; refine hK _ ?_; clear hK K)
            iterate 9 (refine wl_skip (by kernel_rfl) ?_; simp only [Act.put, List.setIfInBounds_toArray, List.set_cons_zero, List.set_cons_succ])
            iterate 2 (refine wl_step (fun K hK => ?_); go_simp; refine hK _ ?_; clear hK K)
            refine wl_nil ?_
            intro _ hw'
            obtain ⟨nq, hw''⟩ := hw'
            subst hw''
            go_wp2_with fail
            go_roundw
            case rel => exact ⟨1, by omega, by go_num, bel_drew HBX.out _⟩
            case measure => simp [intOf]; omega
          | succ i =>
            have hpr := HDP.out i hlt
            have f3 := (hc2 i (by omega)).1
            have f4 : (wr.alloc (.cells #[.int .i64 (q : Int), .int .u32 (ls.getD (i + 1) wr0).d] 42)).cell? ⟨b2, o2 + i * 2, none⟩ = some (.int .i64 (ls.getD i wr0).p) := by rw [World.cell?_alloc_lt wr _ _ l2]; exact f3
            rw [hpe] at hpr
            have hwi : IntKind.i64.wrap (i : Int) = (i : Int) := by rw [IntKind.wrap_i64]; omega
            have him : i < m := by omega
            have hd4 : decide ((q : Int) ≤ (ls.getD i wr0).p) = false := by rw [decide_eq_false_iff_not]; omega
            clear hR hc2 l2 la hN HDP HDA HCR HAP hne hpe fa f3 hpr
            generalize (ls.getD (i + 1) wr0).d = d at *
            generalize (ls.getD i wr0).p = pp at *
            generalize xs.getD q 0 = x at *
            go_wp2_with fail
            generalize wr.alloc (.cells #[.int .i64 (q : Int), .int .u32 d] 42) = W4 at *
            refine wl_lit (by kernel_rfl) (by kernel_rfl) ?_
            iterate 35 (refine wl_step (fun K hK => ?_); go_simp; refine hK _ ?_; clear hK K)
            refine wl_nil ?_
            intro _ hw'
            obtain ⟨nq, hw''⟩ := hw'
            subst hw''
            go_wp2_with fail
            go_roundw
            case rel => exact ⟨i + 1 + 1, by omega, by go_num, bel_drew HBX.out _⟩
            case measure => simp [intOf]; omega
        · obtain rfl : j = m := by omega
          have HCL : Hid (Calls Try.prog 13 #[.slice (some ⟨bA, oA, none⟩) k ca, .slice C j cc, .int .i64 (j : Int)] wr fun e w' => GaveR wr ys 0 e w') := HAP.out wr HB.out
          have HX : Hid (RowU wr B k ys ∧ Below w.heap.size w wr) := ⟨(HCR.out wr HB.out).1, (HCR.out wr HB.out).2.2.2⟩
          clear HAP HCR HDP HDA HB hlt
          go_wp2_with fail
          refine HCL.out.mono ?_
          rintro e w5 ⟨D, cd, rfl, rD, _, hb5⟩
          have hyl := HYL.out
          rw [hyl] at rD
          rw [hyl]
          have HSW : Hid (Calls Try.prog 20 #[.slice B k cb, .slice D k cd] w5 fun e w' => e = .returned (.bool true) ∧ Below w5.heap.size w5 w') := words_keep B D k cb cd ys w5 (HX.out.1.below hb5) rD (by unfold maxLen; omega)
          have HB5 : Hid (Below w.heap.size w w5) := bel_step HX.out.2 hb5
          clear hyl rD hb5 HX HCL
          go_wp2_with fail
          refine HSW.out.mono ?_
          rintro e w6 ⟨rfl, hb6⟩
          go_wp2_with fail
          go_ret
          exact ⟨rfl, bel_step HB5.out hb6⟩

end Go.Proofs.Ytiipnokmiknfoaa.cell
