/- The line of an act, as the document says it: the walk. -/
import Derived.Test.YtlianhienbhbgaaDoorOeP
import Derived.Test.YtlianhienbhbgaaDoorCallFirst
import Derived.Test.YtlianhienbhbgaaDoorOpAt
import Derived.Deep.DeepCutAuto
namespace Go.Proofs.YtlianhienbhbgaaDoor.odr
open Go.RowKit
set_option maxRecDepth 100000
set_option linter.unusedVariables false
set_option linter.unusedSimpArgs false


set_option maxHeartbeats 8000000 in
theorem rshown (x : Ac) (w : World) (htx : x.t.size ≤ 140737488354304) : Calls Tryd.prog 8 #[x.v] w fun e w' => e = .returned (.tuple #[.string (ba (shown x)), .int .i64 (err x)]) ∧ Below w.heap.size w w' := by
  have HIN : Hid (∀ (n lo hi : Int) W, Calls Tryd.prog 17 #[.int .i64 n, .int .i64 lo, .int .i64 hi] W fun e w' => e = .returned (.bool (inB lo hi n)) ∧ w' = W) := rin
  obtain ⟨k, me, a, b, c, t, cut⟩ := x
  have HXV : (⟨k, me, a, b, c, t, cut⟩ : Ac).v = .agg #[.int .i64 k, .int .i64 me, .int .i64 a, .int .i64 b, .int .i64 c, .string t, .int .i64 cut] := rfl
  rw [HXV]
  clear HXV
  simp only at htx
  obtain ⟨SH, hSH⟩ : ∃ l, shown ⟨k, me, a, b, c, t, cut⟩ = l := ⟨_, rfl⟩
  obtain ⟨ER, hER⟩ : ∃ n, err ⟨k, me, a, b, c, t, cut⟩ = n := ⟨_, rfl⟩
  rw [hSH, hER]
  have H2 : err ⟨k, me, a, b, c, t, cut⟩ = 2 → SH = [] ∧ ER = 2 := fun h => ⟨by rw [← hSH]; exact shown_n (by rw [h]; decide), by rw [← hER]; exact h⟩
  have HW : Hid (∀ W, Calls Tryd.prog 16 #[.int .i64 k] W fun e w' => e = .returned (.tuple #[.string (ba (wd k)), .bool (hA k), .bool (hB k), .bool (hC k)]) ∧ w' = W) := rword k
  have HB : Hid (Below w.heap.size w (w.alloc (.cells #[.int .i64 k, .int .i64 me, .int .i64 a, .int .i64 b, .int .i64 c, .string t, .int .i64 cut] 23))) := (Below.refl _ _).alloc (Nat.le_refl _) _
  have HX : Hid (Blk (w.alloc (.cells #[.int .i64 k, .int .i64 me, .int .i64 a, .int .i64 b, .int .i64 c, .string t, .int .i64 cut] 23)) w.heap.size #[.int .i64 k, .int .i64 me, .int .i64 a, .int .i64 b, .int .i64 c, .string t, .int .i64 cut] 23) := Blk.new _ _ _
  cases hk : inB 1 7 k with
  | false =>
    have HE : Hid (SH = [] ∧ ER = 2) := H2 (err_k hk)
    rw [wd_none hk, show ba [] = ⟨#[]⟩ from rfl] at HW
    clear hk hSH hER H2 HX HIN
    generalize hA k = ha at *
    generalize hB k = hb at *
    generalize hC k = hc at *
    go_enter Tryd.func8, Tryd.ntmps8
    go_wp2_with fail
    refine (HW.out _).mono ?_
    rintro e W1 ⟨rfl, rfl⟩
    go_wp2_with fail
    go_ret2
    exact ⟨by rw [HE.out.1, HE.out.2]; rfl, HB.out⟩
  | true =>
    have hws := wd_some hk
    have hwl : (ba (wd k)).size ≤ 100 := by rcases kinds hk with rfl | rfl | rfl | rfl | rfl | rfl | rfl <;> decide
    cases hcu : inB (-1) 4096 cut with
    | false =>
      have HE : Hid (SH = [] ∧ ER = 2) := H2 (err_c hcu)
      have HIC : Hid (∀ W, Calls Tryd.prog 17 #[.int .i64 cut, .int .i64 (-1), .int .i64 4096] W fun e w' => e = .returned (.bool false) ∧ w' = W) := fun W => by have h := HIN.out cut (-1) 4096 W; rw [hcu] at h; exact h
      clear hk hcu hSH hER H2 HX HIN hwl
      generalize ba (wd k) = fs at *
      generalize hA k = ha at *
      generalize hB k = hb at *
      generalize hC k = hc at *
      go_enter Tryd.func8, Tryd.ntmps8
      go_wp2_with fail
      refine (HW.out _).mono ?_
      rintro e W1 ⟨rfl, rfl⟩
      go_wp2_with fail
      refine (HIC.out _).mono ?_
      rintro e W1 ⟨rfl, rfl⟩
      go_wp2_with fail
      go_ret2
      exact ⟨by rw [HE.out.1, HE.out.2]; rfl, HB.out⟩
    | true =>
      have HIC : Hid (∀ W, Calls Tryd.prog 17 #[.int .i64 cut, .int .i64 (-1), .int .i64 4096] W fun e w' => e = .returned (.bool true) ∧ w' = W) := fun W => by have h := HIN.out cut (-1) 4096 W; rw [hcu] at h; exact h
      cases hme : inB 0 1000000000000 me with
      | false =>
        have HE : Hid (SH = [] ∧ ER = 2) := H2 (err_m hk hme)
        have HIM : Hid (∀ W, Calls Tryd.prog 17 #[.int .i64 me, .int .i64 0, .int .i64 1000000000000] W fun e w' => e = .returned (.bool false) ∧ w' = W) := fun W => by have h := HIN.out me 0 1000000000000 W; rw [hme] at h; exact h
        clear hk hcu hme hSH hER H2 HX HIN hwl
        generalize ba (wd k) = fs at *
        generalize hA k = ha at *
        generalize hB k = hb at *
        generalize hC k = hc at *
        go_enter Tryd.func8, Tryd.ntmps8
        go_wp2_with fail
        refine (HW.out _).mono ?_
        rintro e W1 ⟨rfl, rfl⟩
        go_wp2_with fail
        refine (HIC.out _).mono ?_
        rintro e W1 ⟨rfl, rfl⟩
        go_wp2_with fail
        refine (HIM.out _).mono ?_
        rintro e W1 ⟨rfl, rfl⟩
        go_wp2_with fail
        go_ret2
        exact ⟨by rw [HE.out.1, HE.out.2]; rfl, HB.out⟩
      | true =>
        have HIM : Hid (∀ W, Calls Tryd.prog 17 #[.int .i64 me, .int .i64 0, .int .i64 1000000000000] W fun e w' => e = .returned (.bool true) ∧ w' = W) := fun W => by have h := HIN.out me 0 1000000000000 W; rw [hme] at h; exact h
        have HI0 : Hid (∀ W, Calls Tryd.prog 17 #[.int .i64 a, .int .i64 0, .int .i64 1000000000000] W fun e w' => e = .returned (.bool (inB 0 1000000000000 a)) ∧ w' = W) := fun W => HIN.out a 0 1000000000000 W
        have HI1 : Hid (∀ W, Calls Tryd.prog 17 #[.int .i64 b, .int .i64 0, .int .i64 1000000000000] W fun e w' => e = .returned (.bool (inB 0 1000000000000 b)) ∧ w' = W) := fun W => HIN.out b 0 1000000000000 W
        have HI2 : Hid (∀ W, Calls Tryd.prog 17 #[.int .i64 c, .int .i64 0, .int .i64 1000000000000] W fun e w' => e = .returned (.bool (inB 0 1000000000000 c)) ∧ w' = W) := fun W => HIN.out c 0 1000000000000 W
        have HED := err_doc (x := ⟨k, me, a, b, c, t, cut⟩) hk hcu hme
        have HLL := lineL_eq (x := ⟨k, me, a, b, c, t, cut⟩) hk
        simp only at HED HLL
        rw [HLL, hER] at HED
        have HSL : ER = 0 → SH = lineL ⟨k, me, a, b, c, t, cut⟩ := fun h => by rw [← hSH]; exact shown_0 (by rw [hER]; exact h)
        have HSN : ER ≠ 0 → SH = [] := fun h => by rw [← hSH]; exact shown_n (by rw [hER]; exact h)
        rw [HLL] at HSL
        have hcb : -1 ≤ cut ∧ cut ≤ 4096 := by simpa [inB] using hcu
        have hmb : 0 ≤ me ∧ me ≤ 1000000000000 := by simpa [inB] using hme
        have HK6 : ∀ b, hT k = b → (k == 6) = b := fun b h => h
        have HPA : Hid (∀ (h : Bool) (n : Int) W, (h = true → inB 0 1000000000000 n = true) → Calls Tryd.prog 19 #[.bool h, .int .i64 n] W fun e w' => e = .returned (.string (ba (part h n))) ∧ Below W.heap.size W w') := fun h n W hn => rpart h n W (fun e => by simpa [inB] using hn e)
        have HPL : ∀ (h : Bool) (n : Int), (h = true → inB 0 1000000000000 n = true) → (ba (part h n)).size ≤ 14 := fun h n hn => by
          rw [ba_size]
          unfold part
          cases h
          · simp
          · have := itoa_len n (by simpa [inB] using hn rfl)
            simp; omega
        have HLP := line_parts cut (ba (wd k)) (hA k) (hB k) (hC k) (hT k) me a b c t
        clear hk hcu hme hSH hER H2 HIN HLL
        obtain ⟨ht, hht⟩ : ∃ b, hT k = b := ⟨_, rfl⟩
        have hk6 := HK6 ht hht
        rw [hht] at HED HSL HLP
        clear HK6 hht
        generalize ba (wd k) = fs at *
        generalize hA k = ha at *
        generalize hB k = hb at *
        generalize hC k = hc at *
        obtain ⟨iA, hiA⟩ : ∃ B, inB 0 1000000000000 a = B := ⟨_, rfl⟩
        obtain ⟨iB, hiB⟩ : ∃ B, inB 0 1000000000000 b = B := ⟨_, rfl⟩
        obtain ⟨iC, hiC⟩ : ∃ B, inB 0 1000000000000 c = B := ⟨_, rfl⟩
        rw [hiA] at HI0 HED
        rw [hiB] at HI1 HED
        rw [hiC] at HI2 HED
        have HiA : Hid (inB 0 1000000000000 a = iA) := hiA
        have HiB : Hid (inB 0 1000000000000 b = iB) := hiB
        have HiC : Hid (inB 0 1000000000000 c = iC) := hiC
        clear hiA hiB hiC
        obtain ⟨B4, hB4⟩ : ∃ B, ((ha && !iA) || (hb && !iB) || (hc && !iC)) = B := ⟨_, rfl⟩
        obtain ⟨B6, hB6⟩ : ∃ B, ((!ha && (a != 0)) || (!hb && (b != 0)) || (!hc && (c != 0)) || (!ht && !(t.toList == []))) = B := ⟨_, rfl⟩
        rw [hB4, hB6] at HED
        obtain ⟨TEN, hTEN⟩ : ∃ B, t.data.toList.contains 10 = B := ⟨_, rfl⟩
        rw [hTEN] at HED
        have HTENh : Hid (t.data.toList.contains 10 = TEN) := hTEN
        have HEDh : Hid (ER = if B4 = true then 2 else if B6 = true ∨ TEN = true then 3 else if 120 < (lineB cut fs (tl ha hb hc me a b c) ht t).length then 1 else 0) := HED
        have HSLh : Hid (ER = 0 → SH = lineB cut fs (tl ha hb hc me a b c) ht t) := HSL
        have HSNh : Hid (ER ≠ 0 → SH = []) := HSN
        have HB4 : Hid (((ha && !iA) || (hb && !iB) || (hc && !iC)) = B4) := hB4
        have HB6 : Hid (((!ha && (a != 0)) || (!hb && (b != 0)) || (!hc && (c != 0)) || (!ht && !(t.toList == []))) = B6) := hB6
        have HLPh : Hid (lineB cut fs (tl ha hb hc me a b c) ht t = (if cut = -1 then [] else [99, 117, 116, 32] ++ Lib.itoa cut ++ [32]) ++ (fs.data.toList ++ ([32] ++ Lib.itoa me) ++ part ha a ++ part hb b ++ part hc c) ++ (if ht = true then 32 :: t.data.toList else [])) := HLP
        have HPLh : Hid (∀ (h : Bool) (n : Int), (h = true → inB 0 1000000000000 n = true) → (ba (part h n)).size ≤ 14) := HPL
        clear hTEN HED HSL HSN hB4 hB6 HLP HPL
        go_enter Tryd.func8, Tryd.ntmps8
        go_wp2_with fail
        refine (HW.out _).mono ?_
        rintro e W1 ⟨rfl, rfl⟩
        go_wp2_with fail
        refine (HIC.out _).mono ?_
        rintro e W1 ⟨rfl, rfl⟩
        go_wp2_with fail
        refine (HIM.out _).mono ?_
        rintro e W1 ⟨rfl, rfl⟩
        go_upto_region 4 with fail
        clear HW HIC HIM hws
        generalize (w.alloc (.cells #[.int .i64 k, .int .i64 me, .int .i64 a, .int .i64 b, .int .i64 c, .string t, .int .i64 cut] 23)) = W0 at *
        have x0 : W0.cell? ⟨w.heap.size, 0, none⟩ = some (.int .i64 k) := HX.out.cell 0
        have x2 : W0.cell? ⟨w.heap.size, 2, none⟩ = some (.int .i64 a) := HX.out.cell 2
        have x3 : W0.cell? ⟨w.heap.size, 3, none⟩ = some (.int .i64 b) := HX.out.cell 3
        have x4 : W0.cell? ⟨w.heap.size, 4, none⟩ = some (.int .i64 c) := HX.out.cell 4
        have x5 : W0.cell? ⟨w.heap.size, 5, none⟩ = some (.string t) := HX.out.cell 5
        have x6 : W0.cell? ⟨w.heap.size, 6, none⟩ = some (.int .i64 cut) := HX.out.cell 6
        go_cut [56] (fun v56 wc => wc = W0 ∧ v56 = .bool B4)
        case first =>
          clear HB HX HEDh HSLh HSNh HB6 HLPh HPLh HTENh HPA HiA HiB HiC
          as_aux_lemma =>
            cases ha with
            | false =>
              cases hb with
              | false =>
                cases hc with
                | false =>
                  go_wp2_with fail
                  all_goals first
                    | (rename_i q1 q2; exact absurd q1 (by simp [undef]))
                    | (go_meet; case rel => exact ⟨by first | rfl | trivial, by rw [← HB4.out]; rfl⟩)
                | true =>
                  go_wp2_with fail
                  refine (HI2.out _).mono ?_
                  rintro e W1 ⟨rfl, rfl⟩
                  cases iC with
                  | false =>
                    go_wp2_with fail
                    all_goals first
                      | (rename_i q1 q2; exact absurd q1 (by simp [undef]))
                      | (go_meet; case rel => exact ⟨by first | rfl | trivial, by rw [← HB4.out]; rfl⟩)
                  | true =>
                    go_wp2_with fail
                    all_goals first
                      | (rename_i q1 q2; exact absurd q1 (by simp [undef]))
                      | (go_meet; case rel => exact ⟨by first | rfl | trivial, by rw [← HB4.out]; rfl⟩)
              | true =>
                go_wp2_with fail
                refine (HI1.out _).mono ?_
                rintro e W1 ⟨rfl, rfl⟩
                cases iB with
                | false =>
                  go_wp2_with fail
                  all_goals first
                    | (rename_i q1 q2; exact absurd q1 (by simp [undef]))
                    | (go_meet; case rel => exact ⟨by first | rfl | trivial, by rw [← HB4.out]; rfl⟩)
                | true =>
                  cases hc with
                  | false =>
                    go_wp2_with fail
                    all_goals first
                      | (rename_i q1 q2; exact absurd q1 (by simp [undef]))
                      | (go_meet; case rel => exact ⟨by first | rfl | trivial, by rw [← HB4.out]; rfl⟩)
                  | true =>
                    go_wp2_with fail
                    refine (HI2.out _).mono ?_
                    rintro e W1 ⟨rfl, rfl⟩
                    cases iC with
                    | false =>
                      go_wp2_with fail
                      all_goals first
                        | (rename_i q1 q2; exact absurd q1 (by simp [undef]))
                        | (go_meet; case rel => exact ⟨by first | rfl | trivial, by rw [← HB4.out]; rfl⟩)
                    | true =>
                      go_wp2_with fail
                      all_goals first
                        | (rename_i q1 q2; exact absurd q1 (by simp [undef]))
                        | (go_meet; case rel => exact ⟨by first | rfl | trivial, by rw [← HB4.out]; rfl⟩)
            | true =>
              go_wp2_with fail
              refine (HI0.out _).mono ?_
              rintro e W1 ⟨rfl, rfl⟩
              cases iA with
              | false =>
                go_wp2_with fail
                all_goals first
                  | (rename_i q1 q2; exact absurd q1 (by simp [undef]))
                  | (go_meet; case rel => exact ⟨by first | rfl | trivial, by rw [← HB4.out]; rfl⟩)
              | true =>
                cases hb with
                | false =>
                  cases hc with
                  | false =>
                    go_wp2_with fail
                    all_goals first
                      | (rename_i q1 q2; exact absurd q1 (by simp [undef]))
                      | (go_meet; case rel => exact ⟨by first | rfl | trivial, by rw [← HB4.out]; rfl⟩)
                  | true =>
                    go_wp2_with fail
                    refine (HI2.out _).mono ?_
                    rintro e W1 ⟨rfl, rfl⟩
                    cases iC with
                    | false =>
                      go_wp2_with fail
                      all_goals first
                        | (rename_i q1 q2; exact absurd q1 (by simp [undef]))
                        | (go_meet; case rel => exact ⟨by first | rfl | trivial, by rw [← HB4.out]; rfl⟩)
                    | true =>
                      go_wp2_with fail
                      all_goals first
                        | (rename_i q1 q2; exact absurd q1 (by simp [undef]))
                        | (go_meet; case rel => exact ⟨by first | rfl | trivial, by rw [← HB4.out]; rfl⟩)
                | true =>
                  go_wp2_with fail
                  refine (HI1.out _).mono ?_
                  rintro e W1 ⟨rfl, rfl⟩
                  cases iB with
                  | false =>
                    go_wp2_with fail
                    all_goals first
                      | (rename_i q1 q2; exact absurd q1 (by simp [undef]))
                      | (go_meet; case rel => exact ⟨by first | rfl | trivial, by rw [← HB4.out]; rfl⟩)
                  | true =>
                    cases hc with
                    | false =>
                      go_wp2_with fail
                      all_goals first
                        | (rename_i q1 q2; exact absurd q1 (by simp [undef]))
                        | (go_meet; case rel => exact ⟨by first | rfl | trivial, by rw [← HB4.out]; rfl⟩)
                    | true =>
                      go_wp2_with fail
                      refine (HI2.out _).mono ?_
                      rintro e W1 ⟨rfl, rfl⟩
                      cases iC with
                      | false =>
                        go_wp2_with fail
                        all_goals first
                          | (rename_i q1 q2; exact absurd q1 (by simp [undef]))
                          | (go_meet; case rel => exact ⟨by first | rfl | trivial, by rw [← HB4.out]; rfl⟩)
                      | true =>
                        go_wp2_with fail
                        all_goals first
                          | (rename_i q1 q2; exact absurd q1 (by simp [undef]))
                          | (go_meet; case rel => exact ⟨by first | rfl | trivial, by rw [← HB4.out]; rfl⟩)
        case rest =>
          obtain ⟨hw1, rfl⟩ := hcut
          replace hw1 := hw1.symm
          subst hw1
          clear HI0 HI1 HI2
          cases B4 with
          | true =>
            have HE : Hid (SH = [] ∧ ER = 2) := by
              have e : ER = 2 := by have h := HEDh.out; simpa using h
              exact ⟨HSNh.out (by rw [e]; decide), e⟩
            clear HEDh HSLh HSNh
            go_wp2_with fail
            go_ret2
            exact ⟨by rw [HE.out.1, HE.out.2]; rfl, HB.out⟩
          | false =>
            go_upto_region 6 with fail
            go_cut [91] (fun v91 wc => wc = W0 ∧ v91 = .bool B6)
            case first =>
              clear HB HX HEDh HSLh HSNh HB4 HLPh HPLh HTENh HPA HiA HiB HiC
              as_aux_lemma =>
                cases ha with
                | true =>
                  cases hb with
                  | true =>
                    cases hc with
                    | true =>
                      cases ht with
                      | true =>
                        have h6 : (k != 6) = false := by simpa using hk6
                        go_wp2_with fail
                        all_goals first
                          | (rename_i q1 q2; exact absurd q1 (by simp [undef]))
                          | (go_meet; case rel => exact ⟨by first | rfl | trivial, by rw [← HB6.out]; rfl⟩)
                      | false =>
                        have h6 : (k != 6) = true := by simpa using hk6
                        cases hz : (t.toList == []) with
                        | true =>
                          rw [hz] at HB6
                          go_wp2_with fail
                          all_goals first
                            | (rename_i q1 q2; exact absurd q1 (by simp [undef]))
                            | (go_meet; case rel => exact ⟨by first | rfl | trivial, by rw [← HB6.out]; rfl⟩)
                        | false =>
                          rw [hz] at HB6
                          go_wp2_with fail
                          all_goals first
                            | (rename_i q1 q2; exact absurd q1 (by simp [undef]))
                            | (go_meet; case rel => exact ⟨by first | rfl | trivial, by rw [← HB6.out]; rfl⟩)
                    | false =>
                      cases hz2 : (c != 0) with
                      | true =>
                        rw [hz2] at HB6
                        go_wp2_with fail
                        all_goals first
                          | (rename_i q1 q2; exact absurd q1 (by simp [undef]))
                          | (go_meet; case rel => exact ⟨by first | rfl | trivial, by rw [← HB6.out]; rfl⟩)
                      | false =>
                        rw [hz2] at HB6
                        cases ht with
                        | true =>
                          have h6 : (k != 6) = false := by simpa using hk6
                          go_wp2_with fail
                          all_goals first
                            | (rename_i q1 q2; exact absurd q1 (by simp [undef]))
                            | (go_meet; case rel => exact ⟨by first | rfl | trivial, by rw [← HB6.out]; rfl⟩)
                        | false =>
                          have h6 : (k != 6) = true := by simpa using hk6
                          cases hz : (t.toList == []) with
                          | true =>
                            rw [hz] at HB6
                            go_wp2_with fail
                            all_goals first
                              | (rename_i q1 q2; exact absurd q1 (by simp [undef]))
                              | (go_meet; case rel => exact ⟨by first | rfl | trivial, by rw [← HB6.out]; rfl⟩)
                          | false =>
                            rw [hz] at HB6
                            go_wp2_with fail
                            all_goals first
                              | (rename_i q1 q2; exact absurd q1 (by simp [undef]))
                              | (go_meet; case rel => exact ⟨by first | rfl | trivial, by rw [← HB6.out]; rfl⟩)
                  | false =>
                    cases hz1 : (b != 0) with
                    | true =>
                      rw [hz1] at HB6
                      go_wp2_with fail
                      all_goals first
                        | (rename_i q1 q2; exact absurd q1 (by simp [undef]))
                        | (go_meet; case rel => exact ⟨by first | rfl | trivial, by rw [← HB6.out]; rfl⟩)
                    | false =>
                      rw [hz1] at HB6
                      cases hc with
                      | true =>
                        cases ht with
                        | true =>
                          have h6 : (k != 6) = false := by simpa using hk6
                          go_wp2_with fail
                          all_goals first
                            | (rename_i q1 q2; exact absurd q1 (by simp [undef]))
                            | (go_meet; case rel => exact ⟨by first | rfl | trivial, by rw [← HB6.out]; rfl⟩)
                        | false =>
                          have h6 : (k != 6) = true := by simpa using hk6
                          cases hz : (t.toList == []) with
                          | true =>
                            rw [hz] at HB6
                            go_wp2_with fail
                            all_goals first
                              | (rename_i q1 q2; exact absurd q1 (by simp [undef]))
                              | (go_meet; case rel => exact ⟨by first | rfl | trivial, by rw [← HB6.out]; rfl⟩)
                          | false =>
                            rw [hz] at HB6
                            go_wp2_with fail
                            all_goals first
                              | (rename_i q1 q2; exact absurd q1 (by simp [undef]))
                              | (go_meet; case rel => exact ⟨by first | rfl | trivial, by rw [← HB6.out]; rfl⟩)
                      | false =>
                        cases hz2 : (c != 0) with
                        | true =>
                          rw [hz2] at HB6
                          go_wp2_with fail
                          all_goals first
                            | (rename_i q1 q2; exact absurd q1 (by simp [undef]))
                            | (go_meet; case rel => exact ⟨by first | rfl | trivial, by rw [← HB6.out]; rfl⟩)
                        | false =>
                          rw [hz2] at HB6
                          cases ht with
                          | true =>
                            have h6 : (k != 6) = false := by simpa using hk6
                            go_wp2_with fail
                            all_goals first
                              | (rename_i q1 q2; exact absurd q1 (by simp [undef]))
                              | (go_meet; case rel => exact ⟨by first | rfl | trivial, by rw [← HB6.out]; rfl⟩)
                          | false =>
                            have h6 : (k != 6) = true := by simpa using hk6
                            cases hz : (t.toList == []) with
                            | true =>
                              rw [hz] at HB6
                              go_wp2_with fail
                              all_goals first
                                | (rename_i q1 q2; exact absurd q1 (by simp [undef]))
                                | (go_meet; case rel => exact ⟨by first | rfl | trivial, by rw [← HB6.out]; rfl⟩)
                            | false =>
                              rw [hz] at HB6
                              go_wp2_with fail
                              all_goals first
                                | (rename_i q1 q2; exact absurd q1 (by simp [undef]))
                                | (go_meet; case rel => exact ⟨by first | rfl | trivial, by rw [← HB6.out]; rfl⟩)
                | false =>
                  cases hz0 : (a != 0) with
                  | true =>
                    rw [hz0] at HB6
                    go_wp2_with fail
                    all_goals first
                      | (rename_i q1 q2; exact absurd q1 (by simp [undef]))
                      | (go_meet; case rel => exact ⟨by first | rfl | trivial, by rw [← HB6.out]; rfl⟩)
                  | false =>
                    rw [hz0] at HB6
                    cases hb with
                    | true =>
                      cases hc with
                      | true =>
                        cases ht with
                        | true =>
                          have h6 : (k != 6) = false := by simpa using hk6
                          go_wp2_with fail
                          all_goals first
                            | (rename_i q1 q2; exact absurd q1 (by simp [undef]))
                            | (go_meet; case rel => exact ⟨by first | rfl | trivial, by rw [← HB6.out]; rfl⟩)
                        | false =>
                          have h6 : (k != 6) = true := by simpa using hk6
                          cases hz : (t.toList == []) with
                          | true =>
                            rw [hz] at HB6
                            go_wp2_with fail
                            all_goals first
                              | (rename_i q1 q2; exact absurd q1 (by simp [undef]))
                              | (go_meet; case rel => exact ⟨by first | rfl | trivial, by rw [← HB6.out]; rfl⟩)
                          | false =>
                            rw [hz] at HB6
                            go_wp2_with fail
                            all_goals first
                              | (rename_i q1 q2; exact absurd q1 (by simp [undef]))
                              | (go_meet; case rel => exact ⟨by first | rfl | trivial, by rw [← HB6.out]; rfl⟩)
                      | false =>
                        cases hz2 : (c != 0) with
                        | true =>
                          rw [hz2] at HB6
                          go_wp2_with fail
                          all_goals first
                            | (rename_i q1 q2; exact absurd q1 (by simp [undef]))
                            | (go_meet; case rel => exact ⟨by first | rfl | trivial, by rw [← HB6.out]; rfl⟩)
                        | false =>
                          rw [hz2] at HB6
                          cases ht with
                          | true =>
                            have h6 : (k != 6) = false := by simpa using hk6
                            go_wp2_with fail
                            all_goals first
                              | (rename_i q1 q2; exact absurd q1 (by simp [undef]))
                              | (go_meet; case rel => exact ⟨by first | rfl | trivial, by rw [← HB6.out]; rfl⟩)
                          | false =>
                            have h6 : (k != 6) = true := by simpa using hk6
                            cases hz : (t.toList == []) with
                            | true =>
                              rw [hz] at HB6
                              go_wp2_with fail
                              all_goals first
                                | (rename_i q1 q2; exact absurd q1 (by simp [undef]))
                                | (go_meet; case rel => exact ⟨by first | rfl | trivial, by rw [← HB6.out]; rfl⟩)
                            | false =>
                              rw [hz] at HB6
                              go_wp2_with fail
                              all_goals first
                                | (rename_i q1 q2; exact absurd q1 (by simp [undef]))
                                | (go_meet; case rel => exact ⟨by first | rfl | trivial, by rw [← HB6.out]; rfl⟩)
                    | false =>
                      cases hz1 : (b != 0) with
                      | true =>
                        rw [hz1] at HB6
                        go_wp2_with fail
                        all_goals first
                          | (rename_i q1 q2; exact absurd q1 (by simp [undef]))
                          | (go_meet; case rel => exact ⟨by first | rfl | trivial, by rw [← HB6.out]; rfl⟩)
                      | false =>
                        rw [hz1] at HB6
                        cases hc with
                        | true =>
                          cases ht with
                          | true =>
                            have h6 : (k != 6) = false := by simpa using hk6
                            go_wp2_with fail
                            all_goals first
                              | (rename_i q1 q2; exact absurd q1 (by simp [undef]))
                              | (go_meet; case rel => exact ⟨by first | rfl | trivial, by rw [← HB6.out]; rfl⟩)
                          | false =>
                            have h6 : (k != 6) = true := by simpa using hk6
                            cases hz : (t.toList == []) with
                            | true =>
                              rw [hz] at HB6
                              go_wp2_with fail
                              all_goals first
                                | (rename_i q1 q2; exact absurd q1 (by simp [undef]))
                                | (go_meet; case rel => exact ⟨by first | rfl | trivial, by rw [← HB6.out]; rfl⟩)
                            | false =>
                              rw [hz] at HB6
                              go_wp2_with fail
                              all_goals first
                                | (rename_i q1 q2; exact absurd q1 (by simp [undef]))
                                | (go_meet; case rel => exact ⟨by first | rfl | trivial, by rw [← HB6.out]; rfl⟩)
                        | false =>
                          cases hz2 : (c != 0) with
                          | true =>
                            rw [hz2] at HB6
                            go_wp2_with fail
                            all_goals first
                              | (rename_i q1 q2; exact absurd q1 (by simp [undef]))
                              | (go_meet; case rel => exact ⟨by first | rfl | trivial, by rw [← HB6.out]; rfl⟩)
                          | false =>
                            rw [hz2] at HB6
                            cases ht with
                            | true =>
                              have h6 : (k != 6) = false := by simpa using hk6
                              go_wp2_with fail
                              all_goals first
                                | (rename_i q1 q2; exact absurd q1 (by simp [undef]))
                                | (go_meet; case rel => exact ⟨by first | rfl | trivial, by rw [← HB6.out]; rfl⟩)
                            | false =>
                              have h6 : (k != 6) = true := by simpa using hk6
                              cases hz : (t.toList == []) with
                              | true =>
                                rw [hz] at HB6
                                go_wp2_with fail
                                all_goals first
                                  | (rename_i q1 q2; exact absurd q1 (by simp [undef]))
                                  | (go_meet; case rel => exact ⟨by first | rfl | trivial, by rw [← HB6.out]; rfl⟩)
                              | false =>
                                rw [hz] at HB6
                                go_wp2_with fail
                                all_goals first
                                  | (rename_i q1 q2; exact absurd q1 (by simp [undef]))
                                  | (go_meet; case rel => exact ⟨by first | rfl | trivial, by rw [← HB6.out]; rfl⟩)
            case rest =>
              obtain ⟨hw1, rfl⟩ := hcut
              replace hw1 := hw1.symm
              subst hw1
              cases B6 with
              | true =>
                have HE : Hid (SH = [] ∧ ER = 3) := by
                  have e : ER = 3 := by have h := HEDh.out; simpa using h
                  exact ⟨HSNh.out (by rw [e]; decide), e⟩
                clear HEDh HSLh HSNh
                go_wp2_with fail
                go_ret2
                exact ⟨by rw [HE.out.1, HE.out.2]; rfl, HB.out⟩
              | false =>
                as_aux_lemma =>
                  have hA1 : ha = true → inB 0 1000000000000 a = true := fun h => by have h4 := HB4.out; rw [HiA.out]; subst h; cases iA <;> simp at h4 ⊢
                  have hB1 : hb = true → inB 0 1000000000000 b = true := fun h => by have h4 := HB4.out; rw [HiB.out]; subst h; cases iB <;> simp at h4 ⊢
                  have hC1 : hc = true → inB 0 1000000000000 c = true := fun h => by have h4 := HB4.out; rw [HiC.out]; subst h; cases iC <;> simp at h4 ⊢
                  have HPa : Hid (∀ W, Calls Tryd.prog 19 #[.bool ha, .int .i64 a] W fun e w' => e = .returned (.string (ba (part ha a))) ∧ Below W.heap.size W w') := fun W => HPA.out ha a W hA1
                  have HPb : Hid (∀ W, Calls Tryd.prog 19 #[.bool hb, .int .i64 b] W fun e w' => e = .returned (.string (ba (part hb b))) ∧ Below W.heap.size W w') := fun W => HPA.out hb b W hB1
                  have HPc : Hid (∀ W, Calls Tryd.prog 19 #[.bool hc, .int .i64 c] W fun e w' => e = .returned (.string (ba (part hc c))) ∧ Below W.heap.size W w') := fun W => HPA.out hc c W hC1
                  have HD0 : Hid (∀ W, Calls Tryd.prog 18 #[.int .i64 me] W fun e w' => e = .returned (.string (ba (Lib.itoa me))) ∧ Below W.heap.size W w') := fun W => rdec me W hmb
                  have s1 := HPLh.out ha a hA1
                  have s2 := HPLh.out hb b hB1
                  have s3 := HPLh.out hc c hC1
                  have s0 : (ba (Lib.itoa me)).size ≤ 13 := by rw [ba_size]; exact itoa_len me hmb
                  have HL1 : Hid ((ba (part ha a)).data.toList = part ha a) := ba_list _
                  have HL2 : Hid ((ba (part hb b)).data.toList = part hb b) := ba_list _
                  have HL3 : Hid ((ba (part hc c)).data.toList = part hc c) := ba_list _
                  have HL0 : Hid ((ba (Lib.itoa me)).data.toList = Lib.itoa me) := ba_list _
                  clear hA1 hB1 hC1 HPA HPLh HiA HiB HiC HB4 HB6
                  generalize ba (part ha a) = P1 at *
                  generalize ba (part hb b) = P2 at *
                  generalize ba (part hc c) = P3 at *
                  generalize ba (Lib.itoa me) = D0 at *
                  go_wp2_with fail
                  go_loopw [8] (fun v wr => ∃ i : Nat, i ≤ t.size ∧ v = .int .i64 (i : Int) ∧ (∀ j, j < i → t.data.toList.getD j 0 ≠ 10) ∧ wr = W0) (fun v _ => t.size - (intOf v).toNat)
                  case atStart => exact ⟨0, Nat.zero_le _, rfl, fun j hj => by omega, rfl⟩
                  case round =>
                    obtain ⟨i, hi, rfl, hall, hw⟩ := hrel
                    replace hw := hw.symm
                    subst hw
                    have HA : Hid (∀ j, j < i → t.data.toList.getD j 0 ≠ 10) := hall
                    clear hall
                    by_cases hp : i < t.size
                    · by_cases hc10 : t[i] = 10
                      · have hT : TEN = true := HTENh.out.symm.trans (lf_at t i hp hc10)
                        have hq10 : (((t[i].toNat : Nat) : Int) == 10) = true := by rw [hc10]; rfl
                        subst hT
                        have HE : Hid (SH = [] ∧ ER = 3) := by
                          have e : ER = 3 := by have h := HEDh.out; simpa using h
                          exact ⟨HSNh.out (by rw [e]; decide), e⟩
                        clear HEDh HSLh HSNh HTENh HLPh hc10 HA
                        go_wp2_with fail
                        go_ret2
                        exact ⟨by rw [HE.out.1, HE.out.2]; rfl, HB.out⟩
                      · have HA2 : Hid (∀ j, j < i + 1 → t.data.toList.getD j 0 ≠ 10) := fun j hj => by
                          by_cases hji : j = i
                          · rw [hji, at_list t i hp]; exact hc10
                          · exact HA.out j (by omega)
                        have hq10 : (((t[i].toNat : Nat) : Int) == 10) = false := by
                          rw [beq_eq_false_iff_ne]
                          intro e
                          apply hc10
                          apply UInt8.toNat_inj.1
                          show t[i].toNat = 10
                          omega
                        clear hc10 HA
                        go_wp2_with fail
                        go_roundw
                        case rel => exact ⟨i + 1, by omega, by go_num, HA2.out, trivial⟩
                        case measure => simp [intOf]; omega
                    · have hT : TEN = false := HTENh.out.symm.trans (lf_no t (fun j hj => HA.out j (by omega)))
                      subst hT
                      have HED2 : Hid (ER = if 120 < (lineB cut fs (tl ha hb hc me a b c) ht t).length then 1 else 0) := by have h := HEDh.out; show _ = _; simpa using h
                      clear HEDh HTENh HA
                      go_upto_region 13 with fail
                      clear x0 x2 x3 x4 x5 x6
                      go_cut [9] (fun v9 wc => v9 = .string (fs ++ ⟨#[32]⟩ ++ D0 ++ P1 ++ P2 ++ P3) ∧ Below W0.heap.size W0 wc)
                      case first =>
                        have z0 : (⟨#[32]⟩ : ByteArray).size = 1 := rfl
                        have z1 : ¬ (9223372036854775807 < fs.size + (⟨#[32]⟩ : ByteArray).size) := by omega
                        have z2 : ¬ (9223372036854775807 < (fs ++ ⟨#[32]⟩ : ByteArray).size + D0.size) := by rw [ByteArray.size_append]; omega
                        have z3 : ¬ (9223372036854775807 < (fs ++ ⟨#[32]⟩ ++ D0 : ByteArray).size + P1.size) := by rw [ByteArray.size_append, ByteArray.size_append]; omega
                        have z4 : ¬ (9223372036854775807 < (fs ++ ⟨#[32]⟩ ++ D0 ++ P1 : ByteArray).size + P2.size) := by rw [ByteArray.size_append, ByteArray.size_append, ByteArray.size_append]; omega
                        have z5 : ¬ (9223372036854775807 < (fs ++ ⟨#[32]⟩ ++ D0 ++ P1 ++ P2 : ByteArray).size + P3.size) := by rw [ByteArray.size_append, ByteArray.size_append, ByteArray.size_append, ByteArray.size_append]; omega
                        have HH0 : Hid (Below W0.heap.size W0 W0.drew) := (Below.refl _ _).drew
                        clear HSLh HSNh HLPh HL0 HL1 HL2 HL3 HED2
                        refine wp_region_held_drew (S := fun v => Below W0.heap.size W0 v) (by kernel_rfl) HH0.out (fun hHeld => ?_)
                        generalize W0.drew = U0 at *
                        refine take_at 0 104 (.string fs) _ rfl rfl (by kernel_rfl) (by kernel_rfl) (by kernel_rfl) (fun _ _ _ h => h) (Or.inl ⟨by rfl, fun v hv => by skip; clear hv; go_simp <;> omega⟩) hHeld ?_
                        simp only [Act.put, List.setIfInBounds_toArray, List.set_cons_zero, List.set_cons_succ]
                        refine take_at 1 105 (.string (fs ++ ⟨#[32]⟩)) _ rfl rfl (by kernel_rfl) (by kernel_rfl) (by kernel_rfl) (fun _ _ _ h => h) (Or.inl ⟨by rfl, fun v hv => by skip; clear hv; go_simp <;> omega⟩) hHeld ?_
                        simp only [Act.put, List.setIfInBounds_toArray, List.set_cons_zero, List.set_cons_succ]
                        refine take_at 2 106 (.pointer (some ⟨w.heap.size, 1, none⟩)) _ rfl rfl (by kernel_rfl) (by kernel_rfl) (by kernel_rfl) (fun _ _ _ h => h) (Or.inl ⟨by rfl, fun v hv => by skip; clear hv; go_simp <;> omega⟩) hHeld ?_
                        simp only [Act.put, List.setIfInBounds_toArray, List.set_cons_zero, List.set_cons_succ]
                        refine take_at 3 107 (.int .i64 me) _ rfl rfl (by kernel_rfl) (by kernel_rfl) (by kernel_rfl) (fun _ _ _ h => h) (Or.inl ⟨by rfl, fun v hv => by have h2 := (HX.out.next hv).cell 1; simp at h2; clear hv; go_simp <;> omega⟩) hHeld ?_
                        simp only [Act.put, List.setIfInBounds_toArray, List.set_cons_zero, List.set_cons_succ]
                        refine take_at 6 110 (.bool ha) _ rfl rfl (by kernel_rfl) (by kernel_rfl) (by kernel_rfl) (fun _ _ _ h => h) (Or.inl ⟨by rfl, fun v hv => by skip; clear hv; go_simp <;> omega⟩) hHeld ?_
                        simp only [Act.put, List.setIfInBounds_toArray, List.set_cons_zero, List.set_cons_succ]
                        refine take_at 7 111 (.pointer (some ⟨w.heap.size, 2, none⟩)) _ rfl rfl (by kernel_rfl) (by kernel_rfl) (by kernel_rfl) (fun _ _ _ h => h) (Or.inl ⟨by rfl, fun v hv => by skip; clear hv; go_simp <;> omega⟩) hHeld ?_
                        simp only [Act.put, List.setIfInBounds_toArray, List.set_cons_zero, List.set_cons_succ]
                        refine take_at 8 112 (.int .i64 a) _ rfl rfl (by kernel_rfl) (by kernel_rfl) (by kernel_rfl) (fun _ _ _ h => h) (Or.inl ⟨by rfl, fun v hv => by have h2 := (HX.out.next hv).cell 2; simp at h2; clear hv; go_simp <;> omega⟩) hHeld ?_
                        simp only [Act.put, List.setIfInBounds_toArray, List.set_cons_zero, List.set_cons_succ]
                        refine take_at 11 115 (.bool hb) _ rfl rfl (by kernel_rfl) (by kernel_rfl) (by kernel_rfl) (fun _ _ _ h => h) (Or.inl ⟨by rfl, fun v hv => by skip; clear hv; go_simp <;> omega⟩) hHeld ?_
                        simp only [Act.put, List.setIfInBounds_toArray, List.set_cons_zero, List.set_cons_succ]
                        refine take_at 12 116 (.pointer (some ⟨w.heap.size, 3, none⟩)) _ rfl rfl (by kernel_rfl) (by kernel_rfl) (by kernel_rfl) (fun _ _ _ h => h) (Or.inl ⟨by rfl, fun v hv => by skip; clear hv; go_simp <;> omega⟩) hHeld ?_
                        simp only [Act.put, List.setIfInBounds_toArray, List.set_cons_zero, List.set_cons_succ]
                        refine take_at 13 117 (.int .i64 b) _ rfl rfl (by kernel_rfl) (by kernel_rfl) (by kernel_rfl) (fun _ _ _ h => h) (Or.inl ⟨by rfl, fun v hv => by have h2 := (HX.out.next hv).cell 3; simp at h2; clear hv; go_simp <;> omega⟩) hHeld ?_
                        simp only [Act.put, List.setIfInBounds_toArray, List.set_cons_zero, List.set_cons_succ]
                        refine take_at 16 120 (.bool hc) _ rfl rfl (by kernel_rfl) (by kernel_rfl) (by kernel_rfl) (fun _ _ _ h => h) (Or.inl ⟨by rfl, fun v hv => by skip; clear hv; go_simp <;> omega⟩) hHeld ?_
                        simp only [Act.put, List.setIfInBounds_toArray, List.set_cons_zero, List.set_cons_succ]
                        refine take_at 17 121 (.pointer (some ⟨w.heap.size, 4, none⟩)) _ rfl rfl (by kernel_rfl) (by kernel_rfl) (by kernel_rfl) (fun _ _ _ h => h) (Or.inl ⟨by rfl, fun v hv => by skip; clear hv; go_simp <;> omega⟩) hHeld ?_
                        simp only [Act.put, List.setIfInBounds_toArray, List.set_cons_zero, List.set_cons_succ]
                        refine take_at 18 122 (.int .i64 c) _ rfl rfl (by kernel_rfl) (by kernel_rfl) (by kernel_rfl) (fun _ _ _ h => h) (Or.inl ⟨by rfl, fun v hv => by have h2 := (HX.out.next hv).cell 4; simp at h2; clear hv; go_simp <;> omega⟩) hHeld ?_
                        simp only [Act.put, List.setIfInBounds_toArray, List.set_cons_zero, List.set_cons_succ]
                        refine wpAnyH_ready (rs := [4]) (by kernel_rfl) (by simp) (AllReadyH.cons rfl (fun K hK => ?_) AllReadyH.nil)
                        rw [if_pos (by rfl)]
                        refine wp_callOp 108 rfl (by clear hK; go_simp) (HD0.out U0) ?_
                        rintro e U1 ⟨rfl, hb1⟩
                        have HH1 : Hid (Below W0.heap.size W0 U1) := bel_step HH0.out hb1
                        refine ⟨_, rfl, hK.out _ _ HH1.out (fun hHeld => ?_)⟩
                        clear hK hb1 HH0 HD0
                        simp only [Act.put, List.setIfInBounds_toArray, List.set_cons_zero, List.set_cons_succ]
                        refine take_at 5 109 (.string (fs ++ ⟨#[32]⟩ ++ D0)) _ rfl rfl (by kernel_rfl) (by kernel_rfl) (by kernel_rfl) (fun _ _ _ h => h) (Or.inl ⟨by rfl, fun v hv => by skip; clear hv; go_simp <;> omega⟩) hHeld ?_
                        simp only [Act.put, List.setIfInBounds_toArray, List.set_cons_zero, List.set_cons_succ]
                        refine wpAnyH_ready (rs := [9]) (by kernel_rfl) (by simp) (AllReadyH.cons rfl (fun K hK => ?_) AllReadyH.nil)
                        rw [if_pos (by rfl)]
                        refine wp_callOp 113 rfl (by clear hK; go_simp) (HPa.out U1) ?_
                        rintro e U2 ⟨rfl, hb2⟩
                        have HH2 : Hid (Below W0.heap.size W0 U2) := bel_step HH1.out hb2
                        refine ⟨_, rfl, hK.out _ _ HH2.out (fun hHeld => ?_)⟩
                        clear hK hb2 HH1 HPa
                        simp only [Act.put, List.setIfInBounds_toArray, List.set_cons_zero, List.set_cons_succ]
                        refine take_at 10 114 (.string (fs ++ ⟨#[32]⟩ ++ D0 ++ P1)) _ rfl rfl (by kernel_rfl) (by kernel_rfl) (by kernel_rfl) (fun _ _ _ h => h) (Or.inl ⟨by rfl, fun v hv => by skip; clear hv; go_simp <;> omega⟩) hHeld ?_
                        simp only [Act.put, List.setIfInBounds_toArray, List.set_cons_zero, List.set_cons_succ]
                        refine wpAnyH_ready (rs := [14]) (by kernel_rfl) (by simp) (AllReadyH.cons rfl (fun K hK => ?_) AllReadyH.nil)
                        rw [if_pos (by rfl)]
                        refine wp_callOp 118 rfl (by clear hK; go_simp) (HPb.out U2) ?_
                        rintro e U3 ⟨rfl, hb3⟩
                        have HH3 : Hid (Below W0.heap.size W0 U3) := bel_step HH2.out hb3
                        refine ⟨_, rfl, hK.out _ _ HH3.out (fun hHeld => ?_)⟩
                        clear hK hb3 HH2 HPb
                        simp only [Act.put, List.setIfInBounds_toArray, List.set_cons_zero, List.set_cons_succ]
                        refine take_at 15 119 (.string (fs ++ ⟨#[32]⟩ ++ D0 ++ P1 ++ P2)) _ rfl rfl (by kernel_rfl) (by kernel_rfl) (by kernel_rfl) (fun _ _ _ h => h) (Or.inl ⟨by rfl, fun v hv => by skip; clear hv; go_simp <;> omega⟩) hHeld ?_
                        simp only [Act.put, List.setIfInBounds_toArray, List.set_cons_zero, List.set_cons_succ]
                        refine wpAnyH_ready (rs := [19]) (by kernel_rfl) (by simp) (AllReadyH.cons rfl (fun K hK => ?_) AllReadyH.nil)
                        rw [if_pos (by rfl)]
                        refine wp_callOp 123 rfl (by clear hK; go_simp) (HPc.out U3) ?_
                        rintro e U4 ⟨rfl, hb4⟩
                        have HH4 : Hid (Below W0.heap.size W0 U4) := bel_step HH3.out hb4
                        refine ⟨_, rfl, hK.out _ _ HH4.out (fun hHeld => ?_)⟩
                        clear hK hb4 HH3 HPc
                        simp only [Act.put, List.setIfInBounds_toArray, List.set_cons_zero, List.set_cons_succ]
                        refine take_at 20 124 (.string (fs ++ ⟨#[32]⟩ ++ D0 ++ P1 ++ P2 ++ P3)) _ rfl rfl (by kernel_rfl) (by kernel_rfl) (by kernel_rfl) (fun _ _ _ h => h) (Or.inl ⟨by rfl, fun v hv => by skip; clear hv; go_simp <;> omega⟩) hHeld ?_
                        simp only [Act.put, List.setIfInBounds_toArray, List.set_cons_zero, List.set_cons_succ]
                        refine take_at 21 9 (.string (fs ++ ⟨#[32]⟩ ++ D0 ++ P1 ++ P2 ++ P3)) _ rfl rfl (by kernel_rfl) (by kernel_rfl) (by kernel_rfl) (fun _ _ _ h => h) (Or.inl ⟨by rfl, fun v hv => by skip; clear hv; go_simp <;> omega⟩) hHeld ?_
                        simp only [Act.put, List.setIfInBounds_toArray, List.set_cons_zero, List.set_cons_succ]
                        refine wpAnyH_done (by kernel_rfl) ?_ _
                        clear hHeld
                        go_wp2_with fail
                        go_meet
                        case rel => exact ⟨rfl, HH4.out⟩
                      case rest =>
                        obtain ⟨rfl, hbc⟩ := hcut
                        have HXc : Hid (Blk wc w.heap.size #[.int .i64 k, .int .i64 me, .int .i64 a, .int .i64 b, .int .i64 c, .string t, .int .i64 cut] 23) := HX.out.next hbc
                        have HBc : Hid (Below w.heap.size w wc) := bel_step HB.out hbc
                        have HT : Hid ((fs ++ ⟨#[32]⟩ ++ D0 ++ P1 ++ P2 ++ P3 : ByteArray).data.toList = fs.data.toList ++ ([32] ++ Lib.itoa me) ++ part ha a ++ part hb b ++ part hc c) := by
                          show _ = _
                          rw [← HL0.out, ← HL1.out, ← HL2.out, ← HL3.out]
                          simp
                        have hTs : (fs ++ ⟨#[32]⟩ ++ D0 ++ P1 ++ P2 ++ P3 : ByteArray).size ≤ 200 := by
                          have z0 : (⟨#[32]⟩ : ByteArray).size = 1 := rfl
                          simp only [ByteArray.size_append]; omega
                        have x6 : wc.cell? ⟨w.heap.size, 6, none⟩ = some (.int .i64 cut) := HXc.out.cell 6
                        have x0 : wc.cell? ⟨w.heap.size, 0, none⟩ = some (.int .i64 k) := HXc.out.cell 0
                        have x5 : wc.cell? ⟨w.heap.size, 5, none⟩ = some (.string t) := HXc.out.cell 5
                        clear HX HB hbc HPa HPb HPc HD0 s0 s1 s2 s3 HL0 HL1 HL2 HL3
                        generalize fs ++ ⟨#[32]⟩ ++ D0 ++ P1 ++ P2 ++ P3 = T at *
                        generalize hLB : lineB cut fs (tl ha hb hc me a b c) ht t = LB at *
                        have hls : ∀ l : List UInt8, (ba l).size = l.length := ba_size
                        have z32 : (⟨#[32]⟩ : ByteArray).size = 1 := rfl
                        have zcut : (⟨#[99, 117, 116, 32]⟩ : ByteArray).size = 4 := rfl
                        by_cases hq : cut = -1
                        · have dq : decide ((0 : Int) ≤ cut) = false := by simp; omega
                          have HLQ : Hid (LB = T.data.toList ++ (if ht = true then 32 :: t.data.toList else [])) := by
                            have h := HLPh.out; rw [if_pos hq, ← HT.out] at h; show _ = _; simpa using h
                          clear HLPh HT hq HXc
                          cases ht with
                          | false =>
                            have HFIN : Hid (ba LB = T) := by
                              show _ = _
                              rw [HLQ.out]
                              apply ByteArray.ext
                              apply Array.toList_inj.1
                              simp [ba]
                            
                            by_cases hbig : 120 < LB.length
                            · have HE : Hid (SH = [] ∧ ER = 1) := by
                                have e : ER = 1 := by have h := HED2.out; rw [if_pos hbig] at h; exact h
                                exact ⟨HSNh.out (by rw [e]; decide), e⟩
                              have hd : decide ((120 : Int) < ((T : ByteArray).size : Int)) = true := by rw [← HFIN.out, hls]; simp; omega
                              have hN : 120 < T.size := by have h := congrArg ByteArray.size HFIN.out; rw [hls] at h; (try simp only [ByteArray.size_append, z32, zcut] at h); omega
                              clear HED2 HSLh HSNh HLQ hbig hls HFIN z32 zcut
                              go_wp2_with fail
                              go_ret2
                              exact ⟨by rw [HE.out.1, HE.out.2]; rfl, HBc.out⟩
                            · have HE : Hid (SH = LB ∧ ER = 0) := by
                                have e : ER = 0 := by have h := HED2.out; rw [if_neg hbig] at h; exact h
                                exact ⟨HSLh.out e, e⟩
                              have hd : decide ((120 : Int) < ((T : ByteArray).size : Int)) = false := by rw [← HFIN.out, hls]; simp; omega
                              have hN : ¬ 120 < T.size := by have h := congrArg ByteArray.size HFIN.out; rw [hls] at h; (try simp only [ByteArray.size_append, z32, zcut] at h); omega
                              clear HED2 HSLh HSNh HLQ hbig hls z32 zcut
                              go_wp2_with fail
                              go_ret2
                              exact ⟨by rw [HE.out.1, HE.out.2, HFIN.out]; rfl, HBc.out⟩
                          | true =>
                            have HFIN : Hid (ba LB = T ++ ⟨#[32]⟩ ++ t) := by
                              show _ = _
                              rw [HLQ.out]
                              apply ByteArray.ext
                              apply Array.toList_inj.1
                              simp [ba]
                            have y0 : (⟨#[32]⟩ : ByteArray).size = 1 := rfl
                            have y1 : ¬ (9223372036854775807 < (T : ByteArray).size + (⟨#[32]⟩ : ByteArray).size) := by (try simp only [ByteArray.size_append]); omega
                            have y2 : ¬ (9223372036854775807 < (T ++ ⟨#[32]⟩ : ByteArray).size + t.size) := by simp only [ByteArray.size_append]; omega
                            clear y0
                            
                            by_cases hbig : 120 < LB.length
                            · have HE : Hid (SH = [] ∧ ER = 1) := by
                                have e : ER = 1 := by have h := HED2.out; rw [if_pos hbig] at h; exact h
                                exact ⟨HSNh.out (by rw [e]; decide), e⟩
                              have hd : decide ((120 : Int) < ((T ++ ⟨#[32]⟩ ++ t : ByteArray).size : Int)) = true := by rw [← HFIN.out, hls]; simp; omega
                              have hN : 120 < T.size + 1 + t.size := by have h := congrArg ByteArray.size HFIN.out; rw [hls] at h; (try simp only [ByteArray.size_append, z32, zcut] at h); omega
                              clear HED2 HSLh HSNh HLQ hbig hls HFIN z32 zcut
                              go_wp2_with fail
                              go_ret2
                              exact ⟨by rw [HE.out.1, HE.out.2]; rfl, HBc.out⟩
                            · have HE : Hid (SH = LB ∧ ER = 0) := by
                                have e : ER = 0 := by have h := HED2.out; rw [if_neg hbig] at h; exact h
                                exact ⟨HSLh.out e, e⟩
                              have hd : decide ((120 : Int) < ((T ++ ⟨#[32]⟩ ++ t : ByteArray).size : Int)) = false := by rw [← HFIN.out, hls]; simp; omega
                              have hN : ¬ 120 < T.size + 1 + t.size := by have h := congrArg ByteArray.size HFIN.out; rw [hls] at h; (try simp only [ByteArray.size_append, z32, zcut] at h); omega
                              clear HED2 HSLh HSNh HLQ hbig hls z32 zcut
                              go_wp2_with fail
                              go_ret2
                              exact ⟨by rw [HE.out.1, HE.out.2, HFIN.out]; rfl, HBc.out⟩
                        · have dq : decide ((0 : Int) ≤ cut) = true := by simp; omega
                          have HLQ : Hid (LB = [99, 117, 116, 32] ++ (Lib.itoa cut ++ (32 :: T.data.toList)) ++ (if ht = true then 32 :: t.data.toList else [])) := by
                            have h := HLPh.out; rw [if_neg hq, ← HT.out] at h; show _ = _; simpa using h
                          have HDC : Hid (∀ W, Calls Tryd.prog 18 #[.int .i64 cut] W fun e w' => e = .returned (.string (ba (Lib.itoa cut))) ∧ Below W.heap.size W w') := fun W => rdec cut W (by omega)
                          have sC : (ba (Lib.itoa cut)).size ≤ 13 := by rw [ba_size]; exact itoa_len cut (by omega)
                          have HLC : Hid ((ba (Lib.itoa cut)).data.toList = Lib.itoa cut) := ba_list _
                          rw [← HLC.out] at HLQ
                          generalize ba (Lib.itoa cut) = C0 at *
                          have y3 : (⟨#[99, 117, 116, 32]⟩ : ByteArray).size = 4 := rfl
                          have y4 : (⟨#[32]⟩ : ByteArray).size = 1 := rfl
                          have y5 : ¬ (9223372036854775807 < (⟨#[99, 117, 116, 32]⟩ : ByteArray).size + C0.size) := by omega
                          have y6 : ¬ (9223372036854775807 < (⟨#[99, 117, 116, 32]⟩ ++ C0 : ByteArray).size + (⟨#[32]⟩ : ByteArray).size) := by simp only [ByteArray.size_append]; omega
                          have y7 : ¬ (9223372036854775807 < (⟨#[99, 117, 116, 32]⟩ ++ C0 ++ ⟨#[32]⟩ : ByteArray).size + T.size) := by simp only [ByteArray.size_append]; omega
                          clear HLPh HT hq HLC
                          cases ht with
                          | false =>
                            have HFIN : Hid (ba LB = (⟨#[99, 117, 116, 32]⟩ ++ C0 ++ ⟨#[32]⟩ ++ T)) := by
                              show _ = _
                              rw [HLQ.out]
                              apply ByteArray.ext
                              apply Array.toList_inj.1
                              simp [ba]
                            clear y3 y4
                            go_wp2_with fail
                            refine (HDC.out _).mono ?_
                            rintro e Wd ⟨rfl, hbd⟩
                            have HXd : Hid (Blk Wd w.heap.size #[.int .i64 k, .int .i64 me, .int .i64 a, .int .i64 b, .int .i64 c, .string t, .int .i64 cut] 23) := HXc.out.next hbd
                            have HBd : Hid (Below w.heap.size w Wd) := bel_step HBc.out hbd
                            clear x0 x5 x6
                            have x0 : Wd.cell? ⟨w.heap.size, 0, none⟩ = some (.int .i64 k) := HXd.out.cell 0
                            have x5 : Wd.cell? ⟨w.heap.size, 5, none⟩ = some (.string t) := HXd.out.cell 5
                            clear HXc HBc hbd HDC HXd
                            by_cases hbig : 120 < LB.length
                            · have HE : Hid (SH = [] ∧ ER = 1) := by
                                have e : ER = 1 := by have h := HED2.out; rw [if_pos hbig] at h; exact h
                                exact ⟨HSNh.out (by rw [e]; decide), e⟩
                              have hd : decide ((120 : Int) < (((⟨#[99, 117, 116, 32]⟩ ++ C0 ++ ⟨#[32]⟩ ++ T) : ByteArray).size : Int)) = true := by rw [← HFIN.out, hls]; simp; omega
                              have hN : 120 < 4 + C0.size + 1 + T.size := by have h := congrArg ByteArray.size HFIN.out; rw [hls] at h; (try simp only [ByteArray.size_append, z32, zcut] at h); omega
                              clear HED2 HSLh HSNh HLQ hbig hls HFIN z32 zcut
                              go_wp2_with fail
                              go_ret2
                              exact ⟨by rw [HE.out.1, HE.out.2]; rfl, HBd.out⟩
                            · have HE : Hid (SH = LB ∧ ER = 0) := by
                                have e : ER = 0 := by have h := HED2.out; rw [if_neg hbig] at h; exact h
                                exact ⟨HSLh.out e, e⟩
                              have hd : decide ((120 : Int) < (((⟨#[99, 117, 116, 32]⟩ ++ C0 ++ ⟨#[32]⟩ ++ T) : ByteArray).size : Int)) = false := by rw [← HFIN.out, hls]; simp; omega
                              have hN : ¬ 120 < 4 + C0.size + 1 + T.size := by have h := congrArg ByteArray.size HFIN.out; rw [hls] at h; (try simp only [ByteArray.size_append, z32, zcut] at h); omega
                              clear HED2 HSLh HSNh HLQ hbig hls z32 zcut
                              go_wp2_with fail
                              go_ret2
                              exact ⟨by rw [HE.out.1, HE.out.2, HFIN.out]; rfl, HBd.out⟩
                          | true =>
                            have HFIN : Hid (ba LB = (⟨#[99, 117, 116, 32]⟩ ++ C0 ++ ⟨#[32]⟩ ++ T) ++ ⟨#[32]⟩ ++ t) := by
                              show _ = _
                              rw [HLQ.out]
                              apply ByteArray.ext
                              apply Array.toList_inj.1
                              simp [ba]
                            have y0 : (⟨#[32]⟩ : ByteArray).size = 1 := rfl
                            have y1 : ¬ (9223372036854775807 < ((⟨#[99, 117, 116, 32]⟩ ++ C0 ++ ⟨#[32]⟩ ++ T) : ByteArray).size + (⟨#[32]⟩ : ByteArray).size) := by (try simp only [ByteArray.size_append]); omega
                            have y2 : ¬ (9223372036854775807 < ((⟨#[99, 117, 116, 32]⟩ ++ C0 ++ ⟨#[32]⟩ ++ T) ++ ⟨#[32]⟩ : ByteArray).size + t.size) := by simp only [ByteArray.size_append]; omega
                            clear y0
                            clear y3 y4
                            go_wp2_with fail
                            refine (HDC.out _).mono ?_
                            rintro e Wd ⟨rfl, hbd⟩
                            have HXd : Hid (Blk Wd w.heap.size #[.int .i64 k, .int .i64 me, .int .i64 a, .int .i64 b, .int .i64 c, .string t, .int .i64 cut] 23) := HXc.out.next hbd
                            have HBd : Hid (Below w.heap.size w Wd) := bel_step HBc.out hbd
                            clear x0 x5 x6
                            have x0 : Wd.cell? ⟨w.heap.size, 0, none⟩ = some (.int .i64 k) := HXd.out.cell 0
                            have x5 : Wd.cell? ⟨w.heap.size, 5, none⟩ = some (.string t) := HXd.out.cell 5
                            clear HXc HBc hbd HDC HXd
                            by_cases hbig : 120 < LB.length
                            · have HE : Hid (SH = [] ∧ ER = 1) := by
                                have e : ER = 1 := by have h := HED2.out; rw [if_pos hbig] at h; exact h
                                exact ⟨HSNh.out (by rw [e]; decide), e⟩
                              have hd : decide ((120 : Int) < (((⟨#[99, 117, 116, 32]⟩ ++ C0 ++ ⟨#[32]⟩ ++ T) ++ ⟨#[32]⟩ ++ t : ByteArray).size : Int)) = true := by rw [← HFIN.out, hls]; simp; omega
                              have hN : 120 < 4 + C0.size + 1 + T.size + 1 + t.size := by have h := congrArg ByteArray.size HFIN.out; rw [hls] at h; (try simp only [ByteArray.size_append, z32, zcut] at h); omega
                              clear HED2 HSLh HSNh HLQ hbig hls HFIN z32 zcut
                              go_wp2_with fail
                              go_ret2
                              exact ⟨by rw [HE.out.1, HE.out.2]; rfl, HBd.out⟩
                            · have HE : Hid (SH = LB ∧ ER = 0) := by
                                have e : ER = 0 := by have h := HED2.out; rw [if_neg hbig] at h; exact h
                                exact ⟨HSLh.out e, e⟩
                              have hd : decide ((120 : Int) < (((⟨#[99, 117, 116, 32]⟩ ++ C0 ++ ⟨#[32]⟩ ++ T) ++ ⟨#[32]⟩ ++ t : ByteArray).size : Int)) = false := by rw [← HFIN.out, hls]; simp; omega
                              have hN : ¬ 120 < 4 + C0.size + 1 + T.size + 1 + t.size := by have h := congrArg ByteArray.size HFIN.out; rw [hls] at h; (try simp only [ByteArray.size_append, z32, zcut] at h); omega
                              clear HED2 HSLh HSNh HLQ hbig hls z32 zcut
                              go_wp2_with fail
                              go_ret2
                              exact ⟨by rw [HE.out.1, HE.out.2, HFIN.out]; rfl, HBd.out⟩

end Go.Proofs.YtlianhienbhbgaaDoor.odr
