/- What the document's answer to Read gives back. -/
import Derived.Test.YtegganhjlpachaaPlain
namespace Go.Proofs.Ytegganhjlpachaa.cents
open Go.RowKit

theorem digit_yes (c : Int) (w : World) (h1 : 48 ≤ c) (h2 : c ≤ 57) :
    Calls Try.prog 30 #[.int .u8 c] w fun e w' => e = .returned (.bool true) ∧ w' = w := by
  go_enter Try.func30, Try.ntmps30
  go_wp2
  go_ret
  exact ⟨rfl, rfl⟩

theorem digit_lo (c : Int) (w : World) (h1 : c < 48) :
    Calls Try.prog 30 #[.int .u8 c] w fun e w' => e = .returned (.bool false) ∧ w' = w := by
  go_enter Try.func30, Try.ntmps30
  go_wp2
  go_ret
  exact ⟨rfl, rfl⟩

theorem digit_hi (c : Int) (w : World) (h0 : 48 ≤ c) (h1 : 57 < c) :
    Calls Try.prog 30 #[.int .u8 c] w fun e w' => e = .returned (.bool false) ∧ w' = w := by
  have h2 : decide (c ≤ 57) = false := by simp; omega
  go_enter Try.func30, Try.ntmps30
  go_wp2
  go_ret
  exact ⟨rfl, rfl⟩

theorem digit_no (c : Int) (w : World) (h : c < 48 ∨ 57 < c) :
    Calls Try.prog 30 #[.int .u8 c] w fun e w' => e = .returned (.bool false) ∧ w' = w := by
  by_cases h0 : c < 48
  · exact digit_lo c w h0
  · exact digit_hi c w (by omega) (by omega)

theorem getD_at (s : ByteArray) (k : Nat) (h : k < s.size) : s.data.toList.getD k 0 = s[k] := by
  simp [List.getD, List.getElem?_eq_getElem (show k < s.data.toList.length by rw [len_eq]; exact h)]
  rfl

theorem isD_no {c : UInt8} (h : (c.toNat : Int) < 48 ∨ 57 < (c.toNat : Int)) : isD c = false := by
  rcases h with h | h
  · exact isD_lo h
  · exact isD_hi h

theorem neg_at (s : ByteArray) (h : 0 < s.size) : neg s.data.toList = (((s[0].toNat : Nat) : Int) == 45) := by
  unfold neg
  rw [List.head?_eq_getElem?, List.getElem?_eq_getElem (by rw [len_eq]; exact h)]
  show (some s[0] == some 45) = _
  rw [Bool.eq_iff_iff]
  simp only [beq_iff_eq, Option.some.injEq]
  constructor
  · intro e; rw [e]; rfl
  · intro e; apply UInt8.toNat_inj.1; show s[0].toNat = 45; omega

theorem short_no {l : List UInt8} {f : Nat} (hb : body l = l.drop f) (hf : f ≤ l.length) (h : ¬ 4 ≤ l.length - f) : form (body l) = false := by
  cases e : form (body l)
  · rfl
  · exact absurd (form_parts hb hf e).1 h
theorem dot_no {l : List UInt8} {f : Nat} (hb : body l = l.drop f) (hf : f ≤ l.length) (h : ¬ l.getD (l.length - 3) 0 = 46) : form (body l) = false := by
  cases e : form (body l)
  · rfl
  · exact absurd (form_parts hb hf e).2.1 h
theorem nought_no {l : List UInt8} {f : Nat} (hb : body l = l.drop f) (hf : f ≤ l.length) (h : l.getD f 0 = 48) (h4 : 4 < l.length - f) : form (body l) = false := by
  cases e : form (body l)
  · rfl
  · exact absurd h4 ((form_parts hb hf e).2.2.1 h)
theorem digit_form {l : List UInt8} {f : Nat} (hb : body l = l.drop f) (hf : f ≤ l.length) (k : Nat) (h1 : f ≤ k) (h2 : k < l.length) (h3 : ¬ k + 3 = l.length) (h : isD (l.getD k 0) = false) : form (body l) = false := by
  cases e : form (body l)
  · rfl
  · have := (form_parts hb hf e).2.2.2 k h1 h2 h3; rw [h] at this; cases this

theorem end_neg {l : List UInt8} (h1 : ¬ 20 < l.length) (hn : neg l = true) (hf : form (body l) = true) (v : Int) (hv : v = if 1000000000000 < dval (units (body l) ++ rests (body l)) then 1000000000001 else dval (units (body l) ++ rests (body l))) :
    readR l = if v = 0 then (0, 3) else if 1000000000000 < v then (0, 2) else (-v, 0) := by
  by_cases hz : l = [45, 48, 46, 48, 48]
  · have := (neg_zero hn hf).2 hz
    rw [this] at hv
    rw [readR_zero h1 hz, if_pos (by rw [hv]; rfl)]
  · have hnz : ¬ dval (units (body l) ++ rests (body l)) = 0 := fun e => hz ((neg_zero hn hf).1 e)
    rw [readR_good h1 hf hz, hv, hn]
    generalize dval (units (body l) ++ rests (body l)) = d at *
    by_cases hM : 1000000000000 < d
    · simp [hM]
    · simp [hM, hnz]

theorem end_pos {l : List UInt8} (h1 : ¬ 20 < l.length) (hn : neg l = false) (hf : form (body l) = true) (v : Int) (hv : v = if 1000000000000 < dval (units (body l) ++ rests (body l)) then 1000000000001 else dval (units (body l) ++ rests (body l))) :
    readR l = if 1000000000000 < v then (0, 2) else (v, 0) := by
  have hz : ¬ l = [45, 48, 46, 48, 48] := by intro e; rw [e] at hn; cases hn
  rw [readR_good h1 hf hz, hv, hn]
  generalize dval (units (body l) ++ rests (body l)) = d at *
  by_cases hM : 1000000000000 < d
  · simp [hM]
  · simp [hM]


set_option maxHeartbeats 2000000 in
theorem readCents_neg (s : ByteArray) (w : World) (h20 : s.size ≤ 20) (hn : neg s.data.toList = true) :
    Calls Try.prog 17 #[.string s] w fun e w' => e = .returned (.tuple #[.int .i64 (readR s.data.toList).1, .int .i64 (readR s.data.toList).2]) ∧ w' = w := by
  have hlen := len_eq s
  have hl20 : ¬ 20 < s.data.toList.length := by omega
  have hb : body s.data.toList = s.data.toList.drop 1 := by unfold body; rw [hn]; rfl
  have hsz := neg_size hn
  have HL : Hid (¬ 20 < s.data.toList.length) := hl20
  have HB : Hid (body s.data.toList = s.data.toList.drop 1) := hb
  have HN : Hid (neg s.data.toList = true) := hn
  have HE : Hid (s.data.toList.length = s.size) := hlen
  have hF : 1 ≤ s.data.toList.length := by omega
  have HF : Hid (1 ≤ s.data.toList.length) := hF
  clear hl20 hb hn hlen hF
  by_cases h4 : 4 ≤ s.size - 1
  · have hs0 : 0 < s.size := by omega
    have hs3 : s.size - 3 < s.size := by omega
    have hsF : 1 < s.size := by omega
    have h45 : ((((s[0]'hs0).toNat : Nat) : Int) == 45) = true := by rw [← neg_at s hs0]; exact HN.out
    have h0 : (0 : Int) < (s.size : Int) := by omega
    by_cases hd : (s[s.size - 3]'hs3).toNat = 46
    · have hd3 : ((((s[s.size - 3]'hs3).toNat : Nat) : Int) != 46) = false := by simp; omega
      have HD : Hid (s.data.toList.getD (s.data.toList.length - 3) 0 = 46) := by
        show _ = _
        rw [HE.out, getD_at s _ (by omega)]; exact UInt8.toNat_inj.1 hd
      clear hd
      by_cases hz : (s[1]'hsF).toNat = 48 ∧ 4 < s.size - 1
      · have hz1 : ((((s[1]'hsF).toNat : Nat) : Int) == 48) = true := by simp; omega
        have hz2 : (4 : Int) < (s.size : Int) - 1 := by omega
        have E : Hid (readR s.data.toList = (0, 3)) := readR_form HL.out (nought_no HB.out HF.out (by rw [getD_at s _ (by omega)]; exact UInt8.toNat_inj.1 hz.1) (by rw [HE.out]; omega))
        clear hz
        go_enter Try.func17, Try.ntmps17
        go_wp2
        go_ret2
        exact ⟨ret_err E.out, rfl⟩
      · have HZ : Hid (s.data.toList.getD 1 0 = 48 → ¬ 4 < s.data.toList.length - 1) := by
          intro h5 h6
          rw [getD_at s _ (by omega)] at h5
          rw [HE.out] at h6
          exact hz ⟨by rw [h5]; rfl, h6⟩
        have hpick : ((((s[1]'hsF).toNat : Nat) : Int) == 48) = false ∨ (((((s[1]'hsF).toNat : Nat) : Int) == 48) = true ∧ ¬ (4 : Int) < (s.size : Int) - 1) := by
          by_cases h5 : (s[1]'hsF).toNat = 48
          · right; exact ⟨by simp; omega, by omega⟩
          · left; simp; omega
        clear hz
        rcases hpick with hz1 | ⟨hz1, hz2⟩
        all_goals
          go_enter Try.func17, Try.ntmps17
          go_wp2
          go_loop [6, 7] (fun v i => ∃ k : Nat, 1 ≤ k ∧ k ≤ s.size ∧ i = .int .i64 k ∧ v = .int .i64 (satv (seen s.data.toList 1 k)) ∧ allD (seen s.data.toList 1 k) = true) (fun _ i => s.size - (intOf i).toNat)
          case atStart => exact ⟨1, Nat.le_refl _, by omega, rfl, rfl, rfl⟩
          case round =>
            obtain ⟨k, hk1, hk, rfl, rfl, hall⟩ := hrel
            have HA : Hid (allD (seen s.data.toList 1 k) = true) := hall
            have hv := satv_bd _ hall
            have HV : Hid (satv (seen s.data.toList 1 k) = _) := satv_eq _ hall
            clear hall
            by_cases hlt : k < s.size
            · by_cases hdot : k + 3 = s.size
              · have hsk : ((k : Int) == (s.size : Int) - 3) = true := by simp; omega
                have HS : Hid (seen s.data.toList 1 (k + 1) = seen s.data.toList 1 k) := seen_skip (by rw [HE.out]; exact hdot)
                clear HV
                go_wp2
                go_round
                case rel => exact ⟨k + 1, by omega, by omega, by go_num, by rw [HS.out], by rw [HS.out]; exact HA.out⟩
                case measure => simp [intOf]; omega
              · have hsk : ((k : Int) == (s.size : Int) - 3) = false := by simp; omega
                have HS : Hid (seen s.data.toList 1 (k + 1) = seen s.data.toList 1 k ++ [(s[k]'hlt)]) := by
                  show _ = _
                  rw [seen_next hk1 (by rw [HE.out]; exact hdot), getD_at s k hlt]
                have HX : Hid (isD (s[k]'hlt) = false → readR s.data.toList = (0, 3)) := by
                  intro h
                  exact readR_form HL.out (digit_form HB.out HF.out k hk1 (by rw [HE.out]; exact hlt) (by rw [HE.out]; exact hdot) (by rw [getD_at s k hlt]; exact h))
                have HY : Hid (satv (seen s.data.toList 1 k ++ [(s[k]'hlt)]) = if 1000000000000 < 10 * satv (seen s.data.toList 1 k) + ((((s[k]'hlt).toNat : Nat) : Int) - 48) then 1000000000001 else 10 * satv (seen s.data.toList 1 k) + ((((s[k]'hlt).toNat : Nat) : Int) - 48)) := satv_snoc _ _
                have hcb : (0 : Int) ≤ (((s[k]'hlt).toNat : Nat) : Int) ∧ (((s[k]'hlt).toNat : Nat) : Int) < 256 := ⟨by omega, by have := (s[k]'hlt).toNat_lt; omega⟩
                have HI : Hid ((((s[k]'hlt).toNat : Nat) : Int) < 48 ∨ 57 < (((s[k]'hlt).toNat : Nat) : Int) → isD (s[k]'hlt) = false) := fun h => isD_no h
                have HJ : Hid (48 ≤ (((s[k]'hlt).toNat : Nat) : Int) → (((s[k]'hlt).toNat : Nat) : Int) ≤ 57 → isD (s[k]'hlt) = true) := fun a b => isD_yes a b
                clear HV
                by_cases hc : (((s[k]'hlt).toNat : Nat) : Int) < 48 ∨ 57 < (((s[k]'hlt).toNat : Nat) : Int)
                · have HX2 : Hid (readR s.data.toList = (0, 3)) := HX.out (HI.out hc)
                  go_wp2_with fail
                  refine (digit_no _ _ hc).mono ?_
                  rintro e w' ⟨rfl, rfl⟩
                  clear hc
                  go_wp2
                  go_ret2
                  exact ⟨ret_err HX2.out, rfl⟩
                · have c1 : 48 ≤ (((s[k]'hlt).toNat : Nat) : Int) := by omega
                  have c2 : (((s[k]'hlt).toNat : Nat) : Int) ≤ 57 := by omega
                  have HQ : Hid (allD (seen s.data.toList 1 k ++ [(s[k]'hlt)]) = true) := by
                    show _ = _
                    rw [allD_append, HA.out]; simp [allD, HJ.out c1 c2]
                  clear hc
                  by_cases hM : 1000000000000 < 10 * satv (seen s.data.toList 1 k) + ((((s[k]'hlt).toNat : Nat) : Int) - 48)
                  · go_wp2_with fail
                    refine (digit_yes _ _ c1 c2).mono ?_
                    rintro e w' ⟨rfl, rfl⟩
                    go_wp2
                    go_round
                    case rel => exact ⟨k + 1, by omega, by omega, by go_num, by rw [HS.out, HY.out, if_pos hM], by rw [HS.out]; exact HQ.out⟩
                    case measure => simp [intOf]; omega
                  · go_wp2_with fail
                    refine (digit_yes _ _ c1 c2).mono ?_
                    rintro e w' ⟨rfl, rfl⟩
                    go_wp2
                    go_round
                    case rel => exact ⟨k + 1, by omega, by omega, by go_num, by rw [HS.out, HY.out, if_neg (by omega)], by rw [HS.out]; exact HQ.out⟩
                    case measure => simp [intOf]; omega
            · have hke : k = s.data.toList.length := by rw [HE.out]; omega
              have hfw := form_whole HB.out (by rw [HE.out]; exact h4) HD.out HZ.out (by rw [← hke]; exact HA.out)
              have EV : Hid (readR s.data.toList = _) := end_neg HL.out HN.out hfw.1 (satv (seen s.data.toList 1 k)) (by rw [hfw.2, ← hke]; exact HV.out)
              clear hfw HV hke
              generalize satv (seen s.data.toList 1 k) = v at *
              clear HA
              obtain ⟨v1, v2⟩ := hv
              by_cases e0 : v = 0
              · have E : Hid (readR s.data.toList = (0, 3)) := by show _ = _; rw [EV.out, if_pos e0]
                have e1 : (v == 0) = true := by simp [e0]
                clear EV e0
                go_wp2
                go_ret2
                exact ⟨ret_err E.out, rfl⟩
              · have e1 : (v == 0) = false := by simp [e0]
                by_cases e2 : 1000000000000 < v
                · have E : Hid (readR s.data.toList = (0, 2)) := by show _ = _; rw [EV.out, if_neg e0, if_pos e2]
                  clear EV e0
                  go_wp2
                  go_ret2
                  exact ⟨ret_err E.out, rfl⟩
                · have E : Hid (readR s.data.toList = (-v, 0)) := by show _ = _; rw [EV.out, if_neg e0, if_neg e2]
                  clear EV e0
                  go_wp2
                  go_ret2
                  exact ⟨ret_pair' E.out, rfl⟩
    · have hd3 : ((((s[s.size - 3]'hs3).toNat : Nat) : Int) != 46) = true := by simp; omega
      have E : Hid (readR s.data.toList = (0, 3)) := readR_form HL.out (dot_no HB.out HF.out (by rw [HE.out, getD_at s _ (by omega)]; intro e; exact hd (by rw [e]; rfl)))
      clear hd
      go_enter Try.func17, Try.ntmps17
      go_wp2
      go_ret2
      exact ⟨ret_err E.out, rfl⟩
  · have E : Hid (readR s.data.toList = (0, 3)) := readR_form HL.out (short_no HB.out HF.out (by rw [HE.out]; exact h4))
    have hs0 : 0 < s.size := by omega
    have h45 : ((((s[0]'hs0).toNat : Nat) : Int) == 45) = true := by rw [← neg_at s hs0]; exact HN.out
    have h0 : (0 : Int) < (s.size : Int) := by omega
    have h5 : (s.size : Int) - 1 < 4 := by omega
    go_enter Try.func17, Try.ntmps17
    go_wp2
    go_ret2
    exact ⟨ret_err E.out, rfl⟩

set_option maxHeartbeats 2000000 in
theorem readCents_pos (s : ByteArray) (w : World) (h20 : s.size ≤ 20) (hn : neg s.data.toList = false) :
    Calls Try.prog 17 #[.string s] w fun e w' => e = .returned (.tuple #[.int .i64 (readR s.data.toList).1, .int .i64 (readR s.data.toList).2]) ∧ w' = w := by
  have hlen := len_eq s
  have hl20 : ¬ 20 < s.data.toList.length := by omega
  have hb : body s.data.toList = s.data.toList.drop 0 := by unfold body; rw [hn]; rfl
  have hsz : 0 ≤ s.size := Nat.zero_le _
  have HL : Hid (¬ 20 < s.data.toList.length) := hl20
  have HB : Hid (body s.data.toList = s.data.toList.drop 0) := hb
  have HN : Hid (neg s.data.toList = false) := hn
  have HE : Hid (s.data.toList.length = s.size) := hlen
  have hF : 0 ≤ s.data.toList.length := by omega
  have HF : Hid (0 ≤ s.data.toList.length) := hF
  clear hl20 hb hn hlen hF
  by_cases h4 : 4 ≤ s.size - 0
  · have hs0 : 0 < s.size := by omega
    have hs3 : s.size - 3 < s.size := by omega
    have hsF : 0 < s.size := by omega
    have h45 : ((((s[0]'hs0).toNat : Nat) : Int) == 45) = false := by rw [← neg_at s hs0]; exact HN.out
    have h0 : (0 : Int) < (s.size : Int) := by omega
    by_cases hd : (s[s.size - 3]'hs3).toNat = 46
    · have hd3 : ((((s[s.size - 3]'hs3).toNat : Nat) : Int) != 46) = false := by simp; omega
      have HD : Hid (s.data.toList.getD (s.data.toList.length - 3) 0 = 46) := by
        show _ = _
        rw [HE.out, getD_at s _ (by omega)]; exact UInt8.toNat_inj.1 hd
      clear hd
      by_cases hz : (s[0]'hsF).toNat = 48 ∧ 4 < s.size - 0
      · have hz1 : ((((s[0]'hsF).toNat : Nat) : Int) == 48) = true := by simp; omega
        have hz2 : (4 : Int) < (s.size : Int) - 0 := by omega
        have E : Hid (readR s.data.toList = (0, 3)) := readR_form HL.out (nought_no HB.out HF.out (by rw [getD_at s _ (by omega)]; exact UInt8.toNat_inj.1 hz.1) (by rw [HE.out]; omega))
        clear hz
        go_enter Try.func17, Try.ntmps17
        go_wp2
        go_ret2
        exact ⟨ret_err E.out, rfl⟩
      · have HZ : Hid (s.data.toList.getD 0 0 = 48 → ¬ 4 < s.data.toList.length - 0) := by
          intro h5 h6
          rw [getD_at s _ (by omega)] at h5
          rw [HE.out] at h6
          exact hz ⟨by rw [h5]; rfl, h6⟩
        have hpick : ((((s[0]'hsF).toNat : Nat) : Int) == 48) = false ∨ (((((s[0]'hsF).toNat : Nat) : Int) == 48) = true ∧ ¬ (4 : Int) < (s.size : Int) - 0) := by
          by_cases h5 : (s[0]'hsF).toNat = 48
          · right; exact ⟨by simp; omega, by omega⟩
          · left; simp; omega
        clear hz
        rcases hpick with hz1 | ⟨hz1, hz2⟩
        all_goals
          go_enter Try.func17, Try.ntmps17
          go_wp2
          go_loop [6, 7] (fun v i => ∃ k : Nat, 0 ≤ k ∧ k ≤ s.size ∧ i = .int .i64 k ∧ v = .int .i64 (satv (seen s.data.toList 0 k)) ∧ allD (seen s.data.toList 0 k) = true) (fun _ i => s.size - (intOf i).toNat)
          case atStart => exact ⟨0, Nat.le_refl _, by omega, rfl, rfl, rfl⟩
          case round =>
            obtain ⟨k, hk1, hk, rfl, rfl, hall⟩ := hrel
            have HA : Hid (allD (seen s.data.toList 0 k) = true) := hall
            have hv := satv_bd _ hall
            have HV : Hid (satv (seen s.data.toList 0 k) = _) := satv_eq _ hall
            clear hall
            by_cases hlt : k < s.size
            · by_cases hdot : k + 3 = s.size
              · have hsk : ((k : Int) == (s.size : Int) - 3) = true := by simp; omega
                have HS : Hid (seen s.data.toList 0 (k + 1) = seen s.data.toList 0 k) := seen_skip (by rw [HE.out]; exact hdot)
                clear HV
                go_wp2
                go_round
                case rel => exact ⟨k + 1, by omega, by omega, by go_num, by rw [HS.out], by rw [HS.out]; exact HA.out⟩
                case measure => simp [intOf]; omega
              · have hsk : ((k : Int) == (s.size : Int) - 3) = false := by simp; omega
                have HS : Hid (seen s.data.toList 0 (k + 1) = seen s.data.toList 0 k ++ [(s[k]'hlt)]) := by
                  show _ = _
                  rw [seen_next hk1 (by rw [HE.out]; exact hdot), getD_at s k hlt]
                have HX : Hid (isD (s[k]'hlt) = false → readR s.data.toList = (0, 3)) := by
                  intro h
                  exact readR_form HL.out (digit_form HB.out HF.out k hk1 (by rw [HE.out]; exact hlt) (by rw [HE.out]; exact hdot) (by rw [getD_at s k hlt]; exact h))
                have HY : Hid (satv (seen s.data.toList 0 k ++ [(s[k]'hlt)]) = if 1000000000000 < 10 * satv (seen s.data.toList 0 k) + ((((s[k]'hlt).toNat : Nat) : Int) - 48) then 1000000000001 else 10 * satv (seen s.data.toList 0 k) + ((((s[k]'hlt).toNat : Nat) : Int) - 48)) := satv_snoc _ _
                have hcb : (0 : Int) ≤ (((s[k]'hlt).toNat : Nat) : Int) ∧ (((s[k]'hlt).toNat : Nat) : Int) < 256 := ⟨by omega, by have := (s[k]'hlt).toNat_lt; omega⟩
                have HI : Hid ((((s[k]'hlt).toNat : Nat) : Int) < 48 ∨ 57 < (((s[k]'hlt).toNat : Nat) : Int) → isD (s[k]'hlt) = false) := fun h => isD_no h
                have HJ : Hid (48 ≤ (((s[k]'hlt).toNat : Nat) : Int) → (((s[k]'hlt).toNat : Nat) : Int) ≤ 57 → isD (s[k]'hlt) = true) := fun a b => isD_yes a b
                clear HV
                by_cases hc : (((s[k]'hlt).toNat : Nat) : Int) < 48 ∨ 57 < (((s[k]'hlt).toNat : Nat) : Int)
                · have HX2 : Hid (readR s.data.toList = (0, 3)) := HX.out (HI.out hc)
                  go_wp2_with fail
                  refine (digit_no _ _ hc).mono ?_
                  rintro e w' ⟨rfl, rfl⟩
                  clear hc
                  go_wp2
                  go_ret2
                  exact ⟨ret_err HX2.out, rfl⟩
                · have c1 : 48 ≤ (((s[k]'hlt).toNat : Nat) : Int) := by omega
                  have c2 : (((s[k]'hlt).toNat : Nat) : Int) ≤ 57 := by omega
                  have HQ : Hid (allD (seen s.data.toList 0 k ++ [(s[k]'hlt)]) = true) := by
                    show _ = _
                    rw [allD_append, HA.out]; simp [allD, HJ.out c1 c2]
                  clear hc
                  by_cases hM : 1000000000000 < 10 * satv (seen s.data.toList 0 k) + ((((s[k]'hlt).toNat : Nat) : Int) - 48)
                  · go_wp2_with fail
                    refine (digit_yes _ _ c1 c2).mono ?_
                    rintro e w' ⟨rfl, rfl⟩
                    go_wp2
                    go_round
                    case rel => exact ⟨k + 1, by omega, by omega, by go_num, by rw [HS.out, HY.out, if_pos hM], by rw [HS.out]; exact HQ.out⟩
                    case measure => simp [intOf]; omega
                  · go_wp2_with fail
                    refine (digit_yes _ _ c1 c2).mono ?_
                    rintro e w' ⟨rfl, rfl⟩
                    go_wp2
                    go_round
                    case rel => exact ⟨k + 1, by omega, by omega, by go_num, by rw [HS.out, HY.out, if_neg (by omega)], by rw [HS.out]; exact HQ.out⟩
                    case measure => simp [intOf]; omega
            · have hke : k = s.data.toList.length := by rw [HE.out]; omega
              have hfw := form_whole HB.out (by rw [HE.out]; exact h4) HD.out HZ.out (by rw [← hke]; exact HA.out)
              have EV : Hid (readR s.data.toList = _) := end_pos HL.out HN.out hfw.1 (satv (seen s.data.toList 0 k)) (by rw [hfw.2, ← hke]; exact HV.out)
              clear hfw HV hke
              generalize satv (seen s.data.toList 0 k) = v at *
              clear HA
              obtain ⟨v1, v2⟩ := hv
              by_cases e2 : 1000000000000 < v
              · have E : Hid (readR s.data.toList = (0, 2)) := by show _ = _; rw [EV.out, if_pos e2]
                clear EV
                go_wp2
                go_ret2
                exact ⟨ret_err E.out, rfl⟩
              · have E : Hid (readR s.data.toList = (v, 0)) := by show _ = _; rw [EV.out, if_neg e2]
                clear EV
                go_wp2
                go_ret2
                exact ⟨ret_pair' E.out, rfl⟩
    · have hd3 : ((((s[s.size - 3]'hs3).toNat : Nat) : Int) != 46) = true := by simp; omega
      have E : Hid (readR s.data.toList = (0, 3)) := readR_form HL.out (dot_no HB.out HF.out (by rw [HE.out, getD_at s _ (by omega)]; intro e; exact hd (by rw [e]; rfl)))
      clear hd
      go_enter Try.func17, Try.ntmps17
      go_wp2
      go_ret2
      exact ⟨ret_err E.out, rfl⟩
  · have E : Hid (readR s.data.toList = (0, 3)) := readR_form HL.out (short_no HB.out HF.out (by rw [HE.out]; exact h4))
    have h5 : (s.size : Int) < 4 := by omega
    by_cases hs0 : 0 < s.size
    · have h45 : ((((s[0]'hs0).toNat : Nat) : Int) == 45) = false := by rw [← neg_at s hs0]; exact HN.out
      go_enter Try.func17, Try.ntmps17
      go_wp2
      go_ret2
      exact ⟨ret_err E.out, rfl⟩
    · have h1 : ¬ (0 : Int) < (s.size : Int) := by omega
      go_enter Try.func17, Try.ntmps17
      go_wp2
      go_ret2
      exact ⟨ret_err E.out, rfl⟩

set_option maxHeartbeats 400000 in
theorem readCents_any (s : ByteArray) (w : World) :
    Calls Try.prog 17 #[.string s] w fun e w' => e = .returned (.tuple #[.int .i64 (readR s.data.toList).1, .int .i64 (readR s.data.toList).2]) ∧ w' = w := by
  by_cases h20 : 20 < s.size
  · have e : readR s.data.toList = (0, 1) := by unfold readR; rw [if_pos (by rw [len_eq]; exact h20)]
    rw [e]
    have h21 : (20 : Int) < (s.size : Int) := by omega
    clear e
    go_enter Try.func17, Try.ntmps17
    go_wp2
    go_ret2
    exact ⟨rfl, rfl⟩
  · cases hn : neg s.data.toList
    · exact readCents_pos s w (by omega) hn
    · exact readCents_neg s w (by omega) hn

end Go.Proofs.Ytegganhjlpachaa.cents
