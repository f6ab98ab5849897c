/- next and plain, the document's. -/
import Derived.Test.YtlianhienbhbgaaDoorOeN
namespace Go.Proofs.YtlianhienbhbgaaDoor.odr
open Go.RowKit
set_option maxRecDepth 100000
set_option linter.unusedVariables false
set_option linter.unusedSimpArgs false

theorem ext_list (s : ByteArray) (f i : Nat) (h : i ≤ s.size) : s.extract f i = ba ((s.data.toList.drop f).take (i - f)) := by
  apply ByteArray.ext
  rw [ByteArray.data_extract]
  apply Array.toList_inj.1
  simp [ba]
set_option maxHeartbeats 1000000 in
theorem rnext (s : ByteArray) (f : Nat) (w : World) (hf : f ≤ s.size) (hs : s.size ≤ 1000) : Calls Tryd.prog 21 #[.string s, .int .i64 (f : Int)] w fun e w' => e = .returned (.tuple #[.string (ba (cutB (s.data.toList.drop f)).1), .int .i64 (nextI s.data.toList f)]) ∧ w' = w := by
  have hl : s.data.toList.length = s.size := Array.length_toList
  have HH : Hid (∀ i, f ≤ i → i < s.size → (∀ j, f ≤ j → j < i → s.data.toList.getD j 0 ≠ 32) → s.data.toList.getD i 0 = 32 → ba (cutB (s.data.toList.drop f)).1 = s.extract f i ∧ nextI s.data.toList f = ((i : Nat) : Int) + 1) := fun i h1 h2 h3 h4 => by
    have h := next_hit h1 (by omega) h3 h4
    unfold nextI
    rw [h]
    refine ⟨(ext_list s f i (by omega)).symm, ?_⟩
    simp only [if_true, List.length_take, List.length_drop]
    omega
  have HE : Hid ((∀ j, f ≤ j → j < s.size → s.data.toList.getD j 0 ≠ 32) → ba (cutB (s.data.toList.drop f)).1 = s.extract f s.size ∧ nextI s.data.toList f = -1) := fun h3 => by
    have h := next_end (f := f) (l := s.data.toList) (fun j a b => h3 j a (by omega))
    unfold nextI
    rw [h]
    refine ⟨?_, rfl⟩
    rw [ext_list s f s.size (Nat.le_refl _), List.take_of_length_le (by rw [List.length_drop]; omega)]
  generalize ba (cutB (s.data.toList.drop f)).1 = P at *
  generalize nextI s.data.toList f = T at *
  clear hl
  go_enter Tryd.func21, Tryd.ntmps21
  go_wp2_with fail
  go_loopw [6] (fun v wr => ∃ i : Nat, f ≤ i ∧ i ≤ s.size ∧ v = .int .i64 (i : Int) ∧ (∀ j, f ≤ j → j < i → s.data.toList.getD j 0 ≠ 32) ∧ wr = w) (fun v _ => s.size - (intOf v).toNat)
  case atStart => exact ⟨f, Nat.le_refl _, hf, rfl, fun j h1 h2 => by omega, rfl⟩
  case round =>
    obtain ⟨i, h1, h2, rfl, h3, rfl⟩ := hrel
    have HA : Hid (∀ j, f ≤ j → j < i → s.data.toList.getD j 0 ≠ 32) := h3
    clear h3
    by_cases hp : i < s.size
    · have hat := at_list s i hp
      by_cases hc : s[i] = 32
      · have HR := HH.out i h1 hp HA.out (by rw [hat, hc])
        have HRh : Hid (P = s.extract f i ∧ T = ((i : Nat) : Int) + 1) := HR
        have hq : (((s[i].toNat : Nat) : Int) == 32) = true := by rw [hc]; rfl
        clear HH HE HA hat hc HR
        go_wp2_with fail
        go_ret2
        exact ⟨by rw [HRh.out.1, HRh.out.2]; first | rfl | (simp [go_sem]), rfl⟩
      · have HA2 : Hid (∀ j, f ≤ j → j < i + 1 → s.data.toList.getD j 0 ≠ 32) := fun j a b => by
          by_cases hj : j = i
          · rw [hj, hat]; exact hc
          · exact HA.out j a (by omega)
        have hq : (((s[i].toNat : Nat) : Int) == 32) = false := by
          rw [beq_eq_false_iff_ne]
          intro e
          apply hc
          apply UInt8.toNat_inj.1
          show s[i].toNat = 32
          omega
        clear HH HE HA hat hc
        go_wp2_with fail
        go_roundw
        case rel => exact ⟨i + 1, by omega, by omega, by go_num, HA2.out, trivial⟩
        case measure => simp [intOf]; omega
    · have hie : i = s.size := by omega
      subst hie
      have HRh : Hid (P = s.extract f s.size ∧ T = -1) := HE.out HA.out
      clear HH HE HA
      go_wp2_with fail
      go_ret2
      exact ⟨by rw [HRh.out.1, HRh.out.2]; rfl, rfl⟩

theorem take_snocB (s : ByteArray) (k : Nat) (h : k < s.size) : s.data.toList.take (k + 1) = s.data.toList.take k ++ [s[k]] := by
  rw [List.take_add_one]
  congr 1
  rw [List.getElem?_eq_getElem (show k < s.data.toList.length by rw [Array.length_toList]; exact h)]
  rfl
theorem dv_snoc (l : List UInt8) (c : UInt8) : dv (l ++ [c]) = dv l * 10 + (c.toNat - 48) := by simp [dvF, List.foldl_append]
theorem dv_lt : ∀ (l : List UInt8), allD l = true → dv l < 10 ^ l.length := by
  intro l
  rw [← List.reverse_reverse l]
  induction l.reverse with
  | nil => intro _; decide
  | cons c r ih =>
    intro h
    rw [List.reverse_cons] at h ⊢
    unfold allD at h ih
    rw [List.all_append, Bool.and_eq_true] at h
    have h1 := ih h.1
    have h2 : 48 ≤ c.toNat ∧ c.toNat ≤ 57 := by have := h.2; simpa [isD] using this
    rw [dv_snoc, List.length_append, List.length_singleton, Nat.pow_succ]
    omega
theorem head_at (s : ByteArray) (h : 0 < s.size) : s.data.toList.head? = some s[0] := by
  rw [List.head?_eq_getElem?, List.getElem?_eq_getElem (show 0 < s.data.toList.length by rw [Array.length_toList]; exact h)]
  rfl
set_option maxHeartbeats 2000000 in
theorem rplain (s : ByteArray) (w : World) : Calls Tryd.prog 22 #[.string s] w fun e w' => e = .returned (.int .i64 (plainV s.data.toList)) ∧ w' = w := by
  have hl : s.data.toList.length = s.size := Array.length_toList
  have HD : Hid (∀ (c : UInt8) W, Calls Tryd.prog 32 #[.int .u8 ((c.toNat : Nat) : Int)] W fun e w' => e = .returned (.bool (isD c)) ∧ w' = W) := rdigit
  by_cases h1 : s.size < 1
  · have e : plainV s.data.toList = -2 := by unfold plainV; rw [if_pos (.inl (by omega))]
    have d1 : decide ((s.size : Int) < 1) = true := by simp; omega
    rw [e]
    clear e hl h1 HD
    go_enter Tryd.func22, Tryd.ntmps22
    go_wp2_with fail
    go_ret
    exact ⟨rfl, rfl⟩
  · have d1 : decide ((s.size : Int) < 1) = false := by simp; omega
    by_cases h13 : 13 < s.size
    · have e : plainV s.data.toList = -2 := by unfold plainV; rw [if_pos (.inr (.inl (by omega)))]
      have d2 : decide ((13 : Int) < (s.size : Int)) = true := by simp; omega
      rw [e]
      clear e hl h1 h13 HD
      go_enter Tryd.func22, Tryd.ntmps22
      go_wp2_with fail
      go_ret
      exact ⟨rfl, rfl⟩
    · have d2 : decide ((13 : Int) < (s.size : Int)) = false := by simp; omega
      have h0 : 0 < s.size := by omega
      have hh := head_at s h0
      by_cases hz : s[0] = 48 ∧ 1 < s.size
      · have e : plainV s.data.toList = -2 := by unfold plainV; rw [if_pos (.inr (.inr (.inl ⟨by rw [hh, hz.1], by omega⟩)))]
        have q1 : (((s[0].toNat : Nat) : Int) == 48) = true := by rw [hz.1]; rfl
        have q2 : decide ((1 : Int) < (s.size : Int)) = true := by simp; omega
        rw [e]
        clear e hl h1 h13 HD hh hz
        go_enter Tryd.func22, Tryd.ntmps22
        go_wp2_with fail
        go_ret
        exact ⟨rfl, rfl⟩
      · have hq : (((s[0].toNat : Nat) : Int) == 48) = false ∨ ((((s[0].toNat : Nat) : Int) == 48) = true ∧ decide ((1 : Int) < (s.size : Int)) = false) := by
          by_cases hc : s[0] = 48
          · refine .inr ⟨by rw [hc]; rfl, ?_⟩
            have : ¬ 1 < s.size := fun h => hz ⟨hc, h⟩
            simp; omega
          · refine .inl ?_
            rw [beq_eq_false_iff_ne]
            intro e
            apply hc
            apply UInt8.toNat_inj.1
            show s[0].toNat = 48
            omega
        have HNO : Hid (allD s.data.toList = false → plainV s.data.toList = -2) := fun h => by unfold plainV; rw [if_pos (.inr (.inr (.inr h)))]
        have HYES : Hid (allD s.data.toList = true → plainV s.data.toList = ((dv s.data.toList : Nat) : Int)) := fun h => by
          unfold plainV
          rw [if_neg]
          rintro (h' | h' | ⟨h', h''⟩ | h')
          · omega
          · omega
          · rw [hh] at h'
            exact hz ⟨by injection h', by omega⟩
          · rw [h] at h'; cases h'
        generalize plainV s.data.toList = R at *
        have h14 : s.size ≤ 13 := by omega
        clear hl h1 h13 hh hz
        rcases hq with q1 | ⟨q1, q2⟩
        all_goals
          go_enter Tryd.func22, Tryd.ntmps22
          go_wp2_with fail
          go_loopw [3, 4] (fun v3 v4 wr => ∃ i : Nat, i ≤ s.size ∧ v4 = .int .i64 (i : Int) ∧ v3 = .int .i64 ((dv (s.data.toList.take i) : Nat) : Int) ∧ allD (s.data.toList.take i) = true ∧ wr = w) (fun _ v _ => s.size - (intOf v).toNat)
          case atStart => exact ⟨0, Nat.zero_le _, rfl, rfl, rfl, rfl⟩
          case round =>
            obtain ⟨i, hi, rfl, rfl, had, rfl⟩ := hrel
            by_cases hp : i < s.size
            · have hlt := dv_lt _ had
              have htk := take_snocB s i hp
              have hlen : (s.data.toList.take i).length = i := by rw [List.length_take, show s.data.toList.length = s.size from Array.length_toList]; omega
              rw [hlen] at hlt
              have hpw := Nat.pow_le_pow_right (n := 10) (by decide) (show i ≤ 12 by omega)
              have hDW := HD.out s[i] wr
              have HAD : Hid (allD (s.data.toList.take i) = true) := had
              cases hc : isD s[i] with
              | false =>
                have hno : allD s.data.toList = false := by
                  cases ha : allD s.data.toList with
                  | false => rfl
                  | true =>
                    have := List.all_eq_true.1 ha s[i] (by
                      have h := List.getElem_mem (l := s.data.toList) (n := i) (by rw [show s.data.toList.length = s.size from Array.length_toList]; exact hp)
                      exact h)
                    rw [hc] at this
                    cases this
                have HR : Hid (R = -2) := HNO.out hno
                rw [hc] at hDW
                have HDW : Hid (Calls Tryd.prog 32 #[.int .u8 ((s[i].toNat : Nat) : Int)] wr fun e w' => e = .returned (.bool false) ∧ w' = wr) := hDW
                clear hDW hlt hpw htk had hlen hc hno HNO HYES HD HAD
                generalize dv (s.data.toList.take i) = n at *
                go_wp2_with fail
                refine HDW.out.mono ?_
                rintro e w1 ⟨rfl, rfl⟩
                go_wp2_with fail
                go_ret
                exact ⟨by rw [HR.out]; rfl, rfl⟩
              | true =>
                have hcb : 48 ≤ s[i].toNat ∧ s[i].toNat ≤ 57 := by simpa [isD] using hc
                have HT : Hid (((dv (s.data.toList.take (i + 1)) : Nat) : Int) = 10 * ((dv (s.data.toList.take i) : Nat) : Int) + (((s[i].toNat : Nat) : Int) - 48)) := by
                  show _ = _
                  rw [htk, dv_snoc]
                  omega
                have HA2 : Hid (allD (s.data.toList.take (i + 1)) = true) := by
                  show _ = _
                  rw [htk]
                  unfold allD at had ⊢
                  rw [List.all_append, had]
                  simp [hc]
                rw [hc] at hDW
                have HDW : Hid (Calls Tryd.prog 32 #[.int .u8 ((s[i].toNat : Nat) : Int)] wr fun e w' => e = .returned (.bool true) ∧ w' = wr) := hDW
                have w1 : IntKind.u8.wrap (((s[i].toNat : Nat) : Int) - 48) = ((s[i].toNat : Nat) : Int) - 48 := by simp [IntKind.wrap, IntKind.bits, IntKind.signed]; omega
                have w2 : IntKind.i64.wrap (10 * ((dv (s.data.toList.take i) : Nat) : Int)) = 10 * ((dv (s.data.toList.take i) : Nat) : Int) := by rw [IntKind.wrap_i64]; omega
                have w3 : IntKind.i64.wrap (10 * ((dv (s.data.toList.take i) : Nat) : Int) + (((s[i].toNat : Nat) : Int) - 48)) = 10 * ((dv (s.data.toList.take i) : Nat) : Int) + (((s[i].toNat : Nat) : Int) - 48) := by rw [IntKind.wrap_i64]; omega
                have w4 : IntKind.i64.wrap (((s[i].toNat : Nat) : Int) - 48) = ((s[i].toNat : Nat) : Int) - 48 := by rw [IntKind.wrap_i64]; omega
                clear hDW hlt hpw htk had hlen hc HNO HYES HD HAD
                generalize dv (s.data.toList.take i) = n at *
                go_wp2_with fail
                refine HDW.out.mono ?_
                rintro e w1 ⟨rfl, rfl⟩
                go_wp2_with fail
                go_roundw
                case rel => exact ⟨i + 1, by omega, by go_num, by rw [HT.out], HA2.out, trivial⟩
                case measure => simp [intOf]; omega
            · have hie : i = s.size := by omega
              have hfull : s.data.toList.take i = s.data.toList := List.take_of_length_le (by rw [show s.data.toList.length = s.size from Array.length_toList]; omega)
              rw [hfull] at had ⊢
              have HR : Hid (R = ((dv s.data.toList : Nat) : Int)) := HYES.out had
              clear HNO HYES HD had hfull
              generalize dv s.data.toList = n at *
              go_wp2_with fail
              go_ret
              exact ⟨by rw [HR.out]; rfl, rfl⟩

end Go.Proofs.YtlianhienbhbgaaDoor.odr
