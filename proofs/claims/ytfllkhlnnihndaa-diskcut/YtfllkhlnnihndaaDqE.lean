/- Disks: the records one by one, over any function value and what it does. -/
import Derived.Test.YtfllkhlnnihndaaDqC
namespace Go.Proofs.Ytfllkhlnnihndaa.disk
open Go.RowKit Go.Proofs.Ytfllkhlnnihndaa.cell
set_option maxRecDepth 100000
set_option linter.unusedVariables false
set_option linter.unusedSimpArgs false

/-- What each gives: where the telling ends, or why not; and what was done by then. -/
def EPost (J : Nat → World → Prop) (c : List Int) (e : Ending) (w' : World) : Prop :=
  ∃ x f k, e = .returned (.tuple #[.int .i64 x, .int .i64 f]) ∧ J k w' ∧ ((¬ May c ∧ x = 0 ∧ f = 1) ∨ (May c ∧ lenAt c (repD c).2 < 0 ∧ x = 0 ∧ f = 3) ∨ (May c ∧ lenAt c (repD c).2 = 0 ∧ repD c = itD c k ∧ x = ((repD c).2 : Int) ∧ f = 0))
theorem len_zero {c : List Int} {p : Nat} (h : c.getD p 0 = 0) : lenAt c p = 0 := by unfold lenAt; rw [if_pos (.inr h)]
theorem len_end {c : List Int} {p : Nat} (h : p = c.length) : lenAt c p = 0 := by unfold lenAt; rw [if_pos (.inl h)]
theorem len_bad {c : List Int} {p : Nat} (hp : p < c.length) (h0 : c.getD p 0 ≠ 0) (h : 64 < c.getD p 0 ∨ (c.length : Int) ≤ p + c.getD p 0) : lenAt c p < 0 := by
  unfold lenAt
  rw [if_neg (by omega)]
  by_cases h1 : 64 < c.getD p 0
  · rw [if_pos h1]; decide
  · rw [if_neg h1, if_pos (by omega)]; decide
theorem get_wd {c : List Int} (hw : ∀ x ∈ c, 0 ≤ x ∧ x < 4294967296) (p : Nat) : 0 ≤ c.getD p 0 ∧ c.getD p 0 < 4294967296 := by
  by_cases h : p < c.length
  · have e : c.getD p 0 = c[p] := by simp [List.getD, h]
    rw [e]
    exact hw _ (List.getElem_mem h)
  · have e : c.getD p 0 = 0 := by simp [List.getD, Nat.le_of_not_lt h]
    rw [e]; decide
theorem rowU_part {W : World} {b o n : Nat} {c : List Int} (h : RowU W (some ⟨b, o, none⟩) n c) {p m : Nat} (hm : (c.getD p 0).toNat = m) (hp : p + m < n) : RowU W (some ⟨b, o + (p + 1), none⟩) m (recAt c p) := by
  refine ⟨rec_len hm (by rw [h.1]; exact hp), .inr ⟨b, o + (p + 1), rfl, fun i hi => ?_⟩⟩
  obtain ⟨b', o', e, _, hc⟩ := h.at (by omega)
  cases e
  rw [rec_at hm hi, show o + (p + 1) + i = o + (p + 1 + i) by omega]
  exact hc (p + 1 + i) (by omega)
set_option maxHeartbeats 4000000 in
theorem each_any (F : Nat) (caps : Array Value) (J : Nat → World → Prop) (a : Option Addr) (n cap : Nat) (c : List Int) (w : World) (hJ : ∀ k W, J k W → RowU W a n c) (h0 : J 0 w) (hcap : n ≤ cap) (hw : ∀ x ∈ c, 0 ≤ x ∧ x < 4294967296) (hK : ∀ args w, (callFunc F args).run Try.prog w = .ok (.enter F args) w)
    (hf : ∀ (k p m b o : Nat) (W : World), J k W → (itD c k).2 = p → itD c (k + 1) = ((itD c k).1 ++ [recAt c p], p + m + 1) → RowU W (some ⟨b, o, none⟩) m (recAt c p) → 1 ≤ m → m ≤ 64 → p ≤ 2048 → Calls Try.prog F (#[.slice (some ⟨b, o, none⟩) m m] ++ caps) W fun e w' => e = .returned (.tuple #[]) ∧ J (k + 1) w') :
    Calls Try.prog 23 #[.slice a n cap, .func (.func F) #[] caps] w fun e w' => EPost J c e w' := by
  have hcl := (hJ 0 w h0).1
  have H0 : Hid (J 0 w) := h0
  have HN : Hid (c.length = n) := hcl
  by_cases hmay : 1 ≤ n ∧ n ≤ 2048
  · obtain ⟨b, o, rfl, _, _⟩ := (hJ 0 w h0).at (by omega)
    have HJ : Hid (∀ k W, J k W → RowU W (some ⟨b, o, none⟩) n c) := hJ
    have HCL : Hid (∀ k W, J k W → ∀ j, j < n → W.cell? ⟨b, o + j, none⟩ = some (.int .u32 (c.getD j 0))) := fun k W h j hj => by
      obtain ⟨b', o', e, _, hc⟩ := (hJ k W h).at (by omega)
      cases e
      exact hc j hj
    have HW : Hid (∀ p, 0 ≤ c.getD p 0 ∧ c.getD p 0 < 4294967296) := get_wd hw
    have HF : Hid (∀ (k p m b o : Nat) (W : World), J k W → (itD c k).2 = p → itD c (k + 1) = ((itD c k).1 ++ [recAt c p], p + m + 1) → RowU W (some ⟨b, o, none⟩) m (recAt c p) → 1 ≤ m → m ≤ 64 → p ≤ 2048 → Calls Try.prog F (#[.slice (some ⟨b, o, none⟩) m m] ++ caps) W fun e w' => e = .returned (.tuple #[]) ∧ J (k + 1) w') := hf
    have HMY : Hid (May c) := ⟨by omega, by omega⟩
    obtain ⟨hn1, hn2⟩ := hmay
    have d1 : decide ((n : Int) < 1) = false := by simp; omega
    have d2 : decide ((2048 : Int) < (n : Int)) = false := by simp; omega
    clear hJ hf hw hcl h0
    go_enter Try.func23, Try.ntmps23
    go_wp2_with fail
    go_loopw [6] (fun v6 wr => ∃ (k p : Nat), p ≤ n ∧ v6 = .int .i64 (p : Int) ∧ (itD c k).2 = p ∧ J k wr) (fun v6 _ => n + 1 - (intOf v6).toNat)
    case atStart => exact ⟨0, 0, Nat.zero_le _, rfl, rfl, H0.out⟩
    case round =>
      obtain ⟨k, p, hp, rfl, hk, hj⟩ := hrel
      have HJK : Hid (J k wr) := hj
      have HK : Hid ((itD c k).2 = p) := hk
      clear hj hk H0
      by_cases hpn : p < n
      · have k2 := HCL.out k wr HJK.out p hpn
        have hz := HW.out p
        have e1 : decide ((p : Int) < (n : Int)) = true := by simp; omega
        by_cases hz0 : c.getD p 0 = 0
        · have HL0 : Hid (lenAt c p = 0) := len_zero hz0
          have HE : Hid (EPost J c (.returned (.tuple #[.int .i64 (p : Int), .int .i64 0])) wr) := by
            have hd : ¬ 0 < lenAt c (itD c k).2 := by rw [HK.out, HL0.out]; decide
            have hr := rep_of hd
            exact ⟨_, _, k, rfl, HJK.out, .inr (.inr ⟨HMY.out, by rw [hr, HK.out]; exact HL0.out, hr, by rw [hr, HK.out], rfl⟩)⟩
          rw [hz0] at k2
          clear hz hz0 HJ HCL HW HF HK HJK HL0
          go_wp2_with fail
          go_ret2
          exact HE.out
        · by_cases hbad : 64 < c.getD p 0 ∨ (n : Int) ≤ p + c.getD p 0
          · have HE : Hid (EPost J c (.returned (.tuple #[.int .i64 0, .int .i64 3])) wr) := by
              have hl := len_bad (c := c) (p := p) (by rw [HN.out]; exact hpn) hz0 (by rw [HN.out]; exact hbad)
              have hd : ¬ 0 < lenAt c (itD c k).2 := by rw [HK.out]; omega
              exact ⟨_, _, k, rfl, HJK.out, .inr (.inl ⟨HMY.out, by rw [rep_of hd, HK.out]; exact hl, rfl, rfl⟩)⟩
            have e0 : (c.getD p 0 != 0) = true := by simpa using hz0
            clear HJ HCL HW HF HK HJK
            generalize c.getD p 0 = z at *
            obtain ⟨hz1, hz2⟩ := hz
            by_cases h64 : 64 < z
            · have e3 : decide ((64 : Int) < z) = true := by simpa using h64
              clear hbad
              go_wp2_with fail
              go_ret2
              exact HE.out
            · have e3 : decide ((64 : Int) < z) = false := by simpa using h64
              have e4 : decide ((n : Int) < (p : Int) + 1 + z) = true := by simp; omega
              clear hbad
              go_wp2_with fail
              go_ret2
              exact HE.out
          · obtain ⟨m, hm⟩ : ∃ m : Nat, c.getD p 0 = (m : Int) := ⟨(c.getD p 0).toNat, by omega⟩
            have hgm : (c.getD p 0).toNat = m := by rw [hm]; simp
            have hm1 : 1 ≤ m := by omega
            have hm2 : m ≤ 64 := by omega
            have hpm : p + m < n := by omega
            have hla : lenAt c p = (m : Int) := by rw [len_of (by omega) (by omega) (by rw [HN.out]; omega), hm]
            have HIT : Hid (itD c (k + 1) = ((itD c k).1 ++ [recAt c p], p + m + 1)) := by
              have h := it_live (c := c) (k := k) (by rw [HK.out, hla]; omega)
              rw [HK.out, hla, Int.toNat_natCast] at h
              exact h
            have HCC : Hid (Calls Try.prog F (#[.slice (some ⟨b, o + (p + 1), none⟩) m m] ++ caps) wr fun e w' => e = .returned (.tuple #[]) ∧ J (k + 1) w') := HF.out k p m b (o + (p + 1)) wr HJK.out HK.out HIT.out (rowU_part (HJ.out k wr HJK.out) hgm hpm) hm1 hm2 (by omega)
            rw [hm] at k2
            have e0 : ((m : Int) != 0) = true := by simp; omega
            have e3 : decide ((64 : Int) < (m : Int)) = false := by simp; omega
            have e4 : decide ((n : Int) < (p : Int) + 1 + (m : Int)) = false := by simp; omega
            have hc1 : p + 1 < cap := by omega
            clear hz hz0 hbad hm hgm hla HF HJ HW HCL
            go_wp2_with fail
            refine HCC.out.mono ?_
            rintro e w1 ⟨rfl, hj1⟩
            have HJ1 : Hid (J (k + 1) w1) := hj1
            clear hj1
            go_wp2_with fail
            go_roundw
            case rel => exact ⟨k + 1, p + m + 1, by omega, by go_num, by rw [HIT.out], HJ1.out⟩
            case measure => simp [intOf]; omega
      · have e1 : decide ((p : Int) < (n : Int)) = false := by simp; omega
        have HE : Hid (EPost J c (.returned (.tuple #[.int .i64 (p : Int), .int .i64 0])) wr) := by
          have hl : lenAt c p = 0 := len_end (by rw [HN.out]; omega)
          have hd : ¬ 0 < lenAt c (itD c k).2 := by rw [HK.out, hl]; decide
          have hr := rep_of hd
          exact ⟨_, _, k, rfl, HJK.out, .inr (.inr ⟨HMY.out, by rw [hr, HK.out]; exact hl, hr, by rw [hr, HK.out], rfl⟩)⟩
        clear HJ HCL HW HF HK HJK
        go_wp2_with fail
        go_ret2
        exact HE.out
  · have HE : Hid (EPost J c (.returned (.tuple #[.int .i64 0, .int .i64 1])) w) := ⟨0, 1, 0, rfl, H0.out, .inl ⟨fun h => hmay ⟨by rw [← hcl]; exact h.1, by rw [← hcl]; exact h.2⟩, rfl, rfl⟩⟩
    clear hJ hf hw h0 H0 hcl HN
    go_enter Try.func23, Try.ntmps23
    by_cases h1 : 1 ≤ n
    · have d1 : decide ((n : Int) < 1) = false := by simp; omega
      have d2 : decide ((2048 : Int) < (n : Int)) = true := by simp; omega
      go_wp2_with fail
      go_ret2
      exact HE.out
    · have d1 : decide ((n : Int) < 1) = true := by simp; omega
      go_wp2_with fail
      go_ret2
      exact HE.out

end Go.Proofs.Ytfllkhlnnihndaa.disk
