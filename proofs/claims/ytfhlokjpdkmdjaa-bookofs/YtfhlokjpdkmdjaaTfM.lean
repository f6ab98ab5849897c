/- The most units for an amount, as the document has it. -/
import Derived.Test.YtfhlokjpdkmdjaaSh
import Derived.Test.YtfhlokjpdkmdjaaTfUm
import Derived.Test.YtfhlokjpdkmdjaaTfC
namespace Go.Proofs.Ytfhlokjpdkmdjaa.tar
open Go.RowKit
set_option maxRecDepth 100000
set_option linter.unusedVariables false
set_option linter.unusedSimpArgs false

set_option maxHeartbeats 4000000 in
theorem rmost (a : Option Addr) (len cap : Nat) (ls : List Du) (x m : Int) (w : World) (hr : RowD w a len ls) (hl : len ≤ maxLen) : Calls Try.prog 73 #[.slice a len cap, .int .i64 x, .int .i64 m] w fun e w' => ThreePost w (MostIs ls x m) e w' := by
  have HMY : Hid (Calls Try.prog 84 #[.slice a len cap, .int .i64 x, .int .i64 0] w fun e w' => ErrPost w (MayIs ls x 0) e w') := rmay a len cap ls x 0 w hr hl
  have HIM : Hid (∀ W, Calls Try.prog 47 #[.int .i64 m, .int .i64 0, .int .i64 1000000000000] W fun e w' => e = .returned (.bool (decide (0 ≤ m ∧ m ≤ 1000000000000))) ∧ w' = W) := fun W => cal.cin m 0 1000000000000 W
  go_enter Try.func73, Try.ntmps73
  go_wp2_with fail
  refine HMY.out.mono ?_
  rintro e w1 ⟨f, rfl, hf, hb⟩
  have HB : Hid (Below w.heap.size w w1) := hb
  by_cases h0 : f = 0
  · subst h0
    have hm := hf.ok.1 rfl
    have hx0 := hm.2.1.1
    have hx1 := hm.2.1.2
    have HR : Hid (Right ls) := hm.1
    have HCO : Hid (∀ (u : Nat) W, Below w1.heap.size w1 W → x + (u : Int) ≤ 10000000 → Calls Try.prog 85 #[.slice a len cap, .int .i64 x, .int .i64 (x + (u : Int))] W fun e w' => ValPost W (cost ls x (x + (u : Int))) e w') := fun u W hW hu => rcost a len cap ls x (x + (u : Int)) W ((hr.below hb).below hW) hm.1 hx0 (by omega) hu
    clear hf hb hr hl HMY
    by_cases hmm : 0 ≤ m ∧ m ≤ 1000000000000
    · rw [decide_eq_true hmm] at HIM
      have HMM : Hid (MayMost x m) := ⟨⟨hx0, hx1⟩, hmm⟩
      obtain ⟨hm0, hm1⟩ := hmm
      obtain ⟨T, hT⟩ : ∃ T : Nat, Top x = (T : Int) := ⟨(Top x).toNat, by unfold Top; omega⟩
      have HT : Hid (Top x = (T : Int)) := hT
      have hT1 : (T : Int) = 2097151 ∨ (T : Int) = 10000000 - x := by unfold Top at hT; omega
      have hT2 : x + (T : Int) ≤ 10000000 := by unfold Top at hT; omega
      have hT3 : (T : Int) ≤ 2097151 := by unfold Top at hT; omega
      have HZ : Hid (cost ls x (x + ((0 : Nat) : Int)) ≤ m) := by show _ ≤ _; rw [show x + ((0 : Nat) : Int) = x by omega, cost_self HR.out]; exact hm0
      clear hm
      go_wp2_with fail
      refine (HIM.out _).mono ?_
      rintro e w2 ⟨rfl, hw2⟩
      subst hw2
      clear HIM
      by_cases hd : 10000000 - x < 2097151
      · have hdd : decide (10000000 - x < 2097151) = true := decide_eq_true hd
        have HTE : Hid (10000000 - x = (T : Int)) := by show _ = _; unfold Top at hT; omega
        clear hT hT1
        go_wp2_with fail
        go_loopw [10, 11] (fun u v wr => ∃ l h : Nat, l ≤ h ∧ h ≤ T ∧ u = .int .i64 (l : Int) ∧ v = .int .i64 (h : Int) ∧ cost ls x (x + (l : Int)) ≤ m ∧ (h = T ∨ m < cost ls x (x + ((h : Int) + 1))) ∧ Below w2.heap.size w2 wr) (fun u v _ => (intOf v).toNat - (intOf u).toNat)
        case atStart => exact ⟨0, T, Nat.zero_le _, Nat.le_refl _, rfl, by rw [← HTE.out], HZ.out, .inl rfl, Below.refl _ _⟩
        case round =>
          obtain ⟨l, h, hlh, hh, rfl, rfl, hc1, hc2, hbw⟩ := hrel
          have HC1 : Hid (cost ls x (x + (l : Int)) ≤ m) := hc1
          have HC2 : Hid (h = T ∨ m < cost ls x (x + ((h : Int) + 1))) := hc2
          have HBW : Hid (Below w2.heap.size w2 wr) := hbw
          clear hc1 hc2 hbw
          by_cases hlt : l < h
          · have hdl : decide ((l : Int) < (h : Int)) = true := by simp; omega
            have hq : Int.tdiv ((l : Int) + (h : Int) + 1) 2 = (((l + h + 1) / 2 : Nat) : Int) := by rw [Int.tdiv_eq_ediv_of_nonneg (by omega)]; omega
            have hm1 : l < (l + h + 1) / 2 := by omega
            have hm2 : (l + h + 1) / 2 ≤ h := by omega
            generalize (l + h + 1) / 2 = d at *
            have HCD : Hid (Calls Try.prog 85 #[.slice a len cap, .int .i64 x, .int .i64 (x + (d : Int))] wr fun e w' => ValPost wr (cost ls x (x + (d : Int))) e w') := HCO.out d wr HBW.out (by omega)
            by_cases hle : cost ls x (x + (d : Int)) ≤ m
            · have HLE : Hid (cost ls x (x + (d : Int)) ≤ m) := hle
              have hdc : decide (cost ls x (x + (d : Int)) ≤ m) = true := decide_eq_true hle
              clear hle
              generalize hce : cost ls x (x + (d : Int)) = c at *
              have HCE : Hid (cost ls x (x + (d : Int)) = c) := hce
              clear hce
              go_wp2_with fail
              refine HCD.out.mono ?_
              rintro e w3 ⟨rfl, hb3⟩
              have HB3 := shB HBW hb3
              clear hb3 HCD
              go_wp2_with fail
              go_roundw
              case rel => exact ⟨d, h, hm2, hh, rfl, rfl, by rw [HCE.out]; exact HLE.out, HC2.out, HB3.out⟩
              case measure => simp only [intOf]; omega
            · have HLE : Hid (m < cost ls x (x + (((d - 1 : Nat) : Int) + 1))) := by show _ < _; rw [show (((d - 1 : Nat) : Int) + 1) = (d : Int) by omega]; omega
              have hdc : decide (cost ls x (x + (d : Int)) ≤ m) = false := decide_eq_false hle
              have hds : (d : Int) - 1 = ((d - 1 : Nat) : Int) := by omega
              clear hle
              have hd1 : l ≤ d - 1 := by omega
              have hd2 : d - 1 ≤ T := by omega
              have hd3 : d - 1 < h := by omega
              generalize d - 1 = d1 at *
              generalize cost ls x (x + (d : Int)) = c at *
              go_wp2_with fail
              refine HCD.out.mono ?_
              rintro e w3 ⟨rfl, hb3⟩
              have HB3 := shB HBW hb3
              clear hb3 HCD
              go_wp2_with fail
              go_roundw
              case rel => exact ⟨l, d1, hd1, hd2, rfl, by first | rfl | (rw [hds]) | go_num, HC1.out, .inr HLE.out, HB3.out⟩
              case measure => simp only [intOf]; omega
          · obtain rfl : l = h := by omega
            have hdl : decide ((l : Int) < (l : Int)) = false := by simp
            have HCD : Hid (Calls Try.prog 85 #[.slice a len cap, .int .i64 x, .int .i64 (x + (l : Int))] wr fun e w' => ValPost wr (cost ls x (x + (l : Int))) e w') := HCO.out l wr HBW.out (by omega)
            have HV : Hid (MostIs ls x m (l : Int) (cost ls x (x + (l : Int))) 0) := .inr (.inr ⟨HR.out, HMM.out, rfl, ⟨⟨by omega, by rw [HT.out]; omega⟩, HC1.out, by rcases HC2.out with h9 | h9; exact .inl (by rw [HT.out]; omega); exact .inr h9⟩, rfl⟩)
            clear HC1 HC2
            generalize cost ls x (x + (l : Int)) = c at *
            go_wp2_with fail
            refine HCD.out.mono ?_
            rintro e w3 ⟨rfl, hb3⟩
            have HB3 : Hid (Below w.heap.size w w3) := HB.out.trans ((HBW.out.trans (hb3.mono HBW.out.size)).mono HB.out.size)
            clear hb3 HCD
            go_wp2_with fail
            go_ret3
            exact ⟨_, _, _, rfl, HV.out, HB3.out⟩
      · have hdd : decide (10000000 - x < 2097151) = false := decide_eq_false hd
        have HTE : Hid (2097151 = (T : Int)) := by show _ = _; unfold Top at hT; omega
        clear hT hT1
        go_wp2_with fail
        go_loopw [10, 11] (fun u v wr => ∃ l h : Nat, l ≤ h ∧ h ≤ T ∧ u = .int .i64 (l : Int) ∧ v = .int .i64 (h : Int) ∧ cost ls x (x + (l : Int)) ≤ m ∧ (h = T ∨ m < cost ls x (x + ((h : Int) + 1))) ∧ Below w2.heap.size w2 wr) (fun u v _ => (intOf v).toNat - (intOf u).toNat)
        case atStart => exact ⟨0, T, Nat.zero_le _, Nat.le_refl _, rfl, by rw [← HTE.out], HZ.out, .inl rfl, Below.refl _ _⟩
        case round =>
          obtain ⟨l, h, hlh, hh, rfl, rfl, hc1, hc2, hbw⟩ := hrel
          have HC1 : Hid (cost ls x (x + (l : Int)) ≤ m) := hc1
          have HC2 : Hid (h = T ∨ m < cost ls x (x + ((h : Int) + 1))) := hc2
          have HBW : Hid (Below w2.heap.size w2 wr) := hbw
          clear hc1 hc2 hbw
          by_cases hlt : l < h
          · have hdl : decide ((l : Int) < (h : Int)) = true := by simp; omega
            have hq : Int.tdiv ((l : Int) + (h : Int) + 1) 2 = (((l + h + 1) / 2 : Nat) : Int) := by rw [Int.tdiv_eq_ediv_of_nonneg (by omega)]; omega
            have hm1 : l < (l + h + 1) / 2 := by omega
            have hm2 : (l + h + 1) / 2 ≤ h := by omega
            generalize (l + h + 1) / 2 = d at *
            have HCD : Hid (Calls Try.prog 85 #[.slice a len cap, .int .i64 x, .int .i64 (x + (d : Int))] wr fun e w' => ValPost wr (cost ls x (x + (d : Int))) e w') := HCO.out d wr HBW.out (by omega)
            by_cases hle : cost ls x (x + (d : Int)) ≤ m
            · have HLE : Hid (cost ls x (x + (d : Int)) ≤ m) := hle
              have hdc : decide (cost ls x (x + (d : Int)) ≤ m) = true := decide_eq_true hle
              clear hle
              generalize hce : cost ls x (x + (d : Int)) = c at *
              have HCE : Hid (cost ls x (x + (d : Int)) = c) := hce
              clear hce
              go_wp2_with fail
              refine HCD.out.mono ?_
              rintro e w3 ⟨rfl, hb3⟩
              have HB3 := shB HBW hb3
              clear hb3 HCD
              go_wp2_with fail
              go_roundw
              case rel => exact ⟨d, h, hm2, hh, rfl, rfl, by rw [HCE.out]; exact HLE.out, HC2.out, HB3.out⟩
              case measure => simp only [intOf]; omega
            · have HLE : Hid (m < cost ls x (x + (((d - 1 : Nat) : Int) + 1))) := by show _ < _; rw [show (((d - 1 : Nat) : Int) + 1) = (d : Int) by omega]; omega
              have hdc : decide (cost ls x (x + (d : Int)) ≤ m) = false := decide_eq_false hle
              have hds : (d : Int) - 1 = ((d - 1 : Nat) : Int) := by omega
              clear hle
              have hd1 : l ≤ d - 1 := by omega
              have hd2 : d - 1 ≤ T := by omega
              have hd3 : d - 1 < h := by omega
              generalize d - 1 = d1 at *
              generalize cost ls x (x + (d : Int)) = c at *
              go_wp2_with fail
              refine HCD.out.mono ?_
              rintro e w3 ⟨rfl, hb3⟩
              have HB3 := shB HBW hb3
              clear hb3 HCD
              go_wp2_with fail
              go_roundw
              case rel => exact ⟨l, d1, hd1, hd2, rfl, by first | rfl | (rw [hds]) | go_num, HC1.out, .inr HLE.out, HB3.out⟩
              case measure => simp only [intOf]; omega
          · obtain rfl : l = h := by omega
            have hdl : decide ((l : Int) < (l : Int)) = false := by simp
            have HCD : Hid (Calls Try.prog 85 #[.slice a len cap, .int .i64 x, .int .i64 (x + (l : Int))] wr fun e w' => ValPost wr (cost ls x (x + (l : Int))) e w') := HCO.out l wr HBW.out (by omega)
            have HV : Hid (MostIs ls x m (l : Int) (cost ls x (x + (l : Int))) 0) := .inr (.inr ⟨HR.out, HMM.out, rfl, ⟨⟨by omega, by rw [HT.out]; omega⟩, HC1.out, by rcases HC2.out with h9 | h9; exact .inl (by rw [HT.out]; omega); exact .inr h9⟩, rfl⟩)
            clear HC1 HC2
            generalize cost ls x (x + (l : Int)) = c at *
            go_wp2_with fail
            refine HCD.out.mono ?_
            rintro e w3 ⟨rfl, hb3⟩
            have HB3 : Hid (Below w.heap.size w w3) := HB.out.trans ((HBW.out.trans (hb3.mono HBW.out.size)).mono HB.out.size)
            clear hb3 HCD
            go_wp2_with fail
            go_ret3
            exact ⟨_, _, _, rfl, HV.out, HB3.out⟩
    · rw [decide_eq_false hmm] at HIM
      have HV : Hid (MostIs ls x m 0 0 2) := .inr (.inl ⟨HR.out, fun h => hmm h.2, rfl, rfl, rfl⟩)
      clear hmm hm
      go_wp2_with fail
      refine (HIM.out _).mono ?_
      rintro e w2 ⟨rfl, hw2⟩
      subst hw2
      go_wp2_with fail
      go_ret3
      exact ⟨_, _, _, rfl, HV.out, HB.out⟩
  · have hne : (f != 0) = true := by simpa using h0
    have HV : Hid (MostIs ls x m 0 0 f) := by
      rcases hf with ⟨p, q⟩ | ⟨p, q, r⟩ | ⟨p, q, r⟩
      · exact .inl ⟨p, q, rfl, rfl⟩
      · exact .inr (.inl ⟨p, fun h => q ⟨h.1, ⟨by decide, by decide⟩, by have := h.1.2; omega⟩, r, rfl, rfl⟩)
      · exact absurd r h0
    clear hf h0 hb hr hl HMY
    go_wp2_with fail
    go_ret3
    exact ⟨_, _, _, rfl, HV.out, HB.out⟩

end Go.Proofs.Ytfhlokjpdkmdjaa.tar
