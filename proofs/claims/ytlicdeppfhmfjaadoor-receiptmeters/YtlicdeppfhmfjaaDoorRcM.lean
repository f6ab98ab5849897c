/- The meter of a number; a whole number: as the document has them. -/
import Derived.Test.YtlicdeppfhmfjaaDoorRcP
namespace Go.Proofs.YtlicdeppfhmfjaaDoor.rcp
open Go.RowKit
set_option maxRecDepth 100000
set_option linter.unusedVariables false
set_option linter.unusedSimpArgs false

theorem num_ne {l : List UInt8} (h : ∀ k, k < 50 → numL k ≠ l) (k : Nat) : ¬ Named l k := fun hk => h k hk.1 hk.2
set_option maxHeartbeats 2000000 in
theorem meter_any (s : ByteArray) (w : World) : Calls Tryd.prog 9 #[.string s] w fun e w' => ∃ m f, e = .returned (.tuple #[.int .i64 m, .int .i64 f]) ∧ MeterIs s.data.toList m f ∧ Below w.heap.size w w' := by
  have hsz : s.data.toList.length = s.size := Array.length_toList
  have HM : Hid (∀ W, Calls Tryd.prog 23 #[.string s] W fun e w' => e = .returned (.int .i64 (check.flawR s.data.toList)) ∧ w' = W) := fun W => check.may_any s W
  have HG : Hid (∀ W, Calls Tryd.prog 24 #[.string s] W fun e w' => e = .returned (.bool (check.goodR s.data.toList)) ∧ w' = W) := fun W => check.isGood_any s W
  have HNM : Hid (∀ k : Nat, k < 50 → ∀ W, Calls Tryd.prog 7 #[.int .i64 (k : Int)] W fun e w' => e = .returned (.tuple #[.string ⟨(numL k).toArray⟩, .int .i64 0]) ∧ Below W.heap.size W w') := fun k hk W => (number_any (k : Int) W).mono (by
    rintro e w1 ⟨l, f, rfl, h, hb⟩
    rcases h with ⟨_, rfl, rfl⟩ | ⟨a, _⟩
    · exact ⟨by rw [Int.toNat_natCast], hb⟩
    · exact absurd ⟨by omega, by omega⟩ a)
  have HL : Hid (s.data.toList.length = s.size) := hsz
  have HEQ : Hid (∀ k, ((⟨(numL k).toArray⟩ : ByteArray).toList == s.toList) = (numL k == s.data.toList)) := fun k => by rw [ByteArray.toList_eq, ByteArray.toList_eq]
  generalize hl : s.data.toList = l at *
  clear hsz hl
  by_cases h11 : s.size = 11
  · have hd1 : ((s.size : Int) != 11) = false := by rw [h11]; rfl
    have HL2 : Hid (l.length = 11) := HL.out.trans h11
    have hsm : s.size ≤ 100 := by omega
    clear h11
    by_cases hf : check.flawR l = 0
    · have hd2 : (check.flawR l != 0) = false := by rw [hf]; rfl
      have HF : Hid (check.flawR l = 0) := hf
      clear hf
      generalize hfl : check.flawR l = fl at *
      by_cases hg : check.goodR l = true
      · rw [hg] at HG
        have HGD : Hid (check.goodR l = true) := hg
        clear hg
        go_enter Tryd.func9, Tryd.ntmps9
        go_wp2_with fail
        refine (HM.out _).mono ?_
        rintro e wz ⟨rfl, hwz⟩
        subst wz
        go_wp2_with fail
        refine (HG.out _).mono ?_
        rintro e wz ⟨rfl, hwz⟩
        subst wz
        clear HM HG
        go_wp2_with fail
        go_loopw [5] (fun v wr => ∃ k : Nat, k ≤ 50 ∧ v = .int .i64 (k : Int) ∧ (∀ i, i < k → numL i ≠ l) ∧ Below w.heap.size w wr) (fun v _ => 50 - (intOf v).toNat)
        case atStart => exact ⟨0, by decide, rfl, fun i hi => absurd hi (Nat.not_lt_zero _), Below.refl _ _⟩
        case round =>
          obtain ⟨k, hk, rfl, hne, hb⟩ := hrel
          have HB : Hid (Below w.heap.size w wr) := hb
          have HNE : Hid (∀ i, i < k → numL i ≠ l) := hne
          clear hb hne
          by_cases hlt : k < 50
          · have hdl : decide ((k : Int) < 50) = true := by simp; omega
            have HN1 : Hid (Calls Tryd.prog 7 #[.int .i64 (k : Int)] wr fun e w' => e = .returned (.tuple #[.string ⟨(numL k).toArray⟩, .int .i64 0]) ∧ Below wr.heap.size wr w') := HNM.out k hlt wr
            have HE := HEQ.out k
            by_cases he : numL k = l
            · have hse : ((⟨(numL k).toArray⟩ : ByteArray).toList == s.toList) = true := by rw [HE, he]; simp
              have HR : Hid (MeterIs l (k : Int) 0) := .inr (.inr (.inr (.inr ⟨HL2.out, hfl.trans HF.out, HGD.out, k, ⟨hlt, he⟩, rfl, rfl⟩)))
              clear HE he
              generalize (⟨(numL k).toArray⟩ : ByteArray) = S at *
              go_wp2_with fail
              refine HN1.out.mono ?_
              rintro e w2 ⟨rfl, hb2⟩
              have HB2 : Hid (Below w.heap.size w w2) := HB.out.trans (hb2.mono HB.out.size)
              clear hb2 HN1
              go_wp2_with fail
              go_ret2
              exact ⟨(k : Int), 0, rfl, HR.out, HB2.out⟩
            · have hse : ((⟨(numL k).toArray⟩ : ByteArray).toList == s.toList) = false := by rw [HE]; simpa using he
              have HN2 : Hid (∀ i, i < k + 1 → numL i ≠ l) := fun i hi => by
                by_cases e : i = k
                · subst e; exact he
                · exact HNE.out i (by omega)
              clear HE he
              generalize (⟨(numL k).toArray⟩ : ByteArray) = S at *
              go_wp2_with fail
              refine HN1.out.mono ?_
              rintro e w2 ⟨rfl, hb2⟩
              have HB2 : Hid (Below w.heap.size w w2) := HB.out.trans (hb2.mono HB.out.size)
              clear hb2 HN1
              go_wp2_with fail
              go_roundw
              case rel => exact ⟨k + 1, by omega, by go_num, HN2.out, HB2.out⟩
              case measure => simp [intOf]; omega
          · obtain rfl : k = 50 := by omega
            have HR : Hid (MeterIs l 0 18) := .inr (.inr (.inr (.inl ⟨HL2.out, hfl.trans HF.out, HGD.out, num_ne HNE.out, rfl, rfl⟩)))
            go_wp2_with fail
            go_ret2
            exact ⟨0, 18, rfl, HR.out, HB.out⟩
      · have hg2 : check.goodR l = false := by simpa using hg
        rw [hg2] at HG
        have HR : Hid (MeterIs l 0 8) := .inr (.inr (.inl ⟨HL2.out, hfl.trans HF.out, hg2, rfl, rfl⟩))
        clear hg hg2
        go_enter Tryd.func9, Tryd.ntmps9
        go_wp2_with fail
        refine (HM.out _).mono ?_
        rintro e wz ⟨rfl, hwz⟩
        subst wz
        go_wp2_with fail
        refine (HG.out _).mono ?_
        rintro e wz ⟨rfl, hwz⟩
        subst wz
        go_wp2_with fail
        go_ret2
        exact ⟨0, 8, rfl, HR.out, Below.refl _ _⟩
    · have hd2 : (check.flawR l != 0) = true := by simpa using hf
      have HR : Hid (MeterIs l 0 (check.flawR l)) := .inr (.inl ⟨HL2.out, hf, rfl, rfl⟩)
      clear hf
      generalize check.flawR l = fl at *
      go_enter Tryd.func9, Tryd.ntmps9
      go_wp2_with fail
      refine (HM.out _).mono ?_
      rintro e wz ⟨rfl, hwz⟩
      subst wz
      go_wp2_with fail
      go_ret2
      exact ⟨0, fl, rfl, HR.out, Below.refl _ _⟩
  · have hd1 : ((s.size : Int) != 11) = true := by simp; omega
    have HR : Hid (MeterIs l 0 6) := .inl ⟨by rw [HL.out]; exact h11, rfl, rfl⟩
    clear h11
    go_enter Tryd.func9, Tryd.ntmps9
    go_wp2_with fail
    go_ret2
    exact ⟨0, 6, rfl, HR.out, Below.refl _ _⟩

end Go.Proofs.YtlicdeppfhmfjaaDoor.rcp
