/- What is wrong with a tariff, in the program. -/
import Derived.Test.YtlolippocnngcabKtC
import Derived.Test.YtlolippocnngcabTpW
import Derived.Test.YtlolippocnngcabTpR
namespace Go.Proofs.Ytlolippocnngcab.tar
open Go.RowKit
set_option maxRecDepth 100000
set_option linter.unusedVariables false
set_option linter.unusedSimpArgs false

open Classical in
set_option maxHeartbeats 2000000 in
theorem kcheck : KtCheck := by
  intro w a n cap ls hcame
  have hr := hcame.row
  have hn := hcame.most
  clear hcame
  have hlen := hr.1
  have HIU : Hid (∀ x W, Calls Try.prog 54 #[.int .i64 1, .int .i64 10000000, .int .i64 x] W fun e w' => e = .returned (.bool (decide (1 ≤ x ∧ x ≤ 10000000))) ∧ w' = W) := fun x W => pwithin 1 10000000 x W
  have HIP : Hid (∀ x W, Calls Try.prog 54 #[.int .i64 1, .int .i64 100000, .int .i64 x] W fun e w' => e = .returned (.bool (decide (1 ≤ x ∧ x ≤ 100000))) ∧ w' = W) := fun x W => pwithin 1 100000 x W
  by_cases hs : 1 ≤ n ∧ n ≤ 8
  · have HS : Hid (Sized ls) := by show 1 ≤ ls.length ∧ ls.length ≤ 8; rw [hlen]; exact hs
    obtain ⟨hs1, hs2⟩ := hs
    have hd0 : ((n : Int) == 0) = false := by simp; omega
    have hd8 : decide ((8 : Int) < (n : Int)) = false := by simp; omega
    obtain ⟨b, off, rfl, hbl, hc⟩ := hr.at hs1
    have HC : Hid (∀ i, i < n → w.cell? ⟨b, off + i * 2, none⟩ = some (.int .i64 (ls.getD i du0).a) ∧ w.cell? ⟨b, off + i * 2 + 1, none⟩ = some (.int .i64 (ls.getD i du0).b)) := hc
    have HLEN : Hid (ls.length = n) := hlen
    have HRS : Hid (∀ W, Below w.heap.size w W → Calls Try.prog 58 #[.slice (some ⟨b, off, none⟩) n cap] W fun e w' => e = .returned (.bool (decide (Rises ls))) ∧ Below W.heap.size W w') := fun W hW => prises b off n cap ls W hs1 hs2 hlen (Nat.lt_of_lt_of_le hbl hW.size) (fun i hi => ⟨(hW.cell (p := ⟨b, off + i * 2, none⟩) hbl).trans (hc i hi).1, (hW.cell (p := ⟨b, off + i * 2 + 1, none⟩) hbl).trans (hc i hi).2⟩)
    have hnm : n ≤ 9223372036854775807 := by omega
    clear hc hr hn hlen
    go_enter Try.func53, Try.ntmps53
    go_wp2_with fail
    go_loopw [15] (fun x wr => ∃ k : Nat, k ≤ n ∧ x = .int .i64 (k : Int) ∧ (∀ i, i < k → (1 ≤ (ls.getD i du0).a ∧ (ls.getD i du0).a ≤ 10000000) ∧ 1 ≤ (ls.getD i du0).b ∧ (ls.getD i du0).b ≤ 100000) ∧ Below w.heap.size w wr) (fun x _ => n - (intOf x).toNat)
    case atStart => exact ⟨0, Nat.zero_le _, rfl, fun i hi => absurd hi (Nat.not_lt_zero _), Below.refl _ _⟩
    case round =>
      obtain ⟨k, hk, rfl, hf, hb⟩ := hrel
      have HF : Hid (∀ i, i < k → (1 ≤ (ls.getD i du0).a ∧ (ls.getD i du0).a ≤ 10000000) ∧ 1 ≤ (ls.getD i du0).b ∧ (ls.getD i du0).b ≤ 100000) := hf
      have HB : Hid (Below w.heap.size w wr) := hb
      clear hf
      by_cases hlt : k < n
      · have hdl : decide ((k : Int) < (n : Int)) = true := by simp; omega
        have c0 : wr.cell? ⟨b, off + k * 2, none⟩ = some (.int .i64 (ls.getD k du0).a) := (hb.cell (p := ⟨b, off + k * 2, none⟩) hbl).trans (HC.out k hlt).1
        have c1 : wr.cell? ⟨b, off + k * 2 + 1, none⟩ = some (.int .i64 (ls.getD k du0).b) := (hb.cell (p := ⟨b, off + k * 2 + 1, none⟩) hbl).trans (HC.out k hlt).2
        have HBA : Hid (∀ o, Below w.heap.size w (wr.alloc o)) := fun o => hb.alloc hb.size o
        clear hb
        have HU := HIU.out (ls.getD k du0).a
        have HP := HIP.out (ls.getD k du0).b
        by_cases hu : 1 ≤ (ls.getD k du0).a ∧ (ls.getD k du0).a ≤ 10000000
        · rw [decide_eq_true hu] at HU
          by_cases hp : 1 ≤ (ls.getD k du0).b ∧ (ls.getD k du0).b ≤ 100000
          · rw [decide_eq_true hp] at HP
            have HF2 : Hid (∀ i, i < k + 1 → (1 ≤ (ls.getD i du0).a ∧ (ls.getD i du0).a ≤ 10000000) ∧ 1 ≤ (ls.getD i du0).b ∧ (ls.getD i du0).b ≤ 100000) := fun i hi => by
              by_cases e : i = k
              · subst e; exact ⟨hu, hp⟩
              · exact HF.out i (by omega)
            have HU2 : Hid (∀ W, Calls Try.prog 54 #[.int .i64 1, .int .i64 10000000, .int .i64 (ls.getD k du0).a] W fun e w' => e = .returned (.bool true) ∧ w' = W) := HU
            have HP2 : Hid (∀ W, Calls Try.prog 54 #[.int .i64 1, .int .i64 100000, .int .i64 (ls.getD k du0).b] W fun e w' => e = .returned (.bool true) ∧ w' = W) := HP
            clear HU HP hu hp HF
            generalize (ls.getD k du0).a = x at *
            generalize (ls.getD k du0).b = y at *
            go_wp2_with fail
            refine (HU2.out _).mono ?_
            rintro e w2 ⟨rfl, hw2⟩
            subst w2
            go_wp2_with fail
            refine (HP2.out _).mono ?_
            rintro e w2 ⟨rfl, hw2⟩
            subst w2
            go_wp2_with fail
            go_roundw
            case rel => exact ⟨k + 1, by omega, by go_num, HF2.out, HBA.out _⟩
            case measure => simp [intOf]; omega
          · rw [decide_eq_false hp] at HP
            have HN : Hid (¬ Fits ls) := fun h => hp (h k (by rw [HLEN.out]; exact hlt)).2
            have HU2 : Hid (∀ W, Calls Try.prog 54 #[.int .i64 1, .int .i64 10000000, .int .i64 (ls.getD k du0).a] W fun e w' => e = .returned (.bool true) ∧ w' = W) := HU
            have HP2 : Hid (∀ W, Calls Try.prog 54 #[.int .i64 1, .int .i64 100000, .int .i64 (ls.getD k du0).b] W fun e w' => e = .returned (.bool false) ∧ w' = W) := HP
            clear HU HP hu hp HF
            generalize (ls.getD k du0).a = x at *
            generalize (ls.getD k du0).b = y at *
            go_wp2_with fail
            refine (HU2.out _).mono ?_
            rintro e w2 ⟨rfl, hw2⟩
            subst w2
            go_wp2_with fail
            refine (HP2.out _).mono ?_
            rintro e w2 ⟨rfl, hw2⟩
            subst w2
            go_wp2_with fail
            go_ret
            exact ⟨_, rfl, .inr (.inl ⟨HS.out, HN.out, rfl⟩), HBA.out _⟩
        · rw [decide_eq_false hu] at HU
          have HN : Hid (¬ Fits ls) := fun h => hu (h k (by rw [HLEN.out]; exact hlt)).1
          have HU2 : Hid (∀ W, Calls Try.prog 54 #[.int .i64 1, .int .i64 10000000, .int .i64 (ls.getD k du0).a] W fun e w' => e = .returned (.bool false) ∧ w' = W) := HU
          clear HU HP hu HF
          generalize (ls.getD k du0).a = x at *
          generalize (ls.getD k du0).b = y at *
          go_wp2_with fail
          refine (HU2.out _).mono ?_
          rintro e w2 ⟨rfl, hw2⟩
          subst w2
          go_wp2_with fail
          go_ret
          exact ⟨_, rfl, .inr (.inl ⟨HS.out, HN.out, rfl⟩), HBA.out _⟩
      · obtain rfl : k = n := by omega
        have hdl : decide ((k : Int) < (k : Int)) = false := by simp
        have HFT : Hid (Fits ls) := fun i hi => HF.out i (by rw [HLEN.out] at hi; exact hi)
        have HR := HRS.out wr hb
        clear HF HIU HIP HRS hb
        have HE : Hid (Ends ls ↔ (ls.getD (k - 1) du0).a = 10000000) := by show Ends ls ↔ _; unfold Ends; rw [HLEN.out]
        have HC1 : Hid (∀ W, Below wr.heap.size wr W → W.cell? ⟨b, off + (k - 1) * 2, none⟩ = some (.int .i64 (ls.getD (k - 1) du0).a)) := fun W hW => ((HB.out.trans (hW.mono HB.out.size)).cell (p := ⟨b, off + (k - 1) * 2, none⟩) hbl).trans (HC.out (k - 1) (by omega)).1
        have hsub : ((k : Int) - 1) = ((k - 1 : Nat) : Int) := by omega
        have hjm : k - 1 < k := by omega
        by_cases hri : Rises ls
        · rw [decide_eq_true hri] at HR
          have HR2 : Hid (Calls Try.prog 58 #[.slice (some ⟨b, off, none⟩) k cap] wr fun e w' => e = .returned (.bool true) ∧ Below wr.heap.size wr w') := HR
          have HRI : Hid (Rises ls) := hri
          clear HR hri
          go_wp2_with fail
          refine HR2.out.mono ?_
          rintro e w2 ⟨rfl, hw2⟩
          have c1 := HC1.out w2 hw2
          have HB2 : Hid (Below w.heap.size w w2) := HB.out.trans (hw2.mono HB.out.size)
          clear hw2 HR2
          by_cases he : (ls.getD (k - 1) du0).a = 10000000
          · have HRT : Hid (Right ls) := ⟨HS.out, HFT.out, HRI.out, HE.out.2 he⟩
            have hne : ((ls.getD (k - 1) du0).a != 10000000) = false := by rw [he]; rfl
            clear he HE HC1
            generalize (ls.getD (k - 1) du0).a = y at *
            generalize k - 1 = j1 at *
            go_wp2_with fail
            go_ret
            exact ⟨_, rfl, .inr (.inr (.inr ⟨HRT.out, rfl⟩)), HB2.out⟩
          · have HN : Hid (¬ (Rises ls ∧ Ends ls)) := fun h => he (HE.out.1 h.2)
            have hne : ((ls.getD (k - 1) du0).a != 10000000) = true := by simpa using he
            clear he HE HC1
            generalize (ls.getD (k - 1) du0).a = y at *
            generalize k - 1 = j1 at *
            go_wp2_with fail
            go_ret
            exact ⟨_, rfl, .inr (.inr (.inl ⟨HS.out, HFT.out, HN.out, rfl⟩)), HB2.out⟩
        · rw [decide_eq_false hri] at HR
          have HR2 : Hid (Calls Try.prog 58 #[.slice (some ⟨b, off, none⟩) k cap] wr fun e w' => e = .returned (.bool false) ∧ Below wr.heap.size wr w') := HR
          have HN : Hid (¬ (Rises ls ∧ Ends ls)) := fun h => hri h.1
          clear HR hri
          go_wp2_with fail
          refine HR2.out.mono ?_
          rintro e w2 ⟨rfl, hw2⟩
          have HB2 : Hid (Below w.heap.size w w2) := HB.out.trans (hw2.mono HB.out.size)
          clear hw2 HR2 HE HC1
          generalize k - 1 = j1 at *
          go_wp2_with fail
          go_ret
          exact ⟨_, rfl, .inr (.inr (.inl ⟨HS.out, HFT.out, HN.out, rfl⟩)), HB2.out⟩
  · have HS : Hid (¬ Sized ls) := by show ¬ (1 ≤ ls.length ∧ ls.length ≤ 8); rw [hlen]; exact hs
    have hnm : n ≤ 9223372036854775807 := by unfold maxLen at hn; omega
    clear hr hlen hn
    by_cases h0 : n = 0
    · subst h0
      clear hs hnm
      go_enter Try.func53, Try.ntmps53
      go_wp2_with fail
      go_ret
      exact ⟨_, rfl, .inl ⟨HS.out, rfl⟩, Below.refl _ _⟩
    · have hd0 : ((n : Int) == 0) = false := by simp; omega
      have hd8 : decide ((8 : Int) < (n : Int)) = true := by simp; omega
      clear hs h0
      go_enter Try.func53, Try.ntmps53
      go_wp2_with fail
      go_ret
      exact ⟨_, rfl, .inl ⟨HS.out, rfl⟩, Below.refl _ _⟩

end Go.Proofs.Ytlolippocnngcab.tar
