/- order.kind. -/
import Derived.Test.YtlianhienbhbgaaDoorOdA
namespace Go.Proofs.YtlianhienbhbgaaDoor.odr
open Go.RowKit
set_option maxRecDepth 100000
set_option linter.unusedVariables false
set_option linter.unusedSimpArgs false

theorem kindL_at (l : List UInt8) (i : Int) (h1 : 1 ≤ i) (h7 : i ≤ 7) (he : l = wd i) : kindL l = i := by
  subst he
  exact kind_wd (by simp [inB]; omega)
theorem kindL_no (l : List UInt8) (hn : ∀ j : Int, 1 ≤ j → j < 8 → l ≠ wd j) : kindL l = 0 := by
  unfold kindL
  rw [if_neg (hn 1 (by decide) (by decide)), if_neg (hn 2 (by decide) (by decide)), if_neg (hn 3 (by decide) (by decide)), if_neg (hn 4 (by decide) (by decide)), if_neg (hn 5 (by decide) (by decide)), if_neg (hn 6 (by decide) (by decide)), if_neg (hn 7 (by decide) (by decide))]

theorem ls_eq (s : ByteArray) : s.toList = s.data.toList := ByteArray.toList_eq s
theorem ba_ne {s : ByteArray} {l : List UInt8} (h : s.data.toList ≠ l) : (l == s.toList) = false := by
  rw [ls_eq, beq_eq_false_iff_ne]; exact fun e => h e.symm
theorem ba_eq {s : ByteArray} {l : List UInt8} (h : s.data.toList = l) : (l == s.toList) = true := by
  rw [ls_eq, h, beq_self_eq_true]
set_option maxHeartbeats 2000000 in
theorem pkind (s : ByteArray) (w : World) (ht : OTab w) :
    Calls Tryd.prog 31 #[.string s] w fun e w' => e = .returned (.int .i64 (kindL s.data.toList)) ∧ w' = w := by
  have HT : Hid (OTab w) := ht
  have HK : Hid (∀ i : Int, 1 ≤ i → i ≤ 7 → s.data.toList = wd i → kindL s.data.toList = i) := fun i a b d => kindL_at _ i a b d
  have HK0 : Hid ((∀ j : Int, 1 ≤ j → j < 8 → s.data.toList ≠ wd j) → kindL s.data.toList = 0) := kindL_no _
  clear ht
  generalize kindL s.data.toList = R at *
  go_enter Tryd.func31, Tryd.ntmps31
  go_wp2_with fail
  go_loopw [3] (fun v wr => ∃ i : Int, 1 ≤ i ∧ i ≤ 8 ∧ v = .int .i64 i ∧ (∀ j : Int, 1 ≤ j → j < i → s.data.toList ≠ wd j) ∧ wr = w) (fun v _ => (8 - intOf v).toNat)
  case atStart => exact ⟨1, by decide, by decide, rfl, fun j h1 h2 => by omega, rfl⟩
  case round =>
    obtain ⟨i, hi1, hi8, rfl, hall, rfl⟩ := hrel
    have HA : Hid (∀ j : Int, 1 ≤ j → j < i → s.data.toList ≠ wd j) := hall
    clear hall
    by_cases hlt : i ≤ 7
    · by_cases he : s.data.toList = wd i
      · have HF : Hid (R = i) := HK.out i hi1 hlt he
        clear HK HK0 HA
        have hi : i = 1 ∨ i = 2 ∨ i = 3 ∨ i = 4 ∨ i = 5 ∨ i = 6 ∨ i = 7 := by omega
        rcases hi with rfl | rfl | rfl | rfl | rfl | rfl | rfl
        · have c : wr.cell? ⟨0, 6, none⟩ = some (.string ⟨#[114, 101, 103, 105, 115, 116, 101, 114]⟩) := HT.out.cell 6
          have hq : ([114, 101, 103, 105, 115, 116, 101, 114] == s.toList) = true := ba_eq he
          clear HT he
          go_wp2_with fail
          go_ret
          exact ⟨by rw [HF.out]; rfl, rfl⟩
        · have c : wr.cell? ⟨0, 12, none⟩ = some (.string ⟨#[115, 101, 108, 108]⟩) := HT.out.cell 12
          have hq : ([115, 101, 108, 108] == s.toList) = true := ba_eq he
          clear HT he
          go_wp2_with fail
          go_ret
          exact ⟨by rw [HF.out]; rfl, rfl⟩
        · have c : wr.cell? ⟨0, 18, none⟩ = some (.string ⟨#[103, 114, 97, 110, 116]⟩) := HT.out.cell 18
          have hq : ([103, 114, 97, 110, 116] == s.toList) = true := ba_eq he
          clear HT he
          go_wp2_with fail
          go_ret
          exact ⟨by rw [HF.out]; rfl, rfl⟩
        · have c : wr.cell? ⟨0, 24, none⟩ = some (.string ⟨#[114, 101, 107, 101, 121]⟩) := HT.out.cell 24
          have hq : ([114, 101, 107, 101, 121] == s.toList) = true := ba_eq he
          clear HT he
          go_wp2_with fail
          go_ret
          exact ⟨by rw [HF.out]; rfl, rfl⟩
        · have c : wr.cell? ⟨0, 30, none⟩ = some (.string ⟨#[99, 104, 97, 114, 103, 101]⟩) := HT.out.cell 30
          have hq : ([99, 104, 97, 114, 103, 101] == s.toList) = true := ba_eq he
          clear HT he
          go_wp2_with fail
          go_ret
          exact ⟨by rw [HF.out]; rfl, rfl⟩
        · have c : wr.cell? ⟨0, 36, none⟩ = some (.string ⟨#[107, 101, 121]⟩) := HT.out.cell 36
          have hq : ([107, 101, 121] == s.toList) = true := ba_eq he
          clear HT he
          go_wp2_with fail
          go_ret
          exact ⟨by rw [HF.out]; rfl, rfl⟩
        · have c : wr.cell? ⟨0, 42, none⟩ = some (.string ⟨#[116, 105, 99, 107]⟩) := HT.out.cell 42
          have hq : ([116, 105, 99, 107] == s.toList) = true := ba_eq he
          clear HT he
          go_wp2_with fail
          go_ret
          exact ⟨by rw [HF.out]; rfl, rfl⟩
      · have HA2 : Hid (∀ j : Int, 1 ≤ j → j < i + 1 → s.data.toList ≠ wd j) := fun j h1 h2 => by
          by_cases hj : j = i
          · rw [hj]; exact he
          · exact HA.out j h1 (by omega)
        clear HK HK0 HA
        have hi : i = 1 ∨ i = 2 ∨ i = 3 ∨ i = 4 ∨ i = 5 ∨ i = 6 ∨ i = 7 := by omega
        rcases hi with rfl | rfl | rfl | rfl | rfl | rfl | rfl
        · have c : wr.cell? ⟨0, 6, none⟩ = some (.string ⟨#[114, 101, 103, 105, 115, 116, 101, 114]⟩) := HT.out.cell 6
          have hq : ([114, 101, 103, 105, 115, 116, 101, 114] == s.toList) = false := ba_ne he
          clear HT he
          go_wp2_with fail
          go_roundw
          case rel => exact ⟨2, by decide, by decide, rfl, HA2.out, trivial⟩
          case measure => decide
        · have c : wr.cell? ⟨0, 12, none⟩ = some (.string ⟨#[115, 101, 108, 108]⟩) := HT.out.cell 12
          have hq : ([115, 101, 108, 108] == s.toList) = false := ba_ne he
          clear HT he
          go_wp2_with fail
          go_roundw
          case rel => exact ⟨3, by decide, by decide, rfl, HA2.out, trivial⟩
          case measure => decide
        · have c : wr.cell? ⟨0, 18, none⟩ = some (.string ⟨#[103, 114, 97, 110, 116]⟩) := HT.out.cell 18
          have hq : ([103, 114, 97, 110, 116] == s.toList) = false := ba_ne he
          clear HT he
          go_wp2_with fail
          go_roundw
          case rel => exact ⟨4, by decide, by decide, rfl, HA2.out, trivial⟩
          case measure => decide
        · have c : wr.cell? ⟨0, 24, none⟩ = some (.string ⟨#[114, 101, 107, 101, 121]⟩) := HT.out.cell 24
          have hq : ([114, 101, 107, 101, 121] == s.toList) = false := ba_ne he
          clear HT he
          go_wp2_with fail
          go_roundw
          case rel => exact ⟨5, by decide, by decide, rfl, HA2.out, trivial⟩
          case measure => decide
        · have c : wr.cell? ⟨0, 30, none⟩ = some (.string ⟨#[99, 104, 97, 114, 103, 101]⟩) := HT.out.cell 30
          have hq : ([99, 104, 97, 114, 103, 101] == s.toList) = false := ba_ne he
          clear HT he
          go_wp2_with fail
          go_roundw
          case rel => exact ⟨6, by decide, by decide, rfl, HA2.out, trivial⟩
          case measure => decide
        · have c : wr.cell? ⟨0, 36, none⟩ = some (.string ⟨#[107, 101, 121]⟩) := HT.out.cell 36
          have hq : ([107, 101, 121] == s.toList) = false := ba_ne he
          clear HT he
          go_wp2_with fail
          go_roundw
          case rel => exact ⟨7, by decide, by decide, rfl, HA2.out, trivial⟩
          case measure => decide
        · have c : wr.cell? ⟨0, 42, none⟩ = some (.string ⟨#[116, 105, 99, 107]⟩) := HT.out.cell 42
          have hq : ([116, 105, 99, 107] == s.toList) = false := ba_ne he
          clear HT he
          go_wp2_with fail
          go_roundw
          case rel => exact ⟨8, by decide, by decide, rfl, HA2.out, trivial⟩
          case measure => decide
    · have HF : Hid (R = 0) := HK0.out (fun j h1 h2 => HA.out j h1 (by omega))
      clear HK HK0 HA
      go_wp2_with fail
      go_ret
      exact ⟨by rw [HF.out]; rfl, rfl⟩

end Go.Proofs.YtlianhienbhbgaaDoor.odr
