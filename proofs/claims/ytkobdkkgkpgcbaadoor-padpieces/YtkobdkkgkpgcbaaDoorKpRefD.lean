/- The document's answers: what a pad may be, and which digit a key is. -/
import Derived.Test.YtkobdkkgkpgcbaaDoorKpPress
import Derived.OwnWalk
import Derived.BigRegion
import Derived.Laws.BytesString
namespace Go.Proofs.YtkobdkkgkpgcbaaDoor.keypad
open Go.Proofs.YtkobdkkgkpgcbaaDoor.check
open Go.RowKit
set_option linter.unusedSimpArgs false

theorem rdigit_yes (z : Int) (w : World) (h1 : 48 ≤ z) (h2 : z ≤ 57) :
    Calls Tryd.prog 29 #[.int .u8 z] w fun e w' => e = .returned (.bool true) ∧ w' = w := by
  go_enter Tryd.func29, Tryd.ntmps29
  go_wp2
  go_ret
  exact ⟨rfl, rfl⟩
theorem rdigit_no (z : Int) (w : World) (h : z < 48 ∨ 57 < z) :
    Calls Tryd.prog 29 #[.int .u8 z] w fun e w' => e = .returned (.bool false) ∧ w' = w := by
  by_cases h0 : z < 48
  · clear h
    go_enter Tryd.func29, Tryd.ntmps29
    go_wp2
    go_ret
    exact ⟨rfl, rfl⟩
  · have h1 : 48 ≤ z := by omega
    have h2 : decide (z ≤ 57) = false := by simp; omega
    clear h h0
    go_enter Tryd.func29, Tryd.ntmps29
    go_wp2
    go_ret
    exact ⟨rfl, rfl⟩

set_option maxHeartbeats 1000000 in
theorem padMay_any (p : Pad) (w : World) :
    Calls Tryd.prog 22 #[p.v] w fun e w' => e = .returned (.bool (okB p)) ∧ Below w.heap.size w w' := by
  obtain ⟨s, b⟩ := p
  unfold Pad.v
  have hX := Blk.new w #[.string s, .bool b] 23
  have HB : Hid (Below w.heap.size w (w.alloc (.cells #[.string s, .bool b] 23))) := bel1 _ _
  have c0 := hX.cell 0
  clear hX
  by_cases h0 : 30 < s.size
  · have h1 : (30 : Int) < (s.size : Int) := by omega
    have HE : Hid (okB ⟨s, b⟩ = false) := okB_long h0
    clear h0
    go_enter Tryd.func22, Tryd.ntmps22
    go_wp2_with fail
    go_ret
    exact ⟨ret_bool HE.out.symm, HB.out⟩
  · have h1 : ¬ (30 : Int) < (s.size : Int) := by omega
    have HS : Hid (s.size ≤ 30) := (by omega : s.size ≤ 30)
    clear h0
    go_enter Tryd.func22, Tryd.ntmps22
    go_wp2_with fail
    generalize w.alloc (.cells #[.string s, .bool b] 23) = W at *
    go_loop [3] (fun v => ∃ k : Nat, k ≤ s.size ∧ v = .int .i64 (k : Int) ∧ allD (s.data.toList.take k) = true) (fun v => s.size - (intOf v).toNat)
    case atStart => exact ⟨0, Nat.zero_le _, rfl, rfl⟩
    case round =>
      obtain ⟨k, hk, rfl, hok⟩ := hrel
      have HK : Hid (allD (s.data.toList.take k) = true) := hok
      clear hok
      by_cases hp : k < s.size
      · have HT : Hid (s.data.toList.take (k + 1) = s.data.toList.take k ++ [s[k]]) := take_snoc s k hp
        have HN : Hid (isD s[k] = false → allD s.data.toList = false) := allD_take_no s k hp
        have HY : Hid (48 ≤ ((s[k].toNat : Nat) : Int) → ((s[k].toNat : Nat) : Int) ≤ 57 → isD s[k] = true) := fun a b => isD_yes a b
        have HL : Hid (((s[k].toNat : Nat) : Int) < 48 → isD s[k] = false) := fun a => isD_lo a
        have HH : Hid (57 < ((s[k].toNat : Nat) : Int) → isD s[k] = false) := fun a => isD_hi a
        by_cases hd : 48 ≤ ((s[k].toNat : Nat) : Int) ∧ ((s[k].toNat : Nat) : Int) ≤ 57
        · have HC : Hid (∀ W, Calls Tryd.prog 29 #[.int .u8 ((s[k].toNat : Nat) : Int)] W fun e w' => e = .returned (.bool true) ∧ w' = W) := fun W => rdigit_yes _ W hd.1 hd.2
          have HA : Hid (allD (s.data.toList.take (k + 1)) = true) := by
            show _ = _
            rw [HT.out, allD_append, HK.out]; simp [allD, HY.out hd.1 hd.2]
          clear hd HL HH HN HY HT
          go_wp2_with fail
          refine (HC.out _).mono ?_
          rintro e w1 ⟨rfl, rfl⟩
          go_wp2_with fail
          go_round
          case rel => exact ⟨k + 1, by omega, by go_num, HA.out⟩
          case measure => simp [intOf]; omega
        · have HC : Hid (∀ W, Calls Tryd.prog 29 #[.int .u8 ((s[k].toNat : Nat) : Int)] W fun e w' => e = .returned (.bool false) ∧ w' = W) := fun W => rdigit_no _ W (by omega)
          have HA : Hid (allD s.data.toList = false) := by
            by_cases hlo : ((s[k].toNat : Nat) : Int) < 48
            · exact HN.out (HL.out hlo)
            · exact HN.out (HH.out (by omega))
          clear hd HL HH HN HY HT
          go_wp2_with fail
          refine (HC.out _).mono ?_
          rintro e w1 ⟨rfl, rfl⟩
          go_wp2_with fail
          go_ret
          exact ⟨ret_bool (okB_no HA.out).symm, HB.out⟩
      · have HA : Hid (allD s.data.toList = true) := by
          have h := HK.out
          rwa [List.take_of_length_le (by rw [len_eq]; omega)] at h
        go_wp2_with fail
        go_ret
        exact ⟨ret_bool (okB_yes HS.out HA.out).symm, HB.out⟩

set_option maxHeartbeats 2000000 in
theorem keyDigit_any (r : Int) (w : World) (hlo : -2147483648 ≤ r) (hhi : r ≤ 2147483647) :
    Calls Tryd.prog 23 #[.int .i32 r] w fun e w' => e = .returned (.int .i64 (keyD r)) ∧ w' = w := by
  by_cases a0 : 48 ≤ r
  · by_cases b0 : r ≤ 57
    · have HE : Hid (keyD r = r - 48) := keyD_hit r 0 (by decide) (by show (48 : Int) ≤ r; omega) (by show r ≤ (48 : Int) + 9; omega)
      go_enter Tryd.func23, Tryd.ntmps23
      go_wp2_with fail
      go_ret
      exact ⟨ret_int HE.out.symm, rfl⟩
    · skip
      by_cases a1 : 1632 ≤ r
      · by_cases b1 : r ≤ 1641
        · have HE : Hid (keyD r = r - 1632) := keyD_hit r 1 (by decide) (by show (1632 : Int) ≤ r; omega) (by show r ≤ (1632 : Int) + 9; omega)
          go_enter Tryd.func23, Tryd.ntmps23
          go_wp2_with fail
          go_ret
          exact ⟨ret_int HE.out.symm, rfl⟩
        · skip
          by_cases a2 : 1776 ≤ r
          · by_cases b2 : r ≤ 1785
            · have HE : Hid (keyD r = r - 1776) := keyD_hit r 2 (by decide) (by show (1776 : Int) ≤ r; omega) (by show r ≤ (1776 : Int) + 9; omega)
              go_enter Tryd.func23, Tryd.ntmps23
              go_wp2_with fail
              go_ret
              exact ⟨ret_int HE.out.symm, rfl⟩
            · skip
              by_cases a3 : 2406 ≤ r
              · by_cases b3 : r ≤ 2415
                · have HE : Hid (keyD r = r - 2406) := keyD_hit r 3 (by decide) (by show (2406 : Int) ≤ r; omega) (by show r ≤ (2406 : Int) + 9; omega)
                  go_enter Tryd.func23, Tryd.ntmps23
                  go_wp2_with fail
                  go_ret
                  exact ⟨ret_int HE.out.symm, rfl⟩
                · skip
                  by_cases a4 : 2534 ≤ r
                  · by_cases b4 : r ≤ 2543
                    · have HE : Hid (keyD r = r - 2534) := keyD_hit r 4 (by decide) (by show (2534 : Int) ≤ r; omega) (by show r ≤ (2534 : Int) + 9; omega)
                      go_enter Tryd.func23, Tryd.ntmps23
                      go_wp2_with fail
                      go_ret
                      exact ⟨ret_int HE.out.symm, rfl⟩
                    · skip
                      by_cases a5 : 65296 ≤ r
                      · by_cases b5 : r ≤ 65305
                        · have HE : Hid (keyD r = r - 65296) := keyD_hit r 5 (by decide) (by show (65296 : Int) ≤ r; omega) (by show r ≤ (65296 : Int) + 9; omega)
                          go_enter Tryd.func23, Tryd.ntmps23
                          go_wp2_with fail
                          go_ret
                          exact ⟨ret_int HE.out.symm, rfl⟩
                        · have HE : Hid (keyD r = -1) := by show _ = _; unfold keyD; repeat' split
                                                            all_goals omega
                          go_enter Tryd.func23, Tryd.ntmps23
                          go_wp2_with fail
                          go_ret
                          exact ⟨ret_int HE.out.symm, rfl⟩
                      · have HE : Hid (keyD r = -1) := by show _ = _; unfold keyD; repeat' split
                                                          all_goals omega
                        go_enter Tryd.func23, Tryd.ntmps23
                        go_wp2_with fail
                        go_ret
                        exact ⟨ret_int HE.out.symm, rfl⟩
                  · have HE : Hid (keyD r = -1) := by show _ = _; unfold keyD; repeat' split
                                                      all_goals omega
                    go_enter Tryd.func23, Tryd.ntmps23
                    go_wp2_with fail
                    go_ret
                    exact ⟨ret_int HE.out.symm, rfl⟩
              · have HE : Hid (keyD r = -1) := by show _ = _; unfold keyD; repeat' split
                                                  all_goals omega
                go_enter Tryd.func23, Tryd.ntmps23
                go_wp2_with fail
                go_ret
                exact ⟨ret_int HE.out.symm, rfl⟩
          · have HE : Hid (keyD r = -1) := by show _ = _; unfold keyD; repeat' split
                                              all_goals omega
            go_enter Tryd.func23, Tryd.ntmps23
            go_wp2_with fail
            go_ret
            exact ⟨ret_int HE.out.symm, rfl⟩
      · have HE : Hid (keyD r = -1) := by show _ = _; unfold keyD; repeat' split
                                          all_goals omega
        go_enter Tryd.func23, Tryd.ntmps23
        go_wp2_with fail
        go_ret
        exact ⟨ret_int HE.out.symm, rfl⟩
  · have HE : Hid (keyD r = -1) := by show _ = _; unfold keyD; repeat' split
                                      all_goals omega
    go_enter Tryd.func23, Tryd.ntmps23
    go_wp2_with fail
    go_ret
    exact ⟨ret_int HE.out.symm, rfl⟩

theorem conv_one (w : World) (z : Int) :
    (convert 37 9 (.slice (some ⟨w.heap.size, 0, none⟩) 1 1)).run Tryd.prog (w.alloc (.cells #[.int .u8 z] 5)) = .ok (.string ⟨#[UInt8.ofNat z.toNat]⟩) (w.alloc (.cells #[.int .u8 z] 5)) := by
  rw [run_convert_bytes_string _ _ _ _ _ _ _ Tryd.underlying37 Tryd.underlying5 Tryd.underlying9, run_bytesToString _ _ _ _ [z] (by simp [loadCells, loadCellsFrom, go_sem])]
  rfl
set_option maxHeartbeats 400000 in
theorem dec_one (n : Int) (w : World) (h0 : 0 ≤ n) (h1 : n ≤ 9) :
    Calls Tryd.prog 24 #[.int .i64 n] w fun e w' => e = .returned (.string (one n)) ∧ Below w.heap.size w w' := by
  have hc := conv_one w (48 + n)
  have he : (⟨#[UInt8.ofNat (48 + n).toNat]⟩ : ByteArray) = one n := by
    have hl := one_list n h0 h1
    rw [show (48 + n).toNat = 48 + n.toNat by omega]
    generalize one n = o at *
    obtain ⟨⟨l⟩⟩ := o
    simp only at hl
    rw [hl]
  rw [he] at hc
  clear he
  generalize one n = o at *
  go_enter Tryd.func24, Tryd.ntmps24
  go_wp2_with fail
  go_ret
  exact ⟨rfl, bel1 _ _⟩

end Go.Proofs.YtkobdkkgkpgcbaaDoor.keypad
