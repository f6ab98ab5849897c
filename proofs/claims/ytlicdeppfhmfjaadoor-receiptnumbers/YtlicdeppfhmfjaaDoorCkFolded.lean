/- What the document's answers to Digit and Good give back. -/
import Derived.Test.YtlicdeppfhmfjaaDoorCkDigT
import Derived.Test.YtlicdeppfhmfjaaDoorCkMay
import Derived.Test.YtlicdeppfhmfjaaDoorCkMoved
import Derived.Laws.BytesString
import Derived.WalkSpells
import Derived.WalkLawsBesides
namespace Go.Proofs.YtlicdeppfhmfjaaDoor.check
open Go.RowKit
set_option maxRecDepth 100000

theorem table_at (x : Nat) (h : x < 10) (w : World) : (Instr.index 9 (.string ⟨#[49, 53, 55, 54, 50, 56, 51, 48, 57, 52]⟩) (.int .i64 (x : Int))).run Tryd.prog w = .ok (.int .u8 (48 + ((mv1 x : Nat) : Int))) w := by
  have hx : x = 0 ∨ x = 1 ∨ x = 2 ∨ x = 3 ∨ x = 4 ∨ x = 5 ∨ x = 6 ∨ x = 7 ∨ x = 8 ∨ x = 9 := by omega
  clear h
  rw [run_index_string w 9 _ _ _ Tryd.underlying9]
  rcases hx with rfl | rfl | rfl | rfl | rfl | rfl | rfl | rfl | rfl | rfl <;> rfl

set_option maxHeartbeats 400000 in
theorem turned_any (d place : Nat) (w : World) (hd : d < 10) (hp : place ≤ 1000) :
    Calls Tryd.prog 66 #[.int .i64 (d : Int), .int .i64 (place : Int)] w fun e w' => e = .returned (.int .i64 ((mvN (place % 8) d : Nat) : Int)) ∧ w' = w := by
  have e8 : ((place : Nat) : Int) % 8 = ((place % 8 : Nat) : Int) := by omega
  have hm : place % 8 < 8 := Nat.mod_lt _ (by decide)
  generalize hq : place % 8 = q at *
  clear hq
  go_enter Tryd.func66, Tryd.ntmps66
  go_wp2_with fail
  go_loop [0, 6] (fun v i => ∃ k : Nat, k ≤ q ∧ i = .int .i64 (k : Int) ∧ v = .int .i64 ((mvN k d : Nat) : Int)) (fun _ i => q - (intOf i).toNat)
  case atStart => exact ⟨0, Nat.zero_le _, rfl, rfl⟩
  case round =>
    obtain ⟨k, hk, rfl, rfl⟩ := hrel
    have hx := mvN_lt k d hd
    have HS : Hid (mvN (k + 1) d = mv1 (mvN k d)) := rfl
    by_cases hlt : k < q
    · have hix := table_at (mvN k d) hx w
      have hy := mv1_lt _ hx
      generalize mvN k d = x at *
      generalize mv1 x = y at *
      go_wp2_with fail
      go_round
      case rel => exact ⟨k + 1, by omega, by go_num, by rw [HS.out]; congr 1; omega⟩
      case measure => simp [intOf]; omega
    · have hkq : k = q := by omega
      rw [hkq]
      generalize hgx : mvN q d = x at *
      have HG : Hid (mvN q d = x) := hgx
      clear hkq hgx
      go_wp2_with fail
      go_ret
      exact ⟨by rw [HG.out]; rfl, rfl⟩

theorem digs_drop_rev (s : ByteArray) (j : Nat) (h : j < s.size) : (digs (s.data.toList.drop j)).reverse = (digs (s.data.toList.drop (j + 1))).reverse ++ [s[j].toNat - 48] := by
  rw [drop_cons s j h]
  show ((s[j].toNat - 48) :: digs _).reverse = _
  rw [List.reverse_cons]
theorem fold_snoc (p c d : Nat) (l : List Nat) : foldN p c (l ++ [d]) = mulN (foldN p c l) (mvN ((p + l.length) % 8) d) := by
  rw [foldN_append]; rfl

set_option maxHeartbeats 1000000 in
theorem folded_any (s : ByteArray) (w : World) (h2 : s.size ≤ 300) (hd : allD s.data.toList = true) :
    Calls Tryd.prog 39 #[.string s, .int .i64 0] w fun e w' => e = .returned (.int .i64 ((sumR s.data.toList 0 : Nat) : Int)) ∧ w' = w := by
  have HD : Hid (allD s.data.toList = true) := hd
  clear hd
  go_enter Tryd.func39, Tryd.ntmps39
  go_wp2_with fail
  go_loop [1, 5, 6] (fun p c i => ∃ k : Nat, k ≤ s.size ∧ i = .int .i64 ((k : Int) - 1) ∧ c = .int .i64 ((foldN 0 0 (digs (s.data.toList.drop k)).reverse : Nat) : Int) ∧ p = .int .i64 ((s.size - k : Nat) : Int)) (fun _ _ i => (intOf i + 1).toNat)
  case atStart => exact ⟨s.size, Nat.le_refl _, rfl, by rw [List.drop_of_length_le (by simp)]; rfl, by rw [Nat.sub_self]; rfl⟩
  case round =>
    obtain ⟨k, hk, rfl, rfl, rfl⟩ := hrel
    by_cases hk0 : k = 0
    · subst hk0
      rw [List.drop_zero]
      have HG : Hid (((sumR s.data.toList 0 : Nat) : Int) = ((foldN 0 0 (digs s.data.toList).reverse : Nat) : Int)) := rfl
      generalize ((foldN 0 0 (digs s.data.toList).reverse : Nat) : Int) = x at *
      go_wp2_with fail
      go_ret
      exact ⟨by rw [HG.out]; rfl, rfl⟩
    · obtain ⟨j, rfl⟩ : ∃ j, k = j + 1 := ⟨k - 1, by omega⟩
      have hp : j < s.size := by omega
      obtain ⟨hk1, hk2, hk3⟩ := take_parts s j hp HD.out
      have hcb := isD_bd hk2
      have ej : (((j + 1 : Nat) : Int) - 1) = (j : Int) := by omega
      rw [ej]
      have hc := foldN_lt (digs (s.data.toList.drop (j + 1))).reverse 0 0 (by decide) (digs_ok hk3).rev
      have HT : Hid (foldN 0 0 (digs (s.data.toList.drop j)).reverse = mulN (foldN 0 0 (digs (s.data.toList.drop (j + 1))).reverse) (mvN ((s.size - (j + 1)) % 8) (s[j].toNat - 48))) := by
        show _ = _
        rw [digs_drop_rev s j hp, fold_snoc, List.length_reverse, digs_len, List.length_drop, len_eq, Nat.zero_add]
      have hdl : s[j].toNat - 48 < 10 := by omega
      have hcz : ((s[j].toNat - 48 : Nat) : Int) = ((s[j].toNat : Nat) : Int) - 48 := by omega
      have HTU := turned_any (s[j].toNat - 48) (s.size - (j + 1)) w hdl (by omega)
      rw [hcz] at HTU
      have hm := mvN_lt ((s.size - (j + 1)) % 8) _ hdl
      have HMU := moved_yes (foldN 0 0 (digs (s.data.toList.drop (j + 1))).reverse) (mvN ((s.size - (j + 1)) % 8) (s[j].toNat - 48)) w hc hm
      have HTUU : Hid (Calls Tryd.prog 66 #[.int .i64 (((s[j].toNat : Nat) : Int) - 48), .int .i64 ((s.size - (j + 1) : Nat) : Int)] w fun e w' => e = .returned (.int .i64 ((mvN ((s.size - (j + 1)) % 8) (s[j].toNat - 48) : Nat) : Int)) ∧ w' = w) := HTU
      have HMUU : Hid (Calls Tryd.prog 67 #[.int .i64 ((foldN 0 0 (digs (s.data.toList.drop (j + 1))).reverse : Nat) : Int), .int .i64 ((mvN ((s.size - (j + 1)) % 8) (s[j].toNat - 48) : Nat) : Int)] w fun e w' => e = .returned (.tuple #[.int .i64 ((mulN (foldN 0 0 (digs (s.data.toList.drop (j + 1))).reverse) (mvN ((s.size - (j + 1)) % 8) (s[j].toNat - 48)) : Nat) : Int), .int .i64 0]) ∧ w' = w) := HMU
      have ep : ((s.size - (j + 1) : Nat) : Int) + 1 = ((s.size - j : Nat) : Int) := by omega
      have hpb : ((s.size - (j + 1) : Nat) : Int) ≤ 300 := by omega
      have hpb0 : (0 : Int) ≤ ((s.size - (j + 1) : Nat) : Int) := by omega
      clear hk1 hk2 hk3 hk0 hk ej hc hm hdl HTU HMU hcz
      generalize mulN (foldN 0 0 (digs (s.data.toList.drop (j + 1))).reverse) (mvN ((s.size - (j + 1)) % 8) (s[j].toNat - 48)) = q at *
      generalize foldN 0 0 (digs (s.data.toList.drop (j + 1))).reverse = v at *
      generalize mvN ((s.size - (j + 1)) % 8) (s[j].toNat - 48) = m at *
      generalize ((s.size - (j + 1) : Nat) : Int) = p at *
      obtain ⟨z1, z2⟩ := hcb
      have HP : Hid (p + 1 = ((s.size - j : Nat) : Int)) := ep
      clear ep
      go_wp2_with fail
      refine HTUU.out.mono ?_
      rintro e w' ⟨rfl, rfl⟩
      go_wp2_with fail
      refine HMUU.out.mono ?_
      rintro e w' ⟨rfl, rfl⟩
      go_wp2_with fail
      go_round
      case rel => exact ⟨j, by omega, by go_num, by rw [HT.out], by rw [HP.out]⟩
      case measure => simp [intOf]

theorem conv_byte (w : World) (z : Int) :
    (convert 55 9 (.slice (some ⟨w.heap.size, 0, none⟩) 1 1)).run Tryd.prog (w.alloc (.cells #[.int .u8 z] 5)) = .ok (.string ⟨#[UInt8.ofNat z.toNat]⟩) (w.alloc (.cells #[.int .u8 z] 5)) := by
  rw [run_convert_bytes_string _ _ _ _ _ _ _ Tryd.underlying55 Tryd.underlying5 Tryd.underlying9, run_bytesToString _ _ _ _ [z] (by simp [loadCells, loadCellsFrom, go_sem])]
  rfl

theorem dec_digit (d : Nat) (w : World) (h : d < 10) :
    Calls Tryd.prog 19 #[.int .i64 (d : Int)] w fun e w' => e = .returned (.string (digT d)) ∧ Below w.heap.size w w' := by
  have hc := conv_byte w (48 + d)
  rw [show ((48 : Int) + (d : Int)).toNat = 48 + d by omega] at hc
  have hc' : (convert 55 9 (.slice (some ⟨w.heap.size, 0, none⟩) 1 1)).run Tryd.prog (w.alloc (.cells #[.int .u8 (48 + (d : Int))] 5)) = .ok (.string (digT d)) (w.alloc (.cells #[.int .u8 (48 + (d : Int))] 5)) := hc
  clear hc
  generalize digT d = T at *
  go_enter Tryd.func19, Tryd.ntmps19
  go_wp2_with fail
  go_ret
  exact ⟨rfl, (Below.refl _ _).alloc (Nat.le_refl _) _⟩

set_option maxHeartbeats 1000000 in
theorem checkDigit_any (s : ByteArray) (w : World) :
    Calls Tryd.prog 18 #[.string s] w fun e w' => e = .returned (.tuple #[.int .i64 (digitR s.data.toList), .int .i64 (flawR s.data.toList)]) ∧ Below w.heap.size w w' := by
  have HF := may_any s w
  by_cases h0 : flawR s.data.toList = 0
  · have e : digitR s.data.toList = ((invN (sumR s.data.toList 1) : Nat) : Int) := by unfold digitR; rw [if_pos h0]
    rw [e, h0]
    rw [h0] at HF
    obtain ⟨⟨l1, l2⟩, hd⟩ := flawR_zero h0
    rw [len_eq] at l1 l2
    have hm := inv_lt _ (sumR_lt hd 1)
    have HK : Hid (∀ d, d < 10 → (∀ w, Calls Tryd.prog 39 #[.string (s ++ digT d), .int .i64 0] w fun e w' => e = .returned (.int .i64 ((sumR (s ++ digT d).data.toList 0 : Nat) : Int)) ∧ w' = w) ∧ (sumR (s ++ digT d).data.toList 0 = 0 ↔ d = invN (sumR s.data.toList 1))) := fun d h => by
      have hb := sum_behind hd h
      exact ⟨fun w => folded_any _ w (by rw [← len_eq]; simp [digT]; omega) hb.1, hb.2⟩
    have HFF : Hid (Calls Tryd.prog 23 #[.string s] w fun e w' => e = .returned (.int .i64 0) ∧ w' = w) := HF
    have HT : Hid (∀ d, (digT d).size = 1) := fun d => rfl
    clear e h0 HF hd
    generalize hgm : invN (sumR s.data.toList 1) = m at *
    clear hgm
    go_enter Tryd.func18, Tryd.ntmps18
    go_wp2_with fail
    refine HFF.out.mono ?_
    rintro e w1 ⟨rfl, rfl⟩
    go_wp2_with fail
    go_loopw [5] (fun v wr => ∃ k : Nat, k ≤ m ∧ v = .int .i64 (k : Int) ∧ Below w1.heap.size w1 wr) (fun v _ => 10 - (intOf v).toNat)
    case atStart => exact ⟨0, Nat.zero_le _, rfl, Below.refl _ _⟩
    case round =>
      obtain ⟨k, hk, rfl, hb⟩ := hrel
      have HB : Hid (Below w1.heap.size w1 wr) := hb
      clear hb
      have hk10 : (k : Int) < 10 := by omega
      have hkn : k < 10 := by omega
      have hI := HK.out k hkn
      have hts := HT.out k
      have HDC : Hid (∀ w, Calls Tryd.prog 19 #[.int .i64 (k : Int)] w fun e w' => e = .returned (.string (digT k)) ∧ Below w.heap.size w w') := fun w => dec_digit k w hkn
      generalize digT k = T at *
      have HI1 : Hid (∀ w, Calls Tryd.prog 39 #[.string (s ++ T), .int .i64 0] w fun e w' => e = .returned (.int .i64 ((sumR (s ++ T).data.toList 0 : Nat) : Int)) ∧ w' = w) := hI.1
      have HI2 : Hid (sumR (s ++ T).data.toList 0 = 0 ↔ k = m) := hI.2
      clear hI
      generalize sumR (s ++ T).data.toList 0 = x at *
      go_wp2_with fail
      refine (HDC.out _).mono ?_
      rintro e w2 ⟨rfl, hb2⟩
      have HB2 : Hid (Below w1.heap.size w1 w2) := HB.out.trans (hb2.mono HB.out.size)
      clear hb2
      go_wp2_with fail
      refine (HI1.out _).mono ?_
      rintro e w3 ⟨rfl, rfl⟩
      by_cases hx : x = 0
      · have e0 : (((x : Nat) : Int) == 0) = true := by simp [hx]
        have hkm : k = m := HI2.out.1 hx
        clear hx HI2
        subst hkm
        go_wp2_with fail
        go_ret2
        exact ⟨rfl, HB2.out⟩
      · have e0 : (((x : Nat) : Int) == 0) = false := by simp; omega
        have hkm : k ≠ m := fun e => hx (HI2.out.2 e)
        clear hx HI2
        go_wp2_with fail
        go_roundw
        case rel => exact ⟨k + 1, by omega, by go_num, HB2.out⟩
        case measure => simp [intOf]; omega
  · have e : digitR s.data.toList = 0 := by unfold digitR; rw [if_neg h0]
    rw [e]
    have hne : (flawR s.data.toList != 0) = true := by simpa using h0
    clear e h0
    generalize flawR s.data.toList = f at *
    go_enter Tryd.func18, Tryd.ntmps18
    go_wp2_with fail
    refine HF.mono ?_
    rintro e w1 ⟨rfl, rfl⟩
    clear HF
    go_wp2_with fail
    go_ret2
    exact ⟨rfl, Below.refl _ _⟩

set_option maxHeartbeats 400000 in
theorem isGood_any (s : ByteArray) (w : World) :
    Calls Tryd.prog 24 #[.string s] w fun e w' => e = .returned (.bool (goodR s.data.toList)) ∧ w' = w := by
  have HF := may_any s w
  by_cases h0 : flawR s.data.toList = 0
  · rw [h0] at HF
    obtain ⟨⟨l1, l2⟩, hd⟩ := flawR_zero h0
    rw [len_eq] at l1 l2
    by_cases h2 : 2 ≤ s.size
    · have e : goodR s.data.toList = (sumR s.data.toList 0 == 0) := by unfold goodR; rw [len_eq, h0]; simp [h2]
      rw [e]
      have h2' : (2 : Int) ≤ (s.size : Int) := by omega
      have HS : Hid (Calls Tryd.prog 39 #[.string s, .int .i64 0] w fun e w'' => e = .returned (.int .i64 ((sumR s.data.toList 0 : Nat) : Int)) ∧ w'' = w) := folded_any s w (by omega) hd
      have e2 : (sumR s.data.toList 0 == 0) = (((sumR s.data.toList 0 : Nat) : Int) == 0) := by
        by_cases h : sumR s.data.toList 0 = 0
        · rw [h]; rfl
        · rw [beq_eq_false_iff_ne.2 h, beq_eq_false_iff_ne.2 (by omega)]
      rw [e2]
      clear e h0 hd e2
      generalize ((sumR s.data.toList 0 : Nat) : Int) = x at *
      go_enter Tryd.func24, Tryd.ntmps24
      go_wp2_with fail
      refine HF.mono ?_
      rintro e w1 ⟨rfl, rfl⟩
      clear HF
      go_wp2_with fail
      refine HS.out.mono ?_
      rintro e w2 ⟨rfl, rfl⟩
      go_wp2_with fail
      go_ret
      exact ⟨rfl, rfl⟩
    · have e : goodR s.data.toList = false := by unfold goodR; rw [len_eq]; simp [h2]
      rw [e]
      have h2' : decide ((2 : Int) ≤ (s.size : Int)) = false := by simp; omega
      clear e h0 hd
      go_enter Tryd.func24, Tryd.ntmps24
      go_wp2_with fail
      refine HF.mono ?_
      rintro e w1 ⟨rfl, rfl⟩
      clear HF
      go_wp2_with fail
      go_ret
      exact ⟨rfl, rfl⟩
  · have e : goodR s.data.toList = false := by unfold goodR; rw [beq_eq_false_iff_ne.2 h0]; simp
    rw [e]
    have hne : (flawR s.data.toList == 0) = false := by simpa using h0
    clear e h0
    generalize flawR s.data.toList = f at *
    go_enter Tryd.func24, Tryd.ntmps24
    go_wp2_with fail
    refine HF.mono ?_
    rintro e w1 ⟨rfl, rfl⟩
    clear HF
    go_wp2_with fail
    go_ret
    exact ⟨rfl, rfl⟩

end Go.Proofs.YtlicdeppfhmfjaaDoor.check
