import Derived.Test.YtnhidiefchamlaaDoorCkDgN
import Derived.Test.YtnhidiefchamlaaDoorCkTxt
import Derived.Test.YtnhidiefchamlaaDoorRcN
import Derived.Lib.AtoiAll
import Derived.Shelf.LaysM
import Derived.Shelf.LaysC
import Derived.Shelf.Strconv.AtoiAll
import Derived.Test.YtnhidiefchamlaaDoorProg
import Derived.Test.YtnhidiefchamlaaDoorKoR
import Derived.Test.YtnhidiefchamlaaDoorLet
import Derived.WalkKit
import Derived.Deep.DeepCutAuto
import Derived.LaidLaws
import Derived.FnData
import Derived.Shelf.Vars

/- Texts of digits: what flaw gives back. -/
namespace Go.Proofs.YtnhidiefchamlaaDoor.check
open Go.RowKit

set_option maxHeartbeats 400000 in
theorem flaw_any (s : ByteArray) (w : World) :
    Calls Tryd.prog 36 #[.string s] w fun e w' => e = .returned (.int .i64 (flawR s.data.toList)) ∧ Below w.heap.size w w' := by
  have el := ByteArray.toList_eq s
  have ln := len_eq s
  by_cases h0 : s.size = 0
  · rw [flawR_size (.inl (by omega))]
    have e : (s.toList == []) = true := by rw [el, List.eq_nil_of_length_eq_zero (by omega : s.data.toList.length = 0)]; rfl
    clear el ln
    go_enter Tryd.func36, Tryd.ntmps36
    go_wp2
    go_ret
    exact ⟨rfl, Below.refl _ _⟩
  · have e : (s.toList == []) = false := by
      rw [el]; cases hl : s.data.toList with
      | nil => rw [hl] at ln; simp at ln; omega
      | cons a r => rfl
    by_cases h2 : 200 < s.size
    · rw [flawR_size (.inr (by omega))]
      have h3 : (200 : Int) < (s.size : Int) := by omega
      clear el ln
      go_enter Tryd.func36, Tryd.ntmps36
      go_wp2
      go_ret
      exact ⟨rfl, Below.refl _ _⟩
    · have h3 : ¬ (200 : Int) < (s.size : Int) := by omega
      have HS : Hid (¬ (s.data.toList.length = 0 ∨ 200 < s.data.toList.length)) := by intro h; omega
      clear el ln
      go_enter Tryd.func36, Tryd.ntmps36
      go_wp2
      go_loopw [] (fun wr => ∃ k : Nat, k ≤ s.size ∧ wr = w.iter s k ∧ allD (s.data.toList.take k) = true) (fun wr => s.size - wr.iterPos w.heap.size)
      case atStart => exact ⟨0, Nat.zero_le _, rfl, rfl⟩
      case round =>
        obtain ⟨k, hk, rfl, hok⟩ := hrel
        have HK : Hid (allD (s.data.toList.take k) = true) := hok
        clear hok
        by_cases hp : k < s.size
        · by_cases ha : (s[k]'hp).toNat < 128
          · have hnx : ∀ ty, (Instr.next (.pointer (some ⟨w.heap.size, 0, none⟩)) true ty).run Tryd.prog (w.iter s k) = _ := fun ty => run_next_ascii w s k ty hp ha
            have HT : Hid (s.data.toList.take (k + 1) = s.data.toList.take k ++ [s[k]]) := take_snoc s k hp
            have HN : Hid (isD s[k] = false → allD s.data.toList = false) := allD_take_no s k hp
            have HY : Hid (48 ≤ ((s[k].toNat : Nat) : Int) → ((s[k].toNat : Nat) : Int) ≤ 57 → isD s[k] = true) := fun a b => isD_yes a b
            have HL : Hid (((s[k].toNat : Nat) : Int) < 48 → isD s[k] = false) := fun a => isD_lo a
            have HH : Hid (57 < ((s[k].toNat : Nat) : Int) → isD s[k] = false) := fun a => isD_hi a
            clear ha
            generalize s[k] = c at *
            generalize hcc : ((c.toNat : Nat) : Int) = z at *
            clear hcc
            by_cases h1 : z < 48
            · go_wp2
              go_ret
              exact ⟨ret_int (flawR_no HS.out (HN.out (HL.out h1))).symm, iter_below _ _ _⟩
            · by_cases h2 : 57 < z
              · go_wp2
                go_ret
                exact ⟨ret_int (flawR_no HS.out (HN.out (HH.out h2))).symm, iter_below _ _ _⟩
              · go_wp2
                go_roundw
                case rel => exact ⟨k + 1, by omega, rfl, by rw [HT.out, allD_append, HK.out]; simp [allD, HY.out (by omega) (by omega)]⟩
                case measure => simp; omega
          · have hd := (decode_high s k hp (by omega)).1
            have hnx : ∀ ty, (Instr.next (.pointer (some ⟨w.heap.size, 0, none⟩)) true ty).run Tryd.prog (w.iter s k) = _ := fun ty => run_next_any w s k ty hp
            have HN : Hid (allD s.data.toList = false) := allD_take_no s k hp (isD_hi (by omega))
            clear ha
            have hd2 := decode_le s k
            generalize (Utf8.decode s k).1 = r at *
            generalize (Utf8.decode s k).2 = n at *
            go_wp2
            go_ret
            exact ⟨ret_int (flawR_no HS.out HN.out).symm, iter_below _ _ _⟩
        · have hnx : ∀ ty, (Instr.next (.pointer (some ⟨w.heap.size, 0, none⟩)) true ty).run Tryd.prog (w.iter s k) = _ := fun ty => run_next_end w s k ty hp
          go_wp2
          go_ret
          refine ⟨ret_int ?_, iter_below _ _ _⟩
          have := HK.out
          rw [List.take_of_length_le (by simp; omega)] at this
          exact (flawR_ok HS.out this).symm

theorem value_any (z : Int) (w : World) (h1 : 48 ≤ z) (h2 : z ≤ 57) :
    Calls Tryd.prog 37 #[.int .i32 z] w fun e w' => e = .returned (.int .i64 (z - 48)) ∧ w' = w := by
  go_enter Tryd.func37, Tryd.ntmps37
  go_wp2
  go_ret
  exact ⟨rfl, rfl⟩

end Go.Proofs.YtnhidiefchamlaaDoor.check

/- What check.Rest gives back. -/
namespace Go.Proofs.YtnhidiefchamlaaDoor.check
open Go.RowKit

/-- What P3.6 says: the rest, and the error's number. -/
def restR (l : List UInt8) : Int := if flawR l = 0 then ((restN 0 (digs l) : Nat) : Int) else 0

theorem rest_step (v z : Nat) (h1 : 48 ≤ z) : (((v * 10 + (z - 48)) % 97 : Nat) : Int) = ((v : Int) * 10 + ((z : Int) - 48)) % 97 := by
  omega

set_option maxHeartbeats 1000000 in
theorem rest_any (s : ByteArray) (w : World) :
    Calls Tryd.prog 21 #[.string s] w fun e w' => e = .returned (.tuple #[.int .i64 (restR s.data.toList), .int .i64 (flawR s.data.toList)]) ∧ Below w.heap.size w w' := by
  have HF := flaw_any s w
  by_cases h0 : flawR s.data.toList = 0
  · have e : restR s.data.toList = ((restN 0 (digs s.data.toList) : Nat) : Int) := by unfold restR; rw [if_pos h0]
    rw [e, h0]
    rw [h0] at HF
    have HD : Hid (allD s.data.toList = true) := (flawR_zero h0).2
    have HFF : Hid (Calls Tryd.prog 36 #[.string s] w fun e w' => e = .returned (.int .i64 0) ∧ Below w.heap.size w w') := HF
    clear e h0 HF
    go_enter Tryd.func21, Tryd.ntmps21
    go_wp2_with fail
    refine HFF.out.mono ?_
    rintro e w1 ⟨rfl, hb⟩
    have HB : Hid (∀ k, Below w.heap.size w (w1.iter s k)) := fun k => hb.trans ((iter_below w1 s k).mono hb.size)
    clear hb
    go_wp2_with fail
    go_loopw [5] (fun v wr => ∃ k : Nat, k ≤ s.size ∧ wr = w1.iter s k ∧ v = .int .i64 ((restN 0 (digs (s.data.toList.take k)) : Nat) : Int)) (fun _ wr => s.size - wr.iterPos w1.heap.size)
    case atStart => exact ⟨0, Nat.zero_le _, rfl, rfl⟩
    case round =>
      obtain ⟨k, hk, rfl, rfl⟩ := hrel
      by_cases hp : k < s.size
      · obtain ⟨hk1, hk2, hk3⟩ := take_parts s k hp HD.out
        have hcb := isD_bd hk2
        have ha : (s[k]'hp).toNat < 128 := by omega
        have hnx : ∀ ty, (Instr.next (.pointer (some ⟨w1.heap.size, 0, none⟩)) true ty).run Tryd.prog (w1.iter s k) = _ := fun ty => run_next_ascii w1 s k ty hp ha
        have hlt := restN_lt (digs (s.data.toList.take k)) 0 (by decide)
        have HT : Hid (((restN 0 (digs (s.data.toList.take (k + 1))) : Nat) : Int) = (((restN 0 (digs (s.data.toList.take k)) : Nat) : Int) * 10 + (((s[k].toNat : Nat) : Int) - 48)) % 97) := by
          show _ = _
          rw [take_snoc s k hp, digs_append]
          rw [show digs [s[k]] = [s[k].toNat - 48] from rfl, rest_snoc, rest_step _ _ (by omega)]
        clear hk1 hk2 hk3 ha
        generalize restN 0 (digs (s.data.toList.take k)) = v at *
        generalize s[k] = c at *
        generalize hcc : ((c.toNat : Nat) : Int) = z at *
        clear hcc
        obtain ⟨z1, z2⟩ := hcb
        go_wp2_with fail
        refine (value_any _ _ z1 z2).mono ?_
        rintro e w' ⟨rfl, rfl⟩
        go_wp2_with fail
        go_roundw
        case rel => exact ⟨k + 1, by omega, rfl, by rw [HT.out]⟩
        case measure => simp; omega
      · have hnx : ∀ ty, (Instr.next (.pointer (some ⟨w1.heap.size, 0, none⟩)) true ty).run Tryd.prog (w1.iter s k) = _ := fun ty => run_next_end w1 s k ty hp
        have E : Hid (s.data.toList.take k = s.data.toList) := List.take_of_length_le (by simp; omega)
        rw [E.out]
        go_wp2_with fail
        go_ret2
        exact ⟨rfl, HB.out _⟩
  · have e : restR s.data.toList = 0 := by unfold restR; rw [if_neg h0]
    rw [e]
    have hne : (flawR s.data.toList != 0) = true := by simpa using h0
    clear e h0
    generalize flawR s.data.toList = f at *
    go_enter Tryd.func21, Tryd.ntmps21
    go_wp2_with fail
    refine HF.mono ?_
    rintro e w1 ⟨rfl, hb⟩
    clear HF
    go_wp2_with fail
    go_ret2
    exact ⟨rfl, hb⟩

end Go.Proofs.YtnhidiefchamlaaDoor.check

/- Numbers of meters, and numbers in decimal: plain facts. -/
namespace Go.Proofs.YtnhidiefchamlaaDoor.rcp
open Go.Proofs.YtnhidiefchamlaaDoor.check (digitR goodR flawR allD)
open Go.Proofs.YtnhidiefchamlaaDoor.token (dv dv_inj dv_lt dv_snoc)
set_option linter.unusedVariables false
set_option linter.unusedSimpArgs false

theorem allD_same (l : List UInt8) : cents.allD l = allD l := rfl
/-- What Atoi gives back, whatever the text. -/
def atoiV (l : List UInt8) : Int := match Lib.atoiAll l with
  | .ok v => v
  | .range => Lib.atoiSat l
  | _ => 0
theorem parse_digits : ∀ (l : List UInt8) (acc : Nat), allD l = true → (acc + 1) * 10 ^ l.length ≤ 1000000000000000000 → Lib.parseUint10 acc l = .ok (l.foldl (fun n c => n * 10 + (c.toNat - 48)) acc) := by
  intro l
  induction l with
  | nil => intro acc _ _; rfl
  | cons c r ih =>
    intro acc hd hb
    have hd' : check.isD c = true ∧ allD r = true := by simpa [allD] using hd
    have hc : 48 ≤ c.toNat ∧ c.toNat ≤ 57 := by simpa [check.isD] using hd'.1
    have hp : 0 < 10 ^ r.length := Nat.pow_pos (by decide)
    have hb' : (acc * 10 + 10) * 10 ^ r.length ≤ 1000000000000000000 := by
      rw [List.length_cons, Nat.pow_succ, Nat.mul_comm (10 ^ r.length) 10, ← Nat.mul_assoc] at hb
      rw [show acc * 10 + 10 = (acc + 1) * 10 by omega]
      exact hb
    have h1 : acc * 10 + 10 ≤ 1000000000000000000 := Nat.le_trans (Nat.le_mul_of_pos_right _ hp) hb'
    unfold Lib.parseUint10
    rw [if_pos hc, if_neg (by omega), if_neg (by omega), List.foldl_cons]
    refine ih _ hd'.2 (Nat.le_trans (Nat.mul_le_mul_right _ ?_) hb')
    omega
theorem atoi_of {c : UInt8} {r : List UInt8} {u : Nat} (h1 : ¬ (c.toNat = 43 ∨ c.toNat = 45)) (hm : Lib.parseMag (c :: r) = .ok u) (hu : u < 9223372036854775808) : Lib.atoiAll (c :: r) = .ok (u : Int) := by
  unfold Lib.atoiAll
  dsimp only
  rw [if_neg h1]
  generalize Lib.parseMag (c :: r) = x at hm ⊢
  subst hm
  dsimp only
  rw [if_neg (by omega), if_neg (by omega), if_neg (by omega)]
theorem atoi_digits {l : List UInt8} (h : allD l = true) (h0 : l ≠ []) (h1 : l.length ≤ 18) : Lib.atoiAll l = .ok ((dv l : Nat) : Int) := by
  have hp := parse_digits l 0 h (by
    have := Nat.pow_le_pow_right (n := 10) (by decide) h1
    simpa using this)
  have hlt := dv_lt l h
  have h18 : dv l < 1000000000000000000 := Nat.lt_of_lt_of_le hlt (by simpa using Nat.pow_le_pow_right (n := 10) (by decide) h1)
  cases l with
  | nil => exact absurd rfl h0
  | cons c r =>
    have hd' : check.isD c = true ∧ allD r = true := by simpa [allD] using h
    have hc : 48 ≤ c.toNat ∧ c.toNat ≤ 57 := by simpa [check.isD] using hd'.1
    have hm : Lib.parseMag (c :: r) = .ok (dv (c :: r)) := by
      unfold Lib.parseMag
      rw [if_neg (by simp)]
      exact hp
    exact atoi_of (by omega) hm (by omega)
theorem atoiV_bounds (l : List UInt8) : -9223372036854775808 ≤ atoiV l ∧ atoiV l ≤ 9223372036854775807 := by
  unfold atoiV
  cases h : Lib.atoiAll l with
  | ok v =>
    cases l with
    | nil => cases h
    | cons c r =>
      unfold Lib.atoiAll at h
      simp only at h
      split at h
      · cases h
      · cases h
      · split at h
        · cases h
        · split at h
          · cases h
          · injection h with h
            subst h
            dsimp only
            split <;> omega
  | range => dsimp only; unfold Lib.atoiSat; split <;> omega
  | _ => dsimp only; omega
theorem pad_facts : ∀ k, k < 50 → (pad k 10).length = 10 ∧ allD (pad k 10) = true ∧ dv (pad k 10) = k := by decide +kernel
theorem last_one : ∀ k, k < 50 → ∀ d, d < 10 → goodR (pad k 10 ++ [(48 + d).toUInt8]) = true → pad k 10 ++ [(48 + d).toUInt8] = numL k := by decide +kernel
theorem named_of {l : List UInt8} (h : l.length = 11) (hd : allD l = true) (hg : goodR l = true) (hk : dv (l.take 10) < 50) : Named l (dv (l.take 10)) := by
  refine ⟨hk, ?_⟩
  have hdt : allD (l.take 10) = true := List.all_eq_true.2 fun c hc => List.all_eq_true.1 hd c (List.mem_of_mem_take hc)
  have hlt : (l.take 10).length = 10 := by rw [List.length_take]; omega
  generalize hkk : dv (l.take 10) = k at hk ⊢
  obtain ⟨p1, p2, p3⟩ := pad_facts k hk
  have e : l.take 10 = pad k 10 := dv_inj 10 _ _ hlt p1 hdt p2 (by rw [hkk, p3])
  have hl10 : 10 < l.length := by omega
  have e2 : l = l.take 10 ++ [l[10]] := by
    have := List.take_succ_eq_append_getElem hl10
    rw [List.take_of_length_le (by omega)] at this
    exact this
  have hc : check.isD l[10] = true := List.all_eq_true.1 hd _ (List.getElem_mem hl10)
  have hc' : 48 ≤ l[10].toNat ∧ l[10].toNat ≤ 57 := by simpa [check.isD] using hc
  obtain ⟨d, hd10, hdd⟩ : ∃ d, d < 10 ∧ l[10] = (48 + d).toUInt8 := ⟨l[10].toNat - 48, by omega, by rw [show 48 + (l[10].toNat - 48) = l[10].toNat by omega]; simp⟩
  rw [e2, e, hdd] at hg
  rw [← last_one k hk d hd10 hg, ← hdd, ← e, ← e2]
theorem named_val {l : List UInt8} {k : Nat} (h : Named l k) : dv (l.take 10) = k := by
  rw [← h.2]; exact (num_all k h.1).2.2.2.1

end Go.Proofs.YtnhidiefchamlaaDoor.rcp

/- Contracts of the library, laid at this dump in plain words: strconv_Atoi_ok, strconv_Atoi_range_var, strconv_Atoi_syntax_var. -/
namespace Go.Proofs
open Go.Shelf
def Tryd.laysC172_ren : Go.Shelf.Ren := ⟨fun | 172 => 22 | 244 => 38 | 245 => 39 | 247 => 48 | 279 => 49 | 280 => 50 | 281 => 51 | 282 => 52 | 287 => 63 | 316 => 64 | 171 => 16 | 205 => 65 | 321 => 71 | 322 => 72 | 243 => 26 | 246 => 41 | 283 => 56 | 284 => 57 | 285 => 58 | 286 => 59 | 129 => 67 | 317 => 66 | 318 => 68 | 319 => 69 | 320 => 70 | 337 => 73 | 338 => 74 | n => n, fun | 9 => 9 | 3 => 3 | 75 => 53 | 76 => 54 | 4 => 4 | 5 => 5 | 167 => 85 | 37 => 58 | 0 => 0 | 85 => 86 | 2 => 2 | 168 => 88 | 53 => 22 | 175 => 102 | 46 => 61 | 210 => 106 | 127 => 82 | 145 => 117 | 143 => 115 | 21 => 21 | 171 => 93 | 173 => 96 | 212 => 110 | 51 => 59 | 20 => 20 | 213 => 111 | 232 => 119 | 233 => 120 | 80 => 70 | n => n, fun | 15 => 0 | 16 => 1 | 17 => 2 | 18 => 4 | 19 => 5 | n => n⟩
theorem Tryd.laysC172 : Go.Proofs.LaysC.n172 Tryd.prog Tryd.laysC172_ren := {
  mixed := by kernel_rfl
  f129 := Tryd.func67.trans (congrArg some (by kernel_rfl))
  f171 := Tryd.func16.trans (congrArg some (by kernel_rfl))
  f172 := Tryd.func22.trans (congrArg some (by kernel_rfl))
  f205 := Tryd.func65.trans (congrArg some (by kernel_rfl))
  f243 := Tryd.func26.trans (congrArg some (by kernel_rfl))
  f244 := Tryd.func38.trans (congrArg some (by kernel_rfl))
  f245 := Tryd.func39.trans (congrArg some (by kernel_rfl))
  f246 := Tryd.func41.trans (congrArg some (by kernel_rfl))
  f247 := Tryd.func48.trans (congrArg some (by kernel_rfl))
  f279 := Tryd.func49.trans (congrArg some (by kernel_rfl))
  f280 := Tryd.func50.trans (congrArg some (by kernel_rfl))
  f281 := Tryd.func51.trans (congrArg some (by kernel_rfl))
  f282 := Tryd.func52.trans (congrArg some (by kernel_rfl))
  f283 := Tryd.func56.trans (congrArg some (by kernel_rfl))
  f284 := Tryd.func57.trans (congrArg some (by kernel_rfl))
  f285 := Tryd.func58.trans (congrArg some (by kernel_rfl))
  f286 := Tryd.func59.trans (congrArg some (by kernel_rfl))
  f287 := Tryd.func63.trans (congrArg some (by kernel_rfl))
  f316 := Tryd.func64.trans (congrArg some (by kernel_rfl))
  f317 := Tryd.func66.trans (congrArg some (by kernel_rfl))
  f318 := Tryd.func68.trans (congrArg some (by kernel_rfl))
  f319 := Tryd.func69.trans (congrArg some (by kernel_rfl))
  f320 := Tryd.func70.trans (congrArg some (by kernel_rfl))
  f321 := Tryd.func71.trans (congrArg some (by kernel_rfl))
  f322 := Tryd.func72.trans (congrArg some (by kernel_rfl))
  f337 := Tryd.func73.trans (congrArg some (by kernel_rfl))
  f338 := Tryd.func74.trans (congrArg some (by kernel_rfl))
  t0 := Tryd.underlying0
  a0 := Tryd.isAgg0
  z0 := Tryd.sizeOf0
  v0 := Tryd.zeroValue0
  t2 := Tryd.underlying2
  a2 := Tryd.isAgg2
  z2 := Tryd.sizeOf2
  v2 := Tryd.zeroValue2
  t3 := Tryd.underlying3
  a3 := Tryd.isAgg3
  z3 := Tryd.sizeOf3
  v3 := Tryd.zeroValue3
  t4 := Tryd.underlying4
  a4 := Tryd.isAgg4
  z4 := Tryd.sizeOf4
  v4 := Tryd.zeroValue4
  t5 := Tryd.underlying5
  a5 := Tryd.isAgg5
  z5 := Tryd.sizeOf5
  v5 := Tryd.zeroValue5
  t9 := Tryd.underlying9
  a9 := Tryd.isAgg9
  z9 := Tryd.sizeOf9
  v9 := Tryd.zeroValue9
  t20 := Tryd.underlying20
  a20 := Tryd.isAgg20
  z20 := Tryd.sizeOf20
  v20 := Tryd.zeroValue20
  t21 := Tryd.underlying21
  a21 := Tryd.isAgg21
  z21 := Tryd.sizeOf21
  v21 := Tryd.zeroValue21
  t37 := Tryd.underlying58
  a37 := Tryd.isAgg58
  z37 := Tryd.sizeOf58
  v37 := Tryd.zeroValue58
  t46 := Tryd.underlying61
  a46 := Tryd.isAgg61
  z46 := Tryd.sizeOf61
  v46 := Tryd.zeroValue61
  t51 := Tryd.underlying59
  a51 := Tryd.isAgg59
  z51 := Tryd.sizeOf59
  v51 := Tryd.zeroValue59
  t53 := Tryd.underlying22
  a53 := Tryd.isAgg22
  z53 := Tryd.sizeOf22
  v53 := Tryd.zeroValue22
  t75 := Tryd.underlying53
  a75 := Tryd.isAgg53
  z75 := Tryd.sizeOf53
  v75 := Tryd.zeroValue53
  t76 := Tryd.underlying54
  a76 := Tryd.isAgg54
  z76 := Tryd.sizeOf54
  v76 := Tryd.zeroValue54
  t85 := Tryd.underlying86
  a85 := Tryd.isAgg86
  z85 := Tryd.sizeOf86
  v85 := Tryd.zeroValue86
  t127 := Tryd.underlying82
  a127 := Tryd.isAgg82
  z127 := Tryd.sizeOf82
  v127 := Tryd.zeroValue82
  t143 := Tryd.underlying115
  a143 := Tryd.isAgg115
  z143 := Tryd.sizeOf115
  v143 := Tryd.zeroValue115
  t145 := Tryd.underlying117
  a145 := Tryd.isAgg117
  z145 := Tryd.sizeOf117
  v145 := Tryd.zeroValue117
  t167 := Tryd.underlying85
  a167 := Tryd.isAgg85
  z167 := Tryd.sizeOf85
  v167 := Tryd.zeroValue85
  t168 := Tryd.underlying88
  a168 := Tryd.isAgg88
  z168 := Tryd.sizeOf88
  v168 := Tryd.zeroValue88
  t171 := Tryd.underlying93
  a171 := Tryd.isAgg93
  z171 := Tryd.sizeOf93
  v171 := Tryd.zeroValue93
  t173 := Tryd.underlying96
  a173 := Tryd.isAgg96
  z173 := Tryd.sizeOf96
  v173 := Tryd.zeroValue96
  t175 := Tryd.underlying102
  a175 := Tryd.isAgg102
  z175 := Tryd.sizeOf102
  v175 := Tryd.zeroValue102
  t210 := Tryd.underlying106
  a210 := Tryd.isAgg106
  z210 := Tryd.sizeOf106
  v210 := Tryd.zeroValue106
  t212 := Tryd.underlying110
  a212 := Tryd.isAgg110
  z212 := Tryd.sizeOf110
  v212 := Tryd.zeroValue110
  t213 := Tryd.underlying111
  a213 := Tryd.isAgg111
  z213 := Tryd.sizeOf111
  t232 := Tryd.underlying119
  a232 := Tryd.isAgg119
  z232 := Tryd.sizeOf119
  v232 := Tryd.zeroValue119
  t233 := Tryd.underlying120
  a233 := Tryd.isAgg120
  z233 := Tryd.sizeOf120
  v233 := Tryd.zeroValue120
  g15 := by kernel_rfl
  g16 := by kernel_rfl
  g17 := by kernel_rfl
  g18 := by kernel_rfl
  g19 := by kernel_rfl
  t80 := Tryd.underlying70
  a80 := Tryd.isAgg70
  z80 := Tryd.sizeOf70
  v80 := Tryd.zeroValue70
  i0 := by kernel_rfl
  i2 := by kernel_rfl
  i3 := by kernel_rfl
  i4 := by kernel_rfl
  i5 := by kernel_rfl
  i9 := by kernel_rfl
  i20 := by kernel_rfl
  i21 := by kernel_rfl
  i37 := by kernel_rfl
  i46 := by kernel_rfl
  i51 := by kernel_rfl
  i53 := by kernel_rfl
  i75 := by kernel_rfl
  i76 := by kernel_rfl
  i80 := by kernel_rfl
  i85 := by kernel_rfl
  i127 := by kernel_rfl
  i143 := by kernel_rfl
  i145 := by kernel_rfl
  i167 := by kernel_rfl
  i168 := by kernel_rfl
  i171 := by kernel_rfl
  i173 := by kernel_rfl
  i175 := by kernel_rfl
  i210 := by kernel_rfl
  i212 := by kernel_rfl
  i232 := by kernel_rfl
  i233 := by kernel_rfl
  m15 := by kernel_rfl
  m16 := by kernel_rfl
  m17 := by kernel_rfl
  m18 := by kernel_rfl
  m19 := by kernel_rfl
  c0 := by kernel_rfl
  c2 := by kernel_rfl
  c3 := by kernel_rfl
  c4 := by kernel_rfl
  c5 := by kernel_rfl
  c9 := by kernel_rfl
  c20 := by kernel_rfl
  c21 := by kernel_rfl
  c37 := by kernel_rfl
  c46 := by kernel_rfl
  c51 := by kernel_rfl
  c53 := by kernel_rfl
  c75 := by kernel_rfl
  c76 := by kernel_rfl
  c80 := by kernel_rfl
  c85 := by kernel_rfl
  c127 := by kernel_rfl
  c143 := by kernel_rfl
  c145 := by kernel_rfl
  c167 := by kernel_rfl
  c168 := by kernel_rfl
  c171 := by kernel_rfl
  c173 := by kernel_rfl
  c175 := by kernel_rfl
  c210 := by kernel_rfl
  c212 := by kernel_rfl
  c213 := by kernel_rfl
  c232 := by kernel_rfl
  c233 := by kernel_rfl }
open Go.RowKit in
theorem Tryd.strconv_Atoi_ok (s : ByteArray) (hmax : s.size ≤ 9223372036854775806) (v : Int) (h : Lib.atoiAll s.data.toList = .ok v) (w : World) :
    Calls Tryd.prog 22 #[.string s] w fun e w' => e = .returned (.tuple #[.int .i64 v, .nilIface]) ∧ (w' = w ∨ ∃ t, w' = Lib.bytesWorld w 5 t) := Any.strconv_Atoi_ok Tryd.laysC172 s hmax v h w
end Go.Proofs

/- readback.Read, in the program. -/
namespace Go.Proofs.YtnhidiefchamlaaDoor.cod
open Go.Proofs.YtnhidiefchamlaaDoor.check (allD isD flawR flawR_zero restR restN digs)
open Go.Proofs.YtnhidiefchamlaaDoor.token (dv dv_lt dv_rest)
open Go.RowKit
set_option maxRecDepth 100000
set_option linter.unusedVariables false
set_option linter.unusedSimpArgs false

theorem atoi_18 (s : ByteArray) (w : World) (h : s.size = 18) (hd : allD s.data.toList = true) :
    Calls Tryd.prog 22 #[.string s] w fun e w' => e = .returned (.tuple #[.int .i64 ((dv s.data.toList : Nat) : Int), .nilIface]) ∧ Below w.heap.size w w' := by
  have hl : s.data.toList.length = 18 := (Array.length_toList).trans h
  refine (Tryd.strconv_Atoi_ok s (by omega) _ (rcp.atoi_digits hd (by intro e; rw [e] at hl; cases hl) (by omega)) w).mono ?_
  rintro e w' ⟨rfl, hw⟩
  refine ⟨rfl, ?_⟩
  rcases hw with rfl | ⟨t, rfl⟩
  · exact Below.refl _ _
  · exact Lib.bytesWorld_below _ _ _
theorem shOf_eq (n : Nat) : shOf n = ⟨(n : Int) / 97 % 50, (n : Int) / 97 / 50 / 1048576, (n : Int) / 97 / 50 % 1048576⟩ := by
  unfold shOf
  congr 1 <;> omega
set_option maxHeartbeats 1000000 in
theorem punpack (n : Nat) (w : World) (h : n < 1000000000000000000) : Calls Tryd.prog 23 #[.int .i64 (n : Int)] w fun e w' => e = .returned (shOf n).v ∧ Below w.heap.size w w' := by
  rw [shOf_eq]
  unfold Sh.v Sh.cs
  obtain ⟨q, hq1⟩ : ∃ q : Int, (n : Int) / 97 = q := ⟨_, rfl⟩
  obtain ⟨x0, hx0⟩ : ∃ x : Int, q % 50 = x := ⟨_, rfl⟩
  obtain ⟨y2, hy2⟩ : ∃ x : Int, q / 50 = x := ⟨_, rfl⟩
  obtain ⟨x1, hx1⟩ : ∃ x : Int, y2 / 1048576 = x := ⟨_, rfl⟩
  obtain ⟨x2, hx2⟩ : ∃ x : Int, y2 % 1048576 = x := ⟨_, rfl⟩
  have hq0 : 0 ≤ q := by omega
  have hqb : q < 1000000000000000000 := by omega
  have hy0 : 0 ≤ y2 := by omega
  have hyb : y2 < 1000000000000000000 := by omega
  have hxb : (0 ≤ x0 ∧ x0 < 50) ∧ (0 ≤ x1 ∧ x1 < 1000000000000000000) ∧ (0 ≤ x2 ∧ x2 < 1048576) := by omega
  rw [hq1, hy2, hx0, hx1, hx2]
  have hn0 : (0 : Int) ≤ (n : Int) ∧ (n : Int) < 1000000000000000000 := by omega
  have HZ0 : Hid (Blk (w.alloc (.cells #[.int .i64 0, .int .i64 0, .int .i64 0] 32)) w.heap.size #[.int .i64 0, .int .i64 0, .int .i64 0] 32) := Blk.new _ _ _
  have HB0 : Hid (Below w.heap.size w (w.alloc (.cells #[.int .i64 0, .int .i64 0, .int .i64 0] 32))) := (Below.refl _ _).alloc (Nat.le_refl _) _
  go_enter Tryd.func23, Tryd.ntmps23
  go_upto_region 1 with fail
  generalize w.alloc (.cells #[.int .i64 0, .int .i64 0, .int .i64 0] 32) = W0 at *
  generalize (n : Int) = m at *
  go_wp2_with (first | (refine wp_letAll rfl 32 _ _ rfl w.heap.size rfl #[.int .i64 x0, .int .i64 x1, .int .i64 x2] rfl (by kernel_rfl) (by simp [Value.oneCell']) #[.int .i64 0, .int .i64 0, .int .i64 0] 32 HZ0.out rfl ?_) | fail)
  intro WF hUF
  have HBF : Hid (Below w.heap.size w WF) := hUF.bel _ _ (Nat.le_refl _) HB0.out
  have R0 : Hid (WF.cell? ⟨w.heap.size, 0, none⟩ = some (.int .i64 x0)) := hUF.blk.cell 0
  have R1 : Hid (WF.cell? ⟨w.heap.size, 1, none⟩ = some (.int .i64 x1)) := hUF.blk.cell 1
  have R2 : Hid (WF.cell? ⟨w.heap.size, 2, none⟩ = some (.int .i64 x2)) := hUF.blk.cell 2
  clear hUF
  go_wp2_with fail
  exact bodyPost_ret (v := .agg #[.int .i64 x0, .int .i64 x1, .int .i64 x2]) (by simp [results, Tryd.results23, R0.out, R1.out, R2.out, go_sem]) rfl ⟨rfl, HBF.out⟩

theorem fl_18 {l : List UInt8} (h : l.length = 18) : flawR l = if allD l then 0 else 7 := by
  unfold flawR
  rw [if_neg (by omega)]
theorem rest_18 {l : List UInt8} (h : l.length = 18) (hd : allD l = true) : restR l = ((dv l % 97 : Nat) : Int) := by
  unfold restR
  rw [if_pos (by rw [fl_18 h, hd]; rfl), dv_rest]
set_option maxHeartbeats 2000000 in
/-- Three ways out ahead of the number: nothing is told. -/
theorem read_no (s : ByteArray) (w : World) (r f : Int) (hc : s.size ≠ 18 ∧ f = 6 ∨ s.size = 18 ∧ flawR s.data.toList = 7 ∧ f = 7 ∨ s.size = 18 ∧ flawR s.data.toList = 0 ∧ restR s.data.toList = r ∧ r ≠ 0 ∧ f = 8) :
    Calls Tryd.prog 9 #[.string s] w fun e w' => e = .returned (.tuple #[sh0.v, .int .i64 f]) ∧ Below w.heap.size w w' := by
  have HR : Hid (∀ W, Calls Tryd.prog 21 #[.string s] W fun e w' => e = .returned (.tuple #[.int .i64 (restR s.data.toList), .int .i64 (flawR s.data.toList)]) ∧ Below W.heap.size W w') := fun W => check.rest_any s W
  have HZ0 : Hid (Blk (w.alloc (.cells #[.int .i64 0, .int .i64 0, .int .i64 0] 32)) w.heap.size #[.int .i64 0, .int .i64 0, .int .i64 0] 32) := Blk.new _ _ _
  have HB0 : Hid (Below w.heap.size w (w.alloc (.cells #[.int .i64 0, .int .i64 0, .int .i64 0] 32))) := (Below.refl _ _).alloc (Nat.le_refl _) _
  unfold Sh.v Sh.cs sh0
  rcases hc with ⟨h, rfl⟩ | ⟨h, hf, rfl⟩ | ⟨h, hf, hr, hr0, rfl⟩
  · have hq : ((s.size : Int) != 18) = true := by simp; omega
    clear h HR
    go_enter Tryd.func9, Tryd.ntmps9
    go_upto_region 1 with fail
    generalize w.alloc (.cells #[.int .i64 0, .int .i64 0, .int .i64 0] 32) = W0 at *
    go_wp2_with (first | (refine wp_letAll rfl 32 _ _ rfl w.heap.size rfl #[.int .i64 0, .int .i64 0, .int .i64 0] rfl (by kernel_rfl) (by simp [Value.oneCell']) #[.int .i64 0, .int .i64 0, .int .i64 0] 32 HZ0.out rfl ?_) | fail)
    intro WF hUF
    have HBF : Hid (Below w.heap.size w WF) := hUF.bel _ _ (Nat.le_refl _) HB0.out
    have R0 : Hid (WF.cell? ⟨w.heap.size, 0, none⟩ = some (.int .i64 0)) := hUF.blk.cell 0
    have R1 : Hid (WF.cell? ⟨w.heap.size, 1, none⟩ = some (.int .i64 0)) := hUF.blk.cell 1
    have R2 : Hid (WF.cell? ⟨w.heap.size, 2, none⟩ = some (.int .i64 0)) := hUF.blk.cell 2
    clear hUF
    go_wp2_with fail
    exact bodyPost_ret (v := .tuple #[.agg #[.int .i64 0, .int .i64 0, .int .i64 0], .int .i64 6]) (by simp [results, Tryd.results9, R0.out, R1.out, R2.out, go_sem]) rfl ⟨rfl, HBF.out⟩
  · have hq : ((s.size : Int) != 18) = false := by simp; omega
    rw [hf] at HR
    clear h hf
    generalize restR s.data.toList = y at *
    go_enter Tryd.func9, Tryd.ntmps9
    go_upto_region 1 with fail
    generalize w.alloc (.cells #[.int .i64 0, .int .i64 0, .int .i64 0] 32) = W0 at *
    go_wp2_with fail
    refine (HR.out _).mono ?_
    rintro e W1 ⟨rfl, hb⟩
    have HB1 : Hid (Below w.heap.size w W1) := bel_step HB0.out hb
    have HZ1 : Hid (Blk W1 w.heap.size #[.int .i64 0, .int .i64 0, .int .i64 0] 32) := HZ0.out.next hb
    clear HB0 HZ0 hb HR
    go_wp2_with (first | (refine wp_letAll rfl 32 _ _ rfl w.heap.size rfl #[.int .i64 0, .int .i64 0, .int .i64 0] rfl (by kernel_rfl) (by simp [Value.oneCell']) #[.int .i64 0, .int .i64 0, .int .i64 0] 32 HZ1.out rfl ?_) | fail)
    intro WF hUF
    have HBF : Hid (Below w.heap.size w WF) := hUF.bel _ _ (Nat.le_refl _) HB1.out
    have R0 : Hid (WF.cell? ⟨w.heap.size, 0, none⟩ = some (.int .i64 0)) := hUF.blk.cell 0
    have R1 : Hid (WF.cell? ⟨w.heap.size, 1, none⟩ = some (.int .i64 0)) := hUF.blk.cell 1
    have R2 : Hid (WF.cell? ⟨w.heap.size, 2, none⟩ = some (.int .i64 0)) := hUF.blk.cell 2
    clear hUF
    go_wp2_with fail
    exact bodyPost_ret (v := .tuple #[.agg #[.int .i64 0, .int .i64 0, .int .i64 0], .int .i64 7]) (by simp [results, Tryd.results9, R0.out, R1.out, R2.out, go_sem]) rfl ⟨rfl, HBF.out⟩
  · have hq : ((s.size : Int) != 18) = false := by simp; omega
    have hrz : (r != 0) = true := by simpa using hr0
    rw [hf, hr] at HR
    clear h hf hr hr0
    go_enter Tryd.func9, Tryd.ntmps9
    go_upto_region 1 with fail
    generalize w.alloc (.cells #[.int .i64 0, .int .i64 0, .int .i64 0] 32) = W0 at *
    go_wp2_with fail
    refine (HR.out _).mono ?_
    rintro e W1 ⟨rfl, hb⟩
    have HB1 : Hid (Below w.heap.size w W1) := bel_step HB0.out hb
    have HZ1 : Hid (Blk W1 w.heap.size #[.int .i64 0, .int .i64 0, .int .i64 0] 32) := HZ0.out.next hb
    clear HB0 HZ0 hb HR
    go_wp2_with (first | (refine wp_letAll rfl 32 _ _ rfl w.heap.size rfl #[.int .i64 0, .int .i64 0, .int .i64 0] rfl (by kernel_rfl) (by simp [Value.oneCell']) #[.int .i64 0, .int .i64 0, .int .i64 0] 32 HZ1.out rfl ?_) | fail)
    intro WF hUF
    have HBF : Hid (Below w.heap.size w WF) := hUF.bel _ _ (Nat.le_refl _) HB1.out
    have R0 : Hid (WF.cell? ⟨w.heap.size, 0, none⟩ = some (.int .i64 0)) := hUF.blk.cell 0
    have R1 : Hid (WF.cell? ⟨w.heap.size, 1, none⟩ = some (.int .i64 0)) := hUF.blk.cell 1
    have R2 : Hid (WF.cell? ⟨w.heap.size, 2, none⟩ = some (.int .i64 0)) := hUF.blk.cell 2
    clear hUF
    go_wp2_with fail
    exact bodyPost_ret (v := .tuple #[.agg #[.int .i64 0, .int .i64 0, .int .i64 0], .int .i64 8]) (by simp [results, Tryd.results9, R0.out, R1.out, R2.out, go_sem]) rfl ⟨rfl, HBF.out⟩

set_option maxHeartbeats 2000000 in
/-- A multiple of 97. -/
theorem read_yes (s : ByteArray) (w : World) (n : Int) (x : Sh) (h : s.size = 18) (hf : flawR s.data.toList = 0) (hr : restR s.data.toList = 0)
    (hA : ∀ W, Calls Tryd.prog 22 #[.string s] W fun e w' => e = .returned (.tuple #[.int .i64 n, .nilIface]) ∧ Below W.heap.size W w')
    (hU : ∀ W, Calls Tryd.prog 23 #[.int .i64 n] W fun e w' => e = .returned x.v ∧ Below W.heap.size W w') :
    Calls Tryd.prog 9 #[.string s] w fun e w' => ((99999999 < x.cr ∧ e = .returned (.tuple #[sh0.v, .int .i64 2])) ∨ (¬ 99999999 < x.cr ∧ e = .returned (.tuple #[x.v, .int .i64 0]))) ∧ Below w.heap.size w w' := by
  have HR : Hid (∀ W, Calls Tryd.prog 21 #[.string s] W fun e w' => e = .returned (.tuple #[.int .i64 0, .int .i64 0]) ∧ Below W.heap.size W w') := fun W => by have := check.rest_any s W; rw [hf, hr] at this; exact this
  have HA : Hid (∀ W, Calls Tryd.prog 22 #[.string s] W fun e w' => e = .returned (.tuple #[.int .i64 n, .nilIface]) ∧ Below W.heap.size W w') := hA
  obtain ⟨x0, x1, x2⟩ := x
  unfold Sh.v Sh.cs sh0 at *
  have HU : Hid (∀ W, Calls Tryd.prog 23 #[.int .i64 n] W fun e w' => e = .returned (.agg #[.int .i64 x0, .int .i64 x1, .int .i64 x2]) ∧ Below W.heap.size W w') := hU
  have HZ0 : Hid (Blk (w.alloc (.cells #[.int .i64 0, .int .i64 0, .int .i64 0] 32)) w.heap.size #[.int .i64 0, .int .i64 0, .int .i64 0] 32) := Blk.new _ _ _
  have HB0 : Hid (Below w.heap.size w (w.alloc (.cells #[.int .i64 0, .int .i64 0, .int .i64 0] 32))) := (Below.refl _ _).alloc (Nat.le_refl _) _
  have hq : ((s.size : Int) != 18) = false := by simp; omega
  clear h hf hr hA hU
  go_enter Tryd.func9, Tryd.ntmps9
  go_upto_region 1 with fail
  generalize w.alloc (.cells #[.int .i64 0, .int .i64 0, .int .i64 0] 32) = W0 at *
  go_wp2_with fail
  refine (HR.out _).mono ?_
  rintro e W1 ⟨rfl, hb⟩
  have HB1 : Hid (Below w.heap.size w W1) := bel_step HB0.out hb
  have HZ1 : Hid (Blk W1 w.heap.size #[.int .i64 0, .int .i64 0, .int .i64 0] 32) := HZ0.out.next hb
  clear HB0 HZ0 hb HR
  go_wp2_with fail
  refine (HA.out _).mono ?_
  rintro e W2 ⟨rfl, hb⟩
  have HB2 : Hid (Below w.heap.size w W2) := bel_step HB1.out hb
  have HZ2 : Hid (Blk W2 w.heap.size #[.int .i64 0, .int .i64 0, .int .i64 0] 32) := HZ1.out.next hb
  clear HB1 HZ1 hb HA
  go_wp2_with fail
  refine (HU.out _).mono ?_
  rintro e W3 ⟨rfl, hb⟩
  have HB3 : Hid (Below w.heap.size w (W3.alloc (.cells #[.int .i64 x0, .int .i64 x1, .int .i64 x2] 32))) := (bel_step HB2.out hb).alloc (bel_step HB2.out hb).size _
  have HZ3 : Hid (Blk (W3.alloc (.cells #[.int .i64 x0, .int .i64 x1, .int .i64 x2] 32)) w.heap.size #[.int .i64 0, .int .i64 0, .int .i64 0] 32) := (HZ2.out.next hb).alloc _
  have HX3 : Hid (Blk (W3.alloc (.cells #[.int .i64 x0, .int .i64 x1, .int .i64 x2] 32)) W3.heap.size #[.int .i64 x0, .int .i64 x1, .int .i64 x2] 32) := Blk.new _ _ _
  clear HB2 HZ2 hb HU
  go_upto_region 10 with fail
  generalize W3.alloc (.cells #[.int .i64 x0, .int .i64 x1, .int .i64 x2] 32) = W4 at *
  generalize W3.heap.size = g at *
  have k1 : W4.cell? ⟨g, 1, none⟩ = some (.int .i64 x1) := HX3.out.cell 1
  by_cases hbig : 99999999 < x1
  · have HG : Hid (99999999 < x1) := hbig
    go_wp2_with (first | (refine wp_letAll rfl 32 _ _ rfl w.heap.size rfl #[.int .i64 0, .int .i64 0, .int .i64 0] rfl (by kernel_rfl) (by simp [Value.oneCell']) #[.int .i64 0, .int .i64 0, .int .i64 0] 32 HZ3.out rfl ?_) | fail)
    intro WF hUF
    have HBF : Hid (Below w.heap.size w WF) := hUF.bel _ _ (Nat.le_refl _) HB3.out
    have R0 : Hid (WF.cell? ⟨w.heap.size, 0, none⟩ = some (.int .i64 0)) := hUF.blk.cell 0
    have R1 : Hid (WF.cell? ⟨w.heap.size, 1, none⟩ = some (.int .i64 0)) := hUF.blk.cell 1
    have R2 : Hid (WF.cell? ⟨w.heap.size, 2, none⟩ = some (.int .i64 0)) := hUF.blk.cell 2
    clear hUF
    go_wp2_with fail
    exact bodyPost_ret (v := .tuple #[.agg #[.int .i64 0, .int .i64 0, .int .i64 0], .int .i64 2]) (by simp [results, Tryd.results9, R0.out, R1.out, R2.out, go_sem]) rfl ⟨.inl rfl, HBF.out⟩
  · have HG : Hid (¬ 99999999 < x1) := hbig
    have k0 : W4.cell? ⟨g, 0, none⟩ = some (.int .i64 x0) := HX3.out.cell 0
    have k2 : W4.cell? ⟨g, 2, none⟩ = some (.int .i64 x2) := HX3.out.cell 2
    go_wp2_with (first | (refine wp_letAll rfl 32 _ _ rfl w.heap.size rfl #[.int .i64 x0, .int .i64 x1, .int .i64 x2] rfl (by kernel_rfl) (by simp [Value.oneCell']) #[.int .i64 0, .int .i64 0, .int .i64 0] 32 HZ3.out rfl ?_) | fail)
    intro WF hUF
    have HBF : Hid (Below w.heap.size w WF) := hUF.bel _ _ (Nat.le_refl _) HB3.out
    have R0 : Hid (WF.cell? ⟨w.heap.size, 0, none⟩ = some (.int .i64 x0)) := hUF.blk.cell 0
    have R1 : Hid (WF.cell? ⟨w.heap.size, 1, none⟩ = some (.int .i64 x1)) := hUF.blk.cell 1
    have R2 : Hid (WF.cell? ⟨w.heap.size, 2, none⟩ = some (.int .i64 x2)) := hUF.blk.cell 2
    clear hUF
    go_wp2_with fail
    exact bodyPost_ret (v := .tuple #[.agg #[.int .i64 x0, .int .i64 x1, .int .i64 x2], .int .i64 0]) (by simp [results, Tryd.results9, R0.out, R1.out, R2.out, go_sem]) rfl ⟨.inr rfl, HBF.out⟩

theorem kread {w0 : World} : KoRead w0 := by
  intro w s _
  have hl : s.data.toList.length = s.size := Array.length_toList
  by_cases h : s.size = 18
  · have hl : s.data.toList.length = 18 := hl.trans h
    cases hd : allD s.data.toList with
    | false =>
      refine (read_no s w 0 7 (.inr (.inl ⟨h, by rw [fl_18 hl, hd]; rfl, rfl⟩))).mono ?_
      rintro e w' ⟨rfl, hb⟩
      exact ⟨sh0, 7, rfl, .inr (.inl ⟨hl, hd, rfl, rfl⟩), hb⟩
    | true =>
      have hf : flawR s.data.toList = 0 := by rw [fl_18 hl, hd]; rfl
      have hr := rest_18 hl hd
      by_cases h97 : dv s.data.toList % 97 = 0
      · have hlt : dv s.data.toList < 1000000000000000000 := by have := dv_lt _ hd; rw [hl] at this; simpa using this
        refine (read_yes s w _ _ h hf (by rw [hr, h97]; rfl) (fun W => atoi_18 s W h hd) (fun W => punpack _ W hlt)).mono ?_
        rintro e w' ⟨⟨hg, rfl⟩ | ⟨hg, rfl⟩, hb⟩
        · exact ⟨sh0, 2, rfl, .inr (.inr (.inr (.inl ⟨hl, hd, h97, by unfold shOf at hg; simp only [] at hg; omega, rfl, rfl⟩))), hb⟩
        · exact ⟨_, 0, rfl, .inr (.inr (.inr (.inr ⟨hl, hd, h97, by unfold shOf at hg; simp only [] at hg; omega, rfl, rfl⟩))), hb⟩
      · refine (read_no s w _ 8 (.inr (.inr ⟨h, hf, hr, by omega, rfl⟩))).mono ?_
        rintro e w' ⟨rfl, hb⟩
        exact ⟨sh0, 8, rfl, .inr (.inr (.inl ⟨hl, hd, h97, rfl, rfl⟩)), hb⟩
  · refine (read_no s w 0 6 (.inl ⟨h, rfl⟩)).mono ?_
    rintro e w' ⟨rfl, hb⟩
    exact ⟨sh0, 6, rfl, .inl ⟨by omega, rfl, rfl⟩, hb⟩

end Go.Proofs.YtnhidiefchamlaaDoor.cod

/- What a list of laid variables gives: the tail of the list; an error that is there; a number that is there. -/
namespace Go.Proofs.YtnhidiefchamlaaDoor.rct
open Go.RowKit

theorem met_tail {P : Program} {x : String × DataW Unit} {rest : List (String × DataW Unit)} {W : World} (h : laidMet P (x :: rest) W) : laidMet P rest W := by
  obtain ⟨ps, hv, hn, hc⟩ := h
  obtain ⟨g', t', cs, fuel, p, q, hg', ht', hvar, hd, hr, rfl⟩ := hv
  exact ⟨q, hr, (List.nodup_append.1 hn).2.1, fun b off hm => hc b off (List.mem_append_right _ hm)⟩
theorem err_of {P : Program} {n nm : String} {d : DataW Unit} {rest : List (String × DataW Unit)} {W : World} {g : Nat} {ti : TypeId} {ms : Array (String × TypeId)} (h : laidMet P ((n, .iface nm d) :: rest) W)
    (hg : P.globalNamed n = some g) (ht : (P.globals[g]?).map (·.type) = some ti) (hi : P.underlying ti = some (.interface ms)) :
    ∃ tp p, W.var? P n = some #[.iface tp p] := by
  obtain ⟨ps, ⟨g0, t0, cs0, f0, p0, q0, hg0, ht0, hv0, hd0, _, e0⟩, _, _⟩ := h
  obtain rfl := Option.some.inj (hg.symm.trans hg0)
  obtain rfl := Option.some.inj (ht.symm.trans ht0)
  obtain ⟨f1, u, v, hcs, _, _⟩ := iface_of_trod hi hd0
  refine ⟨u, v, ?_⟩
  rw [hv0]
  obtain ⟨l0⟩ := cs0
  simp only at hcs
  rw [hcs]

end Go.Proofs.YtnhidiefchamlaaDoor.rct
