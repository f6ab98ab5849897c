/- The document's answer to Parse. -/
import Derived.Test.YtmpjmcfgikmgnaaDoorTkRef
import Derived.Test.YtmpjmcfgikmgnaaDoorBigM4
import Derived.Test.YtmpjmcfgikmgnaaDoorBlk
import Derived.Test.YtmpjmcfgikmgnaaDoorCkTxt
namespace Go.Proofs.YtmpjmcfgikmgnaaDoor.token
open Go.Proofs.YtmpjmcfgikmgnaaDoor.words Go.Proofs.YtmpjmcfgikmgnaaDoor.check
open Go.RowKit
set_option maxRecDepth 100000
set_option linter.unusedSimpArgs false
set_option linter.unusedVariables false

theorem digit_yes (z : Int) (w : World) (h1 : 48 ≤ z) (h2 : z ≤ 57) :
    Calls Tryd.prog 32 #[.int .u8 z] w fun e w' => e = .returned (.bool true) ∧ w' = w := by
  go_enter Tryd.func32, Tryd.ntmps32
  go_wp2
  go_ret
  exact ⟨rfl, rfl⟩
theorem digit_no (z : Int) (w : World) (h : z < 48 ∨ 57 < z) :
    Calls Tryd.prog 32 #[.int .u8 z] w fun e w' => e = .returned (.bool false) ∧ w' = w := by
  by_cases h0 : z < 48
  · clear h
    go_enter Tryd.func32, Tryd.ntmps32
    go_wp2
    go_ret
    exact ⟨rfl, rfl⟩
  · have h1 : 48 ≤ z := by omega
    have h2 : decide (z ≤ 57) = false := by simp; omega
    clear h h0
    go_enter Tryd.func32, Tryd.ntmps32
    go_wp2
    go_ret
    exact ⟨rfl, rfl⟩

theorem pz_ex {w w' : World} {G z : Nat} {cs : Array Value} {t : TypeId} (h : Blk w G cs t) (he : Ex w w' z) (hne : G ≠ z) : Blk w' G cs t := by
  have hl := h.lt
  unfold Blk at *
  rw [he.block G hl hne]; exact h

theorem ex2_below {w0 w w' : World} {z r : Nat} (hb : Below w0.heap.size w0 w) (h : Ex2 w w' z r) (hz : w0.heap.size ≤ z) (hr : w0.heap.size ≤ r) : Below w0.heap.size w0 w' :=
  hb.trans ⟨h.os, h.tape, h.output, h.size, fun k hk => h.block k (Nat.lt_of_lt_of_le hk hb.size) (by omega) (by omega)⟩
theorem ex2_blk {w w' : World} {G z r : Nat} {cs : Array Value} {t : TypeId} (h : Blk w G cs t) (he : Ex2 w w' z r) (h1 : G ≠ z) (h2 : G ≠ r) : Blk w' G cs t := by
  have hl := h.lt
  unfold Blk at *
  rw [he.block G hl h1 h2]; exact h

/-- While the document reads digits: k of them are. -/
structure Rp (w wr : World) (M : Nat) : Prop where
  below : Below w.heap.size w wr
  res : Blk wr w.heap.size #[.int .i64 0, .int .i64 0, .int .i64 0, .int .i64 0] 23
  num : Bg wr (w.heap.size + 1) M

set_option maxHeartbeats 400000 in
theorem parsed_len (s : ByteArray) (w : World) (h : s.size ≠ 20) :
    Calls Tryd.prog 16 #[.string s] w fun e w' => e = .returned (.tuple #[noTok, .int .i64 6]) ∧ Below w.heap.size w w' := by
  have hd : ((s.size : Int) != 20) = true := by simp; omega
  have hX := Blk.new w #[.int .i64 0, .int .i64 0, .int .i64 0, .int .i64 0] 23
  have HB : Hid (Below w.heap.size w (w.alloc (.cells #[.int .i64 0, .int .i64 0, .int .i64 0, .int .i64 0] 23))) := (Below.refl _ _).alloc (Nat.le_refl _) _
  have R0 : Hid (_ = _) := hX.cell 0
  have R1 : Hid (_ = _) := hX.cell 1
  have R2 : Hid (_ = _) := hX.cell 2
  have R3 : Hid (_ = _) := hX.cell 3
  clear h hX
  go_enter Tryd.func16, Tryd.ntmps16
  go_wp2_with fail
  refine bodyPost_ret (v := .tuple #[.agg #[.int .i64 0, .int .i64 0, .int .i64 0, .int .i64 0], .int .i64 6]) (by simp [results, Tryd.results16, R0.out, R1.out, R2.out, R3.out, go_sem]) rfl ⟨rfl, HB.out⟩

set_option maxHeartbeats 4000000 in
theorem parsed_any (s : ByteArray) (w : World) (h : s.size = 20) :
    Calls Tryd.prog 16 #[.string s] w fun e w' => e = .returned (.tuple #[parseV s.data.toList, .int .i64 (parseE s.data.toList)]) ∧ Below w.heap.size w w' := by
  have hd : ((s.size : Int) != 20) = false := by simp; omega
  have hb0 : Below w.heap.size w ((w.alloc (.cells #[.int .i64 0, .int .i64 0, .int .i64 0, .int .i64 0] 23)).alloc (.cells #[.bool false, .slice none 0 0] 61)) := ((Below.refl _ _).alloc (Nat.le_refl _) _).alloc (by simp) _
  have HR0 : Hid (Rp w ((w.alloc (.cells #[.int .i64 0, .int .i64 0, .int .i64 0, .int .i64 0] 23)).alloc (.cells #[.bool false, .slice none 0 0] 61)) 0) :=
    ⟨hb0, (Blk.new _ _ _).alloc _, ⟨none, 0, 0, Blk.new1 _ _ _ _, by rw [dig_zero]; exact ru_nil _⟩⟩
  have HS : Hid (s.size = 20) := h
  clear h hb0
  go_enter Tryd.func16, Tryd.ntmps16
  go_wp2_with fail
  generalize ((w.alloc (.cells #[.int .i64 0, .int .i64 0, .int .i64 0, .int .i64 0] 23)).alloc (.cells #[.bool false, .slice none 0 0] 61)) = W0 at *
  go_loopw [5] (fun iv wr => ∃ k M : Nat, k ≤ 20 ∧ iv = .int .i64 (k : Int) ∧ allD (s.data.toList.take k) = true ∧ dv (s.data.toList.take k) = M ∧ Rp w wr M) (fun iv _ => 20 - (intOf iv).toNat)
  case atStart => exact ⟨0, 0, by omega, rfl, rfl, rfl, HR0.out⟩
  case round =>
    obtain ⟨k, M, hk, rfl, hok, hM, hr⟩ := hrel
    have HK : Hid (allD (s.data.toList.take k) = true ∧ dv (s.data.toList.take k) = M) := ⟨hok, hM⟩
    clear hok hM
    by_cases hp : k < 20
    · have hps : k < s.size := by have := HS.out; omega
      have hkk : (k : Int) < 20 := by omega
      have hki : (k : Int) < (s.size : Int) := by omega
      have HN : Hid (isD s[k] = false → allD s.data.toList = false) := allD_take_no s k hps
      have HL : Hid (((s[k].toNat : Nat) : Int) < 48 ∨ 57 < ((s[k].toNat : Nat) : Int) → isD s[k] = false) := fun hh => by
        rcases hh with h1 | h1
        · exact isD_lo h1
        · exact isD_hi h1
      have HA : Hid (48 ≤ ((s[k].toNat : Nat) : Int) → ((s[k].toNat : Nat) : Int) ≤ 57 → allD (s.data.toList.take (k + 1)) = true ∧ dv (s.data.toList.take (k + 1)) = M * 10 + (s[k].toNat - 48)) := fun h1 h2 => by
        refine ⟨by rw [take_snoc s k hps, allD_append, HK.out.1]; simp [allD, isD_yes h1 h2], by rw [take_snoc s k hps, dv_snoc, HK.out.2]⟩
      have HM : Hid (M < 100000000000000000000) := by
        have h1 := dv_lt _ HK.out.1
        have h2 : (s.data.toList.take k).length ≤ 20 := by rw [List.length_take, len_eq, HS.out]; omega
        rw [HK.out.2] at h1
        exact Nat.lt_of_lt_of_le h1 (Nat.pow_le_pow_right (by decide) h2)
      have HE7 : Hid (allD s.data.toList = false → parseE s.data.toList = 7 ∧ parseV s.data.toList = noTok) := fun hh => parse_dig (by rw [len_eq]; exact HS.out) hh
      obtain ⟨z, hzz⟩ : ∃ z : Nat, (s[k]'hps).toNat = z := ⟨_, rfl⟩
      rw [hzz] at HL HA
      by_cases hz : (z : Int) < 48 ∨ 57 < (z : Int)
      · obtain ⟨e1, e2⟩ := HE7.out (HN.out (HL.out hz))
        have EE : Hid (parseE s.data.toList = 7 ∧ parseV s.data.toList = noTok) := ⟨e1, e2⟩
        have HDG : Hid (∀ W, Calls Tryd.prog 32 #[.int .u8 (z : Int)] W fun e w' => e = .returned (.bool false) ∧ w' = W) := fun W => digit_no _ W hz
        have hR := hr.res
        have RR := (((hR.set 0 (.int .i64 0)).set 1 (.int .i64 0)).set 2 (.int .i64 0)).set 3 (.int .i64 0)
        have HBB : Hid (Below w.heap.size w ((((wr.setCell ⟨w.heap.size, 0, none⟩ (.int .i64 0)).setCell ⟨w.heap.size, 1, none⟩ (.int .i64 0)).setCell ⟨w.heap.size, 2, none⟩ (.int .i64 0)).setCell ⟨w.heap.size, 3, none⟩ (.int .i64 0))) := bel_set (bel_set (bel_set (bel_set hr.below _ _ _ (Nat.le_refl _)) _ _ _ (Nat.le_refl _)) _ _ _ (Nat.le_refl _)) _ _ _ (Nat.le_refl _)
        have R0 : Hid (_ = _) := RR.cell 0
        have R1 : Hid (_ = _) := RR.cell 1
        have R2 : Hid (_ = _) := RR.cell 2
        have R3 : Hid (_ = _) := RR.cell 3
        have p0 := hR.cell 0
        have p1 := hR.cell 1
        have p2 := hR.cell 2
        have p3 := hR.cell 3
        have f0 := hR.free 0
        have f1 := hR.free 1
        have f2 := hR.free 2
        have f3 := hR.free 3
        clear e1 e2 HE7 HN HL HA HM hz RR hR hr HK
        go_wp2_with fail
        refine (HDG.out _).mono ?_
        rintro e w1 ⟨rfl, rfl⟩
        go_wp2_with fail
        refine bodyPost_ret (v := .tuple #[.agg #[.int .i64 0, .int .i64 0, .int .i64 0, .int .i64 0], .int .i64 7]) (by simp [results, Tryd.results16, R0.out, R1.out, R2.out, R3.out, go_sem]) rfl ⟨by rw [EE.out.1, EE.out.2]; rfl, HBB.out⟩
      · obtain ⟨d, hzd⟩ : ∃ d : Nat, z = d + 48 := ⟨z - 48, by omega⟩
        subst hzd
        have hd9 : d ≤ 9 := by omega
        have HDG : Hid (∀ W, Calls Tryd.prog 32 #[.int .u8 ((d + 48 : Nat) : Int)] W fun e w' => e = .returned (.bool true) ∧ w' = W) := fun W => digit_yes _ W (by omega) (by omega)
        have ez : (((d + 48 : Nat) : Int)) = (d : Int) + 48 := by omega
        rw [ez] at HDG
        clear ez
        have hwz : IntKind.u8.wrap ((d : Int) + 48 - 48) = (d : Int) := by rw [IntKind.wrap_u8]; omega
        obtain ⟨M1, hM1⟩ : ∃ M1, M * 10 = M1 := ⟨_, rfl⟩
        obtain ⟨M2, hM2⟩ : ∃ M2, M1 + d = M2 := ⟨_, rfl⟩
        have HEE : Hid (M * 10 = M1 ∧ M1 + d = M2) := ⟨hM1, hM2⟩
        have HAA : Hid (allD (s.data.toList.take (k + 1)) = true ∧ dv (s.data.toList.take (k + 1)) = M2) := by
          have := HA.out (by omega) (by omega)
          rw [show d + 48 - 48 = d by omega] at this
          exact ⟨this.1, by rw [this.2]; omega⟩
        have HLL : Hid ((dig M).length ≤ 100 ∧ (dig 10).length ≤ 100 ∧ (dig M1).length ≤ 100 ∧ (dig d).length ≤ 100) := by
          have hm := HM.out
          exact ⟨len100 (Nat.lt_trans hm (by decide)), len100 (by decide), len100 (Nat.lt_of_lt_of_le (show M1 < 1000000000000000000000 by omega) (by decide)), len100 (Nat.lt_of_le_of_lt hd9 (by decide))⟩
        have HBr : Hid (Below w.heap.size w wr) := hr.below
        have HRr : Hid (Blk wr w.heap.size #[.int .i64 0, .int .i64 0, .int .i64 0, .int .i64 0] 23) := hr.res
        have HNr : Hid (Bg wr (w.heap.size + 1) M) := hr.num
        have hdb : d < 9223372036854775808 := by omega
        clear HE7 HN HL HA HM hz HK hr hM1 hM2
        go_wp2_with fail
        refine (HDG.out _).mono ?_
        rintro e w1 ⟨rfl, rfl⟩
        go_wp2_with fail
        refine (newInt_any 10 _ (by decide)).mono ?_
        rintro e w2 ⟨q2, rfl, hq2, hg2, hb2⟩
        have HB2 : Hid (Below w.heap.size w w2) := bel_step HBr.out hb2
        have HR2 : Hid (Blk w2 w.heap.size #[.int .i64 0, .int .i64 0, .int .i64 0, .int .i64 0] 23) := HRr.out.next hb2
        have N2 := HNr.out.below hb2
        have nl := HNr.out.ob.lt
        have ne2 : q2 ≠ w.heap.size + 1 := by omega
        have HN2 : Hid (Bg w2 (w.heap.size + 1) M) := N2
        have HQ2 : Hid (Bg w2 q2 10) := hg2
        clear hb2 hg2 hq2 HBr HRr N2 nl HNr
        go_wp2_with fail
        refine (Mul_any (w.heap.size + 1) (w.heap.size + 1) q2 M 10 _ HN2.out HQ2.out HN2.out.ob ne2 HLL.out.1 HLL.out.2.1).mono ?_
        rintro e w3 ⟨rfl, hg3, hx3⟩
        rw [HEE.out.1] at hg3
        have HB3 : Hid (Below w.heap.size w w3) := hx3.below HB2.out (by omega)
        have HR3 : Hid (Blk w3 w.heap.size #[.int .i64 0, .int .i64 0, .int .i64 0, .int .i64 0] 23) := pz_ex HR2.out hx3 (by omega)
        have HN3 : Hid (Bg w3 (w.heap.size + 1) M1) := hg3
        clear hg3 hx3 ne2 HB2 HR2 HN2 HQ2
        go_wp2_with fail
        refine (newInt_any d _ hdb).mono ?_
        rintro e w4 ⟨q4, rfl, hq4, hg4, hb4⟩
        have HB4 : Hid (Below w.heap.size w w4) := bel_step HB3.out hb4
        have HR4 : Hid (Blk w4 w.heap.size #[.int .i64 0, .int .i64 0, .int .i64 0, .int .i64 0] 23) := HR3.out.next hb4
        have N4 := HN3.out.below hb4
        have nl := HN3.out.ob.lt
        have ne4 : q4 ≠ w.heap.size + 1 := by omega
        have HN4 : Hid (Bg w4 (w.heap.size + 1) M1) := N4
        have HQ4 : Hid (Bg w4 q4 d) := hg4
        clear hb4 hg4 hq4 HB3 HR3 N4 nl HN3
        go_wp2_with fail
        refine (Add_any (w.heap.size + 1) (w.heap.size + 1) q4 M1 d _ HN4.out HQ4.out HN4.out.ob ne4 HLL.out.2.2.1 HLL.out.2.2.2).mono ?_
        rintro e w5 ⟨rfl, hg5, hx5⟩
        rw [HEE.out.2] at hg5
        have HRP : Hid (Rp w w5 M2) := ⟨hx5.below HB4.out (by omega), pz_ex HR4.out hx5 (by omega), hg5⟩
        clear hg5 hx5 ne4 HB4 HR4 HN4 HQ4
        go_wp2_with fail
        go_roundw
        case rel => exact ⟨k + 1, M2, by omega, by go_num, HAA.out.1, HAA.out.2, HRP.out⟩
        case measure => simp [intOf]; omega
    · have hk20 : k = 20 := by omega
      have hkt : s.data.toList.take k = s.data.toList := List.take_of_length_le (by rw [len_eq, HS.out]; omega)
      have hok : allD s.data.toList = true := by have := HK.out.1; rwa [hkt] at this
      have hMv : dv s.data.toList = M := by have := HK.out.2; rwa [hkt] at this
      have hlen : s.data.toList.length = 20 := by rw [len_eq]; exact HS.out
      have hM20 : M < 100000000000000000000 := by
        have h1 := dv_lt _ hok
        rw [hMv, hlen] at h1
        exact h1
      have hkn : ¬ (k : Int) < 20 := by omega
      have HBr : Hid (Below w.heap.size w wr) := hr.below
      have HRr : Hid (Blk wr w.heap.size #[.int .i64 0, .int .i64 0, .int .i64 0, .int .i64 0] 23) := hr.res
      have HNr : Hid (Bg wr (w.heap.size + 1) M) := hr.num
      have HBL : Hid (Calls Tryd.prog 36 #[.pointer (some ⟨w.heap.size + 1, 0, none⟩)] wr fun e w' => LenPost wr M e w') := bitLen_any _ _ _ hr.num (len100 (Nat.lt_trans hM20 (by decide)))
      by_cases hbig : 73786976294838206464 ≤ M
      · have EE : Hid (parseE s.data.toList = 2 ∧ parseV s.data.toList = noTok) := parse_big hlen hok (by rw [hMv]; exact hbig)
        have HBG : Hid (∀ L, BitsOf M L → 66 < L) := fun L hL => (bits_gt hL).2 hbig
        clear hk20 hkt hok hMv hlen hM20 hr HK HS hp
        go_wp2_with fail
        refine HBL.out.mono ?_
        rintro e w1 ⟨rfl, L, rfl, hL, hL2⟩
        have hL66 : (66 : Int) < (L : Int) := by have := HBG.out L hL; omega
        clear HBL HBG hL HNr
        have hR := HRr.out
        have hB := HBr.out
        clear HRr HBr
        have RR := (((hR.set 0 (.int .i64 0)).set 1 (.int .i64 0)).set 2 (.int .i64 0)).set 3 (.int .i64 0)
        have HBB : Hid (Below w.heap.size w (((((w1).setCell ⟨w.heap.size, 0, none⟩ (.int .i64 0)).setCell ⟨w.heap.size, 1, none⟩ (.int .i64 0)).setCell ⟨w.heap.size, 2, none⟩ (.int .i64 0)).setCell ⟨w.heap.size, 3, none⟩ (.int .i64 0))) := bel_set (bel_set (bel_set (bel_set hB _ _ _ (Nat.le_refl _)) _ _ _ (Nat.le_refl _)) _ _ _ (Nat.le_refl _)) _ _ _ (Nat.le_refl _)
        have R0 : Hid (_ = _) := RR.cell 0
        have R1 : Hid (_ = _) := RR.cell 1
        have R2 : Hid (_ = _) := RR.cell 2
        have R3 : Hid (_ = _) := RR.cell 3
        have p0 := hR.cell 0
        have p1 := hR.cell 1
        have p2 := hR.cell 2
        have p3 := hR.cell 3
        have f0 := hR.free 0
        have f1 := hR.free 1
        have f2 := hR.free 2
        have f3 := hR.free 3
        clear RR
        go_wp2_with fail
        refine bodyPost_ret (v := .tuple #[.agg #[.int .i64 0, .int .i64 0, .int .i64 0, .int .i64 0], .int .i64 2]) (by simp [results, Tryd.results16, R0.out, R1.out, R2.out, R3.out, go_sem]) rfl ⟨by rw [EE.out.1, EE.out.2]; rfl, HBB.out⟩
      · have HBG : Hid (∀ L, BitsOf M L → ¬ 66 < L) := fun L hL h => hbig ((bits_gt hL).1 h)
        have hMs : M < 73786976294838206464 := by omega
        obtain ⟨q, hq⟩ : ∃ q, M / 97 = q := ⟨_, rfl⟩
        obtain ⟨r, hrr⟩ : ∃ r, M % 97 = r := ⟨_, rfl⟩
        have hqb : q < 1152921504606846976 := by omega
        have HQB : Hid (q < 1152921504606846976) := hqb
        have HQR : Hid (∀ z y r' W, Bg W (w.heap.size + 1) M → Bg W y 97 → Ob W z → Ob W r' → r' ≠ z → Calls Tryd.prog 37 #[.pointer (some ⟨z, 0, none⟩), .pointer (some ⟨w.heap.size + 1, 0, none⟩), .pointer (some ⟨y, 0, none⟩), .pointer (some ⟨r', 0, none⟩)] W fun e w' => QuoPost W z r' q r e w') := fun z y r' W h1 h2 h3 h4 h5 => by
          rw [← hq, ← hrr]
          exact quoRem_any z (w.heap.size + 1) y r' M 97 W h1 h2 h3 h4 h5 (by decide) (by decide) (by have := dig_len (m := M) 3 (by omega); omega)
        have HPE : Hid ((r ≠ 0 → parseE s.data.toList = 8 ∧ parseV s.data.toList = noTok) ∧ (r = 0 → okB (tokOf q) = false → parseE s.data.toList = 2 ∧ parseV s.data.toList = noTok) ∧ (r = 0 → okB (tokOf q) = true → parseE s.data.toList = 0 ∧ parseV s.data.toList = (tokOf q).v)) := by
          refine ⟨fun h1 => parse_chk hlen hok (by rw [hMv]; exact hMs) (by rw [hMv, hrr]; exact h1), fun h1 h2 => parse_no hlen hok (by rw [hMv]; exact hMs) (by rw [hMv, hrr]; exact h1) (by rw [hMv, hq]; exact h2), fun h1 h2 => ?_⟩
          have := parse_ok hlen hok (by rw [hMv]; exact hMs) (by rw [hMv, hrr]; exact h1) (by rw [hMv, hq]; exact h2)
          rwa [hMv, hq] at this
        clear hk20 hkt hok hMv hlen hM20 hr HK HS hp hbig hMs hq hrr hqb
        go_wp2_with fail
        refine HBL.out.mono ?_
        rintro e w1 ⟨rfl, L, rfl, hL, hL2⟩
        have hL66 : ¬ (66 : Int) < (L : Int) := by have := HBG.out L hL; omega
        have HB2 : Hid (Below w.heap.size w (w1.alloc (.cells #[.bool false, .slice none 0 0] 61))) := HBr.out.alloc HBr.out.size _
        have HR2 : Hid (Blk (w1.alloc (.cells #[.bool false, .slice none 0 0] 61)) w.heap.size #[.int .i64 0, .int .i64 0, .int .i64 0, .int .i64 0] 23) := HRr.out.alloc _
        have HN2 : Hid (Bg (w1.alloc (.cells #[.bool false, .slice none 0 0] 61)) (w.heap.size + 1) M) := HNr.out.below ((Below.refl _ _).alloc (Nat.le_refl _) _)
        have HZ2 : Hid (Blk (w1.alloc (.cells #[.bool false, .slice none 0 0] 61)) w1.heap.size #[.bool false, .slice none 0 0] 61) := Blk.new _ _ _
        have HF2 : Hid (w.heap.size + 1 < w1.heap.size) := HNr.out.ob.lt
        clear HBL HBG hL HNr HRr HBr
        go_wp2_with fail
        refine (newInt_any 97 _ (by decide)).mono ?_
        rintro e w2 ⟨y, rfl, hy, hg2, hb2⟩
        have HB3 : Hid (Below w.heap.size w (w2.alloc (.cells #[.bool false, .slice none 0 0] 61))) := (bel_step HB2.out hb2).alloc (bel_step HB2.out hb2).size _
        have HR3 : Hid (Blk (w2.alloc (.cells #[.bool false, .slice none 0 0] 61)) w.heap.size #[.int .i64 0, .int .i64 0, .int .i64 0, .int .i64 0] 23) := (HR2.out.next hb2).alloc _
        have HN3 : Hid (Bg (w2.alloc (.cells #[.bool false, .slice none 0 0] 61)) (w.heap.size + 1) M) := (HN2.out.below hb2).below ((Below.refl _ _).alloc (Nat.le_refl _) _)
        have HY3 : Hid (Bg (w2.alloc (.cells #[.bool false, .slice none 0 0] 61)) y 97) := hg2.below ((Below.refl _ _).alloc (Nat.le_refl _) _)
        have HZ3 : Hid (Blk (w2.alloc (.cells #[.bool false, .slice none 0 0] 61)) w1.heap.size #[.bool false, .slice none 0 0] 61) := (HZ2.out.next hb2).alloc _
        have HT3 : Hid (Blk (w2.alloc (.cells #[.bool false, .slice none 0 0] 61)) w2.heap.size #[.bool false, .slice none 0 0] 61) := Blk.new _ _ _
        have HF3 : Hid (w2.heap.size ≠ w1.heap.size) := Nat.ne_of_gt (HZ2.out.next hb2).lt
        have HG3 : Hid (w.heap.size + 1 < w2.heap.size) := (HN2.out.below hb2).ob.lt
        clear hb2 hg2 hy HB2 HR2 HN2 HZ2
        go_wp2_with fail
        refine (HQR.out _ _ _ _ HN3.out HY3.out ⟨_, _, _, _, HZ3.out⟩ ⟨_, _, _, _, HT3.out⟩ HF3.out).mono ?_
        rintro e w3 ⟨rfl, hgq, hgr, hx3⟩
        have HB4 : Hid (Below w.heap.size w w3) := ex2_below HB3.out hx3 (by have := HF2.out; omega) (by have := HG3.out; omega)
        have HR4 : Hid (Blk w3 w.heap.size #[.int .i64 0, .int .i64 0, .int .i64 0, .int .i64 0] 23) := ex2_blk HR3.out hx3 (by have := HF2.out; omega) (by have := HG3.out; omega)
        have HGQ : Hid (Bg w3 w1.heap.size q) := hgq
        have HGR : Hid (Bg w3 w2.heap.size r) := hgr
        clear hx3 hgq hgr HB3 HR3 HN3 HY3 HZ3 HT3 HF3 HG3 HQR HF2
        by_cases hr0 : r = 0
        · subst hr0
          have hP2 := HPE.out.2.1 rfl
          have hP0 := HPE.out.2.2 rfl
          have HBQ : Hid (Calls Tryd.prog 36 #[.pointer (some ⟨w1.heap.size, 0, none⟩)] w3 fun e w' => LenPost w3 q e w') := bitLen_any _ _ _ HGQ.out (by have h0 := HQB.out; exact len100 (Nat.lt_trans h0 (by decide)))
          by_cases hq59 : 576460752303423488 ≤ q
          · have EE : Hid (parseE s.data.toList = 2 ∧ parseV s.data.toList = noTok) := hP2 (by
              have h0 := HQB.out
              have h1 : ¬ (tokOf q).c ≤ 3 := by show ¬ q / 144115188075855872 % 8 ≤ 3; omega
              unfold okB
              simp [h1])
            have HBG : Hid (∀ L, BitsOf q L → 59 < L) := fun L hL => (bits_gt hL).2 hq59
            clear hP2 hP0 HPE hq59 HQB
            go_wp2_with fail
            refine (sign_zero _ _ HGR.out).mono ?_
            rintro e w4 ⟨rfl, rfl⟩
            go_wp2_with fail
            refine HBQ.out.mono ?_
            rintro e w5 ⟨rfl, L', rfl, hL', hL2'⟩
            have hL59 : (59 : Int) < (L' : Int) := by have := HBG.out L' hL'; omega
            have hR := HR4.out
            have hB := HB4.out
            clear HBQ HBG hL' HR4 HB4 HGQ HGR
            have RR := (((hR.set 0 (.int .i64 0)).set 1 (.int .i64 0)).set 2 (.int .i64 0)).set 3 (.int .i64 0)
            have HBB : Hid (Below w.heap.size w (((((w5).setCell ⟨w.heap.size, 0, none⟩ (.int .i64 0)).setCell ⟨w.heap.size, 1, none⟩ (.int .i64 0)).setCell ⟨w.heap.size, 2, none⟩ (.int .i64 0)).setCell ⟨w.heap.size, 3, none⟩ (.int .i64 0))) := bel_set (bel_set (bel_set (bel_set hB _ _ _ (Nat.le_refl _)) _ _ _ (Nat.le_refl _)) _ _ _ (Nat.le_refl _)) _ _ _ (Nat.le_refl _)
            have R0 : Hid (_ = _) := RR.cell 0
            have R1 : Hid (_ = _) := RR.cell 1
            have R2 : Hid (_ = _) := RR.cell 2
            have R3 : Hid (_ = _) := RR.cell 3
            have p0 := hR.cell 0
            have p1 := hR.cell 1
            have p2 := hR.cell 2
            have p3 := hR.cell 3
            have f0 := hR.free 0
            have f1 := hR.free 1
            have f2 := hR.free 2
            have f3 := hR.free 3
            clear RR
            go_wp2_with fail
            refine bodyPost_ret (v := .tuple #[.agg #[.int .i64 0, .int .i64 0, .int .i64 0, .int .i64 0], .int .i64 2]) (by simp [results, Tryd.results16, R0.out, R1.out, R2.out, R3.out, go_sem]) rfl ⟨by rw [EE.out.1, EE.out.2]; rfl, HBB.out⟩
          · have HBG : Hid (∀ L, BitsOf q L → ¬ 59 < L) := fun L hL h => hq59 ((bits_gt hL).1 h)
            have hqs : q < 576460752303423488 := by omega
            have HI : Hid (Calls Tryd.prog 39 #[.pointer (some ⟨w1.heap.size, 0, none⟩)] w3 fun e w' => e = .returned (.int .i64 (q : Int)) ∧ w' = w3) := int64_any _ _ _ HGQ.out (by omega)
            have HQS : Hid (q < 576460752303423488) := hqs
            clear HPE hq59 HQB hqs
            have HP2 : Hid (okB (tokOf q) = false → parseE s.data.toList = 2 ∧ parseV s.data.toList = noTok) := hP2
            have HP0 : Hid (okB (tokOf q) = true → parseE s.data.toList = 0 ∧ parseV s.data.toList = (tokOf q).v) := hP0
            clear hP2 hP0
            go_wp2_with fail
            refine (sign_zero _ _ HGR.out).mono ?_
            rintro e w4 ⟨rfl, rfl⟩
            go_wp2_with fail
            refine HBQ.out.mono ?_
            rintro e w5 ⟨rfl, L', rfl, hL', hL2'⟩
            have hL59 : ¬ (59 : Int) < (L' : Int) := by have := HBG.out L' hL'; omega
            clear HBQ HBG hL'
            go_wp2_with fail
            refine HI.out.mono ?_
            rintro e w6 ⟨rfl, rfl⟩
            go_wp2_with fail
            have HTV : Hid (((tokOf q).c : Int) = (q : Int) / 144115188075855872 ∧ ((tokOf q).i : Int) = (q : Int) / 137438953472 % 1048576 ∧ ((tokOf q).a : Int) = (q : Int) / 65536 % 2097152 ∧ ((tokOf q).t : Int) = (q : Int) % 65536) := by
              have h0 := HQS.out
              refine ⟨?_, ?_, ?_, ?_⟩
              · show ((q / 144115188075855872 % 8 : Nat) : Int) = _; omega
              · show ((q / 137438953472 % 1048576 : Nat) : Int) = _; omega
              · show ((q / 65536 % 2097152 : Nat) : Int) = _; omega
              · show ((q % 65536 : Nat) : Int) = _; omega
            generalize (q : Int) / 144115188075855872 = A1 at *
            generalize (q : Int) / 137438953472 % 1048576 = A2 at *
            generalize (q : Int) / 65536 % 2097152 = A3 at *
            generalize (q : Int) % 65536 = A4 at *
            have HB7 : Hid (Below w.heap.size w (w6.alloc (.cells #[.int .i64 A1, .int .i64 A2, .int .i64 A3, .int .i64 A4] 23))) := HB4.out.alloc HB4.out.size _
            have HR7 : Hid (Blk (w6.alloc (.cells #[.int .i64 A1, .int .i64 A2, .int .i64 A3, .int .i64 A4] 23)) w.heap.size #[.int .i64 0, .int .i64 0, .int .i64 0, .int .i64 0] 23) := HR4.out.alloc _
            have HK7 : Hid (Blk (w6.alloc (.cells #[.int .i64 A1, .int .i64 A2, .int .i64 A3, .int .i64 A4] 23)) w6.heap.size #[.int .i64 A1, .int .i64 A2, .int .i64 A3, .int .i64 A4] 23) := Blk.new _ _ _
            have HVV : Hid ((tokOf q).v = .agg #[.int .i64 A1, .int .i64 A2, .int .i64 A3, .int .i64 A4]) := by
              show Value.agg #[.int .i64 ((tokOf q).c : Int), .int .i64 ((tokOf q).i : Int), .int .i64 ((tokOf q).a : Int), .int .i64 ((tokOf q).t : Int)] = _
              rw [HTV.out.1, HTV.out.2.1, HTV.out.2.2.1, HTV.out.2.2.2]
            have HFW : Hid (flawT A1 A2 A3 A4 = 0 ↔ okB (tokOf q) = true) := by
              show _ ↔ _
              rw [← HTV.out.1, ← HTV.out.2.1, ← HTV.out.2.2.1, ← HTV.out.2.2.2, flaw_tok, okB_ok]
            clear HTV HB4 HR4 HGQ HGR HI HQS
            refine (fault_any A1 A2 A3 A4 _).mono ?_
            rintro e w7 ⟨he7, hb7⟩
            have hR := HR7.out.next hb7
            have hB := bel_step HB7.out hb7
            have hK := HK7.out.next hb7
            clear HB7 HR7 HK7 hb7
            have HE7 : Hid (e = .returned (.int .i64 (flawT A1 A2 A3 A4))) := he7
            clear he7
            cases hokb : okB (tokOf q) with
            | true =>
              have hf0 := HFW.out.2 hokb
              rw [hf0] at HE7
              obtain rfl := HE7.out
              have EE : Hid (parseE s.data.toList = 0 ∧ parseV s.data.toList = .agg #[.int .i64 A1, .int .i64 A2, .int .i64 A3, .int .i64 A4]) := by
                have := HP0.out hokb
                rwa [HVV.out] at this
              have l0 := hK.cell 0
              have l1 := hK.cell 1
              have l2 := hK.cell 2
              have l3 := hK.cell 3
              clear HE7 hf0 hokb HP0 HP2 HFW HVV hK
              have RR := (((hR.set 0 (.int .i64 A1)).set 1 (.int .i64 A2)).set 2 (.int .i64 A3)).set 3 (.int .i64 A4)
              have HBB : Hid (Below w.heap.size w (((((w7).setCell ⟨w.heap.size, 0, none⟩ (.int .i64 A1)).setCell ⟨w.heap.size, 1, none⟩ (.int .i64 A2)).setCell ⟨w.heap.size, 2, none⟩ (.int .i64 A3)).setCell ⟨w.heap.size, 3, none⟩ (.int .i64 A4))) := bel_set (bel_set (bel_set (bel_set hB _ _ _ (Nat.le_refl _)) _ _ _ (Nat.le_refl _)) _ _ _ (Nat.le_refl _)) _ _ _ (Nat.le_refl _)
              have R0 : Hid (_ = _) := RR.cell 0
              have R1 : Hid (_ = _) := RR.cell 1
              have R2 : Hid (_ = _) := RR.cell 2
              have R3 : Hid (_ = _) := RR.cell 3
              have p0 := hR.cell 0
              have p1 := hR.cell 1
              have p2 := hR.cell 2
              have p3 := hR.cell 3
              have f0 := hR.free 0
              have f1 := hR.free 1
              have f2 := hR.free 2
              have f3 := hR.free 3
              clear RR
              go_wp2_with fail
              refine bodyPost_ret (v := .tuple #[.agg #[.int .i64 A1, .int .i64 A2, .int .i64 A3, .int .i64 A4], .int .i64 0]) (by simp [results, Tryd.results16, R0.out, R1.out, R2.out, R3.out, go_sem]) rfl ⟨by rw [EE.out.1, EE.out.2], HBB.out⟩
            | false =>
              have hf0 : flawT A1 A2 A3 A4 ≠ 0 := fun h => by rw [HFW.out.1 h] at hokb; cases hokb
              have hff : (flawT A1 A2 A3 A4 != 0) = true := by simpa using hf0
              have EE : Hid (parseE s.data.toList = 2 ∧ parseV s.data.toList = noTok) := HP2.out hokb
              obtain rfl := HE7.out
              clear HE7 hf0 hokb HP0 HP2 HFW HVV hK
              generalize flawT A1 A2 A3 A4 = ff at *
              have RR := (((hR.set 0 (.int .i64 0)).set 1 (.int .i64 0)).set 2 (.int .i64 0)).set 3 (.int .i64 0)
              have HBB : Hid (Below w.heap.size w (((((w7).setCell ⟨w.heap.size, 0, none⟩ (.int .i64 0)).setCell ⟨w.heap.size, 1, none⟩ (.int .i64 0)).setCell ⟨w.heap.size, 2, none⟩ (.int .i64 0)).setCell ⟨w.heap.size, 3, none⟩ (.int .i64 0))) := bel_set (bel_set (bel_set (bel_set hB _ _ _ (Nat.le_refl _)) _ _ _ (Nat.le_refl _)) _ _ _ (Nat.le_refl _)) _ _ _ (Nat.le_refl _)
              have R0 : Hid (_ = _) := RR.cell 0
              have R1 : Hid (_ = _) := RR.cell 1
              have R2 : Hid (_ = _) := RR.cell 2
              have R3 : Hid (_ = _) := RR.cell 3
              have p0 := hR.cell 0
              have p1 := hR.cell 1
              have p2 := hR.cell 2
              have p3 := hR.cell 3
              have f0 := hR.free 0
              have f1 := hR.free 1
              have f2 := hR.free 2
              have f3 := hR.free 3
              clear RR
              go_wp2_with fail
              refine bodyPost_ret (v := .tuple #[.agg #[.int .i64 0, .int .i64 0, .int .i64 0, .int .i64 0], .int .i64 2]) (by simp [results, Tryd.results16, R0.out, R1.out, R2.out, R3.out, go_sem]) rfl ⟨by rw [EE.out.1, EE.out.2]; rfl, HBB.out⟩
        · have EE : Hid (parseE s.data.toList = 8 ∧ parseV s.data.toList = noTok) := HPE.out.1 hr0
          have HSG : Hid (Calls Tryd.prog 38 #[.pointer (some ⟨w2.heap.size, 0, none⟩)] w3 fun e w' => e = .returned (.int .i64 1) ∧ w' = w3) := sign_pos _ _ _ HGR.out hr0
          clear HPE hr0 HQB
          go_wp2_with fail
          refine HSG.out.mono ?_
          rintro e w4 ⟨rfl, rfl⟩
          have hR := HR4.out
          have hB := HB4.out
          clear HSG HR4 HB4 HGQ HGR
          have RR := (((hR.set 0 (.int .i64 0)).set 1 (.int .i64 0)).set 2 (.int .i64 0)).set 3 (.int .i64 0)
          have HBB : Hid (Below w.heap.size w (((((w4).setCell ⟨w.heap.size, 0, none⟩ (.int .i64 0)).setCell ⟨w.heap.size, 1, none⟩ (.int .i64 0)).setCell ⟨w.heap.size, 2, none⟩ (.int .i64 0)).setCell ⟨w.heap.size, 3, none⟩ (.int .i64 0))) := bel_set (bel_set (bel_set (bel_set hB _ _ _ (Nat.le_refl _)) _ _ _ (Nat.le_refl _)) _ _ _ (Nat.le_refl _)) _ _ _ (Nat.le_refl _)
          have R0 : Hid (_ = _) := RR.cell 0
          have R1 : Hid (_ = _) := RR.cell 1
          have R2 : Hid (_ = _) := RR.cell 2
          have R3 : Hid (_ = _) := RR.cell 3
          have p0 := hR.cell 0
          have p1 := hR.cell 1
          have p2 := hR.cell 2
          have p3 := hR.cell 3
          have f0 := hR.free 0
          have f1 := hR.free 1
          have f2 := hR.free 2
          have f3 := hR.free 3
          clear RR
          go_wp2_with fail
          refine bodyPost_ret (v := .tuple #[.agg #[.int .i64 0, .int .i64 0, .int .i64 0, .int .i64 0], .int .i64 8]) (by simp [results, Tryd.results16, R0.out, R1.out, R2.out, R3.out, go_sem]) rfl ⟨by rw [EE.out.1, EE.out.2]; rfl, HBB.out⟩

end Go.Proofs.YtmpjmcfgikmgnaaDoor.token
