/- What cents.Read gives back. -/
import Derived.Test.YtegganhjlpachabDoorCut
namespace Go.Proofs.YtegganhjlpachabDoor.cents
open Go.RowKit

/-- The text without its sign. -/
def body (l : List UInt8) : List UInt8 := if neg l then l.drop 1 else l
/-- Ahead of the first dot, and behind it. -/
def units (t : List UInt8) : List UInt8 := t.take (Lib.indexByte t 46).toNat
def rests (t : List UInt8) : List UInt8 := t.drop ((Lib.indexByte t 46).toNat + 1)
def form (t : List UInt8) : Bool := decide (0 ≤ Lib.indexByte t 46) && (whole (units t) && ((rests t).length == 2 && allD (rests t)))
/-- What P1.5 says: the amount, and the error's number. -/
def readR (l : List UInt8) : Int × Int :=
  if 20 < l.length then (0, 1)
  else if form (body l) = false ∨ l = [45, 48, 46, 48, 48] then (0, 3)
  else if 1000000000000 < dval (units (body l) ++ rests (body l)) then (0, 2)
  else (if neg l then -dval (units (body l) ++ rests (body l)) else dval (units (body l) ++ rests (body l)), 0)

theorem whole_D {l : List UInt8} (h : whole l = true) : allD l = true := by
  unfold whole at h
  rw [Bool.or_eq_true] at h
  rcases h with h | h
  · rw [show l = [48] by simpa using h]; rfl
  · rw [Bool.and_eq_true] at h; exact h.2

def cutT (s : ByteArray) : ByteArray := if neg s.data.toList then s.extract 1 s.size else s
theorem cutT_list (s : ByteArray) : (cutT s).data.toList = body s.data.toList := by
  unfold cutT body
  cases neg s.data.toList
  · rfl
  · exact Lib.extract_to_end s 1
theorem cutT_size (s : ByteArray) : (cutT s).size ≤ s.size := by
  rw [← len_eq, cutT_list, ← len_eq]
  unfold body
  split
  · simp
  · exact Nat.le_refl _

theorem cutPrefix_any (s : ByteArray) (w : World) :
    Calls Tryd.prog 10 #[.string s, .string ⟨#[45]⟩] w fun e w' => e = .returned (.tuple #[.string (cutT s), .bool (neg s.data.toList)]) ∧ w' = w := by
  cases h : neg s.data.toList
  · have e : cutT s = s := by unfold cutT; rw [h]; rfl
    rw [e]; exact cutPrefix_no s w h
  · have e : cutT s = s.extract 1 s.size := by unfold cutT; rw [h]; rfl
    rw [e]; exact cutPrefix_yes s w h

theorem ret_err {x : Int} {p : Int × Int} (h : p = (0, x)) : Ending.returned (.tuple #[.int .i64 0, .int .i64 x]) = .returned (.tuple #[.int .i64 p.1, .int .i64 p.2]) := by rw [h]

theorem ret_pair' {a b : Int} {p : Int × Int} (h : p = (a, b)) : Ending.returned (.tuple #[.int .i64 a, .int .i64 b]) = .returned (.tuple #[.int .i64 p.1, .int .i64 p.2]) := by rw [h]

theorem readR_form {l : List UInt8} (h1 : ¬ 20 < l.length) (h : form (body l) = false) : readR l = (0, 3) := by
  unfold readR; rw [if_neg h1, if_pos (.inl h)]
theorem readR_zero {l : List UInt8} (h1 : ¬ 20 < l.length) (h : l = [45, 48, 46, 48, 48]) : readR l = (0, 3) := by
  unfold readR; rw [if_neg h1, if_pos (.inr h)]
theorem readR_good {l : List UInt8} (h1 : ¬ 20 < l.length) (h2 : form (body l) = true) (h3 : ¬ l = [45, 48, 46, 48, 48]) :
    readR l = if 1000000000000 < dval (units (body l) ++ rests (body l)) then (0, 2) else (if neg l then -dval (units (body l) ++ rests (body l)) else dval (units (body l) ++ rests (body l)), 0) := by
  unfold readR; rw [if_neg h1, if_neg (by simp [h2, h3])]

theorem form_no {t : List UInt8} (h : Lib.indexByte t 46 = -1) : form t = false := by unfold form; simp [h]
theorem form_eq {t : List UInt8} {i : Nat} (h : Lib.indexByte t 46 = i) : form t = (whole (t.take i) && ((t.drop (i + 1)).length == 2 && allD (t.drop (i + 1)))) := by
  unfold form units rests; simp [h]

set_option maxHeartbeats 1000000 in
theorem read_any (s : ByteArray) (w : World) :
    Calls Tryd.prog 7 #[.string s] w fun e w' => e = .returned (.tuple #[.int .i64 (readR s.data.toList).1, .int .i64 (readR s.data.toList).2]) ∧ Below w.heap.size w w' := by
  have hlen := len_eq s
  by_cases h20 : 20 < s.size
  · have e : readR s.data.toList = (0, 1) := by unfold readR; rw [if_pos (by omega)]
    rw [e]
    have h21 : (20 : Int) < (s.size : Int) := by omega
    clear e hlen
    go_enter Tryd.func7, Tryd.ntmps7
    go_wp2
    go_ret2
    exact ⟨rfl, Below.refl _ _⟩
  · have hl20 : ¬ 20 < s.data.toList.length := by omega
    have ht := cutT_size s
    have HT : Hid ((cutT s).data.toList = body s.data.toList) := cutT_list s
    have HL : Hid (¬ 20 < s.data.toList.length) := hl20
    clear hlen hl20
    have hcp := cutPrefix_any s w
    rcases ix_lt (cutT s).data.toList 46 with hix | hix
    · have E : Hid (readR s.data.toList = (0, 3)) := readR_form HL.out (by rw [← HT.out]; exact form_no hix)
      have hc := cut_no (cutT s) w hix
      clear hix HT
      generalize cutT s = t at *
      go_enter Tryd.func7, Tryd.ntmps7
      go_wp2_with fail
      refine hcp.mono ?_
      rintro e w' ⟨rfl, rfl⟩
      clear hcp
      go_wp2_with fail
      refine hc.mono ?_
      rintro e w1 ⟨rfl, hb⟩
      clear hc
      go_wp2
      go_ret2
      exact ⟨ret_err E.out, hb⟩
    · obtain ⟨i, hi⟩ := Int.eq_ofNat_of_zero_le hix.1
      have hc := cut_yes (cutT s) i w (by omega) hi
      have hb := ix_bd hi
      have HF : Hid (form (body s.data.toList) = (whole ((cutT s).extract 0 i).data.toList && (((cutT s).extract (i + 1) (cutT s).size).data.toList.length == 2 && allD ((cutT s).extract (i + 1) (cutT s).size).data.toList))) := by
        show _ = _
        rw [← HT.out, form_eq hi, Lib.extract_data, Lib.extract_to_end]; rfl
      have HU : Hid (units (body s.data.toList) = ((cutT s).extract 0 i).data.toList) := by
        show _ = _
        rw [← HT.out, Lib.extract_data]; unfold units; rw [hi]; rfl
      have HR : Hid (rests (body s.data.toList) = ((cutT s).extract (i + 1) (cutT s).size).data.toList) := by
        show _ = _
        rw [← HT.out, Lib.extract_to_end]; unfold rests; rw [hi]; rfl
      have hu : ((cutT s).extract 0 i).size ≤ 20 := by rw [← len_eq, Lib.extract_data]; simp; omega
      have hr : ((cutT s).extract (i + 1) (cutT s).size).size ≤ 20 := by rw [← len_eq, Lib.extract_to_end, List.length_drop, len_eq]; omega
      clear hi hix HT ht hb
      generalize (cutT s).extract 0 i = u at *
      generalize (cutT s).extract (i + 1) (cutT s).size = r at *
      generalize cutT s = t at *
      have hrl := len_eq r
      generalize hbn : neg s.data.toList = b at hcp
      have HB : Hid (neg s.data.toList = b) := hbn
      have HS : Hid (s.toList = s.data.toList) := ByteArray.toList_eq s
      clear hbn
      go_enter Tryd.func7, Tryd.ntmps7
      go_wp2_with fail
      refine hcp.mono ?_
      rintro e w' ⟨rfl, rfl⟩
      clear hcp
      go_wp2_with fail
      refine hc.mono ?_
      rintro e w1 ⟨rfl, hb1⟩
      clear hc
      go_wp2_with fail
      refine (isWhole_any _ _).mono ?_
      rintro e w2 ⟨rfl, hb2⟩
      have hb := hb1.trans (hb2.mono hb1.size)
      clear hb1 hb2
      cases hw : whole u.data.toList
      · have E : Hid (readR s.data.toList = (0, 3)) := readR_form HL.out (by rw [HF.out, hw]; rfl)
        clear hw
        go_wp2
        go_ret2
        exact ⟨ret_err E.out, hb⟩
      have HW : Hid (whole u.data.toList = true) := hw
      clear hw
      by_cases h2 : r.size = 2
      · have hne : ((r.size : Int) != 2) = false := by simp; omega
        go_wp2_with fail
        refine (allDigits_any _ _).mono ?_
        rintro e w3 ⟨rfl, hb3⟩
        have hb' := hb.trans (hb3.mono hb.size)
        clear hb hb3
        cases hd : allD r.data.toList
        · have E : Hid (readR s.data.toList = (0, 3)) := readR_form HL.out (by rw [HF.out, HW.out, hd]; simp)
          clear hd
          go_wp2
          go_ret2
          exact ⟨ret_err E.out, hb'⟩
        have HD : Hid (allD r.data.toList = true) := hd
        clear hd
        by_cases hz : s.data.toList = [45, 48, 46, 48, 48]
        · have E : Hid (readR s.data.toList = (0, 3)) := readR_zero HL.out hz
          have hq : (s.toList == [45, 48, 46, 48, 48]) = true := by rw [HS.out, hz]; rfl
          clear hz
          go_wp2
          go_ret2
          exact ⟨ret_err E.out, hb'⟩
        · have hq : (s.toList == [45, 48, 46, 48, 48]) = false := by rw [HS.out]; simpa using hz
          have E : Hid (readR s.data.toList = _) := readR_good HL.out (by rw [HF.out, HW.out, HD.out, hrl, h2]; rfl) hz
          clear hz
          go_wp2_with fail
          have ea : (u ++ r).data.toList = u.data.toList ++ r.data.toList := by simp
          have hall : allD (u ++ r).data.toList = true := by rw [ea, allD_append, whole_D HW.out, HD.out]; rfl
          have hv := cval_eq _ hall
          have E2 : Hid (readR s.data.toList = if 1000000000000 < dval (u ++ r).data.toList then (0, 2) else (if b then -dval (u ++ r).data.toList else dval (u ++ r).data.toList, 0)) := by
            show _ = _
            rw [E.out, HU.out, HR.out, ← ea, HB.out]
          have hvd := value_any (u ++ r)
          clear ea E HU HR HF
          refine (hvd _ hall).mono ?_
          rintro e w4 ⟨rfl, hb4⟩
          have hb5 := hb'.trans (hb4.mono hb'.size)
          clear hvd hall hb4 hb'
          obtain ⟨v1, v2, v3, v4, v5⟩ := hv
          generalize dval (u ++ r).data.toList = dv at *
          generalize cval (u ++ r).data.toList = cv at *
          by_cases hM : 1000000000000 < dv
          · have hcv := v5 hM
            have E3 : Hid (readR s.data.toList = (0, 2)) := by show _ = _; rw [E2.out, if_pos hM]
            clear v4 v5
            go_wp2
            go_ret2
            exact ⟨ret_err E3.out, hb5⟩
          · have hcv := v4 (by omega)
            subst hcv
            clear v4 v5
            cases b
            · have E3 : Hid (readR s.data.toList = (cv, 0)) := by show _ = _; rw [E2.out, if_neg hM]; rfl
              go_wp2
              go_ret2
              exact ⟨ret_pair' E3.out, hb5⟩
            · have E3 : Hid (readR s.data.toList = (-cv, 0)) := by show _ = _; rw [E2.out, if_neg hM]; rfl
              go_wp2
              go_ret2
              exact ⟨ret_pair' E3.out, hb5⟩
      · have hne : ((r.size : Int) != 2) = true := by simp; omega
        have E : Hid (readR s.data.toList = (0, 3)) := readR_form HL.out (by rw [HF.out, hrl]; simp [h2])
        go_wp2
        go_ret2
        exact ⟨ret_err E.out, hb⟩

end Go.Proofs.YtegganhjlpachabDoor.cents
