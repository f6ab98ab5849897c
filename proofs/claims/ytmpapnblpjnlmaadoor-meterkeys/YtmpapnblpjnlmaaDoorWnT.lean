/- Windows: the document's own taking. -/
import Derived.Test.YtmpapnblpjnlmaaDoorWnS
import Derived.Test.YtmpapnblpjnlmaaDoorWnTk
namespace Go.Proofs.YtmpapnblpjnlmaaDoor.win
open Go.RowKit Go.Proofs.YtmpapnblpjnlmaaDoor.irow
set_option maxRecDepth 100000
set_option linter.unusedVariables false

theorem count_take (l : List Int) (x : Int) (j : Nat) (hj : j < l.length) : (l.take (j + 1)).count x = (l.take j).count x + (if l.getD j 0 = x then 1 else 0) := by
  rw [List.take_succ_eq_append_getElem hj, List.count_append]
  have e : l.getD j 0 = l[j] := by rw [List.getD_eq_getElem?_getD, List.getElem?_eq_getElem hj]; rfl
  rw [e]
  by_cases h : l[j] = x
  · simp [h]
  · simp [h]
theorem count_part {l : List Int} (hn : l.Nodup) (x : Int) (j : Nat) : (l.take j).count x ≤ 1 := count_le (hn.sublist (List.take_sublist j l)) x
theorem wof_small {high : Int} {l : List Int} (hn : l.Nodup) {k : Nat} (hk : k < 64) : wof high l k < 9223372036854775808 := Nat.lt_of_lt_of_le (wof_lt high l hn k) (Nat.pow_le_pow_right (show 0 < 2 by decide) (show k ≤ 63 by omega))
theorem wof_big {high : Int} {l : List Int} (hn : l.Nodup) {k : Nat} (hk : k ≤ 64) : wof high l k < 18446744073709551616 := Nat.lt_of_lt_of_le (wof_lt high l hn k) (Nat.pow_le_pow_right (show 0 < 2 by decide) hk)

/-- A window was given back. -/
def GaveW (w : World) (h : Int) (b : Nat) (e : Ending) (w' : World) : Prop := e = .returned (.agg #[.int .i64 h, .int .u64 (b : Int)]) ∧ Below w.heap.size w w'
/-- Two blocks: a window that is empty, and one with these bits. -/
structure Two (w wr : World) (high : Int) (B : Nat) : Prop where
  zero : Blk wr w.heap.size #[.int .i64 0, .int .u64 0] 24
  cur : Blk wr (w.heap.size + 1) #[.int .i64 high, .int .u64 (B : Int)] 24
  bel : Below w.heap.size w wr
theorem Two.put {w wr : World} {high : Int} {B : Nat} (h : Two w wr high B) (C : Nat) : Two w (wr.setCell ⟨w.heap.size + 1, 1, none⟩ (.int .u64 (C : Int))) high C :=
  ⟨h.zero.other 1 _ (by omega), h.cur.set 1 (.int .u64 (C : Int)), bel_set h.bel _ _ _ (by omega)⟩

set_option maxHeartbeats 4000000 in
theorem windowOf_any (high : Int) (a : Option Addr) (n cap : Nat) (l : List Int) (w : World) (hr : RowN w a n l) (hn : l.Nodup) (hl : n ≤ 1000) (h0 : 0 ≤ high) (h1 : high ≤ 1048575) :
    Calls Tryd.prog 28 #[.int .i64 high, .slice a n cap] w fun e w' => GaveW w high (wof high l 64) e w' := by
  have HR : Hid (∀ wr, Below w.heap.size w wr → RowN wr a n l) := fun wr hb => hr.below hb
  have HL : Hid (l.length = n) := hr.1
  have HN : Hid (l.Nodup) := hn
  clear hr hn
  go_enter Tryd.func28, Tryd.ntmps28
  go_wp2_with fail
  have HT0 : Hid (Two w ((w.alloc (.cells #[.int .i64 0, .int .u64 0] 24)).alloc (.cells #[.int .i64 high, .int .u64 0] 24)) high (wof high l 0)) :=
    ⟨(Blk.new w _ _).alloc _, Blk.new1 w _ _ _, ((Below.refl _ _).alloc (Nat.le_refl _) _).alloc (ialloc_le (Nat.le_refl _) _) _⟩
  generalize (w.alloc (.cells #[.int .i64 0, .int .u64 0] 24)).alloc (.cells #[.int .i64 high, .int .u64 0] 24) = W0 at *
  go_loopw [6] (fun j wr => ∃ k : Nat, k ≤ 64 ∧ j = .int .i64 (63 - (k : Int)) ∧ Two w wr high (wof high l k)) (fun j _ => (intOf j + 1).toNat)
  case atStart => exact ⟨0, Nat.zero_le _, rfl, HT0.out⟩
  case round =>
    obtain ⟨k, hk, rfl, htwo⟩ := hrel
    have HT : Hid (Two w wr high (wof high l k)) := htwo
    clear HT0 htwo
    by_cases hlt : k < 64
    · have hB := wof_small (high := high) HN.out hlt
      have hge : (0 : Int) ≤ 63 - (k : Int) := by omega
      have HE : Hid (wof high l (k + 1) = 2 * wof high l k + l.count (high - (63 - (k : Int)))) := by
        show _ = _
        rw [wof, show ((63 - k : Nat) : Int) = 63 - (k : Int) by omega]
      generalize wof high l k = B at *
      have d0 := HT.out.cur.cell 0
      have d1 := HT.out.cur.cell 1
      have f1 := HT.out.cur.free 1
      have HT1 : Hid (Two w (wr.setCell ⟨w.heap.size + 1, 1, none⟩ (.int .u64 (2 * (B : Int)))) high (2 * B + (l.take 0).count (high - (63 - (k : Int))))) := by
        have := HT.out.put (2 * B)
        rw [show ((2 * B : Nat) : Int) = 2 * (B : Int) by omega] at this
        show Two _ _ _ _
        simpa using this
      clear HT
      go_wp2_with fail
      generalize wr.setCell ⟨w.heap.size + 1, 1, none⟩ (.int .u64 (2 * (B : Int))) = W1 at *
      go_loopw [7] (fun i wr => ∃ t : Nat, t ≤ n ∧ i = .int .i64 (t : Int) ∧ Two w wr high (2 * B + (l.take t).count (high - (63 - (k : Int))))) (fun i _ => n - (intOf i).toNat)
      case atStart => exact ⟨0, Nat.zero_le _, rfl, HT1.out⟩
      case round =>
        obtain ⟨t, ht, rfl, htwo⟩ := hrel
        have HT : Hid (Two w wr high (2 * B + (l.take t).count (high - (63 - (k : Int))))) := htwo
        clear HT1 htwo d0 d1 f1
        by_cases htl : t < n
        · obtain ⟨bl, off, rfl, _, hc⟩ := (HR.out _ HT.out.bel).at (by omega)
          have g1 := hc t htl
          have hct := count_part HN.out (high - (63 - (k : Int))) t
          have HC := count_take l (high - (63 - (k : Int))) t (by rw [HL.out]; exact htl)
          clear hc
          by_cases hx : l.getD t 0 = high - (63 - (k : Int))
          · rw [if_pos hx] at HC
            have hct1 := count_part HN.out (high - (63 - (k : Int))) (t + 1)
            rw [HC] at hct1
            have HC' : Hid ((l.take (t + 1)).count (high - (63 - (k : Int))) = (l.take t).count (high - (63 - (k : Int))) + 1) := HC
            have hq : (l.getD t 0 == high - (63 - (k : Int))) = true := by rw [hx]; exact beq_self_eq_true _
            clear hx HC
            generalize l.getD t 0 = x at g1 hq
            have e1 := HT.out.cur.cell 1
            have e0 := HT.out.cur.cell 0
            have f2 := HT.out.cur.free 1
            generalize (l.take t).count (high - (63 - (k : Int))) = ct at *
            have HT2 : Hid (Two w (wr.setCell ⟨w.heap.size + 1, 1, none⟩ (.int .u64 (((2 * B + ct : Nat) : Int) + 1))) high (2 * B + (l.take (t + 1)).count (high - (63 - (k : Int))))) := by
              have := HT.out.put (2 * B + ct + 1)
              rw [show ((2 * B + ct + 1 : Nat) : Int) = ((2 * B + ct : Nat) : Int) + 1 by omega] at this
              rw [HC'.out]; exact this
            have hD : 2 * B + ct < 18446744073709551615 := by omega
            clear HT HC'
            generalize 2 * B + ct = D at *
            go_wp2_with fail
            go_roundw
            case rel => exact ⟨t + 1, by omega, by go_num, HT2.out⟩
            case measure => simp [intOf]; omega
          · rw [if_neg hx] at HC
            have HC' : Hid ((l.take (t + 1)).count (high - (63 - (k : Int))) = (l.take t).count (high - (63 - (k : Int)))) := HC
            have hq : (l.getD t 0 == high - (63 - (k : Int))) = false := by simp only [beq_eq_false_iff_ne, ne_eq]; exact hx
            clear hx HC
            generalize l.getD t 0 = x at g1 hq
            go_wp2_with fail
            go_roundw
            case rel => exact ⟨t + 1, by omega, by go_num, by rw [HC'.out]; exact HT.out⟩
            case measure => simp [intOf]; omega
        · obtain rfl : n = t := by omega
          have HT2 : Hid (Two w wr high (wof high l (k + 1))) := by
            have := HT.out
            rw [List.take_of_length_le (by rw [HL.out]; exact Nat.le_refl _)] at this
            rw [HE.out]; exact this
          clear HT
          go_wp2_with fail
          go_roundw
          case rel => exact ⟨k + 1, by omega, by go_num, HT2.out⟩
          case measure => simp [intOf]; omega
    · obtain rfl : k = 64 := by omega
      have hlt' : (63 - ((64 : Nat) : Int)) < 0 := by decide
      have d0 := HT.out.cur.cell 0
      have d1 := HT.out.cur.cell 1
      have z0 := HT.out.zero.cell 0
      have z1 := HT.out.zero.cell 1
      have y0 := HT.out.zero.free 0
      have y1 := HT.out.zero.free 1
      have HX := (HT.out.zero.set 0 (.int .i64 high)).set 1 (.int .u64 ((wof high l 64 : Nat) : Int))
      have R0 : Hid (_ = _) := HX.cell 0
      have R1 : Hid (_ = _) := HX.cell 1
      have HB : Hid (Below w.heap.size w ((wr.setCell ⟨w.heap.size, 0, none⟩ (.int .i64 high)).setCell ⟨w.heap.size, 1, none⟩ (.int .u64 ((wof high l 64 : Nat) : Int)))) := bel_set (bel_set HT.out.bel _ _ _ (Nat.le_refl _)) _ _ _ (Nat.le_refl _)
      clear HX HT
      go_wp2_with fail
      exact bodyPost_ret (v := .agg #[.int .i64 high, .int .u64 ((wof high l 64 : Nat) : Int)]) (by simp [results, Tryd.results28, R0.out, R1.out, go_sem]) rfl ⟨rfl, HB.out⟩


set_option maxHeartbeats 4000000 in
theorem takenBy_any (h : Int) (b : Nat) (id : Int) (w : World) (hb : b < 18446744073709551616) :
    Calls Tryd.prog 15 #[.agg #[.int .i64 h, .int .u64 (b : Int)], .int .i64 id] w fun e w' => TakePost w h b id e w' := by
  have HJ : Hid (∀ W, Calls Tryd.prog 26 #[.agg #[.int .i64 h, .int .u64 (b : Int)], .int .i64 id] W fun e w' => JudgePost W h b id e w') := fun W => judged_any h b id W hb
  have hX := Bxs.new w h b
  have c0 := hX.inn.cell 0
  have c1 := hX.inn.cell 1
  have HX : Hid (Bxs w ((w.alloc (.cells #[.int .i64 h, .int .u64 (b : Int)] 24)).alloc (.cells #[.int .i64 0, .int .u64 0] 24)) h b) := hX
  clear hX
  go_enter Tryd.func15, Tryd.ntmps15
  go_wp2_with fail
  refine (HJ.out _).mono ?_
  rintro e w1 ⟨c, rfl, hj, hb1⟩
  have HX1 : Hid (Bxs w w1 h b) := HX.out.next hb1
  have HJI : Hid (JudgeIs h b id c) := hj
  clear hb1 hj c0 c1 HX HJ
  have d0 := HX1.out.inn.cell 0
  have d1 := HX1.out.inn.cell 1
  by_cases hc : c = 0
  · subst hc
    have hin : May h b ∧ (1 ≤ id ∧ id ≤ 1048575) ∧ ¬ id ≤ h - 64 ∧ id ∉ mem h b 64 := by
      rcases HJI.out with ⟨_, h⟩ | ⟨_, _, h⟩ | ⟨_, _, _, h⟩ | ⟨_, _, _, _, h⟩ | ⟨a1, a2, a3, a4, _⟩
      · exact absurd h (by decide)
      · exact absurd h (by decide)
      · exact absurd h (by decide)
      · exact absurd h (by decide)
      · exact ⟨a1, a2, a3, a4⟩
    obtain ⟨hm, ⟨i1, i2⟩, _, hnm⟩ := hin
    obtain ⟨l1, l2⟩ := may_low hm
    have HND : Hid ((mem h b 64 ++ [id]).Nodup) := took_nodup hnm
    have HTK : Hid (took h b id = wof (max h id) (mem h b 64 ++ [id]) 64) := rfl
    have HLN : Hid ((mem h b 64).length ≤ 64) := mem_len h b 64
    have HME : Hid (∀ W, Calls Tryd.prog 27 #[.agg #[.int .i64 h, .int .u64 (b : Int)]] W fun e w' => GaveI W (mem h b 64) e w') := fun W => members_any h b W hb l1 l2
    have HWO0 : Hid (∀ W a n cap, RowN W a n (mem h b 64 ++ [id]) → n ≤ 1000 → Calls Tryd.prog 28 #[.int .i64 (max h id), .slice a n cap] W fun e w' => GaveW W (max h id) (took h b id) e w') := fun W a n cap hr hn => windowOf_any (max h id) a n cap _ W hr HND.out hn (by omega) (by omega)
    clear hm hnm hb
    generalize mem h b 64 = l at *
    by_cases hgt : h < id
    · have hmx : max h id = id := by omega
      clear i1 i2 l1 l2
      have HWO : Hid (∀ W a n cap, RowN W a n (l ++ [id]) → n ≤ 1000 → Calls Tryd.prog 28 #[.int .i64 id, .slice a n cap] W fun e w' => GaveW W id (took h b id) e w') := by have := HWO0.out; rw [hmx] at this; exact this
      have HMX : Hid (max h id = id) := hmx
      clear HWO0 hmx
      go_wp2_with fail
      refine (HME.out _).mono ?_
      rintro e w2 ⟨v, rfl, hv, hb2⟩
      have HX2 : Hid (Bxs w w2 h b) := HX1.out.next hb2
      have HG : Hid ((w2.alloc (.cells #[.int .i64 id] 3)).cell? ⟨w2.heap.size, 0, none⟩ = some (.int .i64 id)) := num_cell w2 _
      have HOA : Hid (Iw (w2.alloc (.cells #[.int .i64 id] 3)) w1.heap.size v l) := hv.alloc _
      have HSZ : Hid (w1.heap.size ≤ (w2.alloc (.cells #[.int .i64 id] 3)).heap.size) := ialloc_le hb2.size _
      have HB2 : Hid (Below w1.heap.size w1 (w2.alloc (.cells #[.int .i64 id] 3))) := hb2.alloc hb2.size _
      clear hv hb2 d0 d1
      go_wp2_with (first
        | (at_builtin; refine wp_num rfl _ _ rfl w1.heap.size w2.heap.size _ l id rfl rfl HOA.out HG.out (by have := HLN.out; omega) HSZ.out ?_)
        | go_in)
      intro v' w4 hL4 hg4
      have hb4 : Below w1.heap.size w1 w4 := iown_bel HOA.out hg4 HB2.out (Nat.le_refl _) HSZ.out
      have HX4 : Hid (Bxs w w4 h b) := HX1.out.next hb4
      obtain ⟨a, cap, rfl, hr, _, _⟩ := hL4.row
      obtain ⟨n, hn⟩ : ∃ n, (l ++ [id]).length = n := ⟨_, rfl⟩
      have hn2 : n ≤ 1000 := by rw [← hn, List.length_append]; have := HLN.out; simp; omega
      rw [hn] at hr ⊢
      have HRR : Hid (RowN w4 a n (l ++ [id]) ∧ n ≤ 1000) := ⟨hr, hn2⟩
      clear hL4 hg4 hb4 hr hn hn2 HOA HB2 HG HSZ HX2
      go_wp2_with fail
      refine (HWO.out _ _ _ _ HRR.out.1 HRR.out.2).mono ?_
      rintro e w5 ⟨rfl, hb5⟩
      have HX5 : Hid (Bxs w w5 h b) := HX4.out.next hb5
      have z0 := HX5.out.out.cell 0
      have z1 := HX5.out.out.cell 1
      have y0 := HX5.out.out.free 0
      have y1 := HX5.out.out.free 1
      have HXX := (HX5.out.out.set 0 (.int .i64 id)).set 1 (.int .u64 ((took h b id : Nat) : Int))
      have R0 : Hid (_ = _) := HXX.cell 0
      have R1 : Hid (_ = _) := HXX.cell 1
      have HB : Hid (Below w.heap.size w ((w5.setCell ⟨w.heap.size + 1, 0, none⟩ (.int .i64 id)).setCell ⟨w.heap.size + 1, 1, none⟩ (.int .u64 ((took h b id : Nat) : Int)))) := bel_set (bel_set HX5.out.bel _ _ _ (Nat.le_succ _)) _ _ _ (Nat.le_succ _)
      clear HXX hb5 HX4 HX5 HRR
      go_wp2_with fail
      exact bodyPost_ret (v := .tuple #[.agg #[.int .i64 id, .int .u64 ((took h b id : Nat) : Int)], .int .i64 0]) (by simp [results, Tryd.results15, R0.out, R1.out, go_sem]) rfl ⟨id, took h b id, 0, rfl, HJI.out, fun h => absurd rfl h, fun _ => ⟨HMX.out.symm, rfl⟩, HB.out⟩
    · have hmx : max h id = h := by omega
      clear i1 i2 l1 l2
      have HWO : Hid (∀ W a n cap, RowN W a n (l ++ [id]) → n ≤ 1000 → Calls Tryd.prog 28 #[.int .i64 h, .slice a n cap] W fun e w' => GaveW W h (took h b id) e w') := by have := HWO0.out; rw [hmx] at this; exact this
      have HMX : Hid (max h id = h) := hmx
      clear HWO0 hmx
      go_wp2_with fail
      refine (HME.out _).mono ?_
      rintro e w2 ⟨v, rfl, hv, hb2⟩
      have HX2 : Hid (Bxs w w2 h b) := HX1.out.next hb2
      have HG : Hid ((w2.alloc (.cells #[.int .i64 id] 3)).cell? ⟨w2.heap.size, 0, none⟩ = some (.int .i64 id)) := num_cell w2 _
      have HOA : Hid (Iw (w2.alloc (.cells #[.int .i64 id] 3)) w1.heap.size v l) := hv.alloc _
      have HSZ : Hid (w1.heap.size ≤ (w2.alloc (.cells #[.int .i64 id] 3)).heap.size) := ialloc_le hb2.size _
      have HB2 : Hid (Below w1.heap.size w1 (w2.alloc (.cells #[.int .i64 id] 3))) := hb2.alloc hb2.size _
      clear hv hb2 d0 d1
      go_wp2_with (first
        | (at_builtin; refine wp_num rfl _ _ rfl w1.heap.size w2.heap.size _ l id rfl rfl HOA.out HG.out (by have := HLN.out; omega) HSZ.out ?_)
        | go_in)
      intro v' w4 hL4 hg4
      have hb4 : Below w1.heap.size w1 w4 := iown_bel HOA.out hg4 HB2.out (Nat.le_refl _) HSZ.out
      have HX4 : Hid (Bxs w w4 h b) := HX1.out.next hb4
      obtain ⟨a, cap, rfl, hr, _, _⟩ := hL4.row
      obtain ⟨n, hn⟩ : ∃ n, (l ++ [id]).length = n := ⟨_, rfl⟩
      have hn2 : n ≤ 1000 := by rw [← hn, List.length_append]; have := HLN.out; simp; omega
      rw [hn] at hr ⊢
      have HRR : Hid (RowN w4 a n (l ++ [id]) ∧ n ≤ 1000) := ⟨hr, hn2⟩
      clear hL4 hg4 hb4 hr hn hn2 HOA HB2 HG HSZ HX2
      go_wp2_with fail
      refine (HWO.out _ _ _ _ HRR.out.1 HRR.out.2).mono ?_
      rintro e w5 ⟨rfl, hb5⟩
      have HX5 : Hid (Bxs w w5 h b) := HX4.out.next hb5
      have z0 := HX5.out.out.cell 0
      have z1 := HX5.out.out.cell 1
      have y0 := HX5.out.out.free 0
      have y1 := HX5.out.out.free 1
      have HXX := (HX5.out.out.set 0 (.int .i64 h)).set 1 (.int .u64 ((took h b id : Nat) : Int))
      have R0 : Hid (_ = _) := HXX.cell 0
      have R1 : Hid (_ = _) := HXX.cell 1
      have HB : Hid (Below w.heap.size w ((w5.setCell ⟨w.heap.size + 1, 0, none⟩ (.int .i64 h)).setCell ⟨w.heap.size + 1, 1, none⟩ (.int .u64 ((took h b id : Nat) : Int)))) := bel_set (bel_set HX5.out.bel _ _ _ (Nat.le_succ _)) _ _ _ (Nat.le_succ _)
      clear HXX hb5 HX4 HX5 HRR
      go_wp2_with fail
      exact bodyPost_ret (v := .tuple #[.agg #[.int .i64 h, .int .u64 ((took h b id : Nat) : Int)], .int .i64 0]) (by simp [results, Tryd.results15, R0.out, R1.out, go_sem]) rfl ⟨h, took h b id, 0, rfl, HJI.out, fun h => absurd rfl h, fun _ => ⟨HMX.out.symm, rfl⟩, HB.out⟩
  · have HNZ : Hid (c ≠ 0) := hc
    have hq : (c != 0) = true := by simp [hc]
    have z0 := HX1.out.out.cell 0
    have z1 := HX1.out.out.cell 1
    have y0 := HX1.out.out.free 0
    have y1 := HX1.out.out.free 1
    have HXX := (HX1.out.out.set 0 (.int .i64 0)).set 1 (.int .u64 0)
    have R0 : Hid (_ = _) := HXX.cell 0
    have R1 : Hid (_ = _) := HXX.cell 1
    have HB : Hid (Below w.heap.size w ((w1.setCell ⟨w.heap.size + 1, 0, none⟩ (.int .i64 0)).setCell ⟨w.heap.size + 1, 1, none⟩ (.int .u64 0))) := bel_set (bel_set HX1.out.bel _ _ _ (Nat.le_succ _)) _ _ _ (Nat.le_succ _)
    clear HXX HX1 hc
    go_wp2_with fail
    exact bodyPost_ret (v := .tuple #[.agg #[.int .i64 0, .int .u64 0], .int .i64 c]) (by simp [results, Tryd.results15, R0.out, R1.out, go_sem]) rfl ⟨0, 0, c, rfl, HJI.out, fun _ => ⟨rfl, rfl⟩, fun h => absurd h HNZ.out, HB.out⟩

end Go.Proofs.YtmpapnblpjnlmaaDoor.win
