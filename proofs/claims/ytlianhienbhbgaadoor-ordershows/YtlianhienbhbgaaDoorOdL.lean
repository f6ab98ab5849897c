/- The line of an act. -/
import Derived.Test.YtlianhienbhbgaaDoorOdT
import Derived.Test.YtlianhienbhbgaaDoorOdS
namespace Go.Proofs.YtlianhienbhbgaaDoor.odr
open Go.RowKit
open Go.Proofs.YtlianhienbhbgaaDoor.rcp (Ls)
open Go.Proofs.YtlianhienbhbgaaDoor.irow (Iw iown_far)
set_option maxRecDepth 100000
set_option linter.unusedVariables false
set_option linter.unusedSimpArgs false

def tl (ha hb hc : Bool) (me a b c : Int) : List Int := opt true me ++ (opt ha a ++ (opt hb b ++ opt hc c))
theorem tl_len (ha hb hc : Bool) (me a b c : Int) : 0 < (tl ha hb hc me a b c).length ∧ (tl ha hb hc me a b c).length ≤ 4 := by
  have h2 := opt_len ha a
  have h3 := opt_len hb b
  have h4 := opt_len hc c
  unfold tl
  simp only [List.length_append]
  have : (opt true me).length = 1 := rfl
  omega
theorem take_snoc (l : List Int) (i : Nat) (h : i < l.length) : l.take (i + 1) = l.take i ++ [l.getD i 0] := by
  rw [List.take_add_one]
  congr 1
  simp [List.getD, h]
/-- The line, out of its pieces. -/
def lineB (cut : Int) (fs : ByteArray) (l : List Int) (ht : Bool) (t : ByteArray) : List UInt8 := Lib.join ((pcs cut fs l ++ opt ht t).map (·.data.toList)) [32]
theorem pjoin (xs : List ByteArray) (w : World) (v : Value) (base : Nat) (hv : Ls 9 w base v xs) (h0 : 0 < xs.length) (hN : xs.length ≤ 100) (hl : lensB xs ≤ 140737488355000) :
    Calls Tryd.prog 27 #[v, .string ⟨#[32]⟩] w fun e w' => e = .returned (.string (ba (Lib.join (xs.map (·.data.toList)) [32]))) ∧ Below w.heap.size w w' := by
  obtain ⟨g, cap, rfl, _, hg, hcap, hc⟩ := hv.row h0
  have hj := join_le xs
  exact Tryd.strings_Join g 0 cap xs ⟨#[32]⟩ w (fun j x hx => by
    have hj : j < xs.length := by
      rcases Nat.lt_or_ge j xs.length with h | h
      · exact h
      · rw [List.getElem?_eq_none h] at hx; cases hx
    have := hc j hj
    rw [List.getD_eq_getElem?_getD, hx] at this
    simpa using this) hg (by omega) hcap (by show (Lib.join (xs.map (·.data.toList)) [32]).length ≤ _; omega)

set_option maxHeartbeats 4000000 in
theorem pline (fs : ByteArray) (ha hb hc ht : Bool) (x : Ac) (w : World) (hl : ∀ n ∈ tl ha hb hc x.me x.a x.b x.c, 0 ≤ n ∧ n ≤ 1000000000000) (hcut : -1 ≤ x.cut ∧ x.cut ≤ 4096) (hf : fs.size ≤ 100) (htx : x.t.size ≤ 140737488354304) (htab : Tab w) :
    Calls Tryd.prog 15 #[.agg #[.string fs, .bool true, .bool ha, .bool hb, .bool hc, .bool ht], x.v] w fun e w' => e = .returned (.string (ba (lineB x.cut fs (tl ha hb hc x.me x.a x.b x.c) ht x.t))) ∧ Below w.heap.size w w' := by
  have HN : Hid (∀ W, Calls Tryd.prog 12 #[.agg #[.string fs, .bool true, .bool ha, .bool hb, .bool hc, .bool ht], x.v] W fun e w' => ∃ v, e = .returned v ∧ Iw w' W.heap.size v (tl ha hb hc x.me x.a x.b x.c) ∧ Below W.heap.size W w') := fun W => ptold fs true ha hb hc ht x W
  obtain ⟨k, me, a, b, c, t, cut⟩ := x
  obtain ⟨hl0, hl4⟩ := tl_len ha hb hc me a b c
  simp only at hl hcut htx HN ⊢
  have HLP : Hid (∀ l : List Int, (∀ n ∈ l, 0 ≤ n ∧ n ≤ 1000000000000) → l.length ≤ 4 → lensB (pcs cut fs l) ≤ 300) := fun l h1 h2 => pcs_small cut fs l hcut hf h1 h2
  have HTB : Hid (∀ W, Below w.heap.size w W → Tab W) := fun W hW => Lib.tabBelow_of_tabIs htab W hW
  generalize tl ha hb hc me a b c = l at *
  have HLL : Hid (∀ n ∈ l, 0 ≤ n ∧ n ≤ 1000000000000) := hl
  clear hl htab hf
  unfold Ac.v Ac.cells at *
  simp only at HN
  have HF0 : Hid (Blk ((w.alloc (.cells #[.string fs, .bool true, .bool ha, .bool hb, .bool hc, .bool ht] 34)).alloc (.cells #[.int .i64 k, .int .i64 me, .int .i64 a, .int .i64 b, .int .i64 c, .string t, .int .i64 cut] 23)) w.heap.size #[.string fs, .bool true, .bool ha, .bool hb, .bool hc, .bool ht] 34) := (Blk.new _ _ _).alloc _
  have HX0 : Hid (Blk ((w.alloc (.cells #[.string fs, .bool true, .bool ha, .bool hb, .bool hc, .bool ht] 34)).alloc (.cells #[.int .i64 k, .int .i64 me, .int .i64 a, .int .i64 b, .int .i64 c, .string t, .int .i64 cut] 23)) (w.heap.size + 1) #[.int .i64 k, .int .i64 me, .int .i64 a, .int .i64 b, .int .i64 c, .string t, .int .i64 cut] 23) := Blk.new1 _ _ _ _
  have HB0 : Hid (Below w.heap.size w ((w.alloc (.cells #[.string fs, .bool true, .bool ha, .bool hb, .bool hc, .bool ht] 34)).alloc (.cells #[.int .i64 k, .int .i64 me, .int .i64 a, .int .i64 b, .int .i64 c, .string t, .int .i64 cut] 23))) := ((Below.refl _ _).alloc (Nat.le_refl _) _).alloc (by simp) _
  have hs0 : w.heap.size + 2 ≤ (((w.alloc (.cells #[.string fs, .bool true, .bool ha, .bool hb, .bool hc, .bool ht] 34)).alloc (.cells #[.int .i64 k, .int .i64 me, .int .i64 a, .int .i64 b, .int .i64 c, .string t, .int .i64 cut] 23))).heap.size := by simp
  obtain ⟨base, hbase⟩ : ∃ n, w.heap.size + 2 = n := ⟨_, rfl⟩
  go_enter Tryd.func15, Tryd.ntmps15
  go_upto_region 2 with fail
  generalize ((w.alloc (.cells #[.string fs, .bool true, .bool ha, .bool hb, .bool hc, .bool ht] 34)).alloc (.cells #[.int .i64 k, .int .i64 me, .int .i64 a, .int .i64 b, .int .i64 c, .string t, .int .i64 cut] 23)) = W0 at *
  by_cases hq : cut = -1
  · have x6 : W0.cell? ⟨w.heap.size + 1, 6, none⟩ = some (.int .i64 (-1)) := by have := HX0.out.cell 6; rw [hq] at this; exact this
    obtain ⟨P0, hP0⟩ : ∃ P0 : List ByteArray, P0 = [] := ⟨_, rfl⟩
    have HPQ : Hid (P0 ++ fs :: l.map (fun n => ba (Lib.itoa n)) = pcs cut fs l) := by show _ = _; rw [hP0]; unfold pcs; rw [if_pos hq]
    have HP0 : Hid (P0.length ≤ 2) := by show _ ≤ _; rw [hP0]; simp
    have HV : Hid (Ls 9 W0 base (.slice none 0 0) P0) := by show Ls _ _ _ _ _; rw [hP0]; exact Ls.zero _ _ _
    have HF : Hid (Blk W0 w.heap.size #[.string fs, .bool true, .bool ha, .bool hb, .bool hc, .bool ht] 34) := HF0.out
    have HX : Hid (Blk W0 (w.heap.size + 1) #[.int .i64 k, .int .i64 me, .int .i64 a, .int .i64 b, .int .i64 c, .string t, .int .i64 cut] 23) := HX0.out
    have HB : Hid (Below w.heap.size w W0) := HB0.out
    have HSZ : Hid (base ≤ W0.heap.size) := by show _ ≤ _; omega
    have HQ : Hid (cut = -1) := hq
    clear hP0 HF0 HX0 HB0 hs0 hq hcut
    go_upto_region 4 with fail
    clear x6
    have f0 : W0.cell? ⟨w.heap.size, 0, none⟩ = some (.string fs) := HF.out.cell 0
    have hsw : base ≤ W0.heap.size := HSZ.out
    have HUA : Hid (∀ o, Ls 9 (W0.alloc o) base (.slice none 0 0) P0) := fun o => HV.out.alloc o
    have HFA : Hid (∀ o, Blk (W0.alloc o) w.heap.size #[.string fs, .bool true, .bool ha, .bool hb, .bool hc, .bool ht] 34) := fun o => HF.out.alloc o
    have HXA : Hid (∀ o, Blk (W0.alloc o) (w.heap.size + 1) #[.int .i64 k, .int .i64 me, .int .i64 a, .int .i64 b, .int .i64 c, .string t, .int .i64 cut] 23) := fun o => HX.out.alloc o
    have HBA : Hid (∀ o, Below w.heap.size w (W0.alloc o)) := fun o => HB.out.alloc HB.out.size o
    have hp0 : P0.length ≤ 2 := HP0.out
    clear HF HX HB HSZ HP0
    go_wp2_with (first | (at_builtin; refine wp_strs rfl _ _ rfl base W0.heap.size 1 (.slice none 0 0) P0 [fs] rfl rfl rfl (HUA.out _) (str_cell _ _ _) (by omega) (by simp) (by simp; omega) ?_; intro v3 w3 h3 hg3 ho3; have HV1 : Hid (Ls 9 w3 base v3 (P0 ++ [fs])) := h3; have HF1 : Hid (Blk w3 w.heap.size #[.string fs, .bool true, .bool ha, .bool hb, .bool hc, .bool ht] 34) := irow.Blk.grown (HFA.out _) hg3 (ls_far HV.out (by omega)); have HX1 : Hid (Blk w3 (w.heap.size + 1) #[.int .i64 k, .int .i64 me, .int .i64 a, .int .i64 b, .int .i64 c, .string t, .int .i64 cut] 23) := irow.Blk.grown (HXA.out _) hg3 (ls_far HV.out (by omega)); have HB1 : Hid (Below w.heap.size w w3) := ls_bel (HUA.out _) hg3 (HBA.out _) (by omega) (by simp; omega); have hs3 : base ≤ w3.heap.size := Nat.le_trans (by simp; omega) hg3.size; clear h3 hg3 ho3 HUA HFA HXA HBA) | (refine wp_whole rfl 34 _ rfl w.heap.size rfl 34 _ _ HF1.out Tryd.underlying34 rfl (by kernel_rfl) ?_) | (refine wp_whole rfl 23 _ rfl (w.heap.size + 1) rfl 23 _ _ HX1.out Tryd.underlying23 rfl (by kernel_rfl) ?_) | fail)
    refine (HN.out _).mono ?_
    rintro e W2 ⟨vT, rfl, hiw, hb2⟩
    have HV2 : Hid (Ls 9 W2 base v3 (P0 ++ [fs])) := HV1.out.next hb2
    have HF2 : Hid (Blk W2 w.heap.size #[.string fs, .bool true, .bool ha, .bool hb, .bool hc, .bool ht] 34) := HF1.out.next hb2
    have HX2 : Hid (Blk W2 (w.heap.size + 1) #[.int .i64 k, .int .i64 me, .int .i64 a, .int .i64 b, .int .i64 c, .string t, .int .i64 cut] 23) := HX1.out.next hb2
    have HB2 : Hid (Below w.heap.size w W2) := bel_step HB1.out hb2
    have hs2 : base ≤ W2.heap.size := Nat.le_trans hs3 hb2.size
    obtain ⟨aT, capT, rfl, ⟨_, hrow⟩, _, _⟩ := hiw.row
    obtain ⟨gT, offT, rfl, hcT⟩ : ∃ b off, aT = some ⟨b, off, none⟩ ∧ ∀ i, i < l.length → W2.cell? ⟨b, off + i, none⟩ = some (.int .i64 (l.getD i 0)) := by
      rcases hrow with h | h
      · omega
      · exact h
    have HCT : Hid (∀ i, i < l.length → W2.cell? ⟨gT, offT + i, none⟩ = some (.int .i64 (l.getD i 0))) := hcT
    have hfar : some gT ≠ v3.ownBlock := by
      obtain ⟨_, hr2 | ⟨g, cp, cu, hv, hg, _⟩⟩ := hiw
      · exact absurd hr2.2 (by omega)
      · injection hv with hv _ _
        injection hv with hv
        injection hv with hv _ _
        subst hv
        exact ls_lt HV1.out hg
    have HFAR : Hid (some gT ≠ v3.ownBlock) := hfar
    have hgT : gT < W2.heap.size := World.block_lt_of_cell? W2 _ (HCT.out 0 hl0)
    clear hrow hcT hiw hfar hb2 HV1 HF1 HX1 HB1 hs3 HN f0
    go_wp2_with fail
    go_loopw [5, 26] (fun v5 v26 wr => ∃ (i : Nat) (V : Value), i ≤ l.length ∧ v26 = .int .i64 (i : Int) ∧ V = v5 ∧ Ls 9 wr base V (P0 ++ fs :: (l.take i).map (fun n => ba (Lib.itoa n))) ∧ Blk wr w.heap.size #[.string fs, .bool true, .bool ha, .bool hb, .bool hc, .bool ht] 34 ∧ Blk wr (w.heap.size + 1) #[.int .i64 k, .int .i64 me, .int .i64 a, .int .i64 b, .int .i64 c, .string t, .int .i64 cut] 23 ∧ (∀ i, i < l.length → wr.cell? ⟨gT, offT + i, none⟩ = some (.int .i64 (l.getD i 0))) ∧ some gT ≠ V.ownBlock ∧ gT < wr.heap.size ∧ Below w.heap.size w wr ∧ base ≤ wr.heap.size) (fun _ v _ => l.length - (intOf v).toNat)
    case atStart => exact ⟨0, _, by omega, rfl, rfl, by simpa using HV2.out, HF2.out, HX2.out, HCT.out, HFAR.out, hgT, HB2.out, hs2⟩
    case round =>
      obtain ⟨i, V, hi, rfl, hV, hls, hfb, hxb, hct, hfr, hgt, hbl, hbs⟩ := hrel
      subst hV
      have HLi : Hid (Ls 9 wr base V (P0 ++ fs :: (l.take i).map (fun n => ba (Lib.itoa n)))) := hls
      have HFi : Hid (Blk wr w.heap.size #[.string fs, .bool true, .bool ha, .bool hb, .bool hc, .bool ht] 34) := hfb
      have HXi : Hid (Blk wr (w.heap.size + 1) #[.int .i64 k, .int .i64 me, .int .i64 a, .int .i64 b, .int .i64 c, .string t, .int .i64 cut] 23) := hxb
      have HCi : Hid (∀ i, i < l.length → wr.cell? ⟨gT, offT + i, none⟩ = some (.int .i64 (l.getD i 0))) := hct
      have HFR : Hid (some gT ≠ V.ownBlock) := hfr
      have HBi : Hid (Below w.heap.size w wr) := hbl
      clear hls hfb hxb hct hfr hbl HV2 HF2 HX2 HCT HFAR HB2
      by_cases hlt : i < l.length
      · obtain ⟨n, hn⟩ : ∃ n, l.getD i 0 = n := ⟨_, rfl⟩
        have hci := HCi.out i hlt
        rw [hn] at hci
        have HTK : Hid (P0 ++ fs :: (l.take i).map (fun n => ba (Lib.itoa n)) ++ [ba (Lib.itoa n)] = P0 ++ fs :: (l.take (i + 1)).map (fun n => ba (Lib.itoa n))) := by
          show _ = _
          rw [take_snoc l i hlt, hn]
          simp
        have hnb : 0 ≤ n ∧ n ≤ 1000000000000 := HLL.out n (by
          have e : l.getD i 0 = l[i] := by simp [List.getD, hlt]
          rw [← hn, e]
          exact List.getElem_mem hlt)
        have HIT : Hid (Calls Tryd.prog 26 #[.int .i64 n] wr fun e w' => e = .returned (.string (ba (Lib.itoa n))) ∧ Below wr.heap.size wr w') := pitoa n wr (by omega) hnb.2 (HTB.out wr HBi.out)
        have hlen : (P0 ++ fs :: (l.take i).map (fun n => ba (Lib.itoa n))).length ≤ 20 := by simp; omega
        clear hn hnb
        generalize hS : ba (Lib.itoa n) = S at *
        clear hS
        go_wp2_with fail
        refine HIT.out.mono ?_
        rintro e W4 ⟨rfl, hb4⟩
        have HL4 : Hid (∀ o, Ls 9 (W4.alloc o) base V (P0 ++ fs :: (l.take i).map (fun n => ba (Lib.itoa n)))) := fun o => (HLi.out.next hb4).alloc o
        have HV4 : Hid (Ls 9 W4 base V (P0 ++ fs :: (l.take i).map (fun n => ba (Lib.itoa n)))) := HLi.out.next hb4
        have HF4 : Hid (∀ o, Blk (W4.alloc o) w.heap.size #[.string fs, .bool true, .bool ha, .bool hb, .bool hc, .bool ht] 34) := fun o => (HFi.out.next hb4).alloc o
        have HX4 : Hid (∀ o, Blk (W4.alloc o) (w.heap.size + 1) #[.int .i64 k, .int .i64 me, .int .i64 a, .int .i64 b, .int .i64 c, .string t, .int .i64 cut] 23) := fun o => (HXi.out.next hb4).alloc o
        have HB4 : Hid (∀ o, Below w.heap.size w (W4.alloc o)) := fun o => (bel_step HBi.out hb4).alloc (bel_step HBi.out hb4).size o
        have HC4 : Hid (∀ o i, i < l.length → (W4.alloc o).cell? ⟨gT, offT + i, none⟩ = some (.int .i64 (l.getD i 0))) := fun o i hi => by
          have h1 := HCi.out i hi
          rw [← hb4.cell (p := ⟨gT, offT + i, none⟩) hgt] at h1
          exact (((Below.refl W4.heap.size W4).alloc (Nat.le_refl _) o).cell (p := ⟨gT, offT + i, none⟩) (Nat.lt_of_lt_of_le hgt hb4.size)).trans h1
        have hs4 : base ≤ W4.heap.size := Nat.le_trans hbs hb4.size
        have hg4 : gT < W4.heap.size := Nat.lt_of_lt_of_le hgt hb4.size
        clear HLi HFi HXi HBi HCi hb4 HIT hci
        go_wp2_with (first | (at_builtin; refine wp_strs rfl _ _ rfl base W4.heap.size 1 V (P0 ++ fs :: (l.take i).map (fun n => ba (Lib.itoa n))) [S] rfl rfl rfl (HL4.out _) (str_cell _ _ _) (by omega) (by simp) (by simp; omega) ?_; intro v5 w5 h5 hg5 ho5; have HV5 : Hid (Ls 9 w5 base v5 (P0 ++ fs :: (l.take (i + 1)).map (fun n => ba (Lib.itoa n)))) := (by have h5' := h5; rw [HTK.out] at h5'; exact h5'); have HF5 : Hid (Blk w5 w.heap.size #[.string fs, .bool true, .bool ha, .bool hb, .bool hc, .bool ht] 34) := irow.Blk.grown (HF4.out _) hg5 (ls_far HV4.out (by omega)); have HX5 : Hid (Blk w5 (w.heap.size + 1) #[.int .i64 k, .int .i64 me, .int .i64 a, .int .i64 b, .int .i64 c, .string t, .int .i64 cut] 23) := irow.Blk.grown (HX4.out _) hg5 (ls_far HV4.out (by omega)); have HB5 : Hid (Below w.heap.size w w5) := ls_bel (HL4.out _) hg5 (HB4.out _) (by omega) (by simp; omega); have hs5 : base ≤ w5.heap.size := Nat.le_trans (by simp; omega) hg5.size; have HC5 : Hid (∀ i, i < l.length → w5.cell? ⟨gT, offT + i, none⟩ = some (.int .i64 (l.getD i 0))) := (fun i hi => cell_far (HC4.out _ i hi) hg5 HFR.out); have HR5 : Hid (some gT ≠ v5.ownBlock) := (by rcases ho5 with e | e <;> rw [e] <;> first | exact HFR.out | (intro e2; injection e2 with e2; simp at e2; omega)); have hg5' : gT < w5.heap.size := Nat.lt_of_lt_of_le (by simp; omega) hg5.size; clear h5 hg5 ho5) | fail)
        go_roundw
        case rel => exact ⟨i + 1, v5, by omega, by go_num, rfl, HV5.out, HF5.out, HX5.out, HC5.out, HR5.out, hg5', HB5.out, hs5⟩
        case measure => simp [intOf]; omega
      · have hie : i = l.length := by omega
        have HL6 : Hid (Ls 9 wr base V (pcs cut fs l)) := by
          have h := HLi.out
          rw [hie, List.take_length] at h
          rw [← HPQ.out]
          exact h
        have hlen : (pcs cut fs l).length ≤ 7 := by have := pcs_len cut fs l; omega
        have hpos : 0 < (pcs cut fs l).length := by rw [← HPQ.out, List.length_append, List.length_cons]; omega
        have cb : wr.cell? ⟨w.heap.size, 5, none⟩ = some (.bool ht) := HFi.out.cell 5
        have hsm := HLP.out l HLL.out hl4
        clear HLi HFi HCi HFR hie
        cases ht with
        | true =>
          have c5 : wr.cell? ⟨w.heap.size + 1, 5, none⟩ = some (.string t) := HXi.out.cell 5
          have HL4 : Hid (∀ o, Ls 9 (wr.alloc o) base V (pcs cut fs l)) := fun o => HL6.out.alloc o
          have HB4 : Hid (∀ o, Below w.heap.size w (wr.alloc o)) := fun o => HBi.out.alloc HBi.out.size o
          have HJ : Hid (∀ W v, Ls 9 W base v (pcs cut fs l ++ [t]) → Calls Tryd.prog 27 #[v, .string ⟨#[32]⟩] W fun e w' => e = .returned (.string (ba (lineB cut fs l true t))) ∧ Below W.heap.size W w') := fun W v h => pjoin (pcs cut fs l ++ [t]) W v base h (by simp) (by simp; omega) (by
            have : lensB (pcs cut fs l ++ [t]) = lensB (pcs cut fs l) + t.size := by unfold lensB; simp
            omega)
          clear HXi HBi
          generalize pcs cut fs l = R at *
          obtain ⟨LN, hLN⟩ : ∃ LN, lineB cut fs l true t = LN := ⟨_, rfl⟩
          have HLN : Hid (lineB cut fs l true t = LN) := hLN
          rw [hLN] at HJ
          clear hLN
          go_wp2_with (first | (at_builtin; refine wp_strs rfl _ _ rfl base wr.heap.size 1 V R [t] rfl rfl rfl (HL4.out _) (str_cell _ _ _) (by omega) (by simp) (by simp; omega) ?_; intro v5 w5 h5 hg5 ho5; have HV5 : Hid (Ls 9 w5 base v5 (R ++ [t])) := h5; have HB5 : Hid (Below w.heap.size w w5) := ls_bel (HL4.out _) hg5 (HB4.out _) (by omega) (by simp; omega); clear h5 hg5 ho5) | fail)
          refine (HJ.out _ _ HV5.out).mono ?_
          rintro e W7 ⟨rfl, hb7⟩
          have HB7 : Hid (Below w.heap.size w W7) := bel_step HB5.out hb7
          clear hb7
          go_wp2_with fail
          go_ret
          exact ⟨by rw [HLN.out]; rfl, HB7.out⟩
        | false =>
          have HJ : Hid (Calls Tryd.prog 27 #[V, .string ⟨#[32]⟩] wr fun e w' => e = .returned (.string (ba (lineB cut fs l false t))) ∧ Below wr.heap.size wr w') := by
            have e : pcs cut fs l ++ opt false t = pcs cut fs l := List.append_nil _
            unfold lineB
            rw [e]
            exact pjoin (pcs cut fs l) wr V base HL6.out hpos (by omega) (by omega)
          clear HXi
          obtain ⟨LN, hLN⟩ : ∃ LN, lineB cut fs l false t = LN := ⟨_, rfl⟩
          have HLN : Hid (lineB cut fs l false t = LN) := hLN
          rw [hLN] at HJ
          clear hLN
          go_wp2_with fail
          refine HJ.out.mono ?_
          rintro e W7 ⟨rfl, hb7⟩
          have HB7 : Hid (Below w.heap.size w W7) := bel_step HBi.out hb7
          clear hb7
          go_wp2_with fail
          go_ret
          exact ⟨by rw [HLN.out]; rfl, HB7.out⟩
  · have x6 : W0.cell? ⟨w.heap.size + 1, 6, none⟩ = some (.int .i64 cut) := HX0.out.cell 6
    have hq' : (cut != -1) = true := by simpa using hq
    have HIT : Hid (Calls Tryd.prog 26 #[.int .i64 cut] W0 fun e w' => e = .returned (.string (ba (Lib.itoa cut))) ∧ Below W0.heap.size W0 w') := pitoa cut W0 (by omega) (by omega) (HTB.out W0 HB0.out)
    have HPQ : Hid ([ba cutW, ba (Lib.itoa cut)] ++ fs :: l.map (fun n => ba (Lib.itoa n)) = pcs cut fs l) := by show _ = _; unfold pcs; rw [if_neg hq]
    have hcW : ba cutW = ⟨#[99, 117, 116]⟩ := rfl
    rw [hcW] at HPQ
    clear hq hcut hcW
    generalize ba (Lib.itoa cut) = S0 at *
    go_wp2_with fail
    refine HIT.out.mono ?_
    rintro e W1 ⟨rfl, hb1⟩
    have HVo : Hid (Ls 9 W1 base (.slice none 0 0) []) := Ls.zero _ _ _
    have HLo : Hid (∀ o, Ls 9 (W1.alloc o) base (.slice none 0 0) []) := fun o => Ls.zero _ _ _
    have HFo : Hid (∀ o, Blk (W1.alloc o) w.heap.size #[.string fs, .bool true, .bool ha, .bool hb, .bool hc, .bool ht] 34) := fun o => (HF0.out.next hb1).alloc o
    have HXo : Hid (∀ o, Blk (W1.alloc o) (w.heap.size + 1) #[.int .i64 k, .int .i64 me, .int .i64 a, .int .i64 b, .int .i64 c, .string t, .int .i64 cut] 23) := fun o => (HX0.out.next hb1).alloc o
    have HBo : Hid (∀ o, Below w.heap.size w (W1.alloc o)) := fun o => (bel_step HB0.out hb1).alloc (bel_step HB0.out hb1).size o
    have hso : base ≤ W1.heap.size := by have := hb1.size; omega
    clear HF0 HX0 HB0 hs0 hb1 HIT x6 hq'
    go_upto_region 4 with (first | (at_builtin; refine wp_strs rfl _ _ rfl base W1.heap.size 2 (.slice none 0 0) [] [⟨#[99, 117, 116]⟩, S0] rfl rfl rfl (HLo.out _) (str_cell2 _ _ _ _) (by simp) (by simp) (by simp; omega) ?_; intro vP wP hP hgP hoP; have HV' : Hid (Ls 9 wP base vP ([] ++ [⟨#[99, 117, 116]⟩, S0])) := hP; have HF : Hid (Blk wP w.heap.size #[.string fs, .bool true, .bool ha, .bool hb, .bool hc, .bool ht] 34) := irow.Blk.grown (HFo.out _) hgP (ls_far HVo.out (by omega)); have HX : Hid (Blk wP (w.heap.size + 1) #[.int .i64 k, .int .i64 me, .int .i64 a, .int .i64 b, .int .i64 c, .string t, .int .i64 cut] 23) := irow.Blk.grown (HXo.out _) hgP (ls_far HVo.out (by omega)); have HB : Hid (Below w.heap.size w wP) := ls_bel (HLo.out _) hgP (HBo.out _) (by omega) (by simp; omega); have HSZ : Hid (base ≤ wP.heap.size) := Nat.le_trans (by simp; omega) hgP.size; clear hP hgP hoP HLo HFo HXo HBo) | fail)
    obtain ⟨P0, hP0⟩ : ∃ P0 : List ByteArray, P0 = [⟨#[99, 117, 116]⟩, S0] := ⟨_, rfl⟩
    have HP0 : Hid (P0.length ≤ 2) := by show _ ≤ _; rw [hP0]; simp
    have HV : Hid (Ls 9 wP base vP P0) := by show Ls _ _ _ _ _; rw [hP0]; exact HV'.out
    rw [← hP0] at HPQ
    clear hP0 HV' HVo
    have f0 : wP.cell? ⟨w.heap.size, 0, none⟩ = some (.string fs) := HF.out.cell 0
    have hsw : base ≤ wP.heap.size := HSZ.out
    have HUA : Hid (∀ o, Ls 9 (wP.alloc o) base vP P0) := fun o => HV.out.alloc o
    have HFA : Hid (∀ o, Blk (wP.alloc o) w.heap.size #[.string fs, .bool true, .bool ha, .bool hb, .bool hc, .bool ht] 34) := fun o => HF.out.alloc o
    have HXA : Hid (∀ o, Blk (wP.alloc o) (w.heap.size + 1) #[.int .i64 k, .int .i64 me, .int .i64 a, .int .i64 b, .int .i64 c, .string t, .int .i64 cut] 23) := fun o => HX.out.alloc o
    have HBA : Hid (∀ o, Below w.heap.size w (wP.alloc o)) := fun o => HB.out.alloc HB.out.size o
    have hp0 : P0.length ≤ 2 := HP0.out
    clear HF HX HB HSZ HP0
    go_wp2_with (first | (at_builtin; refine wp_strs rfl _ _ rfl base wP.heap.size 1 vP P0 [fs] rfl rfl rfl (HUA.out _) (str_cell _ _ _) (by omega) (by simp) (by simp; omega) ?_; intro v3 w3 h3 hg3 ho3; have HV1 : Hid (Ls 9 w3 base v3 (P0 ++ [fs])) := h3; have HF1 : Hid (Blk w3 w.heap.size #[.string fs, .bool true, .bool ha, .bool hb, .bool hc, .bool ht] 34) := irow.Blk.grown (HFA.out _) hg3 (ls_far HV.out (by omega)); have HX1 : Hid (Blk w3 (w.heap.size + 1) #[.int .i64 k, .int .i64 me, .int .i64 a, .int .i64 b, .int .i64 c, .string t, .int .i64 cut] 23) := irow.Blk.grown (HXA.out _) hg3 (ls_far HV.out (by omega)); have HB1 : Hid (Below w.heap.size w w3) := ls_bel (HUA.out _) hg3 (HBA.out _) (by omega) (by simp; omega); have hs3 : base ≤ w3.heap.size := Nat.le_trans (by simp; omega) hg3.size; clear h3 hg3 ho3 HUA HFA HXA HBA) | (refine wp_whole rfl 34 _ rfl w.heap.size rfl 34 _ _ HF1.out Tryd.underlying34 rfl (by kernel_rfl) ?_) | (refine wp_whole rfl 23 _ rfl (w.heap.size + 1) rfl 23 _ _ HX1.out Tryd.underlying23 rfl (by kernel_rfl) ?_) | fail)
    refine (HN.out _).mono ?_
    rintro e W2 ⟨vT, rfl, hiw, hb2⟩
    have HV2 : Hid (Ls 9 W2 base v3 (P0 ++ [fs])) := HV1.out.next hb2
    have HF2 : Hid (Blk W2 w.heap.size #[.string fs, .bool true, .bool ha, .bool hb, .bool hc, .bool ht] 34) := HF1.out.next hb2
    have HX2 : Hid (Blk W2 (w.heap.size + 1) #[.int .i64 k, .int .i64 me, .int .i64 a, .int .i64 b, .int .i64 c, .string t, .int .i64 cut] 23) := HX1.out.next hb2
    have HB2 : Hid (Below w.heap.size w W2) := bel_step HB1.out hb2
    have hs2 : base ≤ W2.heap.size := Nat.le_trans hs3 hb2.size
    obtain ⟨aT, capT, rfl, ⟨_, hrow⟩, _, _⟩ := hiw.row
    obtain ⟨gT, offT, rfl, hcT⟩ : ∃ b off, aT = some ⟨b, off, none⟩ ∧ ∀ i, i < l.length → W2.cell? ⟨b, off + i, none⟩ = some (.int .i64 (l.getD i 0)) := by
      rcases hrow with h | h
      · omega
      · exact h
    have HCT : Hid (∀ i, i < l.length → W2.cell? ⟨gT, offT + i, none⟩ = some (.int .i64 (l.getD i 0))) := hcT
    have hfar : some gT ≠ v3.ownBlock := by
      obtain ⟨_, hr2 | ⟨g, cp, cu, hv, hg, _⟩⟩ := hiw
      · exact absurd hr2.2 (by omega)
      · injection hv with hv _ _
        injection hv with hv
        injection hv with hv _ _
        subst hv
        exact ls_lt HV1.out hg
    have HFAR : Hid (some gT ≠ v3.ownBlock) := hfar
    have hgT : gT < W2.heap.size := World.block_lt_of_cell? W2 _ (HCT.out 0 hl0)
    clear hrow hcT hiw hfar hb2 HV1 HF1 HX1 HB1 hs3 HN f0
    go_wp2_with fail
    go_loopw [5, 26] (fun v5 v26 wr => ∃ (i : Nat) (V : Value), i ≤ l.length ∧ v26 = .int .i64 (i : Int) ∧ V = v5 ∧ Ls 9 wr base V (P0 ++ fs :: (l.take i).map (fun n => ba (Lib.itoa n))) ∧ Blk wr w.heap.size #[.string fs, .bool true, .bool ha, .bool hb, .bool hc, .bool ht] 34 ∧ Blk wr (w.heap.size + 1) #[.int .i64 k, .int .i64 me, .int .i64 a, .int .i64 b, .int .i64 c, .string t, .int .i64 cut] 23 ∧ (∀ i, i < l.length → wr.cell? ⟨gT, offT + i, none⟩ = some (.int .i64 (l.getD i 0))) ∧ some gT ≠ V.ownBlock ∧ gT < wr.heap.size ∧ Below w.heap.size w wr ∧ base ≤ wr.heap.size) (fun _ v _ => l.length - (intOf v).toNat)
    case atStart => exact ⟨0, _, by omega, rfl, rfl, by simpa using HV2.out, HF2.out, HX2.out, HCT.out, HFAR.out, hgT, HB2.out, hs2⟩
    case round =>
      obtain ⟨i, V, hi, rfl, hV, hls, hfb, hxb, hct, hfr, hgt, hbl, hbs⟩ := hrel
      subst hV
      have HLi : Hid (Ls 9 wr base V (P0 ++ fs :: (l.take i).map (fun n => ba (Lib.itoa n)))) := hls
      have HFi : Hid (Blk wr w.heap.size #[.string fs, .bool true, .bool ha, .bool hb, .bool hc, .bool ht] 34) := hfb
      have HXi : Hid (Blk wr (w.heap.size + 1) #[.int .i64 k, .int .i64 me, .int .i64 a, .int .i64 b, .int .i64 c, .string t, .int .i64 cut] 23) := hxb
      have HCi : Hid (∀ i, i < l.length → wr.cell? ⟨gT, offT + i, none⟩ = some (.int .i64 (l.getD i 0))) := hct
      have HFR : Hid (some gT ≠ V.ownBlock) := hfr
      have HBi : Hid (Below w.heap.size w wr) := hbl
      clear hls hfb hxb hct hfr hbl HV2 HF2 HX2 HCT HFAR HB2
      by_cases hlt : i < l.length
      · obtain ⟨n, hn⟩ : ∃ n, l.getD i 0 = n := ⟨_, rfl⟩
        have hci := HCi.out i hlt
        rw [hn] at hci
        have HTK : Hid (P0 ++ fs :: (l.take i).map (fun n => ba (Lib.itoa n)) ++ [ba (Lib.itoa n)] = P0 ++ fs :: (l.take (i + 1)).map (fun n => ba (Lib.itoa n))) := by
          show _ = _
          rw [take_snoc l i hlt, hn]
          simp
        have hnb : 0 ≤ n ∧ n ≤ 1000000000000 := HLL.out n (by
          have e : l.getD i 0 = l[i] := by simp [List.getD, hlt]
          rw [← hn, e]
          exact List.getElem_mem hlt)
        have HIT : Hid (Calls Tryd.prog 26 #[.int .i64 n] wr fun e w' => e = .returned (.string (ba (Lib.itoa n))) ∧ Below wr.heap.size wr w') := pitoa n wr (by omega) hnb.2 (HTB.out wr HBi.out)
        have hlen : (P0 ++ fs :: (l.take i).map (fun n => ba (Lib.itoa n))).length ≤ 20 := by simp; omega
        clear hn hnb
        generalize hS : ba (Lib.itoa n) = S at *
        clear hS
        go_wp2_with fail
        refine HIT.out.mono ?_
        rintro e W4 ⟨rfl, hb4⟩
        have HL4 : Hid (∀ o, Ls 9 (W4.alloc o) base V (P0 ++ fs :: (l.take i).map (fun n => ba (Lib.itoa n)))) := fun o => (HLi.out.next hb4).alloc o
        have HV4 : Hid (Ls 9 W4 base V (P0 ++ fs :: (l.take i).map (fun n => ba (Lib.itoa n)))) := HLi.out.next hb4
        have HF4 : Hid (∀ o, Blk (W4.alloc o) w.heap.size #[.string fs, .bool true, .bool ha, .bool hb, .bool hc, .bool ht] 34) := fun o => (HFi.out.next hb4).alloc o
        have HX4 : Hid (∀ o, Blk (W4.alloc o) (w.heap.size + 1) #[.int .i64 k, .int .i64 me, .int .i64 a, .int .i64 b, .int .i64 c, .string t, .int .i64 cut] 23) := fun o => (HXi.out.next hb4).alloc o
        have HB4 : Hid (∀ o, Below w.heap.size w (W4.alloc o)) := fun o => (bel_step HBi.out hb4).alloc (bel_step HBi.out hb4).size o
        have HC4 : Hid (∀ o i, i < l.length → (W4.alloc o).cell? ⟨gT, offT + i, none⟩ = some (.int .i64 (l.getD i 0))) := fun o i hi => by
          have h1 := HCi.out i hi
          rw [← hb4.cell (p := ⟨gT, offT + i, none⟩) hgt] at h1
          exact (((Below.refl W4.heap.size W4).alloc (Nat.le_refl _) o).cell (p := ⟨gT, offT + i, none⟩) (Nat.lt_of_lt_of_le hgt hb4.size)).trans h1
        have hs4 : base ≤ W4.heap.size := Nat.le_trans hbs hb4.size
        have hg4 : gT < W4.heap.size := Nat.lt_of_lt_of_le hgt hb4.size
        clear HLi HFi HXi HBi HCi hb4 HIT hci
        go_wp2_with (first | (at_builtin; refine wp_strs rfl _ _ rfl base W4.heap.size 1 V (P0 ++ fs :: (l.take i).map (fun n => ba (Lib.itoa n))) [S] rfl rfl rfl (HL4.out _) (str_cell _ _ _) (by omega) (by simp) (by simp; omega) ?_; intro v5 w5 h5 hg5 ho5; have HV5 : Hid (Ls 9 w5 base v5 (P0 ++ fs :: (l.take (i + 1)).map (fun n => ba (Lib.itoa n)))) := (by have h5' := h5; rw [HTK.out] at h5'; exact h5'); have HF5 : Hid (Blk w5 w.heap.size #[.string fs, .bool true, .bool ha, .bool hb, .bool hc, .bool ht] 34) := irow.Blk.grown (HF4.out _) hg5 (ls_far HV4.out (by omega)); have HX5 : Hid (Blk w5 (w.heap.size + 1) #[.int .i64 k, .int .i64 me, .int .i64 a, .int .i64 b, .int .i64 c, .string t, .int .i64 cut] 23) := irow.Blk.grown (HX4.out _) hg5 (ls_far HV4.out (by omega)); have HB5 : Hid (Below w.heap.size w w5) := ls_bel (HL4.out _) hg5 (HB4.out _) (by omega) (by simp; omega); have hs5 : base ≤ w5.heap.size := Nat.le_trans (by simp; omega) hg5.size; have HC5 : Hid (∀ i, i < l.length → w5.cell? ⟨gT, offT + i, none⟩ = some (.int .i64 (l.getD i 0))) := (fun i hi => cell_far (HC4.out _ i hi) hg5 HFR.out); have HR5 : Hid (some gT ≠ v5.ownBlock) := (by rcases ho5 with e | e <;> rw [e] <;> first | exact HFR.out | (intro e2; injection e2 with e2; simp at e2; omega)); have hg5' : gT < w5.heap.size := Nat.lt_of_lt_of_le (by simp; omega) hg5.size; clear h5 hg5 ho5) | fail)
        go_roundw
        case rel => exact ⟨i + 1, v5, by omega, by go_num, rfl, HV5.out, HF5.out, HX5.out, HC5.out, HR5.out, hg5', HB5.out, hs5⟩
        case measure => simp [intOf]; omega
      · have hie : i = l.length := by omega
        have HL6 : Hid (Ls 9 wr base V (pcs cut fs l)) := by
          have h := HLi.out
          rw [hie, List.take_length] at h
          rw [← HPQ.out]
          exact h
        have hlen : (pcs cut fs l).length ≤ 7 := by have := pcs_len cut fs l; omega
        have hpos : 0 < (pcs cut fs l).length := by rw [← HPQ.out, List.length_append, List.length_cons]; omega
        have cb : wr.cell? ⟨w.heap.size, 5, none⟩ = some (.bool ht) := HFi.out.cell 5
        have hsm := HLP.out l HLL.out hl4
        clear HLi HFi HCi HFR hie
        cases ht with
        | true =>
          have c5 : wr.cell? ⟨w.heap.size + 1, 5, none⟩ = some (.string t) := HXi.out.cell 5
          have HL4 : Hid (∀ o, Ls 9 (wr.alloc o) base V (pcs cut fs l)) := fun o => HL6.out.alloc o
          have HB4 : Hid (∀ o, Below w.heap.size w (wr.alloc o)) := fun o => HBi.out.alloc HBi.out.size o
          have HJ : Hid (∀ W v, Ls 9 W base v (pcs cut fs l ++ [t]) → Calls Tryd.prog 27 #[v, .string ⟨#[32]⟩] W fun e w' => e = .returned (.string (ba (lineB cut fs l true t))) ∧ Below W.heap.size W w') := fun W v h => pjoin (pcs cut fs l ++ [t]) W v base h (by simp) (by simp; omega) (by
            have : lensB (pcs cut fs l ++ [t]) = lensB (pcs cut fs l) + t.size := by unfold lensB; simp
            omega)
          clear HXi HBi
          generalize pcs cut fs l = R at *
          obtain ⟨LN, hLN⟩ : ∃ LN, lineB cut fs l true t = LN := ⟨_, rfl⟩
          have HLN : Hid (lineB cut fs l true t = LN) := hLN
          rw [hLN] at HJ
          clear hLN
          go_wp2_with (first | (at_builtin; refine wp_strs rfl _ _ rfl base wr.heap.size 1 V R [t] rfl rfl rfl (HL4.out _) (str_cell _ _ _) (by omega) (by simp) (by simp; omega) ?_; intro v5 w5 h5 hg5 ho5; have HV5 : Hid (Ls 9 w5 base v5 (R ++ [t])) := h5; have HB5 : Hid (Below w.heap.size w w5) := ls_bel (HL4.out _) hg5 (HB4.out _) (by omega) (by simp; omega); clear h5 hg5 ho5) | fail)
          refine (HJ.out _ _ HV5.out).mono ?_
          rintro e W7 ⟨rfl, hb7⟩
          have HB7 : Hid (Below w.heap.size w W7) := bel_step HB5.out hb7
          clear hb7
          go_wp2_with fail
          go_ret
          exact ⟨by rw [HLN.out]; rfl, HB7.out⟩
        | false =>
          have HJ : Hid (Calls Tryd.prog 27 #[V, .string ⟨#[32]⟩] wr fun e w' => e = .returned (.string (ba (lineB cut fs l false t))) ∧ Below wr.heap.size wr w') := by
            have e : pcs cut fs l ++ opt false t = pcs cut fs l := List.append_nil _
            unfold lineB
            rw [e]
            exact pjoin (pcs cut fs l) wr V base HL6.out hpos (by omega) (by omega)
          clear HXi
          obtain ⟨LN, hLN⟩ : ∃ LN, lineB cut fs l false t = LN := ⟨_, rfl⟩
          have HLN : Hid (lineB cut fs l false t = LN) := hLN
          rw [hLN] at HJ
          clear hLN
          go_wp2_with fail
          refine HJ.out.mono ?_
          rintro e W7 ⟨rfl, hb7⟩
          have HB7 : Hid (Below w.heap.size w W7) := bel_step HBi.out hb7
          clear hb7
          go_wp2_with fail
          go_ret
          exact ⟨by rw [HLN.out]; rfl, HB7.out⟩

end Go.Proofs.YtlianhienbhbgaaDoor.odr
