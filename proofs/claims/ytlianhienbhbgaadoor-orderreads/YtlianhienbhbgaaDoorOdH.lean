/- order.Show. -/
import Derived.Test.YtlianhienbhbgaaDoorOdL
import Derived.Test.YtlianhienbhbgaaDoorOdU
import Derived.Test.YtlianhienbhbgaaDoorOdE
import Derived.Deep.MidRow
import Derived.Lib.IndexAny
namespace Go.Proofs.YtlianhienbhbgaaDoor.odr
open Go.RowKit
open Go.Proofs.YtlianhienbhbgaaDoor.irow (Iw)
set_option maxRecDepth 100000
set_option linter.unusedVariables false
set_option linter.unusedSimpArgs false

theorem less_iff (hm ha hb hc ht : Bool) (x : Ac) : acEq (less hm ha hb hc ht x) ac0 = ((hm || x.me == 0) && (ha || x.a == 0) && (hb || x.b == 0) && (hc || x.c == 0) && (ht || x.t.data.toList == [])) := by
  have e : ∀ (h : Bool) (n : Int), (zn h n == 0) = (h || n == 0) := fun h n => by cases h <;> simp [zn]
  have et : ((zt ht x.t).toList == ac0.t.toList) = (ht || x.t.data.toList == []) := by
    rw [ByteArray.toList_eq, ByteArray.toList_eq]
    cases ht <;> simp [zt, ac0] <;> rfl
  unfold acEq less
  simp only [ac0] at et ⊢
  rw [e, e, e, e, et]
  simp [Bool.and_assoc]

/-- The form of a kind, read off the table. -/
theorem form_at {w : World} (h : OTab w) {k : Int} (h0 : 0 ≤ k) (h7 : k ≤ 7) : w.rangeAt 0 (6 * k.toNat) (fcells k).toList := by
  intro j v hv
  have hj : j < 6 := by
    rcases Nat.lt_or_ge j 6 with h | h
    · exact h
    · rw [List.getElem?_eq_none (by simpa [fcells] using h)] at hv; cases hv
  rw [h.at h0 h7 j hj]
  simpa using hv

theorem lineL_eq {x : Ac} (hk : inB 1 7 x.k = true) : lineL x = lineB x.cut (ba (wd x.k)) (tl (hA x.k) (hB x.k) (hC x.k) x.me x.a x.b x.c) (hT x.k) x.t := by
  unfold lineL lineB
  congr 1
  unfold items pcs told tl
  rw [hM_of hk]
  by_cases hc : x.cut = -1
  · rw [if_pos hc, if_pos hc]
    cases hT x.k <;> (simp [opt, ba]; rfl)
  · rw [if_neg hc, if_neg hc]
    cases hT x.k <;> (simp [opt, ba]; rfl)
theorem told_eq {x : Ac} (hk : inB 1 7 x.k = true) : told x = tl (hA x.k) (hB x.k) (hC x.k) x.me x.a x.b x.c := by unfold told tl; rw [hM_of hk]
theorem err_eq {x : Ac} (hk : inB 1 7 x.k = true) (hc : inB (-1) 4096 x.cut = true) (L : List Int) (hL : tl (hA x.k) (hB x.k) (hC x.k) x.me x.a x.b x.c = L) : err x = if L.all (inB 0 1000000000000) = false then 2 else if acEq (less true (hA x.k) (hB x.k) (hC x.k) (hT x.k) x) ac0 = false ∨ x.t.data.toList.contains 10 = true then 3 else if 120 < (lineL x).length then 1 else 0 := by
  unfold err okR okF
  rw [hk, hc, told_eq hk, hL, less_iff]
  simp only [Bool.true_and, Bool.true_or, Bool.and_eq_false_iff, Bool.not_eq_false]
  simp only [Bool.not_eq_false', or_assoc]
theorem shown_0 {x : Ac} (h : err x = 0) : shown x = lineL x := if_pos h
theorem shown_n {x : Ac} (h : err x ≠ 0) : shown x = [] := if_neg h
theorem pcont (t : ByteArray) (w : World) : Calls Tryd.prog 14 #[.string t, .string ⟨#[10]⟩] w fun e w' => e = .returned (.bool (t.data.toList.contains 10)) ∧ w' = w := by
  rw [Lib.contains_iff_indexByte]
  exact Tryd.strings_Contains_one t 10 w

set_option maxHeartbeats 4000000 in
theorem pshow (x : Ac) (w : World) (ho : OTab w) (htab : Tab w) (htx : x.t.size ≤ 140737488354304) :
    Calls Tryd.prog 7 #[x.v] w fun e w' => e = .returned (.tuple #[.string (ba (shown x)), .int .i64 (err x)]) ∧ Below w.heap.size w w' := by
  have HW : Hid (∀ (lo hi n : Int) W g, W.cell? ⟨g, 0, none⟩ = some (.int .i64 n) → Calls Tryd.prog 11 #[.int .i64 lo, .int .i64 hi, .slice (some ⟨g, 0, none⟩) 1 1] W fun e w' => e = .returned (.bool (inB lo hi n)) ∧ w' = W) := fun lo hi n W g hc => by
    have h := pwithin lo hi (.slice (some ⟨g, 0, none⟩) 1 1) [n] W ⟨_, 1, rfl, .inr ⟨g, 0, rfl, fun i hi => by
      have : i = 0 := by simp at hi; omega
      subst this
      exact hc⟩⟩ (by simp)
    simpa using h
  have HO : Hid (∀ W, Below w.heap.size w W → OTab W) := fun W hW => ho.below hW
  have HTB : Hid (∀ W, Below w.heap.size w W → Tab W) := fun W hW => Lib.tabBelow_of_tabIs htab W hW
  clear ho htab
  obtain ⟨k, me, a, b, c, t, cut⟩ := x
  have HXV : (⟨k, me, a, b, c, t, cut⟩ : Ac).v = .agg #[.int .i64 k, .int .i64 me, .int .i64 a, .int .i64 b, .int .i64 c, .string t, .int .i64 cut] := rfl
  rw [HXV]
  clear HXV
  simp only at htx
  obtain ⟨SH, hSH⟩ : ∃ l, shown ⟨k, me, a, b, c, t, cut⟩ = l := ⟨_, rfl⟩
  obtain ⟨ER, hER⟩ : ∃ n, err ⟨k, me, a, b, c, t, cut⟩ = n := ⟨_, rfl⟩
  rw [hSH, hER]
  cases hk : inB 1 7 k with
  | false =>
    have HE : Hid (SH = [] ∧ ER = 2) := by
      have e : err ⟨k, me, a, b, c, t, cut⟩ = 2 := by unfold err okR; rw [show inB 1 7 (⟨k, me, a, b, c, t, cut⟩ : Ac).k = false from hk]; rfl
      exact ⟨by rw [← hSH]; exact shown_n (by rw [e]; decide), by rw [← hER]; exact e⟩
    have HWk : Hid (∀ W g, W.cell? ⟨g, 0, none⟩ = some (.int .i64 k) → Calls Tryd.prog 11 #[.int .i64 1, .int .i64 7, .slice (some ⟨g, 0, none⟩) 1 1] W fun e w' => e = .returned (.bool false) ∧ w' = W) := fun W g hc => by have h := HW.out 1 7 k W g hc; rw [hk] at h; exact h
    have HB : Hid (Below w.heap.size w ((w.alloc (.cells #[.int .i64 k, .int .i64 me, .int .i64 a, .int .i64 b, .int .i64 c, .string t, .int .i64 cut] 23)).alloc (.cells #[.int .i64 k] 3))) := ((Below.refl _ _).alloc (Nat.le_refl _) _).alloc (by simp) _
    clear hSH hER hk HW HO HTB
    go_enter Tryd.func7, Tryd.ntmps7
    go_wp2_with fail
    refine (HWk.out _ _ ((Blk.new1 _ _ _ _).cell 0)).mono ?_
    rintro e W1 ⟨rfl, rfl⟩
    go_wp2_with fail
    go_ret2
    exact ⟨by rw [HE.out.1, HE.out.2]; rfl, HB.out⟩
  | true =>
    have HWk : Hid (∀ W g, W.cell? ⟨g, 0, none⟩ = some (.int .i64 k) → Calls Tryd.prog 11 #[.int .i64 1, .int .i64 7, .slice (some ⟨g, 0, none⟩) 1 1] W fun e w' => e = .returned (.bool true) ∧ w' = W) := fun W g hc => by have h := HW.out 1 7 k W g hc; rw [hk] at h; exact h
    have HB : Hid (Below w.heap.size w (((w.alloc (.cells #[.int .i64 k, .int .i64 me, .int .i64 a, .int .i64 b, .int .i64 c, .string t, .int .i64 cut] 23)).alloc (.cells #[.int .i64 k] 3)).alloc (.cells #[.int .i64 cut] 3))) := (((Below.refl _ _).alloc (Nat.le_refl _) _).alloc (by simp) _).alloc (by simp; omega) _
    cases hcu : inB (-1) 4096 cut with
    | false =>
      have HE : Hid (SH = [] ∧ ER = 2) := by
        have e : err ⟨k, me, a, b, c, t, cut⟩ = 2 := by unfold err okR; rw [show inB (-1) 4096 (⟨k, me, a, b, c, t, cut⟩ : Ac).cut = false from hcu]; simp
        exact ⟨by rw [← hSH]; exact shown_n (by rw [e]; decide), by rw [← hER]; exact e⟩
      have HWc : Hid (∀ W g, W.cell? ⟨g, 0, none⟩ = some (.int .i64 cut) → Calls Tryd.prog 11 #[.int .i64 (-1), .int .i64 4096, .slice (some ⟨g, 0, none⟩) 1 1] W fun e w' => e = .returned (.bool false) ∧ w' = W) := fun W g hc => by have h := HW.out (-1) 4096 cut W g hc; rw [hcu] at h; exact h
      clear hSH hER hk hcu HW HO HTB
      go_enter Tryd.func7, Tryd.ntmps7
      go_wp2_with fail
      refine (HWk.out _ _ ((Blk.new1 _ _ _ _).cell 0)).mono ?_
      rintro e W1 ⟨rfl, rfl⟩
      go_wp2_with fail
      refine (HWc.out _ _ ((Blk.new2 _ _ _ _ _).cell 0)).mono ?_
      rintro e W1 ⟨rfl, rfl⟩
      go_wp2_with fail
      go_ret2
      exact ⟨by rw [HE.out.1, HE.out.2]; rfl, HB.out⟩
    | true =>
      have HWc : Hid (∀ W g, W.cell? ⟨g, 0, none⟩ = some (.int .i64 cut) → Calls Tryd.prog 11 #[.int .i64 (-1), .int .i64 4096, .slice (some ⟨g, 0, none⟩) 1 1] W fun e w' => e = .returned (.bool true) ∧ w' = W) := fun W g hc => by have h := HW.out (-1) 4096 cut W g hc; rw [hcu] at h; exact h
      have hk1 : 1 ≤ k ∧ k ≤ 7 := by simpa [inB] using hk
      obtain ⟨hk1a, hk1b⟩ := hk1
      have hM1 : hM k = true := hM_of hk
      have HFM : Hid (∀ W, Below w.heap.size w W → W.rangeAt 0 (k.toNat * 6) [.string (ba (wd k)), .bool true, .bool (hA k), .bool (hB k), .bool (hC k), .bool (hT k)]) := fun W hW => by
        have h := form_at (HO.out W hW) (k := k) (by omega) hk1b
        unfold fcells at h
        rw [hM1, Nat.mul_comm] at h
        exact h
      have hwl : (ba (wd k)).size ≤ 100 := by rcases kinds hk with rfl | rfl | rfl | rfl | rfl | rfl | rfl <;> decide
      have HLE := lineL_eq (x := ⟨k, me, a, b, c, t, cut⟩) hk
      have HEE := fun L => err_eq (x := ⟨k, me, a, b, c, t, cut⟩) hk hcu L
      have hcu2 : -1 ≤ cut ∧ cut ≤ 4096 := by simpa [inB] using hcu
      have HNL : ∀ (x : Ac) (ha hb hc ht : Bool), less true ha hb hc ht x = ⟨0, 0, zn ha x.a, zn hb x.b, zn hc x.c, zt ht x.t, 0⟩ := fun x ha hb hc ht => rfl
      simp only at HLE HEE
      rw [HLE] at HEE
      have HSL : err ⟨k, me, a, b, c, t, cut⟩ = 0 → SH = lineL ⟨k, me, a, b, c, t, cut⟩ := fun h => by rw [← hSH]; exact shown_0 h
      have HSN : err ⟨k, me, a, b, c, t, cut⟩ ≠ 0 → SH = [] := fun h => by rw [← hSH]; exact shown_n h
      rw [HLE] at HSL
      rw [hER] at HSL HSN HEE
      clear HLE hk hcu hM1 hSH hER
      generalize ba (wd k) = fs at *
      generalize hA k = ha at *
      generalize hB k = hb at *
      generalize hC k = hc at *
      generalize hT k = ht at *
      obtain ⟨L, hL⟩ : ∃ L, tl ha hb hc me a b c = L := ⟨_, rfl⟩
      have HEL := HEE L hL
      rw [hL] at HEL HSL
      have hL4 : L.length ≤ 4 := by rw [← hL]; exact (tl_len ha hb hc me a b c).2
      have HTO : Hid (∀ W, Calls Tryd.prog 12 #[.agg #[.string fs, .bool true, .bool ha, .bool hb, .bool hc, .bool ht], .agg #[.int .i64 k, .int .i64 me, .int .i64 a, .int .i64 b, .int .i64 c, .string t, .int .i64 cut]] W fun e w' => ∃ v, e = .returned v ∧ Iw w' W.heap.size v L ∧ Below W.heap.size W w') := fun W => by
        have h := ptold fs true ha hb hc ht ⟨k, me, a, b, c, t, cut⟩ W
        rw [show opt true me ++ (opt ha a ++ (opt hb b ++ opt hc c)) = L from hL] at h
        exact h
      have HWI : Hid (∀ W v base, Iw W base v L → Calls Tryd.prog 11 #[.int .i64 0, .int .i64 1000000000000, v] W fun e w' => e = .returned (.bool (L.all (inB 0 1000000000000))) ∧ w' = W) := fun W v base h => pwithin _ _ v L W (rd_of h) (by omega)
      have HWO : Hid (∀ W, Calls Tryd.prog 13 #[.agg #[.string fs, .bool true, .bool ha, .bool hb, .bool hc, .bool ht], .agg #[.int .i64 k, .int .i64 me, .int .i64 a, .int .i64 b, .int .i64 c, .string t, .int .i64 cut]] W fun e w' => e = .returned (.agg #[.int .i64 0, .int .i64 0, .int .i64 (zn ha a), .int .i64 (zn hb b), .int .i64 (zn hc c), .string (zt ht t), .int .i64 0]) ∧ Below W.heap.size W w') := fun W => pwithout fs true ha hb hc ht ⟨k, me, a, b, c, t, cut⟩ W
      have HEQ : ∀ W : World, (Op.equalIn 10000 23 (.agg #[.int .i64 0, .int .i64 0, .int .i64 (zn ha a), .int .i64 (zn hb b), .int .i64 (zn hc c), .string (zt ht t), .int .i64 0]) (.agg #[.int .i64 0, .int .i64 0, .int .i64 0, .int .i64 0, .int .i64 0, .string ⟨#[]⟩, .int .i64 0])).run Tryd.prog W = .ok (acEq (less true ha hb hc ht ⟨k, me, a, b, c, t, cut⟩) ac0) W := fun W => eqAc (less true ha hb hc ht ⟨k, me, a, b, c, t, cut⟩) ac0 W
      have HCO : Hid (∀ W, Calls Tryd.prog 14 #[.string t, .string ⟨#[10]⟩] W fun e w' => e = .returned (.bool (t.data.toList.contains 10)) ∧ w' = W) := fun W => pcont t W
      have HLI : Hid (L.all (inB 0 1000000000000) = true → ∀ W, Below w.heap.size w W → Calls Tryd.prog 15 #[.agg #[.string fs, .bool true, .bool ha, .bool hb, .bool hc, .bool ht], .agg #[.int .i64 k, .int .i64 me, .int .i64 a, .int .i64 b, .int .i64 c, .string t, .int .i64 cut]] W fun e w' => e = .returned (.string (ba (lineB cut fs L ht t))) ∧ Below W.heap.size W w') := fun hall W hW => by
        have h := pline fs ha hb hc ht ⟨k, me, a, b, c, t, cut⟩ W (by
          intro n hn
          simp only at hn
          rw [hL] at hn
          have := List.all_eq_true.1 hall n hn
          simpa [inB] using this) hcu2 hwl htx (HTB.out W hW)
        simp only at h
        rw [hL] at h
        exact h
      have hls : ∀ l : List UInt8, (ba l).size = l.length := fun l => by show l.toArray.size = _; simp
      have HLS := hls (lineB cut fs L ht t)
      clear hL HTB HO HW htx hcu2 hwl HNL HEE hls
      generalize acEq (less true ha hb hc ht ⟨k, me, a, b, c, t, cut⟩) ac0 = EQ at *
      generalize t.data.toList.contains 10 = TEN at *
      generalize L.all (inB 0 1000000000000) = AL at *
      generalize lineB cut fs L ht t = LN at *
      have HELh : Hid (ER = if AL = false then 2 else if EQ = false ∨ TEN = true then 3 else if 120 < LN.length then 1 else 0) := HEL
      have HSLh : Hid (ER = 0 → SH = LN) := HSL
      have HSNh : Hid (ER ≠ 0 → SH = []) := HSN
      clear HEL HSL HSN
      have HX : Hid (Blk (((w.alloc (.cells #[.int .i64 k, .int .i64 me, .int .i64 a, .int .i64 b, .int .i64 c, .string t, .int .i64 cut] 23)).alloc (.cells #[.int .i64 k] 3)).alloc (.cells #[.int .i64 cut] 3)) w.heap.size #[.int .i64 k, .int .i64 me, .int .i64 a, .int .i64 b, .int .i64 c, .string t, .int .i64 cut] 23) := ((Blk.new _ _ _).alloc _).alloc _
      go_enter Tryd.func7, Tryd.ntmps7
      go_wp2_with fail
      refine (HWk.out _ _ ((Blk.new1 _ _ _ _).cell 0)).mono ?_
      rintro e W1 ⟨rfl, rfl⟩
      go_wp2_with fail
      refine (HWc.out _ _ ((Blk.new2 _ _ _ _ _).cell 0)).mono ?_
      rintro e W1 ⟨rfl, rfl⟩
      go_upto_region 3 with fail
      generalize (((w.alloc (.cells #[.int .i64 k, .int .i64 me, .int .i64 a, .int .i64 b, .int .i64 c, .string t, .int .i64 cut] 23)).alloc (.cells #[.int .i64 k] 3)).alloc (.cells #[.int .i64 cut] 3)) = W1 at *
      have x0 : W1.cell? ⟨w.heap.size, 0, none⟩ = some (.int .i64 k) := HX.out.cell 0
      have HFW := HFM.out W1 HB.out
      have HFB2 : Hid (Below w.heap.size w (W1.alloc (.cells #[.string fs, .bool true, .bool ha, .bool hb, .bool hc, .bool ht] 34))) := HB.out.alloc HB.out.size _
      have HFX2 : Hid (Blk (W1.alloc (.cells #[.string fs, .bool true, .bool ha, .bool hb, .bool hc, .bool ht] 34)) w.heap.size #[.int .i64 k, .int .i64 me, .int .i64 a, .int .i64 b, .int .i64 c, .string t, .int .i64 cut] 23) := HX.out.alloc _
      have HFF : Hid (Blk (W1.alloc (.cells #[.string fs, .bool true, .bool ha, .bool hb, .bool hc, .bool ht] 34)) W1.heap.size #[.string fs, .bool true, .bool ha, .bool hb, .bool hc, .bool ht] 34) := Blk.new _ _ _
      have HFWh : Hid (W1.rangeAt 0 (k.toNat * 6) [.string fs, .bool true, .bool ha, .bool hb, .bool hc, .bool ht]) := HFW
      clear HWk HWc HFM HFW HX HB
      go_upto_region 4 with (first | (refine wpList_load_mid rfl 34 _ rfl 0 (k.toNat * 6) rfl [.string fs, .bool true, .bool ha, .bool hb, .bool hc, .bool ht] _ HFWh.out Tryd.underlying34 rfl (by kernel_rfl) ?_) | fail)
      generalize W1.alloc (.cells #[.string fs, .bool true, .bool ha, .bool hb, .bool hc, .bool ht] 34) = W2 at *
      generalize W1.heap.size = g at *
      go_wp2_with (first | (refine wp_whole rfl 34 _ rfl g rfl 34 _ _ HFF.out Tryd.underlying34 rfl (by kernel_rfl) ?_) | (refine wp_whole rfl 23 _ rfl w.heap.size rfl 23 _ _ HFX2.out Tryd.underlying23 rfl (by kernel_rfl) ?_) | fail)
      refine (HTO.out _).mono ?_
      rintro e W4 ⟨vT, rfl, hiw, hb4⟩
      have HF4 : Hid (Blk W4 g #[.string fs, .bool true, .bool ha, .bool hb, .bool hc, .bool ht] 34) := HFF.out.next hb4
      have HX4 : Hid (Blk W4 w.heap.size #[.int .i64 k, .int .i64 me, .int .i64 a, .int .i64 b, .int .i64 c, .string t, .int .i64 cut] 23) := HFX2.out.next hb4
      have HB4 : Hid (Below w.heap.size w W4) := bel_step HFB2.out hb4
      have HWT := HWI.out W4 vT _ hiw
      clear HFF HFX2 HFB2 hiw hb4 HTO HWI
      go_wp2_with fail
      refine HWT.mono ?_
      rintro e W5 ⟨rfl, rfl⟩
      clear HWT
      cases AL with
      | false =>
        have HE : Hid (SH = [] ∧ ER = 2) := by
          have e : ER = 2 := by have h := HELh.out; simpa using h
          exact ⟨HSNh.out (by rw [e]; decide), e⟩
        clear HELh HSLh HSNh HEQ HF4 HX4 HWO HCO HLI
        go_wp2_with fail
        go_ret2
        exact ⟨by rw [HE.out.1, HE.out.2]; rfl, HB4.out⟩
      | true =>
        go_wp2_with (first | (refine wp_whole rfl 34 _ rfl g rfl 34 _ _ HF4.out Tryd.underlying34 rfl (by kernel_rfl) ?_) | (refine wp_whole rfl 23 _ rfl w.heap.size rfl 23 _ _ HX4.out Tryd.underlying23 rfl (by kernel_rfl) ?_) | fail)
        refine (HWO.out _).mono ?_
        rintro e W6 ⟨rfl, hb6⟩
        have HF6 : Hid (Blk W6 g #[.string fs, .bool true, .bool ha, .bool hb, .bool hc, .bool ht] 34) := HF4.out.next hb6
        have HX6 : Hid (Blk W6 w.heap.size #[.int .i64 k, .int .i64 me, .int .i64 a, .int .i64 b, .int .i64 c, .string t, .int .i64 cut] 23) := HX4.out.next hb6
        have HB6 : Hid (Below w.heap.size w W6) := bel_step HB4.out hb6
        have x5 : W6.cell? ⟨w.heap.size, 5, none⟩ = some (.string t) := HX6.out.cell 5
        clear HF4 HX4 HB4 hb6 HWO
        cases EQ with
        | false =>
          have HE : Hid (SH = [] ∧ ER = 3) := by
            have e : ER = 3 := by have h := HELh.out; simpa using h
            exact ⟨HSNh.out (by rw [e]; decide), e⟩
          clear HELh HSLh HSNh HF6 HX6 HCO HLI
          go_wp2_with fail
          go_ret2
          exact ⟨by rw [HE.out.1, HE.out.2]; rfl, HB6.out⟩
        | true =>
          go_wp2_with fail
          refine (HCO.out _).mono ?_
          rintro e W7 ⟨rfl, rfl⟩
          clear x5 HCO
          cases TEN with
          | true =>
            have HE : Hid (SH = [] ∧ ER = 3) := by
              have e : ER = 3 := by have h := HELh.out; simpa using h
              exact ⟨HSNh.out (by rw [e]; decide), e⟩
            clear HELh HSLh HSNh HF6 HX6 HLI HEQ
            go_wp2_with fail
            go_ret2
            exact ⟨by rw [HE.out.1, HE.out.2]; rfl, HB6.out⟩
          | false =>
            have HLW := HLI.out trivial W7 HB6.out
            clear HEQ HLI
            go_wp2_with (first | (refine wp_whole rfl 34 _ rfl g rfl 34 _ _ HF6.out Tryd.underlying34 rfl (by kernel_rfl) ?_) | (refine wp_whole rfl 23 _ rfl w.heap.size rfl 23 _ _ HX6.out Tryd.underlying23 rfl (by kernel_rfl) ?_) | fail)
            refine HLW.mono ?_
            rintro e W8 ⟨rfl, hb8⟩
            have HB8 : Hid (Below w.heap.size w W8) := bel_step HB6.out hb8
            clear HLW HF6 HX6 HB6 hb8
            by_cases hbig : 120 < LN.length
            · have HE : Hid (SH = [] ∧ ER = 1) := by
                have e : ER = 1 := by have h := HELh.out; simpa [hbig] using h
                exact ⟨HSNh.out (by rw [e]; decide), e⟩
              have hd : decide ((120 : Int) < ((ba LN).size : Int)) = true := by simp; omega
              clear HELh HSLh HSNh hbig HLS
              go_wp2_with fail
              go_ret2
              exact ⟨by rw [HE.out.1, HE.out.2]; rfl, HB8.out⟩
            · have HE : Hid (SH = LN ∧ ER = 0) := by
                have e : ER = 0 := by have h := HELh.out; simpa [hbig] using h
                exact ⟨HSLh.out e, e⟩
              have hd : decide ((120 : Int) < ((ba LN).size : Int)) = false := by simp; omega
              clear HELh HSLh HSNh hbig HLS
              go_wp2_with fail
              go_ret2
              exact ⟨by rw [HE.out.1, HE.out.2]; rfl, HB8.out⟩

end Go.Proofs.YtlianhienbhbgaaDoor.odr
