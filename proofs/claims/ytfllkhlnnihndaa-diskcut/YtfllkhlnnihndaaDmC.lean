/- The statement DiskCut. -/
import Derived.Test.YtfllkhlnnihndaaDkTa
import Derived.Test.YtfllkhlnnihndaaDkAt
import Derived.Test.YtfllkhlnnihndaaDkRt
import Derived.Test.YtfllkhlnnihndaaDkEk
import Derived.Test.YtfllkhlnnihndaaDkG
import Derived.Test.YtfllkhlnnihndaaCkPick
namespace Go.Proofs.Ytfllkhlnnihndaa.disk
open Go.RowKit Go.Proofs.Ytfllkhlnnihndaa.cell
set_option maxRecDepth 100000
set_option linter.unusedVariables false

set_option maxHeartbeats 4000000 in
theorem DiskCut_walk (KR : KReplay) (KA : KAppend) (a : Option Addr) (len cap : Nat) (A : Nat → Option Addr) (L C : Nat → Nat) (Z : Nat → List Int) (b : Option Addr) (m cap2 : Nat) (rz : List Int) (ki : Int) (w : World) (hr : RwsW w a len A L C Z) (hb : RowU w b m rz) (hbw : Wds rz) (hki : (Lit.int .i64 ki).wf = true) :
    Calls Try.prog 6 #[.slice a len cap, .slice b m cap2, .int .i64 ki] w fun e w' => e = .returned (.bool true) ∧ Below w.heap.size w w' := by
  have HTP : Hid (∀ W, Below w.heap.size w W → Calls Try.prog 17 #[.slice a len cap, .int .i64 25] W fun e w' => TapePost W 25 e w') := fun W hB => by
    have := tape_any KA a len cap 25 A L C Z W (hr.below hB) (by omega)
    exact this
  have HSO : Hid (∀ W, Below w.heap.size w W → Calls Try.prog 20 #[.slice b m cap2, .int .i64 20] W fun e w' => SomeR W 20 e w') := fun W hB => some_row b m cap2 20 rz W (hb.below hB) hbw (by decide) (by decide)
  have HAP : Hid (∀ W a' n' c' z zs e0 g rn rc r, Dsk W a' n' c' z → Tape z zs e0 → RowU W (some ⟨g, 0, none⟩) rn r → Wds r → 1 ≤ rn → rn ≤ 20 → rn ≤ rc → Calls Try.prog 14 #[.slice a' n' c', .slice (some ⟨g, 0, none⟩) rn rc] W fun e w' => AppT W z r e0 n' rn e w') := fun W a' n' c' z zs e0 g rn rc r hd ht hr hw h1 h2 h3 => app_t KA a' n' c' z zs e0 g rn rc r W hd ht hr hw h1 h2 h3
  have HAD : Hid (∀ W a' n' c1 x q cx kk e0 z r zs, Dsk W a' n' c1 z → Tape z zs e0 → RMay r → Wds r → e0 + r.length < z.length → RowW W x q (appW z e0 r) → q ≤ cx → kk ≤ q → Calls Try.prog 21 #[.slice a' n' c1, .slice x q cx, .int .i64 ((kk : Nat) : Int)] W fun e' w' => AppliedD W n' (wrt z ((appW z e0 r).take kk)) e' w') := fun W a' n' c1 x q cx kk e0 z r zs h1 h2 h3 h4 h5 h6 h7 h8 => apply_dsk a' x n' q c1 cx kk e0 z r zs W h1 h2 h3 h4 h5 h6 h7 h8
  have HRP : Hid (∀ W a' n' c' z zs e0, Dsk W a' n' c' z → Tape z zs e0 → Calls Try.prog 10 #[.slice a' n' c'] W fun e w' => RepT W zs e0 e w') := fun W a' n' c' z zs e0 hd ht => rep_t KR a' n' c' z zs e0 W hd ht
  have HSR : Hid (∀ W a1 c1 b1 c2 (zs : List (List Int)), Reads W a1 zs.length zs → Reads W b1 zs.length zs → zs.length ≤ 100000 → Calls Try.prog 19 #[.slice a1 zs.length c1, .slice b1 zs.length c2] W fun e w' => e = .returned (.bool true) ∧ Below W.heap.size W w') := fun W a1 c1 b1 c2 zs h1 h2 hn => records_keep a1 b1 zs.length c1 c2 zs W h1 h2 hn
  have HPK : Hid (∀ W (q : Nat), q ≤ 100 → ∃ kk : Nat, kk ≤ q ∧ Calls Try.prog 18 #[.int .i64 ki, .int .i64 ((q : Int) + 1)] W fun e w' => e = .returned (.int .i64 (kk : Int)) ∧ w' = W) := fun W q hq => ⟨(check.pick ki ((q + 1 : Nat) : Int)).toNat, by have := check.pick_toNat ki (q + 1) (by omega); omega, by
    have := check.picked_nat ki (q + 1) W hki (by omega) (by omega)
    rw [show ((q + 1 : Nat) : Int) = (q : Int) + 1 by omega] at this ⊢
    exact this⟩
  clear hr KA KR hki hb hbw
  go_enter Try.func6, Try.ntmps6
  go_wp2_with fail
  refine (HTP.out _ (Below.refl _ _)).mono ?_
  rintro e w2 (⟨ta, tn, tc, V, c, sl, zs, rfl, hn1, ht⟩ | ⟨h0, _⟩)
  case inr => exact absurd h0 (by decide)
  have HT2 : Hid (Taped w 25 ta tn tc V c sl zs w2) := ht
  obtain ⟨av, cv, hv, _⟩ := ht.reads
  subst hv
  obtain ⟨E, hE⟩ : ∃ E : Nat, E = sumR zs := ⟨_, rfl⟩
  have HE : Hid (E = sumR zs) := hE
  have hsz1 : tn ≤ 25 + E := by rw [hE, ht.size]; exact Nat.le_refl _
  have hsz2 : 25 + E ≤ tn := by rw [hE, ht.size]; exact Nat.le_refl _
  have hE1 : E ≤ 1000 := by have := sumR_most ht.ok; have := ht.few; omega
  have hz12 := ht.few
  have HSO1 : Hid (Calls Try.prog 20 #[.slice b m cap2, .int .i64 20] w2 fun e w' => SomeR w2 20 e w') := HSO.out w2 ht.bel
  obtain ⟨w1, hw1⟩ : ∃ w1, w1 = w := ⟨_, rfl⟩
  subst hw1
  clear ht HTP HSO hE
  go_wp2_with fail
  refine HSO1.out.mono ?_
  rintro e w3 ⟨g, rn, rc, r, rfl, hr3, hg0, hg1, hr1, hr20, hrc, hrw, hb3⟩
  have HT3 : Hid (Taped w1 25 ta tn tc (.slice av zs.length cv) c sl zs w3) := HT2.out.next hb3
  have HAP1 : Hid (Calls Try.prog 14 #[.slice ta tn tc, .slice (some ⟨g, 0, none⟩) rn rc] w3 fun e w' => AppT w3 c r E tn rn e w') := HAP.out w3 ta tn tc c zs E g rn rc r HT3.out.disk (by rw [HE.out]; exact HT3.out.tape) hr3 hrw hr1 hr20 hrc
  have HRL : Hid (r.length = rn) := hr3.1
  have HR3 : Hid (RowU w3 (some ⟨g, 0, none⟩) rn r ∧ Wds r ∧ g < w3.heap.size ∧ rn ≤ rc) := ⟨hr3, hrw, hg1, hrc⟩
  have HGN : Hid (∀ k, (Value.slice av zs.length cv).ownBlock = some k → k < g) := fun k hk => by
    have := (World.ownsRow.lt HT2.out.lr k hk).2
    omega
  clear hr3 hrw hb3 HT2 HSO1 HAP hg0 hg1 hrc
  go_wp2_with fail
  refine HAP1.out.mono ?_
  rintro e w4 (⟨hfit, x, q, cx, rfl, hrow, hnew, hle, hq, hb4⟩ | ⟨hful, _⟩)
  case inr => omega
  have hq1 : 2 ≤ q := by split at hq <;> omega
  have hq2 : q ≤ 30 := by split at hq <;> omega
  have HT4 : Hid (Taped w1 25 ta tn tc (.slice av zs.length cv) c sl zs w4) := HT3.out.next hb4
  have HRW4 : Hid (RowW w4 x q (appW c E r)) := hrow
  have HNW : Hid (∀ k, (Value.slice av zs.length cv).ownBlock = some k → ∀ y, x = some y → k < y.block) := fun k hk y hy => by
    have h1 := (World.ownsRow.lt HT3.out.lr k hk).2
    have h2 := hnew y hy
    omega
  have HR4 : Hid (RowU w4 (some ⟨g, 0, none⟩) rn r ∧ Wds r ∧ g < w4.heap.size ∧ rn ≤ rc) := ⟨HR3.out.1.below hb4, HR3.out.2.1, Nat.lt_of_lt_of_le HR3.out.2.2.1 hb4.size, HR3.out.2.2.2⟩
  obtain ⟨kk, hkk, hpk⟩ := HPK.out w4 q (by omega)
  have HPK1 : Hid (Calls Try.prog 18 #[.int .i64 ki, .int .i64 ((q : Int) + 1)] w4 fun e w' => e = .returned (.int .i64 (kk : Int)) ∧ w' = w4) := hpk
  have HAD1 : Hid (Calls Try.prog 21 #[.slice ta tn tc, .slice x q cx, .int .i64 (kk : Int)] w4 fun e' w' => AppliedD w4 tn (wrt c ((appW c E r).take kk)) e' w') := HAD.out w4 ta tn tc x q cx kk E c r zs HT4.out.disk (by rw [HE.out]; exact HT4.out.tape) ⟨by rw [HRL.out]; exact hr1, by rw [HRL.out]; omega⟩ HR4.out.2.1 (by rw [HRL.out, HT4.out.disk.row.1]; omega) hrow hle hkk
  have HQL : Hid ((appW c E r).length = q) := hrow.1
  have hq0 : ((q : Int) == 0) = false := by simp; omega
  clear hrow hnew hq hb4 hpk HPK HAD HT3 HAP1 HR3
  go_wp2_with fail
  refine HPK1.out.mono ?_
  rintro e w5 ⟨rfl, hw5⟩
  subst hw5
  clear HPK1
  go_wp2_with fail
  refine HAD1.out.mono ?_
  rintro e w6 ⟨a6, c6, rfl, hd6, hb6⟩
  have HT6 : Hid (Taped w1 25 ta tn tc (.slice av zs.length cv) c sl zs w6) := HT4.out.next hb6
  have HR6 : Hid (RowU w6 (some ⟨g, 0, none⟩) rn r ∧ Wds r ∧ g < w6.heap.size ∧ rn ≤ rc) := ⟨HR4.out.1.below hb6, HR4.out.2.1, Nat.lt_of_lt_of_le HR4.out.2.2.1 hb6.size, HR4.out.2.2.2⟩
  have HRW6 : Hid (RowW w6 x q (appW c E r)) := HRW4.out.below hb6
  have HD6 : Hid (Dsk w6 a6 tn c6 (wrt c ((appW c E r).take kk))) := hd6
  clear hd6 hb6 HT4 HR4 HRW4 HAD1
  by_cases hcut : kk = q
  · have hde : ((kk : Int) == (q : Int)) = true := by simp; omega
    have HRP1 : Hid (Calls Try.prog 10 #[.slice a6 tn c6] w6 fun e w' => RepT w6 (zs ++ [r]) (E + r.length + 1) e w') := by
      have ht := HT6.out.tape
      rw [← HE.out] at ht
      have h2 := ht.all (r := r) ⟨by rw [HRL.out]; exact hr1, by rw [HRL.out]; omega⟩ (by rw [HRL.out, HT6.out.disk.row.1]; omega)
      have hd := HD6.out
      rw [List.take_of_length_le (by rw [HQL.out]; omega)] at hd
      exact HRP.out w6 _ _ _ _ _ _ hd h2
    clear hcut HD6 HRP HQL HE
    go_wp2_with fail
    refine HRP1.out.mono ?_
    rintro e w7 ⟨ra, rcap, rfl, hrd, hb7⟩
    rw [List.length_append] at hrd ⊢
    have HRD7 : Hid (ReadsF w7 w6.heap.size ra (zs.length + 1) (zs ++ [r])) := hrd
    have hG7 : Gath w1 (.slice av zs.length cv) sl zs w7 := by
      have t := HT6.out.next hb7
      exact ⟨t.lr, t.recs, t.room, t.ok, t.bel⟩
    have hR7 := HR6.out.1.below hb7
    have HRW7 : Hid (RowW w7 x q (appW c E r)) := HRW6.out.below hb7
    have hgo : some g ≠ (Value.slice av zs.length cv).ownBlock := fun e => by have := HGN.out g e.symm; omega
    have HLA : Hid (Lr 22 (w7.alloc (.cells #[.slice (some ⟨g, 0, none⟩) rn rc] 22)) w1.heap.size (.slice av zs.length cv) sl) := hG7.lr.alloc _
    have HCA : Hid ((w7.alloc (.cells #[.slice (some ⟨g, 0, none⟩) rn rc] 22)).cell? ⟨w7.heap.size, 0, none⟩ = some (Sli.v ⟨some ⟨g, 0, none⟩, rn, rc⟩)) := (Blk.new w7 _ _).cell 0
    have HSZ : Hid (w1.heap.size ≤ (w7.alloc (.cells #[.slice (some ⟨g, 0, none⟩) rn rc] 22)).heap.size) := alloc_le hG7.bel.size _
    have hsl : sl.length ≤ 1000000 := by have := hG7.recs.1; omega
    have HGS : Hid (∀ v3 w8, Lr 22 w8 w1.heap.size v3 (sl ++ [⟨some ⟨g, 0, none⟩, rn, rc⟩]) → (w7.alloc (.cells #[.slice (some ⟨g, 0, none⟩) rn rc] 22)).grownBy w8 (Value.slice av zs.length cv).ownBlock → (v3.ownBlock = (Value.slice av zs.length cv).ownBlock ∨ v3.ownBlock = some (w7.heap.size + 1)) → Gath w1 v3 (sl ++ [⟨some ⟨g, 0, none⟩, rn, rc⟩]) (zs ++ [r]) w8) := fun v3 w8 q1 q2 q3 => hG7.snoc hR7 (Nat.lt_of_lt_of_le HR6.out.2.2.1 hb7.size) hgo ⟨HR6.out.2.1, by rw [HRL.out]; exact hr1, by rw [HRL.out]; omega⟩ HR6.out.2.2.2 q1 q2 q3
    have HOLD : Hid (∀ k, (Value.slice av zs.length cv).ownBlock = some k → k < w6.heap.size) := fun k hk => (World.ownsRow.lt HT6.out.lr k hk).2
    clear hrd hb7 hG7 hR7 hgo HRP1 HT6 HR6 HRW6
    go_wp2_with (first
      | (at_builtin; refine wp_sli sliT rfl _ _ rfl w1.heap.size w7.heap.size (.slice av zs.length cv) sl ⟨some ⟨g, 0, none⟩, rn, rc⟩ rfl rfl HLA.out HCA.out hsl HSZ.out ?_)
      | fail)
    intro v3 w8 h3 hg3 ho3
    have hG8 := HGS.out v3 w8 h3 hg3 ho3
    have hba : Below w7.heap.size w7 (w7.alloc (.cells #[.slice (some ⟨g, 0, none⟩) rn rc] 22)) := (Below.refl _ _).alloc (Nat.le_refl _) _
    have hrd8 := (HRD7.out.below hba).grown hg3 HOLD.out
    have HRW : Hid (RowW w8 x q (appW c E r)) := rowW_grown (HRW7.out.below hba) hg3 (fun y hy e => by have := HNW.out _ e.symm y hy; omega)
    obtain ⟨av8, cv8, hv8, hre8⟩ := reads_of hG8.lr hG8.recs (fun i hi => by have := (hG8.room.at i hi).2; omega)
    subst hv8
    have HS1 : Hid (Calls Try.prog 19 #[.slice ra (zs.length + 1) rcap, .slice av8 (zs.length + 1) cv8] w8 fun e w' => e = .returned (.bool true) ∧ Below w8.heap.size w8 w') := by
      have e1 : (zs ++ [r]).length = zs.length + 1 := by rw [List.length_append]; rfl
      have := HSR.out w8 ra rcap av8 cv8 (zs ++ [r]) (by rw [e1]; exact hrd8.reads) hre8 (by rw [e1]; omega)
      rw [e1] at this
      exact this
    have HBB : Hid (Below w1.heap.size w1 w8) := hG8.bel
    rw [show (zs ++ [r]).length = zs.length + 1 by rw [List.length_append]; rfl]
    clear h3 hg3 ho3 hG8 hba hrd8 hre8 HLA HCA HSZ HGS HRD7 HRW7 HOLD HNW HGN HSR HRL
    go_wp2_with fail
    go_loopw [19] (fun i wz => ∃ j : Nat, j ≤ q ∧ i = .int .i64 (j : Int) ∧ wz = w8) (fun i _ => q - (intOf i).toNat)
    case atStart => exact ⟨0, Nat.zero_le _, rfl, rfl⟩
    case round =>
      obtain ⟨j, hj, rfl, hwr⟩ := hrel
      subst hwr
      by_cases hlt : j < q
      · obtain ⟨bw, ow, rfl, _, hcw⟩ := HRW.out.at (by omega)
        have c0 := (hcw j hlt).1
        have hge : (E : Int) ≤ ((appW c E r).getD j wr0).p := by
          have hj' : j < (appW c E r).length := by rw [HRW.out.1]; exact hlt
          have e : (appW c E r).getD j wr0 = (appW c E r)[j] := by simp [List.getD, List.getElem?_eq_getElem hj']
          rw [e]; exact app_ge c r E _ (List.getElem_mem hj')
        clear hcw
        generalize ((appW c E r).getD j wr0).p = pj at *
        have hdp : decide (pj < (tn : Int) - 25) = false := decide_eq_false (by omega)
        go_wp2_with fail
        go_roundw
        case rel => exact ⟨j + 1, by omega, by go_num, by first | rfl | trivial⟩
        case measure => simp [intOf]; omega
      · obtain rfl : j = q := by omega
        have hdl : decide ((j : Int) < (j : Int)) = false := by simp
        clear HRW
        go_wp2_with fail
        refine HS1.out.mono ?_
        rintro e w9 ⟨rfl, hb9⟩
        have HB9 : Hid (Below w1.heap.size w1 w9) := HBB.out.trans (hb9.mono HBB.out.size)
        clear hb9 HS1
        go_wp2_with fail
        go_ret
        exact ⟨rfl, HB9.out⟩
  · have hde : ((kk : Int) == (q : Int)) = false := by simp; omega
    have HRP1 : Hid (Calls Try.prog 10 #[.slice a6 tn c6] w6 fun e w' => RepT w6 zs E e w') := by
      have ht := HT6.out.tape
      rw [← HE.out] at ht
      have h2 := ht.cut (r := r) (by rw [HRL.out, HT6.out.disk.row.1]; omega) (k := kk) (by rw [HQL.out]; omega)
      exact HRP.out w6 _ _ _ _ _ _ HD6.out h2
    clear hcut HD6 HRP HQL HE
    go_wp2_with fail
    refine HRP1.out.mono ?_
    rintro e w8 ⟨ra, rcap, rfl, hrd, hb7⟩
    have HRW : Hid (RowW w8 x q (appW c E r)) := HRW6.out.below hb7
    have hT8 := HT6.out.next hb7
    obtain ⟨av8, cv8, hv8, hre8⟩ := hT8.reads
    injection hv8 with e1 _ e3
    subst e1
    subst e3
    have HS1 : Hid (Calls Try.prog 19 #[.slice ra zs.length rcap, .slice av zs.length cv] w8 fun e w' => e = .returned (.bool true) ∧ Below w8.heap.size w8 w') := HSR.out w8 ra rcap av cv zs hrd.reads hre8 (by omega)
    have HBB : Hid (Below w1.heap.size w1 w8) := hT8.bel
    clear hrd hb7 hT8 hre8 HRP1 HT6 HR6 HRW6 HNW HGN HSR HRL
    go_wp2_with fail
    go_loopw [19] (fun i wz => ∃ j : Nat, j ≤ q ∧ i = .int .i64 (j : Int) ∧ wz = w8) (fun i _ => q - (intOf i).toNat)
    case atStart => exact ⟨0, Nat.zero_le _, rfl, rfl⟩
    case round =>
      obtain ⟨j, hj, rfl, hwr⟩ := hrel
      subst hwr
      by_cases hlt : j < q
      · obtain ⟨bw, ow, rfl, _, hcw⟩ := HRW.out.at (by omega)
        have c0 := (hcw j hlt).1
        have hge : (E : Int) ≤ ((appW c E r).getD j wr0).p := by
          have hj' : j < (appW c E r).length := by rw [HRW.out.1]; exact hlt
          have e : (appW c E r).getD j wr0 = (appW c E r)[j] := by simp [List.getD, List.getElem?_eq_getElem hj']
          rw [e]; exact app_ge c r E _ (List.getElem_mem hj')
        clear hcw
        generalize ((appW c E r).getD j wr0).p = pj at *
        have hdp : decide (pj < (tn : Int) - 25) = false := decide_eq_false (by omega)
        go_wp2_with fail
        go_roundw
        case rel => exact ⟨j + 1, by omega, by go_num, by first | rfl | trivial⟩
        case measure => simp [intOf]; omega
      · obtain rfl : j = q := by omega
        have hdl : decide ((j : Int) < (j : Int)) = false := by simp
        clear HRW
        go_wp2_with fail
        refine HS1.out.mono ?_
        rintro e w9 ⟨rfl, hb9⟩
        have HB9 : Hid (Below w1.heap.size w1 w9) := HBB.out.trans (hb9.mono HBB.out.size)
        clear hb9 HS1
        go_wp2_with fail
        go_ret
        exact ⟨rfl, HB9.out⟩

end Go.Proofs.Ytfllkhlnnihndaa.disk
