/- The statement DiskRetry. -/
import Derived.Test.YtfllkhlnnihndaaDkTa
import Derived.Test.YtfllkhlnnihndaaDkAt
import Derived.Test.YtfllkhlnnihndaaDkRt
import Derived.Test.YtfllkhlnnihndaaDkEk
import Derived.Test.YtfllkhlnnihndaaDkG
import Derived.Test.YtfllkhlnnihndaaCkPick
import Derived.Test.YtfllkhlnnihndaaIRow
namespace Go.Proofs.Ytfllkhlnnihndaa.disk
open Go.RowKit Go.Proofs.Ytfllkhlnnihndaa.cell
set_option maxRecDepth 100000
set_option linter.unusedVariables false

set_option maxHeartbeats 4000000 in
theorem DiskRetry_walk (KR : KReplay) (KA : KAppend) (a : Option Addr) (len cap : Nat) (A : Nat → Option Addr) (L C : Nat → Nat) (Z : Nat → List Int) (a1 : Option Addr) (len1 cap1 : Nat) (A1 : Nat → Option Addr) (L1 C1 : Nat → Nat) (Z1 : Nat → List Int) (a2 : Option Addr) (len2 cap3 : Nat) (cs : List Int) (b : Option Addr) (m cap2 : Nat) (rz : List Int) (w : World) (hr : RwsW w a len A L C Z) (hr1 : RwsW w a1 len1 A1 L1 C1 Z1) (hcs : irow.RowF w a2 len2 cs) (hb : RowU w b m rz) (hbw : Wds rz) :
    Calls Try.prog 7 #[.slice a len cap, .slice a1 len1 cap1, .slice a2 len2 cap3, .slice b m cap2] w fun e w' => e = .returned (.bool true) ∧ Below w.heap.size w w' := by
  have HTP : Hid (∀ W, Below w.heap.size w W → Calls Try.prog 17 #[.slice a len cap, .int .i64 25] W fun e w' => TapePost W 25 e w') := fun W hB => by
    have := tape_any KA a len cap 25 A L C Z W (hr.below hB) (by omega)
    exact this
  have HSO : Hid (∀ W, Below w.heap.size w W → Calls Try.prog 20 #[.slice b m cap2, .int .i64 20] W fun e w' => SomeR W 20 e w') := fun W hB => some_row b m cap2 20 rz W (hb.below hB) hbw (by decide) (by decide)
  have HAP : Hid (∀ W a' n' c' z zs e0 g rn rc r, Dsk W a' n' c' z → Tape z zs e0 → RowU W (some ⟨g, 0, none⟩) rn r → Wds r → 1 ≤ rn → rn ≤ 20 → rn ≤ rc → Calls Try.prog 14 #[.slice a' n' c', .slice (some ⟨g, 0, none⟩) rn rc] W fun e w' => AppT W z r e0 n' rn e w') := fun W a' n' c' z zs e0 g rn rc r hd ht hr hw h1 h2 h3 => app_t KA a' n' c' z zs e0 g rn rc r W hd ht hr hw h1 h2 h3
  have HAD : Hid (∀ W a' n' c1 x q cx kk e0 z r zs, Dsk W a' n' c1 z → Tape z zs e0 → RMay r → Wds r → e0 + r.length < z.length → RowW W x q (appW z e0 r) → q ≤ cx → kk ≤ q → Calls Try.prog 21 #[.slice a' n' c1, .slice x q cx, .int .i64 ((kk : Nat) : Int)] W fun e' w' => AppliedD W n' (wrt z ((appW z e0 r).take kk)) e' w') := fun W a' n' c1 x q cx kk e0 z r zs h1 h2 h3 h4 h5 h6 h7 h8 => apply_dsk a' x n' q c1 cx kk e0 z r zs W h1 h2 h3 h4 h5 h6 h7 h8
  have HRP : Hid (∀ W a' n' c' z zs e0, Dsk W a' n' c' z → Tape z zs e0 → Calls Try.prog 10 #[.slice a' n' c'] W fun e w' => RepT W zs e0 e w') := fun W a' n' c' z zs e0 hd ht => rep_t KR a' n' c' z zs e0 W hd ht
  have HSR : Hid (∀ W a1 c1 b1 c2 (zs : List (List Int)), Reads W a1 zs.length zs → Reads W b1 zs.length zs → zs.length ≤ 100000 → Calls Try.prog 19 #[.slice a1 zs.length c1, .slice b1 zs.length c2] W fun e w' => e = .returned (.bool true) ∧ Below W.heap.size W w') := fun W a1 c1 b1 c2 zs h1 h2 hn => records_keep a1 b1 zs.length c1 c2 zs W h1 h2 hn
  have HPU : Hid (∀ W a' n' c' z zs e0 g rn rc r, Dsk W a' n' c' z → Tape z zs e0 → RowU W (some ⟨g, 0, none⟩) rn r → Wds r → 1 ≤ rn → rn ≤ 20 → rn ≤ rc → e0 + rn < n' → Calls Try.prog 22 #[.slice a' n' c', .slice (some ⟨g, 0, none⟩) rn rc] W fun e w' => PutPost W n' (wrt z (appW z e0 r)) e w') := fun W a' n' c' z zs e0 g rn rc r hd ht hr hw h1 h2 h3 h4 => put_any KA a' _ n' c' rn rc e0 z r zs W hd hr (fun h => by cases h) h3 hw ht ⟨by rw [hr.1]; exact h1, by rw [hr.1]; omega⟩ (by rw [hr.1, hd.row.1]; exact h4)
  have HST : Hid (∀ W a' n' c' z', RowU W a' n' z' → Wds z' → Calls Try.prog 20 #[.slice a' n' c', .int .i64 20] W fun e w' => SomeR W 20 e w') := fun W a' n' c' z' h h' => some_row a' n' c' 20 z' W h h' (by decide) (by decide)
  have HPK : Hid (∀ W (q : Nat) (x : Int), 1 ≤ q → q ≤ 100 → (Lit.int .i64 x).wf = true → ∃ kk : Nat, kk < q ∧ Calls Try.prog 18 #[.int .i64 x, .int .i64 (q : Int)] W fun e w' => e = .returned (.int .i64 (kk : Int)) ∧ w' = W) := fun W q x h1 hq hx => ⟨(check.pick x (q : Int)).toNat, check.pick_toNat x q (by omega), check.picked_nat x q W hx (by omega) (by omega)⟩
  have HR1 : Hid (∀ wr, Below w.heap.size w wr → RwsW wr a1 len1 A1 L1 C1 Z1) := fun wr hB => hr1.below hB
  have HCS : Hid (∀ wr, Below w.heap.size w wr → irow.RowF wr a2 len2 cs) := fun wr hB => hcs.below hB
  clear hr KA KR hb hbw hr1 hcs
  go_enter Try.func7, Try.ntmps7
  go_wp2_with fail
  refine (HTP.out _ (Below.refl _ _)).mono ?_
  rintro e w2 (⟨ta, tn, tc, V, c, sl, zs, rfl, hn1, ht⟩ | ⟨h0, _⟩)
  case inr => exact absurd h0 (by decide)
  obtain ⟨av, cv, hv, _⟩ := ht.reads
  subst hv
  obtain ⟨E, hE⟩ : ∃ E : Nat, E = sumR zs := ⟨_, rfl⟩
  have hsz1 : tn ≤ 25 + E := by rw [hE, ht.size]; exact Nat.le_refl _
  have hsz2 : 25 + E ≤ tn := by rw [hE, ht.size]; exact Nat.le_refl _
  have hE1 : E ≤ 1000 := by have := sumR_most ht.ok; have := ht.few; omega
  have hz12 := ht.few
  have HD2 : Hid (Dsk w2 ta tn tc c) := ht.disk
  have HT2 : Hid (Tape c zs E) := by show Tape c zs E; rw [hE]; exact ht.tape
  have HG2 : Hid (Gath w (.slice av zs.length cv) sl zs w2) := ⟨ht.lr, ht.recs, ht.room, ht.ok, ht.bel⟩
  obtain ⟨w1, hw1⟩ : ∃ w1, w1 = w := ⟨_, rfl⟩
  subst hw1
  clear ht HTP hE hn1
  go_wp2_with fail
  go_loopw [9, 12] (fun vc i wr => ∃ (k : Nat) (a' : Option Addr) (c' : Nat) (z : List Int), vc = .slice a' tn c' ∧ k ≤ len1 ∧ k ≤ 8 ∧ i = .int .i64 (k : Int) ∧ Dsk wr a' tn c' z ∧ Tape z zs E ∧ Gath w1 (.slice av zs.length cv) sl zs wr) (fun _ i _ => len1 - (intOf i).toNat)
  case atStart => exact ⟨0, ta, tc, c, rfl, Nat.zero_le _, Nat.zero_le _, rfl, HD2.out, HT2.out, HG2.out⟩
  case round =>
    obtain ⟨k, a', c', z, rfl, hk, hk8, rfl, hd, ht, hG⟩ := hrel
    have HDK : Hid (Dsk wr a' tn c' z) := hd
    have HTK : Hid (Tape z zs E) := ht
    have HGK : Hid (Gath w1 (.slice av zs.length cv) sl zs wr) := hG
    clear HD2 HT2 HG2
    by_cases hgo : k < len1 ∧ k < 8
    · obtain ⟨hlt, hlt2⟩ := hgo
      obtain ⟨bt, ot, rfl, hcell, hrow, hwd⟩ := HR1.out wr hG.bel k hlt
      have HSO1 : Hid (Calls Try.prog 20 #[.slice (A1 k) (L1 k) (C1 k), .int .i64 20] wr fun e w' => SomeR wr 20 e w') := HST.out wr _ _ _ _ hrow hwd
      clear hrow hwd hd ht hG HSO HRP HSR HPU HST
      generalize A1 k = Ak at *
      generalize L1 k = Lk at *
      generalize C1 k = Ck at *
      go_wp2_with fail
      refine HSO1.out.mono ?_
      rintro e w3 ⟨g, rn, rc, r, rfl, hr3, hg0, hg1, hn1, hn20, hrc, hrw, hb3⟩
      have HAP1 : Hid (Calls Try.prog 14 #[.slice a' tn c', .slice (some ⟨g, 0, none⟩) rn rc] w3 fun e w' => AppT w3 z r E tn rn e w') := HAP.out w3 a' tn c' z zs E g rn rc r (HDK.out.below hb3) HTK.out hr3 hrw hn1 hn20 hrc
      have HRL : Hid (r.length = rn) := hr3.1
      have HWR : Hid (Wds r) := hrw
      have HG3 : Hid (Gath w1 (.slice av zs.length cv) sl zs w3) := HGK.out.next hb3
      have HD3 : Hid (Dsk w3 a' tn c' z) := HDK.out.below hb3
      clear hr3 hg0 hg1 hrc hrw hb3 HSO1 HAP HGK HDK hcell
      go_wp2_with fail
      refine HAP1.out.mono ?_
      rintro e w4 (⟨hfit, x, q, cx, rfl, hrow, _, hle, hq, hb4⟩ | ⟨hful, _⟩)
      case inr => omega
      have hq1 : 2 ≤ q := by split at hq <;> omega
      have hq2 : q ≤ 30 := by split at hq <;> omega
      have HRW4 : Hid (RowW w4 x q (appW z E r)) := hrow
      have HQL : Hid ((appW z E r).length = q) := hrow.1
      have HD4 : Hid (Dsk w4 a' tn c' z) := HD3.out.below hb4
      have HG4 : Hid (Gath w1 (.slice av zs.length cv) sl zs w4) := HG3.out.next hb4
      have HTZ : Hid (Tape z zs E) := HTK.out
      have hq0 : ((q : Int) == 0) = false := by simp; omega
      clear hrow hq hb4 HAP1 HD3 HG3 HTK
      by_cases hcut : k < len2
      · obtain ⟨bc, oc, rfl, hcc, hcw⟩ := HCS.out w4 HG4.out.bel k hcut
        obtain ⟨kk, hkk, hpk⟩ := HPK.out w4 q (cs.getD k 0) (by omega) (by omega) hcw
        have HPK1 : Hid (Calls Try.prog 18 #[.int .i64 (cs.getD k 0), .int .i64 (q : Int)] w4 fun e w' => e = .returned (.int .i64 (kk : Int)) ∧ w' = w4) := hpk
        have HAD1 : Hid (Calls Try.prog 21 #[.slice a' tn c', .slice x q cx, .int .i64 (kk : Int)] w4 fun e' w' => AppliedD w4 tn (wrt z ((appW z E r).take kk)) e' w') := by
          have := HAD.out w4 a' tn c' x q cx kk E z r zs HD4.out HTZ.out ⟨by rw [HRL.out]; exact hn1, by rw [HRL.out]; omega⟩ HWR.out (by rw [HRL.out, HD4.out.row.1]; omega) HRW4.out hle (by omega)
          exact this
        have HTC : Hid (Tape (wrt z ((appW z E r).take kk)) zs E) := HTZ.out.cut (r := r) (by rw [HRL.out, HD4.out.row.1]; omega) (by rw [HQL.out]; omega)
        clear HD4 HTZ HRW4 HWR HRL HQL
        clear hpk hcw HR1 HCS
        generalize cs.getD k 0 = ck at *
        go_wp2_with fail
        refine HPK1.out.mono ?_
        rintro e w5 ⟨rfl, hw5⟩
        subst hw5
        clear HPK1 hcc
        clear HPK HAD
        go_wp2_with fail
        refine HAD1.out.mono ?_
        rintro e w6 ⟨a6, c6, rfl, hd6, hb6⟩
        have HD6 : Hid (Dsk w6 a6 tn c6 (wrt z ((appW z E r).take kk))) := hd6
        have HG6 : Hid (Gath w1 (.slice av zs.length cv) sl zs w6) := HG4.out.next hb6
        clear hd6 hb6 HAD1 HG4
        go_wp2_with fail
        go_roundw
        case rel => exact ⟨k + 1, a6, c6, _, rfl, by omega, by omega, by go_num, HD6.out, HTC.out, HG6.out⟩
        case measure => simp [intOf]; omega
      · have hdc : decide ((k : Int) < (len2 : Int)) = false := by simp; omega
        obtain ⟨kk, hkk⟩ : ∃ kk : Nat, q = kk + 1 := ⟨q - 1, by omega⟩
        have HAD1 : Hid (Calls Try.prog 21 #[.slice a' tn c', .slice x q cx, .int .i64 ((q : Int) - 1)] w4 fun e' w' => AppliedD w4 tn (wrt z ((appW z E r).take kk)) e' w') := by
          have := HAD.out w4 a' tn c' x q cx kk E z r zs HD4.out HTZ.out ⟨by rw [HRL.out]; exact hn1, by rw [HRL.out]; omega⟩ HWR.out (by rw [HRL.out, HD4.out.row.1]; omega) HRW4.out hle (by omega)
          rw [show ((kk : Nat) : Int) = (q : Int) - 1 by omega] at this; exact this
        have HTC : Hid (Tape (wrt z ((appW z E r).take kk)) zs E) := HTZ.out.cut (r := r) (by rw [HRL.out, HD4.out.row.1]; omega) (by rw [HQL.out]; omega)
        clear HD4 HTZ HRW4 HWR HRL HQL
        clear HR1 HCS hkk
        clear HPK HAD
        go_wp2_with fail
        refine HAD1.out.mono ?_
        rintro e w6 ⟨a6, c6, rfl, hd6, hb6⟩
        have HD6 : Hid (Dsk w6 a6 tn c6 (wrt z ((appW z E r).take kk))) := hd6
        have HG6 : Hid (Gath w1 (.slice av zs.length cv) sl zs w6) := HG4.out.next hb6
        clear hd6 hb6 HAD1 HG4
        go_wp2_with fail
        go_roundw
        case rel => exact ⟨k + 1, a6, c6, _, rfl, by omega, by omega, by go_num, HD6.out, HTC.out, HG6.out⟩
        case measure => simp [intOf]; omega
    · clear hd ht hG HST
      by_cases g1 : k < len1
      · have g2 : ¬ (k : Int) < 8 := by omega
        have g3 : decide ((k : Int) < 8) = false := by simp; omega
        clear hgo
        clear HAP HAD HPK HR1 HCS
        go_wp2_with fail
        refine (HSO.out _ HGK.out.bel).mono ?_
        rintro e w3 ⟨g, rn, rc, r, rfl, hr3, hg0, hg1, hrn1, hrn20, hrc, hrw, hb3⟩
        have HG3 : Hid (Gath w1 (.slice av zs.length cv) sl zs w3) := HGK.out.next hb3
        have hrl : r.length = rn := hr3.1
        have HRL : Hid (r.length = rn) := hrl
        have HTN : Hid (Tape (wrt z (appW z E r)) (zs ++ [r]) (E + r.length + 1)) := HTK.out.all ⟨by omega, by omega⟩ (by rw [HDK.out.row.1]; omega)
        have HPU1 : Hid (Calls Try.prog 22 #[.slice a' tn c', .slice (some ⟨g, 0, none⟩) rn rc] w3 fun e w' => PutPost w3 tn (wrt z (appW z E r)) e w') := HPU.out w3 a' tn c' z zs E g rn rc r (HDK.out.below hb3) HTK.out hr3 hrw hrn1 hrn20 hrc (by omega)
        have HR3 : Hid (RowU w3 (some ⟨g, 0, none⟩) rn r ∧ Wds r ∧ g < w3.heap.size ∧ rn ≤ rc) := ⟨hr3, hrw, hg1, hrc⟩
        have hgo : some g ≠ (Value.slice av zs.length cv).ownBlock := fun e => by have := own_old HGK.out g e.symm; omega
        have HGO : Hid (some g ≠ (Value.slice av zs.length cv).ownBlock) := hgo
        clear hr3 hg0 hg1 hrc hrw hb3 hgo HSO HPU HGK HDK HTK hrl
        go_wp2_with fail
        refine HPU1.out.mono ?_
        rintro e w5 ⟨a5, c5, rfl, hd5, hb5⟩
        have HG5 : Hid (Gath w1 (.slice av zs.length cv) sl zs w5) := HG3.out.next hb5
        have HR5 : Hid (RowU w5 (some ⟨g, 0, none⟩) rn r ∧ Wds r ∧ g < w5.heap.size ∧ rn ≤ rc) := ⟨HR3.out.1.below hb5, HR3.out.2.1, Nat.lt_of_lt_of_le HR3.out.2.2.1 hb5.size, HR3.out.2.2.2⟩
        have HRP1 : Hid (Calls Try.prog 10 #[.slice a5 tn c5] w5 fun e w' => RepT w5 (zs ++ [r]) (E + r.length + 1) e w') := HRP.out w5 _ _ _ _ _ _ hd5 HTN.out
        clear hd5 hb5 HPU1 HG3 HR3 HRP HTN
        go_wp2_with fail
        refine HRP1.out.mono ?_
        rintro e w7 ⟨ra, rcap, rfl, hrd, hb7⟩
        rw [List.length_append] at hrd ⊢
        have HRD7 : Hid (ReadsF w7 w5.heap.size ra (zs.length + 1) (zs ++ [r])) := hrd
        have hG7 : Gath w1 (.slice av zs.length cv) sl zs w7 := HG5.out.next hb7
        have hR7 := HR5.out.1.below hb7
        have HLA : Hid (Lr 22 (w7.alloc (.cells #[.slice (some ⟨g, 0, none⟩) rn rc] 22)) w1.heap.size (.slice av zs.length cv) sl) := hG7.lr.alloc _
        have HCA : Hid ((w7.alloc (.cells #[.slice (some ⟨g, 0, none⟩) rn rc] 22)).cell? ⟨w7.heap.size, 0, none⟩ = some (Sli.v ⟨some ⟨g, 0, none⟩, rn, rc⟩)) := (Blk.new w7 _ _).cell 0
        have HSZ : Hid (w1.heap.size ≤ (w7.alloc (.cells #[.slice (some ⟨g, 0, none⟩) rn rc] 22)).heap.size) := alloc_le hG7.bel.size _
        have hsl : sl.length ≤ 1000000 := by have := hG7.recs.1; omega
        have HGS : Hid (∀ v3 w8, Lr 22 w8 w1.heap.size v3 (sl ++ [⟨some ⟨g, 0, none⟩, rn, rc⟩]) → (w7.alloc (.cells #[.slice (some ⟨g, 0, none⟩) rn rc] 22)).grownBy w8 (Value.slice av zs.length cv).ownBlock → (v3.ownBlock = (Value.slice av zs.length cv).ownBlock ∨ v3.ownBlock = some (w7.heap.size + 1)) → Gath w1 v3 (sl ++ [⟨some ⟨g, 0, none⟩, rn, rc⟩]) (zs ++ [r]) w8) := fun v3 w8 q1 q2 q3 => hG7.snoc hR7 (Nat.lt_of_lt_of_le HR5.out.2.2.1 hb7.size) HGO.out ⟨HR5.out.2.1, by rw [HRL.out]; exact hrn1, by rw [HRL.out]; omega⟩ HR5.out.2.2.2 q1 q2 q3
        have HOLD : Hid (∀ k, (Value.slice av zs.length cv).ownBlock = some k → k < w5.heap.size) := own_old HG5.out
        clear hrd hb7 hG7 hR7 HRP1 HG5 HR5
        go_wp2_with (first
          | (at_builtin; refine wp_sliG sliT (by rfl) _ _ rfl w1.heap.size w7.heap.size (.slice av zs.length cv) sl ⟨some ⟨g, 0, none⟩, rn, rc⟩ rfl rfl HLA.out HCA.out hsl HSZ.out ?_)
          | fail)
        intro v3 w8 h3 hg3 ho3
        have hG8 := HGS.out v3 w8 h3 hg3 ho3
        have hba : Below w7.heap.size w7 (w7.alloc (.cells #[.slice (some ⟨g, 0, none⟩) rn rc] 22)) := (Below.refl _ _).alloc (Nat.le_refl _) _
        have hrd8 := (HRD7.out.below hba).grown hg3 HOLD.out
        obtain ⟨av8, cv8, hv8, hre8⟩ := reads_of hG8.lr hG8.recs (fun i hi => by have := (hG8.room.at i hi).2; omega)
        subst hv8
        have HS1 : Hid (Calls Try.prog 19 #[.slice ra (zs.length + 1) rcap, .slice av8 (zs.length + 1) cv8] w8 fun e w' => e = .returned (.bool true) ∧ Below w8.heap.size w8 w') := by
          have e1 : (zs ++ [r]).length = zs.length + 1 := by rw [List.length_append]; rfl
          have := HSR.out w8 ra rcap av8 cv8 (zs ++ [r]) (by rw [e1]; exact hrd8.reads) hre8 (by rw [e1]; omega)
          rw [e1] at this
          exact this
        have HBB : Hid (Below w1.heap.size w1 w8) := hG8.bel
        rw [show (zs ++ [r]).length = zs.length + 1 by rw [List.length_append]; rfl]
        clear h3 hg3 ho3 hG8 hba hrd8 hre8 HLA HCA HSZ HGS HRD7 HOLD HSR HRL
        go_wp2_with fail
        refine HS1.out.mono ?_
        rintro e w9 ⟨rfl, hb9⟩
        have HB9 : Hid (Below w1.heap.size w1 w9) := HBB.out.trans (hb9.mono HBB.out.size)
        clear hb9 HS1
        go_wp2_with fail
        go_ret
        exact ⟨rfl, HB9.out⟩
      · clear hgo
        clear HAP HAD HPK HR1 HCS
        go_wp2_with fail
        refine (HSO.out _ HGK.out.bel).mono ?_
        rintro e w3 ⟨g, rn, rc, r, rfl, hr3, hg0, hg1, hrn1, hrn20, hrc, hrw, hb3⟩
        have HG3 : Hid (Gath w1 (.slice av zs.length cv) sl zs w3) := HGK.out.next hb3
        have hrl : r.length = rn := hr3.1
        have HRL : Hid (r.length = rn) := hrl
        have HTN : Hid (Tape (wrt z (appW z E r)) (zs ++ [r]) (E + r.length + 1)) := HTK.out.all ⟨by omega, by omega⟩ (by rw [HDK.out.row.1]; omega)
        have HPU1 : Hid (Calls Try.prog 22 #[.slice a' tn c', .slice (some ⟨g, 0, none⟩) rn rc] w3 fun e w' => PutPost w3 tn (wrt z (appW z E r)) e w') := HPU.out w3 a' tn c' z zs E g rn rc r (HDK.out.below hb3) HTK.out hr3 hrw hrn1 hrn20 hrc (by omega)
        have HR3 : Hid (RowU w3 (some ⟨g, 0, none⟩) rn r ∧ Wds r ∧ g < w3.heap.size ∧ rn ≤ rc) := ⟨hr3, hrw, hg1, hrc⟩
        have hgo : some g ≠ (Value.slice av zs.length cv).ownBlock := fun e => by have := own_old HGK.out g e.symm; omega
        have HGO : Hid (some g ≠ (Value.slice av zs.length cv).ownBlock) := hgo
        clear hr3 hg0 hg1 hrc hrw hb3 hgo HSO HPU HGK HDK HTK hrl
        go_wp2_with fail
        refine HPU1.out.mono ?_
        rintro e w5 ⟨a5, c5, rfl, hd5, hb5⟩
        have HG5 : Hid (Gath w1 (.slice av zs.length cv) sl zs w5) := HG3.out.next hb5
        have HR5 : Hid (RowU w5 (some ⟨g, 0, none⟩) rn r ∧ Wds r ∧ g < w5.heap.size ∧ rn ≤ rc) := ⟨HR3.out.1.below hb5, HR3.out.2.1, Nat.lt_of_lt_of_le HR3.out.2.2.1 hb5.size, HR3.out.2.2.2⟩
        have HRP1 : Hid (Calls Try.prog 10 #[.slice a5 tn c5] w5 fun e w' => RepT w5 (zs ++ [r]) (E + r.length + 1) e w') := HRP.out w5 _ _ _ _ _ _ hd5 HTN.out
        clear hd5 hb5 HPU1 HG3 HR3 HRP HTN
        go_wp2_with fail
        refine HRP1.out.mono ?_
        rintro e w7 ⟨ra, rcap, rfl, hrd, hb7⟩
        rw [List.length_append] at hrd ⊢
        have HRD7 : Hid (ReadsF w7 w5.heap.size ra (zs.length + 1) (zs ++ [r])) := hrd
        have hG7 : Gath w1 (.slice av zs.length cv) sl zs w7 := HG5.out.next hb7
        have hR7 := HR5.out.1.below hb7
        have HLA : Hid (Lr 22 (w7.alloc (.cells #[.slice (some ⟨g, 0, none⟩) rn rc] 22)) w1.heap.size (.slice av zs.length cv) sl) := hG7.lr.alloc _
        have HCA : Hid ((w7.alloc (.cells #[.slice (some ⟨g, 0, none⟩) rn rc] 22)).cell? ⟨w7.heap.size, 0, none⟩ = some (Sli.v ⟨some ⟨g, 0, none⟩, rn, rc⟩)) := (Blk.new w7 _ _).cell 0
        have HSZ : Hid (w1.heap.size ≤ (w7.alloc (.cells #[.slice (some ⟨g, 0, none⟩) rn rc] 22)).heap.size) := alloc_le hG7.bel.size _
        have hsl : sl.length ≤ 1000000 := by have := hG7.recs.1; omega
        have HGS : Hid (∀ v3 w8, Lr 22 w8 w1.heap.size v3 (sl ++ [⟨some ⟨g, 0, none⟩, rn, rc⟩]) → (w7.alloc (.cells #[.slice (some ⟨g, 0, none⟩) rn rc] 22)).grownBy w8 (Value.slice av zs.length cv).ownBlock → (v3.ownBlock = (Value.slice av zs.length cv).ownBlock ∨ v3.ownBlock = some (w7.heap.size + 1)) → Gath w1 v3 (sl ++ [⟨some ⟨g, 0, none⟩, rn, rc⟩]) (zs ++ [r]) w8) := fun v3 w8 q1 q2 q3 => hG7.snoc hR7 (Nat.lt_of_lt_of_le HR5.out.2.2.1 hb7.size) HGO.out ⟨HR5.out.2.1, by rw [HRL.out]; exact hrn1, by rw [HRL.out]; omega⟩ HR5.out.2.2.2 q1 q2 q3
        have HOLD : Hid (∀ k, (Value.slice av zs.length cv).ownBlock = some k → k < w5.heap.size) := own_old HG5.out
        clear hrd hb7 hG7 hR7 HRP1 HG5 HR5
        go_wp2_with (first
          | (at_builtin; refine wp_sliG sliT (by rfl) _ _ rfl w1.heap.size w7.heap.size (.slice av zs.length cv) sl ⟨some ⟨g, 0, none⟩, rn, rc⟩ rfl rfl HLA.out HCA.out hsl HSZ.out ?_)
          | fail)
        intro v3 w8 h3 hg3 ho3
        have hG8 := HGS.out v3 w8 h3 hg3 ho3
        have hba : Below w7.heap.size w7 (w7.alloc (.cells #[.slice (some ⟨g, 0, none⟩) rn rc] 22)) := (Below.refl _ _).alloc (Nat.le_refl _) _
        have hrd8 := (HRD7.out.below hba).grown hg3 HOLD.out
        obtain ⟨av8, cv8, hv8, hre8⟩ := reads_of hG8.lr hG8.recs (fun i hi => by have := (hG8.room.at i hi).2; omega)
        subst hv8
        have HS1 : Hid (Calls Try.prog 19 #[.slice ra (zs.length + 1) rcap, .slice av8 (zs.length + 1) cv8] w8 fun e w' => e = .returned (.bool true) ∧ Below w8.heap.size w8 w') := by
          have e1 : (zs ++ [r]).length = zs.length + 1 := by rw [List.length_append]; rfl
          have := HSR.out w8 ra rcap av8 cv8 (zs ++ [r]) (by rw [e1]; exact hrd8.reads) hre8 (by rw [e1]; omega)
          rw [e1] at this
          exact this
        have HBB : Hid (Below w1.heap.size w1 w8) := hG8.bel
        rw [show (zs ++ [r]).length = zs.length + 1 by rw [List.length_append]; rfl]
        clear h3 hg3 ho3 hG8 hba hrd8 hre8 HLA HCA HSZ HGS HRD7 HOLD HSR HRL
        go_wp2_with fail
        refine HS1.out.mono ?_
        rintro e w9 ⟨rfl, hb9⟩
        have HB9 : Hid (Below w1.heap.size w1 w9) := HBB.out.trans (hb9.mono HBB.out.size)
        clear hb9 HS1
        go_wp2_with fail
        go_ret
        exact ⟨rfl, HB9.out⟩

end Go.Proofs.Ytfllkhlnnihndaa.disk
