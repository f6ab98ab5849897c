import Derived.Test.YtomibnggmhjdfaaGreatVVCes17
import Derived.Test.YtomibnggmhjdfaaGreatVVCes29
set_option linter.unusedVariables false
set_option linter.unusedSimpArgs false
namespace Go.Proofs.YtomibnggmhjdfaaGreat
namespace book
open Go.RowKit
open acc (Ac Tm Bi APost BPost TFault TRight OpenIs)
set_option maxRecDepth 100000
set_option maxHeartbeats 8000000 in
theorem rbook (t : Tm) (pt : Option Addr) (lt ct : Nat) (pl : Option Addr) (n cap : Nat) (l : List Ev) (w : World) (ht : tar.RowD w pt lt t.ts) (htl : lt ≤ maxLen) (hl : RowE w pl n l) (hnm : n ≤ 9223372036854775807) :
  Calls Tryz.prog 20 #[.agg #[.slice pt lt ct, .int .i64 t.ff, .int .i64 t.fb, .int .i64 t.db, .int .i64 t.al], .slice pl n cap] w fun e w' => BookPost w t l e w' := by
 have HTM : Hid (∀ W, Below w.heap.size w W → tar.RowD W pt lt t.ts) := fun W hB => ht.below hB
 have HTL : Hid (lt ≤ maxLen) := htl
 have HRE : Hid (RowE w pl n l) := hl
 have HLN : Hid (l.length = n) := hl.1
 have HTF : Hid (∀ W, Below w.heap.size w W → Calls Tryz.prog 34 #[.agg #[.slice pt lt ct, .int .i64 t.ff, .int .i64 t.fb, .int .i64 t.db, .int .i64 t.al]] W fun e w' => tar.ErrPost W (TFault t) e w') := fun W hB => acc.rterms t pt lt ct W (ht.below hB) htl
 obtain ⟨W0, HWW, HT0, HR0, HB0, -⟩ := sh2 w #[.slice pt lt ct, .int .i64 t.ff, .int .i64 t.fb, .int .i64 t.db, .int .i64 t.al] 24 #[.slice none 0 0] 29
 clear ht htl hl
 go_enter Tryz.func20, Tryz.ntmps20
 go_upto_region 1 with fail
 rw [HWW.out]
 clear HWW
 obtain ⟨k0, k1, k2, k3, k4⟩ := scl5 HT0
 have HF1 : Hid (Calls Tryz.prog 34 #[.agg #[.slice pt lt ct, .int .i64 t.ff, .int .i64 t.fb, .int .i64 t.db, .int .i64 t.al]] W0 fun e w' => tar.ErrPost W0 (TFault t) e w') := HTF.out W0 HB0.out
 clear HTF
 go_wp2_with fail
 refine HF1.out.mono ?_
 rintro e w1 ⟨f, rfl, hf, hb1⟩
 have HT1 := shN HT0 hb1
 have HR1 := shN HR0 hb1
 have HB1 := shB HB0 hb1
 clear hb1 HT0 HR0 HB0 HF1 k0 k1 k2 k3 k4
 by_cases h0 : f = 0
 ·subst h0
  have HTR : Hid (TRight t) := hf.ok.1 rfl
  clear hf
  by_cases hbig : 120 < n
  ·have hd1 : decide ((120 : Int) < (n : Int)) = true := decide_eq_true (by omega)
   have HBG : Hid (120 < l.length) := by show _ < _; rw [HLN.out]; exact hbig
   clear hbig
   go_wp2_with (first | (refine zql rfl rfl rfl rfl zqu29 (by simp [Value.oneCell']) HR1 rfl ?_) | fail)
   intro WF hU
   have R0 : Hid (WF.cell? ⟨w.heap.size + 1, 0, none⟩ = some (.slice none 0 0)) := hU.blk.cell 0
   have HBF := shV hU HB1 (by omega)
   clear hU
   have HFIN : Hid (BookPost w t l (.returned (.tuple #[.agg #[.slice none 0 0], .int .i64 0, .int .i64 1])) WF) := ⟨none, 0, 0, [], [], 0, 1, rfl, .inr (.inl ⟨HTR.out, HBG.out, rfl, rfl, rfl⟩), sees_nil _, Nat.zero_le _, HBF.out⟩
   go_wp2_with fail
   exact bodyPost_ret (v := .tuple #[.agg #[.slice none 0 0], .int .i64 0, .int .i64 1]) (by simp [results, Tryz.results20, R0.out, go_sem]) rfl HFIN.out
  ·have hd1 : decide ((120 : Int) < (n : Int)) = false := decide_eq_false (by omega)
   have HFEW : Hid (l.length ≤ 120) := by show _ ≤ _; rw [HLN.out]; omega
   have hn120 : n ≤ 120 := by omega
   have HM0 : Hid (Mid w t pt lt ct l w1.heap.size (w1.alloc (.cells #[.slice none 0 0] 29)).heap.size 0 (fun _ => []) [] none 0 (w1.alloc (.cells #[.slice none 0 0] 29))) := ⟨rfl, (fun i hi => absurd hi (Nat.not_lt_zero _)), Small.zero, HT1.out.alloc _, HR1.out.alloc _, Blk.new _ _ _, Holds.zero _ _, HB1.out.alloc HB1.out.size _, Nat.le_refl _⟩
   have HG8 : Hid (w.heap.size + 1 < w1.heap.size ∧ w1.heap.size < (w1.alloc (.cells #[.slice none 0 0] 29)).heap.size) := ⟨HR1.out.lt, by simp⟩
   go_upto_region 7 with fail
   generalize (w1.alloc (.cells #[.slice none 0 0] 29)) = W1 at *
   generalize w1.heap.size = g8 at *
   clear HT1 HR1 HB1 hbig
   go_wp2_with fail
   go_loopw [9] (fun i wr => ∃ (k : Nat) (st : Nat → List Cm) (xs : List Cu) (pa : Option Addr) (pc : Nat), k ≤ n ∧ i = .int .i64 (k : Int) ∧ Mid w t pt lt ct l g8 W1.heap.size k st xs pa pc wr) (fun i _ => n - (intOf i).toNat)
   case atStart => exact ⟨0, _, _, _, _, Nat.zero_le _, rfl, HM0.out⟩
   case round =>
    obtain ⟨k, st, xs, pa, pc, hk, rfl, hmid⟩ := hrel
    have HM : Hid (Mid w t pt lt ct l g8 W1.heap.size k st xs pa pc wr) := hmid
    clear hmid HM0
    by_cases hlt : k < n
    ·obtain ⟨bl, off, rfl, lb, hc⟩ := HRE.out.2.resolve_left (by omega)
     have hce : ∀ j, j < 13 → wr.cell? ⟨bl, off + k * 13 + j, none⟩ = (l.getD k ev0).cl[j]? := fun j hj => (HM.out.bel.cell (p := ⟨bl, off + k * 13 + j, none⟩) lb).trans (hc k j hlt hj)
     obtain ⟨v, hv⟩ : ∃ v, v = l.getD k ev0 := ⟨_, rfl⟩
     have HV : Hid (v = l.getD k ev0) := hv
     rw [← hv] at hce
     clear hv hc
     have c0 : wr.cell? ⟨bl, off + k * 13, none⟩ = some (.int .i64 v.kd) := hce 0 (by decide)
     have c1 : wr.cell? ⟨bl, off + k * 13 + 1, none⟩ = some (.int .i64 v.me) := hce 1 (by decide)
     have c2 : wr.cell? ⟨bl, off + k * 13 + 2, none⟩ = some (.int .i64 v.mo) := hce 2 (by decide)
     have c3 : wr.cell? ⟨bl, off + k * 13 + 3, none⟩ = some (.int .i64 v.id) := hce 3 (by decide)
     have c4 : wr.cell? ⟨bl, off + k * 13 + 4, none⟩ = some (.int .i64 v.te) := hce 4 (by decide)
     have c5 : wr.cell? ⟨bl, off + k * 13 + 5, none⟩ = some (.int .i64 v.de) := hce 5 (by decide)
     have c6 : wr.cell? ⟨bl, off + k * 13 + 6, none⟩ = some (.int .i64 v.fe) := hce 6 (by decide)
     have c7 : wr.cell? ⟨bl, off + k * 13 + 7, none⟩ = some (.int .i64 v.pr) := hce 7 (by decide)
     have c8 : wr.cell? ⟨bl, off + k * 13 + 8, none⟩ = some (.int .i64 v.ch) := hce 8 (by decide)
     have c9 : wr.cell? ⟨bl, off + k * 13 + 9, none⟩ = some (.int .i64 v.un) := hce 9 (by decide)
     have c10 : wr.cell? ⟨bl, off + k * 13 + 10, none⟩ = some (.int .i64 v.tg) := hce 10 (by decide)
     have c11 : wr.cell? ⟨bl, off + k * 13 + 11, none⟩ = some (.int .i64 v.ow) := hce 11 (by decide)
     have c12 : wr.cell? ⟨bl, off + k * 13 + 12, none⟩ = some (.int .i64 v.bp) := hce 12 (by decide)
     have HKL : Hid (k < l.length) := by show _ < _; rw [HLN.out]; exact hlt
     obtain ⟨W2, HWW, HV1, HBB, -⟩ := sh1 wr #[.int .i64 v.kd, .int .i64 v.me, .int .i64 v.mo, .int .i64 v.id, .int .i64 v.te, .int .i64 v.de, .int .i64 v.fe, .int .i64 v.pr, .int .i64 v.ch, .int .i64 v.un, .int .i64 v.tg, .int .i64 v.ow, .int .i64 v.bp] 71
     have HM1 : Hid (Mid w t pt lt ct l g8 W1.heap.size k st xs pa pc W2) := HM.out.next HBB.out
     have HGW : Hid (W1.heap.size ≤ wr.heap.size) := HM.out.sz
     have HOL : Hid (∀ i, i < xs.length → ∀ g, (xs.getD i cu0).sold.ownBlock = some g → g < wr.heap.size) := fun i hi g hg => (World.ownsRow.lt (HM.out.hold.has i hi).so g hg).2
     clear hce HM
     go_upto_region 11 with fail
     clear c0 c1 c2 c3 c4 c5 c6 c7 c8 c9 c10 c11 c12
     rw [HWW.out]
     clear HWW HBB
     generalize wr.heap.size = g10 at *
     obtain ⟨c0, c1, c2, c3, c4, c5, c6, c7, c8, c9, c10, c11, c12⟩ := scl13 HV1
     have HMY : Hid (∀ W, Calls Tryz.prog 35 #[.agg #[.int .i64 v.kd, .int .i64 v.me, .int .i64 v.mo, .int .i64 v.id, .int .i64 v.te, .int .i64 v.de, .int .i64 v.fe, .int .i64 v.pr, .int .i64 v.ch, .int .i64 v.un, .int .i64 v.tg, .int .i64 v.ow, .int .i64 v.bp]] W fun e w' => MayPost W v e w') := fun W => rmay v W
     go_wp2_with fail
     refine (HMY.out _).mono ?_
     rintro e w3 ⟨B, rfl, hB, hb3⟩
     have HM3 : Hid (Mid w t pt lt ct l g8 W1.heap.size k st xs pa pc w3) := HM1.out.next hb3
     have HV3 := shN HV1 hb3
     clear hb3 HM1 HV1 HMY
     clear c0 c1 c2 c3 c4 c5 c6 c7 c8 c9 c10 c11 c12
     cases B with
     | false =>
      have HS : Hid (StepIs t (st k) (l.getD k ev0) [] 5) := by rw [← HV.out]; exact .inl ⟨fun h => absurd (hB.2 h) (by decide), rfl⟩
      clear hB
      go_wp2_with (first | (refine wp_letAll rfl 29 _ _ rfl (w.heap.size + 1) rfl #[.slice none 0 0] rfl (by kernel_rfl) (by simp [Value.oneCell']) #[.slice none 0 0] 29 HM3.out.br rfl ?_) | fail)
      intro WF hU
      have R0 : Hid (WF.cell? ⟨w.heap.size + 1, 0, none⟩ = some (.slice none 0 0)) := hU.blk.cell 0
      have HBF : Hid (Below w.heap.size w WF) := hU.bel _ _ (by omega) HM3.out.bel
      clear hU
      have HFIN : Hid (BookPost w t l (.returned (.tuple #[.agg #[.slice none 0 0], .int .i64 (k : Int), .int .i64 5])) WF) := ⟨none, 0, 0, [], [], (k : Int), 5, rfl, HM3.out.stop HTR.out HFEW.out HKL.out HS.out (by decide), sees_nil _, Nat.zero_le _, HBF.out⟩
      go_wp2_with fail
      exact bodyPost_ret (v := .tuple #[.agg #[.slice none 0 0], .int .i64 (k : Int), .int .i64 5]) (by simp [results, Tryz.results20, R0.out, go_sem]) rfl HFIN.out
     | true =>
      have HEM : Hid (EMay v) := hB.1 rfl
      clear hB
      obtain ⟨p0, c0, hv0, hrow, _, _⟩ := HM3.out.hold.row.row
      injection hv0 with e1 _ e3
      subst e1
      subst e3
      have HFO : Hid (Calls Tryz.prog 26 #[.agg #[.slice pa xs.length pc], .int .i64 v.me] w3 fun e w' => ∃ x, e = .returned (.int .i64 x) ∧ FoundIs xs v.me x ∧ Below w3.heap.size w3 w') := rfound pa xs.length pc xs v.me w3 hrow (by have := HM3.out.few; omega)
      clear hrow
      obtain ⟨c0, c1, c2, c3, c4, c5, c6, c7, c8, c9, c10, c11, c12⟩ := scl13 HV3
      have k8 : w3.cell? ⟨g8, 0, none⟩ = some (.slice pa xs.length pc) := HM3.out.bb.cell 0
      go_wp2_with fail
      refine HFO.out.mono ?_
      rintro e w4 ⟨x, rfl, hfo, hb4⟩
      have HM4 : Hid (Mid w t pt lt ct l g8 W1.heap.size k st xs pa pc w4) := HM3.out.next hb4
      have HV4 := shN HV3 hb4
      have hfirst := first_of HM4.out.hold.len (fun i hi => (HM4.out.hold.has i hi).num) hfo
      clear hb4 hfo HFO HM3 HV3 k8
      clear c0 c1 c2 c3 c4 c5 c6 c7 c8 c9 c10 c11 c12
      obtain ⟨c0, c1, c2, c3, c4, c5, c6, c7, c8, c9, c10, c11, c12⟩ := scl13 HV4
      by_cases hkd : v.kd = 1
      ·have n1 : (v.kd == 1) = true := by simpa using hkd
       have HKD : Hid (v.kd = 1) := hkd
       clear hkd
       rcases hfirst with ⟨j, hj, rfl⟩ | ⟨hno, rfl⟩
       ·have hd2 : decide ((0 : Int) ≤ (j : Int)) = true := decide_eq_true (by omega)
        have HS : Hid (StepIs t (st k) (l.getD k ev0) [] 21) := by rw [← HV.out]; exact .inr (.inl ⟨HEM.out, HKD.out, hj.some, rfl⟩)
        clear hj
        go_wp2_with (first | (refine wp_letAll rfl 29 _ _ rfl (w.heap.size + 1) rfl #[.slice none 0 0] rfl (by kernel_rfl) (by simp [Value.oneCell']) #[.slice none 0 0] 29 HM4.out.br rfl ?_) | fail)
        intro WF hU
        have R0 : Hid (WF.cell? ⟨w.heap.size + 1, 0, none⟩ = some (.slice none 0 0)) := hU.blk.cell 0
        have HBF : Hid (Below w.heap.size w WF) := hU.bel _ _ (by omega) HM4.out.bel
        clear hU
        have HFIN : Hid (BookPost w t l (.returned (.tuple #[.agg #[.slice none 0 0], .int .i64 (k : Int), .int .i64 21])) WF) := ⟨none, 0, 0, [], [], (k : Int), 21, rfl, HM4.out.stop HTR.out HFEW.out HKL.out HS.out (by decide), sees_nil _, Nat.zero_le _, HBF.out⟩
        go_wp2_with fail
        exact bodyPost_ret (v := .tuple #[.agg #[.slice none 0 0], .int .i64 (k : Int), .int .i64 21]) (by simp [results, Tryz.results20, R0.out, go_sem]) rfl HFIN.out
       ·skip
        have hd2 : decide ((0 : Int) ≤ -1) = false := by decide
        have hme : 0 ≤ v.me ∧ v.me ≤ 49 := HEM.out.1
        have HOP : Hid (Calls Tryz.prog 36 #[.int .i64 v.me] w4 fun e w' => APost w4 (OpenIs v.me) e w') := acc.ropen v.me w4
        have HS : Hid (StepIs t (st k) (l.getD k ev0) (st k ++ [(⟨⟨v.me, 0, 1, 0, 0, -1, []⟩, []⟩ : Cm)]) 0) := by rw [← HV.out]; exact .inr (.inr (.inl ⟨HEM.out, HKD.out, hno, rfl, rfl⟩))
        clear hno
        go_wp2_with fail
        refine HOP.out.mono ?_
        rintro e w5 ⟨b, pb, lb, cb, f, rfl, hi, hf, hb5⟩
        obtain ⟨rfl, rfl⟩ : b = ⟨v.me, 0, 1, 0, 0, -1, []⟩ ∧ f = 0 := hi.one (.inl ⟨hme, rfl, rfl⟩)
        have HLB : Hid (lb = 0) := hf.came.row.1.symm
        have HM5 : Hid (Mid w t pt lt ct l g8 W1.heap.size k st xs pa pc w5) := HM4.out.next hb5
        have HF5 : Hid (deb.Fresh w5 W1.heap.size pb lb cb []) := hf.low HM4.out.sz
        clear hb5 hf hi hme HOP HM4 HV4
        clear c0 c1 c2 c3 c4 c5 c6 c7 c8 c9 c10 c11 c12
        unfold acc.Ac.v acc.Ac.cs
        obtain ⟨W6, HWW, HA6, HBB, -⟩ := sh1 w5 #[.int .i64 v.me, .int .i64 0, .int .i64 1, .int .i64 0, .int .i64 0, .int .i64 (-1), .slice pb lb cb] 59
        have HM6 : Hid (Mid w t pt lt ct l g8 W1.heap.size k st xs pa pc W6) := HM5.out.next HBB.out
        have HF6 : Hid (deb.Fresh W6 W1.heap.size pb lb cb []) := HF5.out.below HBB.out
        go_upto_region 18 with fail
        rw [HWW.out]
        clear HWW HBB
        generalize w5.heap.size = ga at *
        clear HM5 HF5
        obtain ⟨ka0, ka1, ka2, ka3, ka4, -, -⟩ := scl7 HA6
        have ka5 : W6.cell? ⟨ga, 5, none⟩ = some (.int .i64 (-1)) := HA6.out.cell 5
        have ka6 : W6.cell? ⟨ga, 6, none⟩ = some (.slice pb lb cb) := HA6.out.cell 6
        have k8 : W6.cell? ⟨g8, 0, none⟩ = some (.slice pa xs.length pc) := HM6.out.bb.cell 0
        have HM7 : Hid (Mid w t pt lt ct l g8 W1.heap.size k st xs pa pc (W6.alloc (.cells #[.int .i64 v.me, .int .i64 0, .int .i64 1, .int .i64 0, .int .i64 0, .int .i64 (-1), .slice pb lb cb, .slice none 0 0] 62))) := HM6.out.next ((Below.refl _ _).alloc (Nat.le_refl _) _)
        have HN7 : Hid (Blk (W6.alloc (.cells #[.int .i64 v.me, .int .i64 0, .int .i64 1, .int .i64 0, .int .i64 0, .int .i64 (-1), .slice pb lb cb, .slice none 0 0] 62)) W6.heap.size #[.int .i64 v.me, .int .i64 0, .int .i64 1, .int .i64 0, .int .i64 0, .int .i64 (-1), .slice pb lb cb, .slice none 0 0] 62) := Blk.new _ _ _
        have HF7 : Hid (deb.Fresh (W6.alloc (.cells #[.int .i64 v.me, .int .i64 0, .int .i64 1, .int .i64 0, .int .i64 0, .int .i64 (-1), .slice pb lb cb, .slice none 0 0] 62)) W1.heap.size pb lb cb []) := HF6.out.below ((Below.refl _ _).alloc (Nat.le_refl _) _)
        have hxs : xs.length ≤ 2000000 := by have := HM6.out.few; omega
        go_wp2_with (first
         | (at_builtin; refine wp_cust rfl _ _ rfl W1.heap.size W6.heap.size _ xs (cuA ⟨v.me, 0, 1, 0, 0, -1, []⟩ pb lb cb none 0 0) rfl rfl HM7.out.hold.row HN7.out hxs HM7.out.sz ?_)
         | fail)
        intro v8 w8 h8 hg8 ho8
        obtain ⟨pa8, pc8, rfl, _, _, _⟩ := h8.row
        have hH8 : Holds w8 W1.heap.size (.slice pa8 (xs ++ [(cuA ⟨v.me, 0, 1, 0, 0, -1, []⟩ pb lb cb none 0 0)]).length pc8) (xs ++ [(cuA ⟨v.me, 0, 1, 0, 0, -1, []⟩ pb lb cb none 0 0)]) (st k ++ [(⟨⟨v.me, 0, 1, 0, 0, -1, []⟩, []⟩ : Cm)]) := HM7.out.hold.snoc ⟨cuA_num _ _ _ _ _ _ _, HF7.out, Lo.zero _ _⟩ rfl HLB.out h8 hg8 (by simpa using ho8)
        have hkp : ∀ g cs ty, g < W1.heap.size → Blk (W6.alloc (.cells #[.int .i64 v.me, .int .i64 0, .int .i64 1, .int .i64 0, .int .i64 0, .int .i64 (-1), .slice pb lb cb, .slice none 0 0] 62)) g cs ty → Blk w8 g cs ty := fun g cs ty hg hb => by show w8.heap[g]? = _; rw [hg8.block g hb.lt (cell.own_far HM7.out.hold.row hg)]; exact hb
        have HT8 : Hid (Blk w8 w.heap.size #[.slice pt lt ct, .int .i64 t.ff, .int .i64 t.fb, .int .i64 t.db, .int .i64 t.al] 24) := hkp _ _ _ (by have := HG8.out; omega) HM7.out.bt
        have HR8 : Hid (Blk w8 (w.heap.size + 1) #[.slice none 0 0] 29) := hkp _ _ _ (by have := HG8.out; omega) HM7.out.br
        have HB8 : Hid (Blk w8 g8 #[.slice pa xs.length pc] 29) := hkp _ _ _ HG8.out.2 HM7.out.bb
        have HW8 : Hid (Below w.heap.size w w8) := cell.own_bel HM7.out.hold.row hg8 HM7.out.bel (by have := HG8.out; omega) HM7.out.bel.size
        have HZ8 : Hid (W1.heap.size ≤ w8.heap.size) := Nat.le_trans HM7.out.sz hg8.size
        have HH8 : Hid (Holds w8 W1.heap.size (.slice pa8 (xs ++ [(cuA ⟨v.me, 0, 1, 0, 0, -1, []⟩ pb lb cb none 0 0)]).length pc8) (xs ++ [(cuA ⟨v.me, 0, 1, 0, 0, -1, []⟩ pb lb cb none 0 0)]) (st k ++ [(⟨⟨v.me, 0, 1, 0, 0, -1, []⟩, []⟩ : Cm)])) := hH8
        have HSM : Hid (st 0 = [] ∧ (∀ i, i < k → StepIs t (st i) (l.getD i ev0) (st (i + 1)) 0) ∧ Small (st k) k) := ⟨HM7.out.s0, HM7.out.steps, HM7.out.small⟩
        clear h8 hg8 ho8 hH8 hkp HM7 HN7 HF7 HM6 HA6 HF6 k8 ka0 ka1 ka2 ka3 ka4 ka5 ka6
        generalize hys : xs ++ [(cuA ⟨v.me, 0, 1, 0, 0, -1, []⟩ pb lb cb none 0 0)] = ys at *
        clear hys
        go_wp2_with (first | (refine wp_letS rfl 27 _ _ rfl g8 0 rfl pa8 ys.length pc8 rfl (by kernel_rfl) #[.slice pa xs.length pc] 29 HB8.out (by simp) ?_) | fail)
        intro W9 hU
        have HMN : Hid (∃ st', Mid w t pt lt ct l g8 W1.heap.size (k + 1) st' ys pa8 pc8 W9) := by
         obtain ⟨st', s0', sk', hst'⟩ := run_more HSM.out.2.1 HS.out
         have hg := HG8.out
         exact ⟨st', s0'.trans HSM.out.1, hst', by rw [sk']; exact step_small HS.out HSM.out.2.2, hU.keep HT8.out (by omega), hU.keep HR8.out (by omega), hU.blk, by rw [sk']; exact HH8.out.upd hU hg.2, hU.bel _ _ (by omega) HW8.out, by rw [hU.size]; exact HZ8.out⟩
        clear hU HT8 HR8 HB8 HW8 HZ8 HH8 HSM HS
        go_wp2_with fail
        go_roundw
        case rel =>
         obtain ⟨st', hm'⟩ := HMN.out
         exact ⟨k + 1, st', ys, pa8, pc8, by omega, by go_num, hm'⟩
        case measure => simp [intOf]; omega
      ·have n1 : (v.kd == 1) = false := by simpa using hkd
       have HKD : Hid (v.kd ≠ 1) := hkd
       clear hkd
       rcases hfirst with ⟨j, hj, rfl⟩ | ⟨hno, rfl⟩
       ·skip
        have hd2 : decide ((j : Int) < 0) = false := decide_eq_false (by omega)
        have hjx : j < xs.length := by rw [HM4.out.hold.len]; exact hj.1
        have HJ : Hid (FirstAt (st k) v.me j) := hj
        have hk5 : v.kd = 2 ∨ v.kd = 3 ∨ v.kd = 4 ∨ v.kd = 5 := by have h1 := HEM.out; have h2 := HKD.out; unfold EMay at h1; omega
        have hsm := HM4.out.small.2 _ (getD_mem hj.1)
        obtain ⟨gV, cur, hpa, hgv, hbv, hcs, hcc⟩ := lc_lies HM4.out.hold.row (by omega)
        obtain ⟨vo, hvo⟩ : ∃ vo : Nat, vo = 0 := ⟨0, rfl⟩
        have HVO : Hid (vo = 0) := hvo
        have hpa2 : pa = some ⟨gV, vo, none⟩ := by rw [hpa, hvo]
        have hhas := HM4.out.hold.has j hjx
        have hoff := HM4.out.hold.off j hjx
        obtain ⟨⟨a, sol⟩, hcm⟩ : ∃ c, c = (st k).getD j cm0 := ⟨_, rfl⟩
        rw [← hcm] at hhas hsm
        obtain ⟨dp, dn, dc, sp, sn, sc, hxe⟩ := cuA_of hhas.num
        have HXE : Hid (xs.getD j cu0 = (cuA a dp dn dc sp sn sc)) := hxe
        have HCM : Hid ((⟨a, sol⟩ : Cm) = (st k).getD j cm0) := hcm
        rw [hxe] at hhas hoff
        have hq0 : cur[vo + j * 8]? = some (.int .i64 a.me) := by have q := hcc j 0 hjx (by decide); rw [hxe] at q; rw [hvo, Nat.zero_add]; exact q
        have hq1 : cur[vo + j * 8 + 1]? = some (.int .i64 a.rv) := by have q := hcc j 1 hjx (by decide); rw [hxe] at q; rw [hvo, Nat.zero_add]; exact q
        have hq2 : cur[vo + j * 8 + 2]? = some (.int .i64 a.nx) := by have q := hcc j 2 hjx (by decide); rw [hxe] at q; rw [hvo, Nat.zero_add]; exact q
        have hq3 : cur[vo + j * 8 + 3]? = some (.int .i64 a.mo) := by have q := hcc j 3 hjx (by decide); rw [hxe] at q; rw [hvo, Nat.zero_add]; exact q
        have hq4 : cur[vo + j * 8 + 4]? = some (.int .i64 a.bo) := by have q := hcc j 4 hjx (by decide); rw [hxe] at q; rw [hvo, Nat.zero_add]; exact q
        have hq5 : cur[vo + j * 8 + 5]? = some (.int .i64 a.fr) := by have q := hcc j 5 hjx (by decide); rw [hxe] at q; rw [hvo, Nat.zero_add]; exact q
        have hq6 : cur[vo + j * 8 + 6]? = some (.slice dp dn dc) := by have q := hcc j 6 hjx (by decide); rw [hxe] at q; rw [hvo, Nat.zero_add]; exact q
        have hq7 : cur[vo + j * 8 + 7]? = some (.slice sp sn sc) := by have q := hcc j 7 hjx (by decide); rw [hxe] at q; rw [hvo, Nat.zero_add]; exact q
        have HHA : Hid (Has w4 W1.heap.size (cuA a dp dn dc sp sn sc) ⟨a, sol⟩) := hhas
        have HOF : Hid (Off (cuA a dp dn dc sp sn sc) (some gV)) := by have q := hoff; rw [hpa] at q; exact q
        have HOW : Hid (∀ g, (Value.slice sp sn sc).ownBlock = some g → W1.heap.size ≤ g ∧ g < g10) := fun g hg => ⟨(World.ownsRow.lt hhas.so g hg).1, HOL.out j hjx g (by rw [hxe]; exact hg)⟩
        have HHP : Hid (∀ W, Below w4.heap.size w4 W → Calls Tryz.prog 37 #[.agg #[.slice pt lt ct, .int .i64 t.ff, .int .i64 t.fb, .int .i64 t.db, .int .i64 t.al], .agg #[.int .i64 a.me, .int .i64 a.rv, .int .i64 a.nx, .int .i64 a.mo, .int .i64 a.bo, .int .i64 a.fr, .slice dp dn dc, .slice sp sn sc], .agg #[.int .i64 v.kd, .int .i64 v.me, .int .i64 v.mo, .int .i64 v.id, .int .i64 v.te, .int .i64 v.de, .int .i64 v.fe, .int .i64 v.pr, .int .i64 v.ch, .int .i64 v.un, .int .i64 v.tg, .int .i64 v.ow, .int .i64 v.bp]] W fun e w' => HapPost W W1.heap.size t (cuA a dp dn dc sp sn sc) ⟨a, sol⟩ v e w') := fun W hB => rhap a sol dp dn dc sp sn sc t pt lt ct v W1.heap.size W (hhas.next hB) (HTM.out W (HM4.out.bel.trans (hB.mono HM4.out.bel.size))) HTL.out (Nat.le_trans HM4.out.sz hB.size) hk5 (by have hq : sol.length ≤ k := hsm.1; omega) hsm.2
        have HBV : Hid (Blk w4 gV cur 62 ∧ W1.heap.size ≤ gV ∧ xs.length * 8 ≤ cur.size) := ⟨hbv, hgv, hcs⟩
        subst hpa2
        clear hj hsm hbv hgv hcs hcc hpa hhas hoff hcm hxe hvo hk5
        go_upto_region 21 with fail
        clear c0 c1 c2 c3 c4 c5 c6 c7 c8 c9 c10 c11 c12
        have HSD : Hid (Blk w4.drew w.heap.size #[.slice pt lt ct, .int .i64 t.ff, .int .i64 t.fb, .int .i64 t.db, .int .i64 t.al] 24 ∧ Blk w4.drew g8 #[.slice (some ⟨gV, vo, none⟩) xs.length pc] 29 ∧ Blk w4.drew g10 #[.int .i64 v.kd, .int .i64 v.me, .int .i64 v.mo, .int .i64 v.id, .int .i64 v.te, .int .i64 v.de, .int .i64 v.fe, .int .i64 v.pr, .int .i64 v.ch, .int .i64 v.un, .int .i64 v.tg, .int .i64 v.ow, .int .i64 v.bp] 71 ∧ Blk w4.drew gV cur 62) := ⟨HM4.out.bt, HM4.out.bb, HV4.out, HBV.out.1⟩
        refine wp_region_held_drew (S := fun u : World => Blk u w.heap.size #[.slice pt lt ct, .int .i64 t.ff, .int .i64 t.fb, .int .i64 t.db, .int .i64 t.al] 24 ∧ Blk u g8 #[.slice (some ⟨gV, vo, none⟩) xs.length pc] 29 ∧ Blk u g10 #[.int .i64 v.kd, .int .i64 v.me, .int .i64 v.mo, .int .i64 v.id, .int .i64 v.te, .int .i64 v.de, .int .i64 v.fe, .int .i64 v.pr, .int .i64 v.ch, .int .i64 v.un, .int .i64 v.tg, .int .i64 v.ow, .int .i64 v.bp] 71 ∧ Blk u gV cur 62) (by kernel_rfl) HSD.out (fun hHeld => ?_)
        refine zqt 0 70 (.agg #[.slice pt lt ct, .int .i64 t.ff, .int .i64 t.fb, .int .i64 t.db, .int .i64 t.al]) rfl rfl (by kernel_rfl) (fun _ _ _ h => h) (yieldsIf_whole (by rfl) 24 _ rfl (w.heap.size) rfl 24 #[.slice pt lt ct, .int .i64 t.ff, .int .i64 t.fb, .int .i64 t.db, .int .i64 t.al] _ (fun u hu => hu.1) Tryz.underlying24 rfl (by kernel_rfl)) hHeld ?_
        simp only [Act.put, zqa, zqb, zqc]
        refine zqs 1 71 (.pointer (some ⟨g8, 0, none⟩)) rfl rfl (by kernel_rfl) (fun _ _ _ h => h) rfl (fun v hv => by clear hv; go_simp) hHeld ?_
        simp only [Act.put, zqa, zqb, zqc]
        refine zqt 2 72 (.slice (some ⟨gV, vo, none⟩) xs.length pc) rfl rfl (by kernel_rfl) (fun _ _ _ h => h) (Or.inl ⟨by rfl, fun v hv => by have h2 := hv.2.1.cell 0; clear hv; go_simp⟩) hHeld ?_
        simp only [Act.put, zqa, zqb, zqc]
        refine zqs 3 73 (.int .i64 (j : Int)) rfl rfl (by kernel_rfl) (fun _ _ _ h => h) rfl (fun v hv => by clear hv; go_simp) hHeld ?_
        simp only [Act.put, zqa, zqb, zqc]
        refine zqs 4 74 (.pointer (some ⟨gV, vo + j * 8, none⟩)) rfl rfl (by kernel_rfl) (fun _ _ _ h => h) rfl (fun v hv => by clear hv; go_simp) hHeld ?_
        simp only [Act.put, zqa, zqb, zqc]
        refine zqt 5 75 (.agg #[.int .i64 a.me, .int .i64 a.rv, .int .i64 a.nx, .int .i64 a.mo, .int .i64 a.bo, .int .i64 a.fr, .slice dp dn dc, .slice sp sn sc]) rfl rfl (by kernel_rfl) (fun _ _ _ h => h) (Or.inl ⟨by rfl, fun v hv => by have q0 := (hv.2.2.2.cell (vo + j * 8)).trans hq0; have q1 := (hv.2.2.2.cell (vo + j * 8 + 1)).trans hq1; have q2 := (hv.2.2.2.cell (vo + j * 8 + 2)).trans hq2; have q3 := (hv.2.2.2.cell (vo + j * 8 + 3)).trans hq3; have q4 := (hv.2.2.2.cell (vo + j * 8 + 4)).trans hq4; have q5 := (hv.2.2.2.cell (vo + j * 8 + 5)).trans hq5; have q6 := (hv.2.2.2.cell (vo + j * 8 + 6)).trans hq6; have q7 := (hv.2.2.2.cell (vo + j * 8 + 7)).trans hq7; clear hv; go_simp⟩) hHeld ?_
        simp only [Act.put, zqa, zqb, zqc]
        refine zqt 6 76 (.agg #[.int .i64 v.kd, .int .i64 v.me, .int .i64 v.mo, .int .i64 v.id, .int .i64 v.te, .int .i64 v.de, .int .i64 v.fe, .int .i64 v.pr, .int .i64 v.ch, .int .i64 v.un, .int .i64 v.tg, .int .i64 v.ow, .int .i64 v.bp]) rfl rfl (by kernel_rfl) (fun _ _ _ h => h) (yieldsIf_whole (by rfl) 71 _ rfl (g10) rfl 71 #[.int .i64 v.kd, .int .i64 v.me, .int .i64 v.mo, .int .i64 v.id, .int .i64 v.te, .int .i64 v.de, .int .i64 v.fe, .int .i64 v.pr, .int .i64 v.ch, .int .i64 v.un, .int .i64 v.tg, .int .i64 v.ow, .int .i64 v.bp] _ (fun u hu => hu.2.2.1) Tryz.underlying71 rfl (by kernel_rfl)) hHeld ?_
        simp only [Act.put, zqa, zqb, zqc]
        have HM5 : Hid (Mid w t pt lt ct l g8 W1.heap.size k st xs (some ⟨gV, vo, none⟩) pc w4.drew) := HM4.out.next (Below.refl _ _).drew
        have HV5 : Hid (Blk w4.drew g10 #[.int .i64 v.kd, .int .i64 v.me, .int .i64 v.mo, .int .i64 v.id, .int .i64 v.te, .int .i64 v.de, .int .i64 v.fe, .int .i64 v.pr, .int .i64 v.ch, .int .i64 v.un, .int .i64 v.tg, .int .i64 v.ow, .int .i64 v.bp] 71) := HV4.out
        have HBV5 : Hid (Blk w4.drew gV cur 62) := HBV.out.1
        have HHP5 : Hid (∀ W, Below w4.drew.heap.size w4.drew W → Calls Tryz.prog 37 #[.agg #[.slice pt lt ct, .int .i64 t.ff, .int .i64 t.fb, .int .i64 t.db, .int .i64 t.al], .agg #[.int .i64 a.me, .int .i64 a.rv, .int .i64 a.nx, .int .i64 a.mo, .int .i64 a.bo, .int .i64 a.fr, .slice dp dn dc, .slice sp sn sc], .agg #[.int .i64 v.kd, .int .i64 v.me, .int .i64 v.mo, .int .i64 v.id, .int .i64 v.te, .int .i64 v.de, .int .i64 v.fe, .int .i64 v.pr, .int .i64 v.ch, .int .i64 v.un, .int .i64 v.tg, .int .i64 v.ow, .int .i64 v.bp]] W fun e w' => HapPost W W1.heap.size t (cuA a dp dn dc sp sn sc) ⟨a, sol⟩ v e w') := fun W hB => HHP.out W ((Below.refl _ _).drew.trans hB)
        clear HHP HM4 HV4 HSD HHA
        generalize w4.drew = U at *
        have HSN : Hid (Blk U w.heap.size #[.slice pt lt ct, .int .i64 t.ff, .int .i64 t.fb, .int .i64 t.db, .int .i64 t.al] 24 ∧ Blk U g8 #[.slice (some ⟨gV, vo, none⟩) xs.length pc] 29 ∧ Blk U g10 #[.int .i64 v.kd, .int .i64 v.me, .int .i64 v.mo, .int .i64 v.id, .int .i64 v.te, .int .i64 v.de, .int .i64 v.fe, .int .i64 v.pr, .int .i64 v.ch, .int .i64 v.un, .int .i64 v.tg, .int .i64 v.ow, .int .i64 v.bp] 71 ∧ Blk U gV cur 62) := ⟨HM5.out.bt, HM5.out.bb, HV5.out, HBV5.out⟩
        have HRN : Hid (Blk U (w.heap.size + 1) #[.slice none 0 0] 29) := HM5.out.br
        refine wpAnyH_ready (rs := [7, 11]) (by kernel_rfl) (by simp) (AllReadyH.cons rfl (fun K hK => ?_) (AllReadyH.cons rfl (fun K hK => ?_) AllReadyH.nil))
        ·rw [if_pos (by rfl)]
         refine wp_callOp 77 rfl (by clear hK; go_simp) (HHP5.out U (Below.refl _ _)) ?_
         rintro e w6 ⟨⟨xme, xrv, xnx, xmo, xbo, xfr, xdp, xdn, xdc, xsp, xsn, xsc⟩, c', f, rfl, hhi, htu, hgr⟩
         have HHI : Hid (HapIs t ⟨a, sol⟩ v c' f) := hhi
         have HTU : Hid (f = 0 → Turned U w6 W1.heap.size (cuA a dp dn dc sp sn sc) (⟨xme, xrv, xnx, xmo, xbo, xfr, xdp, xdn, xdc, xsp, xsn, xsc⟩ : Cu) c') := htu
         have HGR : Hid (U.grownBy w6 (Value.slice sp sn sc).ownBlock) := hgr
         have hkp : ∀ g cs ty, (∀ q, (Value.slice sp sn sc).ownBlock = some q → g ≠ q) → Blk U g cs ty → Blk w6 g cs ty := fun g cs ty hq hb => blk_kept hb hgr (fun e => hq g e.symm rfl)
         have HS6 : Hid (Blk w6 w.heap.size #[.slice pt lt ct, .int .i64 t.ff, .int .i64 t.fb, .int .i64 t.db, .int .i64 t.al] 24 ∧ Blk w6 g8 #[.slice (some ⟨gV, vo, none⟩) xs.length pc] 29 ∧ Blk w6 g10 #[.int .i64 v.kd, .int .i64 v.me, .int .i64 v.mo, .int .i64 v.id, .int .i64 v.te, .int .i64 v.de, .int .i64 v.fe, .int .i64 v.pr, .int .i64 v.ch, .int .i64 v.un, .int .i64 v.tg, .int .i64 v.ow, .int .i64 v.bp] 71 ∧ Blk w6 gV cur 62) := ⟨hkp _ _ _ (fun q hq => by have h1 := HOW.out q hq; have h2 := HG8.out; omega) HSN.out.1, hkp _ _ _ (fun q hq => by have h1 := HOW.out q hq; have h2 := HG8.out; omega) HSN.out.2.1, hkp _ _ _ (fun q hq => by have h1 := HOW.out q hq; omega) HSN.out.2.2.1, hkp _ _ _ (fun q hq e => HOF.out.1 q hq (by rw [e])) HSN.out.2.2.2⟩
         have HR6 : Hid (Blk w6 (w.heap.size + 1) #[.slice none 0 0] 29) := hkp _ _ _ (fun q hq => by have h1 := HOW.out q hq; have h2 := HG8.out; omega) HRN.out
         have HZ6 : Hid (U.heap.size ≤ w6.heap.size) := HGR.out.size
         refine ⟨.tuple #[.agg #[.int .i64 xme, .int .i64 xrv, .int .i64 xnx, .int .i64 xmo, .int .i64 xbo, .int .i64 xfr, .slice xdp xdn xdc, .slice xsp xsn xsc], .int .i64 f], rfl, hK.out _ _ HS6.out (fun hHeld => ?_)⟩
         clear hK hhi htu hgr hkp
         simp only [Act.put, zqa, zqb, zqc]
         refine zqs 8 69 (.tuple #[.agg #[.int .i64 xme, .int .i64 xrv, .int .i64 xnx, .int .i64 xmo, .int .i64 xbo, .int .i64 xfr, .slice xdp xdn xdc, .slice xsp xsn xsc], .int .i64 f]) rfl rfl (by kernel_rfl) (fun _ _ _ h => h) rfl (fun v hv => by clear hv; go_simp) hHeld ?_
         simp only [Act.put, zqa, zqb, zqc]
         refine zqs 9 78 (.agg #[.int .i64 xme, .int .i64 xrv, .int .i64 xnx, .int .i64 xmo, .int .i64 xbo, .int .i64 xfr, .slice xdp xdn xdc, .slice xsp xsn xsc]) rfl rfl (by kernel_rfl) (fun _ _ _ h => h) rfl (fun v hv => by clear hv; go_simp) hHeld ?_
         simp only [Act.put, zqa, zqb, zqc]
         refine zqs 10 79 (.int .i64 f) rfl rfl (by kernel_rfl) (fun _ _ _ h => h) rfl (fun v hv => by clear hv; go_simp) hHeld ?_
         simp only [Act.put, zqa, zqb, zqc]
         refine zqo 11 (by kernel_rfl) rfl (fun K hK => ?_)
         rw [if_pos (by rfl)]
         have HSA : Hid (Blk (w6.alloc (.cells #[.int .i64 0, .int .i64 0, .int .i64 0, .int .i64 0, .int .i64 0, .int .i64 0, .slice none 0 0, .slice none 0 0] 62)) w.heap.size #[.slice pt lt ct, .int .i64 t.ff, .int .i64 t.fb, .int .i64 t.db, .int .i64 t.al] 24 ∧ Blk (w6.alloc (.cells #[.int .i64 0, .int .i64 0, .int .i64 0, .int .i64 0, .int .i64 0, .int .i64 0, .slice none 0 0, .slice none 0 0] 62)) g8 #[.slice (some ⟨gV, vo, none⟩) xs.length pc] 29 ∧ Blk (w6.alloc (.cells #[.int .i64 0, .int .i64 0, .int .i64 0, .int .i64 0, .int .i64 0, .int .i64 0, .slice none 0 0, .slice none 0 0] 62)) g10 #[.int .i64 v.kd, .int .i64 v.me, .int .i64 v.mo, .int .i64 v.id, .int .i64 v.te, .int .i64 v.de, .int .i64 v.fe, .int .i64 v.pr, .int .i64 v.ch, .int .i64 v.un, .int .i64 v.tg, .int .i64 v.ow, .int .i64 v.bp] 71 ∧ Blk (w6.alloc (.cells #[.int .i64 0, .int .i64 0, .int .i64 0, .int .i64 0, .int .i64 0, .int .i64 0, .slice none 0 0, .slice none 0 0] 62)) gV cur 62) := ⟨HS6.out.1.alloc _, HS6.out.2.1.alloc _, HS6.out.2.2.1.alloc _, HS6.out.2.2.2.alloc _⟩
         have HRA : Hid (Blk (w6.alloc (.cells #[.int .i64 0, .int .i64 0, .int .i64 0, .int .i64 0, .int .i64 0, .int .i64 0, .slice none 0 0, .slice none 0 0] 62)) (w.heap.size + 1) #[.slice none 0 0] 29) := HR6.out.alloc _
         have HNA : Hid (Blk (w6.alloc (.cells #[.int .i64 0, .int .i64 0, .int .i64 0, .int .i64 0, .int .i64 0, .int .i64 0, .slice none 0 0, .slice none 0 0] 62)) w6.heap.size #[.int .i64 0, .int .i64 0, .int .i64 0, .int .i64 0, .int .i64 0, .int .i64 0, .slice none 0 0, .slice none 0 0] 62) := Blk.new _ _ _
         have HGL : Hid (w.heap.size < w6.heap.size ∧ w.heap.size + 1 < w6.heap.size ∧ g8 < w6.heap.size ∧ g10 < w6.heap.size ∧ gV < w6.heap.size) := ⟨HS6.out.1.lt, HR6.out.lt, HS6.out.2.1.lt, HS6.out.2.2.1.lt, HS6.out.2.2.2.lt⟩
         have HTA : Hid (f = 0 → Turned U (w6.alloc (.cells #[.int .i64 0, .int .i64 0, .int .i64 0, .int .i64 0, .int .i64 0, .int .i64 0, .slice none 0 0, .slice none 0 0] 62)) W1.heap.size (cuA a dp dn dc sp sn sc) (⟨xme, xrv, xnx, xmo, xbo, xfr, xdp, xdn, xdc, xsp, xsn, xsc⟩ : Cu) c') := fun hz => (HTU.out hz).next ((Below.refl _ _).alloc (Nat.le_refl _) _)
         have HGA : Hid (U.grownBy (w6.alloc (.cells #[.int .i64 0, .int .i64 0, .int .i64 0, .int .i64 0, .int .i64 0, .int .i64 0, .slice none 0 0, .slice none 0 0] 62)) (Value.slice sp sn sc).ownBlock) := HGR.out.trans (grown_of ((Below.refl _ _).alloc (Nat.le_refl _) _) _)
         have HLT : Hid (f = 0 → (∀ q, (⟨xme, xrv, xnx, xmo, xbo, xfr, xdp, xdn, xdc, xsp, xsn, xsc⟩ : Cu).sold.ownBlock = some q → q ≠ w6.heap.size) ∧ (0 < xdn → ∀ p, xdp = some p → p.block ≠ w6.heap.size)) := fun hz => ⟨fun q hq => Nat.ne_of_lt ((HTU.out hz).lt.1 q hq), fun hn p hp => Nat.ne_of_lt ((HTU.out hz).lt.2 hn p hp)⟩
         have HGC : Hid (U.heap.size ≤ w6.heap.size) := HZ6.out
         refine wp_runOp (v := .pointer (some ⟨w6.heap.size, 0, none⟩)) (w' := (w6.alloc (.cells #[.int .i64 0, .int .i64 0, .int .i64 0, .int .i64 0, .int .i64 0, .int .i64 0, .slice none 0 0, .slice none 0 0] 62))) 14 rfl (by clear hK; go_simp) ?_
         refine hK.out _ _ HSA.out (fun hHeld => ?_)
         clear hK
         simp only [Act.put, zqa, zqb, zqc]
         generalize hgc : w6.heap.size = gc at *
         clear hgc
         generalize w6.alloc _ = U2 at *
         refine zqo 12 (by kernel_rfl) rfl (fun K hK => ?_)
         rw [if_pos (by rfl)]
         refine wp_letOp 62 _ _ rfl gc rfl #[.int .i64 xme, .int .i64 xrv, .int .i64 xnx, .int .i64 xmo, .int .i64 xbo, .int .i64 xfr, .slice xdp xdn xdc, .slice xsp xsn xsc] rfl (by kernel_rfl) (by simp [Value.oneCell']) #[.int .i64 0, .int .i64 0, .int .i64 0, .int .i64 0, .int .i64 0, .int .i64 0, .slice none 0 0, .slice none 0 0] 62 HNA.out rfl rfl ?_
         intro W7 hU
         have hgl := HGL.out
         have HS7 : Hid (Blk W7 w.heap.size #[.slice pt lt ct, .int .i64 t.ff, .int .i64 t.fb, .int .i64 t.db, .int .i64 t.al] 24 ∧ Blk W7 g8 #[.slice (some ⟨gV, vo, none⟩) xs.length pc] 29 ∧ Blk W7 g10 #[.int .i64 v.kd, .int .i64 v.me, .int .i64 v.mo, .int .i64 v.id, .int .i64 v.te, .int .i64 v.de, .int .i64 v.fe, .int .i64 v.pr, .int .i64 v.ch, .int .i64 v.un, .int .i64 v.tg, .int .i64 v.ow, .int .i64 v.bp] 71 ∧ Blk W7 gV cur 62) := ⟨hU.keep HSA.out.1 (by omega), hU.keep HSA.out.2.1 (by omega), hU.keep HSA.out.2.2.1 (by omega), hU.keep HSA.out.2.2.2 (by omega)⟩
         have HR7 := shK hU HRA (by omega)
         have HN7 : Hid (Blk W7 gc #[.int .i64 xme, .int .i64 xrv, .int .i64 xnx, .int .i64 xmo, .int .i64 xbo, .int .i64 xfr, .slice xdp xdn xdc, .slice xsp xsn xsc] 62) := hU.blk
         have HT7 : Hid (f = 0 → Turned U W7 W1.heap.size (cuA a dp dn dc sp sn sc) (⟨xme, xrv, xnx, xmo, xbo, xfr, xdp, xdn, xdc, xsp, xsn, xsc⟩ : Cu) c') := fun hz => (HTA.out hz).upd hU HGC.out (HLT.out hz).1 (HLT.out hz).2
         have HG7 : Hid (U.grownBy W7 (Value.slice sp sn sc).ownBlock) := grown_upd HGA.out hU HGC.out
         refine hK.out _ _ HS7.out (fun hHeld => ?_)
         clear hK hU hgl
         refine zqs 13 15 (.int .i64 f) rfl rfl (by kernel_rfl) (fun _ _ _ h => h) rfl (fun v hv => by clear hv; go_simp) hHeld ?_
         simp only [Act.put, zqa, zqb, zqc]
         refine wpAnyH_done (by kernel_rfl) ?_ _
         clear hHeld
         have HB7 : Hid (Below w.heap.size w W7) := bel_turned HM5.out.bel HG7.out HM5.out.bel.size (fun q hq => by have h1 := (HOW.out q hq).1; have h2 := HG8.out; omega)
         by_cases hfz : f = 0
         ·subst hfz
          have HTZ : Hid (Turned U W7 W1.heap.size (cuA a dp dn dc sp sn sc) (⟨xme, xrv, xnx, xmo, xbo, xfr, xdp, xdn, xdc, xsp, xsn, xsc⟩ : Cu) c') := HT7.out rfl
          clear HT7
          have HS : Hid (StepIs t (st k) (l.getD k ev0) ((st k).set j c') 0) := by rw [← HV.out]; exact .inr (.inr (.inr (.inr ⟨HEM.out, HKD.out, j, c', HJ.out, by rw [← HCM.out]; exact HHI.out, fun _ => rfl⟩)))
          obtain ⟨kx0, kx1, kx2, kx3, kx4, kx5, kx6, kx7⟩ := scl8 HN7
          have k8 : W7.cell? ⟨g8, 0, none⟩ = some (.slice (some ⟨gV, vo, none⟩) xs.length pc) := HS7.out.2.1.cell 0
          have hsz : vo + j * 8 + 8 ≤ cur.size := by have h1 := HBV.out.2.2; have h2 := HVO.out; omega
          go_wp2_with (first | (refine wp_let rfl 62 _ _ rfl gV (vo + j * 8) rfl (.agg #[.int .i64 xme, .int .i64 xrv, .int .i64 xnx, .int .i64 xmo, .int .i64 xbo, .int .i64 xfr, .slice xdp xdn xdc, .slice xsp xsn xsc]) rfl #[.int .i64 xme, .int .i64 xrv, .int .i64 xnx, .int .i64 xmo, .int .i64 xbo, .int .i64 xfr, .slice xdp xdn xdc, .slice xsp xsn xsc] rfl (by kernel_rfl) (by simp [Value.oneCell']) cur 62 HS7.out.2.2.2 hsz _ rfl ?_) | fail)
          intro W8 hU
          have HMN : Hid (∃ st', Mid w t pt lt ct l g8 W1.heap.size (k + 1) st' (xs.set j (⟨xme, xrv, xnx, xmo, xbo, xfr, xdp, xdn, xdc, xsp, xsn, xsc⟩ : Cu)) (some ⟨gV, vo, none⟩) pc W8) := by
           obtain ⟨st', s0', sk', hst'⟩ := run_more HM5.out.steps HS.out
           have hg := HG8.out
           have hv := HBV.out.2.1
           have hl7 : Lc W7 W1.heap.size (.slice (some ⟨gV, vo, none⟩) xs.length pc) xs := lc_kept HM5.out.hold.row HG7.out (fun q hq e => HOF.out.1 q e (by rw [← hq]; rfl))
           have hl8 : Lc W8 W1.heap.size (.slice (some ⟨gV, vo, none⟩) xs.length pc) (xs.set j (⟨xme, xrv, xnx, xmo, xbo, xfr, xdp, xdn, xdc, xsp, xsn, xsc⟩ : Cu)) := by
            have e0 := HVO.out
            subst e0
            rw [Nat.zero_add] at hU
            exact lc_put hl7 HS7.out.2.2.2 hjx hU
           have hp : Holds W8 W1.heap.size (.slice (some ⟨gV, vo, none⟩) xs.length pc) (xs.set j (⟨xme, xrv, xnx, xmo, xbo, xfr, xdp, xdn, xdc, xsp, xsn, xsc⟩ : Cu)) ((st k).set j c') := HM5.out.hold.put hjx (by rw [HXE.out]; exact HTZ.out) hl8 (upd_grown hU)
           exact ⟨st', s0'.trans HM5.out.s0, hst', by rw [sk']; exact step_small HS.out HM5.out.small, hU.keep HS7.out.1 (by omega), hU.keep HR7.out (by omega), by rw [List.length_set]; exact hU.keep HS7.out.2.1 (by omega), by rw [sk', List.length_set]; exact hp, hU.bel _ _ (by omega) HB7.out, by rw [hU.size]; exact Nat.le_trans HM5.out.sz HG7.out.size⟩
          clear hU k8 hsz kx0 kx1 kx2 kx3 kx4 kx5 kx6 kx7
          go_wp2_with fail
          go_roundw
          case rel =>
           obtain ⟨st', hm'⟩ := HMN.out
           exact ⟨k + 1, st', _, _, pc, by omega, by go_num, hm'⟩
          case measure => simp [intOf]; omega
         ·have nf : (f != 0) = true := by simpa using hfz
          have HNZ : Hid (f ≠ 0) := hfz
          clear hfz
          have HS : Hid (StepIs t (st k) (l.getD k ev0) [] f) := by rw [← HV.out]; exact .inr (.inr (.inr (.inr ⟨HEM.out, HKD.out, j, c', HJ.out, by rw [← HCM.out]; exact HHI.out, fun hz => absurd hz HNZ.out⟩)))
          go_wp2_with (first | (refine zql rfl rfl rfl rfl zqu29 (by simp [Value.oneCell']) HR7 rfl ?_) | fail)
          intro WF hU
          have R0 : Hid (WF.cell? ⟨w.heap.size + 1, 0, none⟩ = some (.slice none 0 0)) := hU.blk.cell 0
          have HBF := shV hU HB7 (by omega)
          clear hU
          have HFIN : Hid (BookPost w t l (.returned (.tuple #[.agg #[.slice none 0 0], .int .i64 (k : Int), .int .i64 f])) WF) := ⟨none, 0, 0, [], [], (k : Int), f, rfl, HM5.out.stop HTR.out HFEW.out HKL.out HS.out HNZ.out, sees_nil _, Nat.zero_le _, HBF.out⟩
          go_wp2_with fail
          exact bodyPost_ret (v := .tuple #[.agg #[.slice none 0 0], .int .i64 (k : Int), .int .i64 f]) (by simp [results, Tryz.results20, R0.out, go_sem]) rfl HFIN.out
        ·rw [if_pos (by rfl)]
         have HSA : Hid (Blk (U.alloc (.cells #[.int .i64 0, .int .i64 0, .int .i64 0, .int .i64 0, .int .i64 0, .int .i64 0, .slice none 0 0, .slice none 0 0] 62)) w.heap.size #[.slice pt lt ct, .int .i64 t.ff, .int .i64 t.fb, .int .i64 t.db, .int .i64 t.al] 24 ∧ Blk (U.alloc (.cells #[.int .i64 0, .int .i64 0, .int .i64 0, .int .i64 0, .int .i64 0, .int .i64 0, .slice none 0 0, .slice none 0 0] 62)) g8 #[.slice (some ⟨gV, vo, none⟩) xs.length pc] 29 ∧ Blk (U.alloc (.cells #[.int .i64 0, .int .i64 0, .int .i64 0, .int .i64 0, .int .i64 0, .int .i64 0, .slice none 0 0, .slice none 0 0] 62)) g10 #[.int .i64 v.kd, .int .i64 v.me, .int .i64 v.mo, .int .i64 v.id, .int .i64 v.te, .int .i64 v.de, .int .i64 v.fe, .int .i64 v.pr, .int .i64 v.ch, .int .i64 v.un, .int .i64 v.tg, .int .i64 v.ow, .int .i64 v.bp] 71 ∧ Blk (U.alloc (.cells #[.int .i64 0, .int .i64 0, .int .i64 0, .int .i64 0, .int .i64 0, .int .i64 0, .slice none 0 0, .slice none 0 0] 62)) gV cur 62) := ⟨HSN.out.1.alloc _, HSN.out.2.1.alloc _, HSN.out.2.2.1.alloc _, HSN.out.2.2.2.alloc _⟩
         have HRA : Hid (Blk (U.alloc (.cells #[.int .i64 0, .int .i64 0, .int .i64 0, .int .i64 0, .int .i64 0, .int .i64 0, .slice none 0 0, .slice none 0 0] 62)) (w.heap.size + 1) #[.slice none 0 0] 29) := HRN.out.alloc _
         have HNA : Hid (Blk (U.alloc (.cells #[.int .i64 0, .int .i64 0, .int .i64 0, .int .i64 0, .int .i64 0, .int .i64 0, .slice none 0 0, .slice none 0 0] 62)) U.heap.size #[.int .i64 0, .int .i64 0, .int .i64 0, .int .i64 0, .int .i64 0, .int .i64 0, .slice none 0 0, .slice none 0 0] 62) := Blk.new _ _ _
         have HGL : Hid (w.heap.size < U.heap.size ∧ w.heap.size + 1 < U.heap.size ∧ g8 < U.heap.size ∧ g10 < U.heap.size ∧ gV < U.heap.size) := ⟨HSN.out.1.lt, HRN.out.lt, HSN.out.2.1.lt, HSN.out.2.2.1.lt, HSN.out.2.2.2.lt⟩
         have HBU0 : Hid (Below U.heap.size U (U.alloc (.cells #[.int .i64 0, .int .i64 0, .int .i64 0, .int .i64 0, .int .i64 0, .int .i64 0, .slice none 0 0, .slice none 0 0] 62))) := (Below.refl _ _).alloc (Nat.le_refl _) _
         have HGC0 : Hid (g10 < U.heap.size) := HGL.out.2.2.2.1
         have HLC0 : Hid (U.heap.size < (U.alloc (.cells #[.int .i64 0, .int .i64 0, .int .i64 0, .int .i64 0, .int .i64 0, .int .i64 0, .slice none 0 0, .slice none 0 0] 62)).heap.size) := by show _ < _; simp
         refine wp_runOp (v := .pointer (some ⟨U.heap.size, 0, none⟩)) (w' := (U.alloc (.cells #[.int .i64 0, .int .i64 0, .int .i64 0, .int .i64 0, .int .i64 0, .int .i64 0, .slice none 0 0, .slice none 0 0] 62))) 14 rfl (by clear hK; go_simp) ?_
         refine hK.out _ _ HSA.out (fun hHeld => ?_)
         clear hK
         simp only [Act.put, zqa, zqb, zqc]
         generalize hgc : U.heap.size = gc at HNA HGL HGC0 HLC0 hHeld ⊢
         have HGCE : Hid (U.heap.size = gc) := hgc
         clear hgc
         generalize U.alloc _ = U2 at *
         have HBU : Hid (Below U.heap.size U U2) := HBU0.out
         have HNN : Hid (Blk U2 gc #[.int .i64 0, .int .i64 0, .int .i64 0, .int .i64 0, .int .i64 0, .int .i64 0, .slice none 0 0, .slice none 0 0] 62) := HNA.out
         have HGC : Hid (g10 < gc) := HGC0.out
         clear HSN HRN
         have HSN : Hid (Blk U2 w.heap.size #[.slice pt lt ct, .int .i64 t.ff, .int .i64 t.fb, .int .i64 t.db, .int .i64 t.al] 24 ∧ Blk U2 g8 #[.slice (some ⟨gV, vo, none⟩) xs.length pc] 29 ∧ Blk U2 g10 #[.int .i64 v.kd, .int .i64 v.me, .int .i64 v.mo, .int .i64 v.id, .int .i64 v.te, .int .i64 v.de, .int .i64 v.fe, .int .i64 v.pr, .int .i64 v.ch, .int .i64 v.un, .int .i64 v.tg, .int .i64 v.ow, .int .i64 v.bp] 71 ∧ Blk U2 gV cur 62) := HSA.out
         have HRN : Hid (Blk U2 (w.heap.size + 1) #[.slice none 0 0] 29) := HRA.out
         refine zqo 7 (by kernel_rfl) rfl (fun K hK => ?_)
         rw [if_pos (by rfl)]
         refine wp_callOp 77 rfl (by clear hK; go_simp) (HHP5.out U2 HBU.out) ?_
         rintro e w6 ⟨⟨xme, xrv, xnx, xmo, xbo, xfr, xdp, xdn, xdc, xsp, xsn, xsc⟩, c', f, rfl, hhi, htu, hgr⟩
         have HHI : Hid (HapIs t ⟨a, sol⟩ v c' f) := hhi
         have HTU : Hid (f = 0 → Turned U w6 W1.heap.size (cuA a dp dn dc sp sn sc) (⟨xme, xrv, xnx, xmo, xbo, xfr, xdp, xdn, xdc, xsp, xsn, xsc⟩ : Cu) c') := fun hz => (htu hz).prev HBU.out
         have HGR : Hid (U.grownBy w6 (Value.slice sp sn sc).ownBlock) := (grown_of HBU.out _).trans hgr
         have HTN : Hid (f = 0 → (∀ q, (⟨xme, xrv, xnx, xmo, xbo, xfr, xdp, xdn, xdc, xsp, xsn, xsc⟩ : Cu).sold.ownBlock = some q → q < gc ∨ gc < q) ∧ (0 < xdn → ∀ p, xdp = some p → gc < p.block)) := fun hz => ⟨fun q hq => by rcases (htu hz).own q hq with q1 | q1; exact .inl (by have h1 := HOW.out q q1; have h2 := HGC.out; omega); exact .inr (by have h2 := HLC0.out; omega), fun hn p hp => by have q1 := (htu hz).new hn p hp; have h2 := HLC0.out; omega⟩
         have hkp : ∀ g cs ty, (∀ q, (Value.slice sp sn sc).ownBlock = some q → g ≠ q) → Blk U2 g cs ty → Blk w6 g cs ty := fun g cs ty hq hb => blk_kept hb hgr (fun e => hq g e.symm rfl)
         have HS6 : Hid (Blk w6 w.heap.size #[.slice pt lt ct, .int .i64 t.ff, .int .i64 t.fb, .int .i64 t.db, .int .i64 t.al] 24 ∧ Blk w6 g8 #[.slice (some ⟨gV, vo, none⟩) xs.length pc] 29 ∧ Blk w6 g10 #[.int .i64 v.kd, .int .i64 v.me, .int .i64 v.mo, .int .i64 v.id, .int .i64 v.te, .int .i64 v.de, .int .i64 v.fe, .int .i64 v.pr, .int .i64 v.ch, .int .i64 v.un, .int .i64 v.tg, .int .i64 v.ow, .int .i64 v.bp] 71 ∧ Blk w6 gV cur 62) := ⟨hkp _ _ _ (fun q hq => by have h1 := HOW.out q hq; have h2 := HG8.out; omega) HSN.out.1, hkp _ _ _ (fun q hq => by have h1 := HOW.out q hq; have h2 := HG8.out; omega) HSN.out.2.1, hkp _ _ _ (fun q hq => by have h1 := HOW.out q hq; omega) HSN.out.2.2.1, hkp _ _ _ (fun q hq e => HOF.out.1 q hq (by rw [e])) HSN.out.2.2.2⟩
         have HR6 : Hid (Blk w6 (w.heap.size + 1) #[.slice none 0 0] 29) := hkp _ _ _ (fun q hq => by have h1 := HOW.out q hq; have h2 := HG8.out; omega) HRN.out
         have HN6 : Hid (Blk w6 gc #[.int .i64 0, .int .i64 0, .int .i64 0, .int .i64 0, .int .i64 0, .int .i64 0, .slice none 0 0, .slice none 0 0] 62) := hkp _ _ _ (fun q hq => by have h1 := HOW.out q hq; have h2 := HGC.out; omega) HNN.out
         have HZ6 : Hid (U.heap.size ≤ w6.heap.size) := HGR.out.size
         refine ⟨.tuple #[.agg #[.int .i64 xme, .int .i64 xrv, .int .i64 xnx, .int .i64 xmo, .int .i64 xbo, .int .i64 xfr, .slice xdp xdn xdc, .slice xsp xsn xsc], .int .i64 f], rfl, hK.out _ _ HS6.out (fun hHeld => ?_)⟩
         clear hK hhi htu hgr hkp
         simp only [Act.put, zqa, zqb, zqc]
         refine zqs 8 69 (.tuple #[.agg #[.int .i64 xme, .int .i64 xrv, .int .i64 xnx, .int .i64 xmo, .int .i64 xbo, .int .i64 xfr, .slice xdp xdn xdc, .slice xsp xsn xsc], .int .i64 f]) rfl rfl (by kernel_rfl) (fun _ _ _ h => h) rfl (fun v hv => by clear hv; go_simp) hHeld ?_
         simp only [Act.put, zqa, zqb, zqc]
         refine zqs 9 78 (.agg #[.int .i64 xme, .int .i64 xrv, .int .i64 xnx, .int .i64 xmo, .int .i64 xbo, .int .i64 xfr, .slice xdp xdn xdc, .slice xsp xsn xsc]) rfl rfl (by kernel_rfl) (fun _ _ _ h => h) rfl (fun v hv => by clear hv; go_simp) hHeld ?_
         simp only [Act.put, zqa, zqb, zqc]
         refine zqs 10 79 (.int .i64 f) rfl rfl (by kernel_rfl) (fun _ _ _ h => h) rfl (fun v hv => by clear hv; go_simp) hHeld ?_
         simp only [Act.put, zqa, zqb, zqc]
         refine zqo 12 (by kernel_rfl) rfl (fun K hK => ?_)
         rw [if_pos (by rfl)]
         refine wp_letOp 62 _ _ rfl gc rfl #[.int .i64 xme, .int .i64 xrv, .int .i64 xnx, .int .i64 xmo, .int .i64 xbo, .int .i64 xfr, .slice xdp xdn xdc, .slice xsp xsn xsc] rfl (by kernel_rfl) (by simp [Value.oneCell']) #[.int .i64 0, .int .i64 0, .int .i64 0, .int .i64 0, .int .i64 0, .int .i64 0, .slice none 0 0, .slice none 0 0] 62 HN6.out rfl rfl ?_
         intro W7 hU
         have hgl := HGL.out
         have HS7 : Hid (Blk W7 w.heap.size #[.slice pt lt ct, .int .i64 t.ff, .int .i64 t.fb, .int .i64 t.db, .int .i64 t.al] 24 ∧ Blk W7 g8 #[.slice (some ⟨gV, vo, none⟩) xs.length pc] 29 ∧ Blk W7 g10 #[.int .i64 v.kd, .int .i64 v.me, .int .i64 v.mo, .int .i64 v.id, .int .i64 v.te, .int .i64 v.de, .int .i64 v.fe, .int .i64 v.pr, .int .i64 v.ch, .int .i64 v.un, .int .i64 v.tg, .int .i64 v.ow, .int .i64 v.bp] 71 ∧ Blk W7 gV cur 62) := ⟨hU.keep HS6.out.1 (by omega), hU.keep HS6.out.2.1 (by omega), hU.keep HS6.out.2.2.1 (by omega), hU.keep HS6.out.2.2.2 (by omega)⟩
         have HR7 := shK hU HR6 (by omega)
         have HN7 : Hid (Blk W7 gc #[.int .i64 xme, .int .i64 xrv, .int .i64 xnx, .int .i64 xmo, .int .i64 xbo, .int .i64 xfr, .slice xdp xdn xdc, .slice xsp xsn xsc] 62) := hU.blk
         have HT7 : Hid (f = 0 → Turned U W7 W1.heap.size (cuA a dp dn dc sp sn sc) (⟨xme, xrv, xnx, xmo, xbo, xfr, xdp, xdn, xdc, xsp, xsn, xsc⟩ : Cu) c') := fun hz => (HTU.out hz).upd hU (Nat.le_of_eq HGCE.out) (fun q hq e => by rcases (HTN.out hz).1 q hq with q1 | q1 <;> omega) (fun hn p hp e => by have q1 := (HTN.out hz).2 hn p hp; omega)
         have HG7 : Hid (U.grownBy W7 (Value.slice sp sn sc).ownBlock) := grown_upd HGR.out hU (Nat.le_of_eq HGCE.out)
         refine hK.out _ _ HS7.out (fun hHeld => ?_)
         clear hK hU hgl
         refine zqs 13 15 (.int .i64 f) rfl rfl (by kernel_rfl) (fun _ _ _ h => h) rfl (fun v hv => by clear hv; go_simp) hHeld ?_
         simp only [Act.put, zqa, zqb, zqc]
         refine wpAnyH_done (by kernel_rfl) ?_ _
         clear hHeld
         have HB7 : Hid (Below w.heap.size w W7) := bel_turned HM5.out.bel HG7.out HM5.out.bel.size (fun q hq => by have h1 := (HOW.out q hq).1; have h2 := HG8.out; omega)
         by_cases hfz : f = 0
         ·subst hfz
          have HTZ : Hid (Turned U W7 W1.heap.size (cuA a dp dn dc sp sn sc) (⟨xme, xrv, xnx, xmo, xbo, xfr, xdp, xdn, xdc, xsp, xsn, xsc⟩ : Cu) c') := HT7.out rfl
          clear HT7
          have HS : Hid (StepIs t (st k) (l.getD k ev0) ((st k).set j c') 0) := by rw [← HV.out]; exact .inr (.inr (.inr (.inr ⟨HEM.out, HKD.out, j, c', HJ.out, by rw [← HCM.out]; exact HHI.out, fun _ => rfl⟩)))
          obtain ⟨kx0, kx1, kx2, kx3, kx4, kx5, kx6, kx7⟩ := scl8 HN7
          have k8 : W7.cell? ⟨g8, 0, none⟩ = some (.slice (some ⟨gV, vo, none⟩) xs.length pc) := HS7.out.2.1.cell 0
          have hsz : vo + j * 8 + 8 ≤ cur.size := by have h1 := HBV.out.2.2; have h2 := HVO.out; omega
          go_wp2_with (first | (refine wp_let rfl 62 _ _ rfl gV (vo + j * 8) rfl (.agg #[.int .i64 xme, .int .i64 xrv, .int .i64 xnx, .int .i64 xmo, .int .i64 xbo, .int .i64 xfr, .slice xdp xdn xdc, .slice xsp xsn xsc]) rfl #[.int .i64 xme, .int .i64 xrv, .int .i64 xnx, .int .i64 xmo, .int .i64 xbo, .int .i64 xfr, .slice xdp xdn xdc, .slice xsp xsn xsc] rfl (by kernel_rfl) (by simp [Value.oneCell']) cur 62 HS7.out.2.2.2 hsz _ rfl ?_) | fail)
          intro W8 hU
          have HMN : Hid (∃ st', Mid w t pt lt ct l g8 W1.heap.size (k + 1) st' (xs.set j (⟨xme, xrv, xnx, xmo, xbo, xfr, xdp, xdn, xdc, xsp, xsn, xsc⟩ : Cu)) (some ⟨gV, vo, none⟩) pc W8) := by
           obtain ⟨st', s0', sk', hst'⟩ := run_more HM5.out.steps HS.out
           have hg := HG8.out
           have hv := HBV.out.2.1
           have hl7 : Lc W7 W1.heap.size (.slice (some ⟨gV, vo, none⟩) xs.length pc) xs := lc_kept HM5.out.hold.row HG7.out (fun q hq e => HOF.out.1 q e (by rw [← hq]; rfl))
           have hl8 : Lc W8 W1.heap.size (.slice (some ⟨gV, vo, none⟩) xs.length pc) (xs.set j (⟨xme, xrv, xnx, xmo, xbo, xfr, xdp, xdn, xdc, xsp, xsn, xsc⟩ : Cu)) := by
            have e0 := HVO.out
            subst e0
            rw [Nat.zero_add] at hU
            exact lc_put hl7 HS7.out.2.2.2 hjx hU
           have hp : Holds W8 W1.heap.size (.slice (some ⟨gV, vo, none⟩) xs.length pc) (xs.set j (⟨xme, xrv, xnx, xmo, xbo, xfr, xdp, xdn, xdc, xsp, xsn, xsc⟩ : Cu)) ((st k).set j c') := HM5.out.hold.put hjx (by rw [HXE.out]; exact HTZ.out) hl8 (upd_grown hU)
           exact ⟨st', s0'.trans HM5.out.s0, hst', by rw [sk']; exact step_small HS.out HM5.out.small, hU.keep HS7.out.1 (by omega), hU.keep HR7.out (by omega), by rw [List.length_set]; exact hU.keep HS7.out.2.1 (by omega), by rw [sk', List.length_set]; exact hp, hU.bel _ _ (by omega) HB7.out, by rw [hU.size]; exact Nat.le_trans HM5.out.sz HG7.out.size⟩
          clear hU k8 hsz kx0 kx1 kx2 kx3 kx4 kx5 kx6 kx7
          go_wp2_with fail
          go_roundw
          case rel =>
           obtain ⟨st', hm'⟩ := HMN.out
           exact ⟨k + 1, st', _, _, pc, by omega, by go_num, hm'⟩
          case measure => simp [intOf]; omega
         ·have nf : (f != 0) = true := by simpa using hfz
          have HNZ : Hid (f ≠ 0) := hfz
          clear hfz
          have HS : Hid (StepIs t (st k) (l.getD k ev0) [] f) := by rw [← HV.out]; exact .inr (.inr (.inr (.inr ⟨HEM.out, HKD.out, j, c', HJ.out, by rw [← HCM.out]; exact HHI.out, fun hz => absurd hz HNZ.out⟩)))
          go_wp2_with (first | (refine zql rfl rfl rfl rfl zqu29 (by simp [Value.oneCell']) HR7 rfl ?_) | fail)
          intro WF hU
          have R0 : Hid (WF.cell? ⟨w.heap.size + 1, 0, none⟩ = some (.slice none 0 0)) := hU.blk.cell 0
          have HBF := shV hU HB7 (by omega)
          clear hU
          have HFIN : Hid (BookPost w t l (.returned (.tuple #[.agg #[.slice none 0 0], .int .i64 (k : Int), .int .i64 f])) WF) := ⟨none, 0, 0, [], [], (k : Int), f, rfl, HM5.out.stop HTR.out HFEW.out HKL.out HS.out HNZ.out, sees_nil _, Nat.zero_le _, HBF.out⟩
          go_wp2_with fail
          exact bodyPost_ret (v := .tuple #[.agg #[.slice none 0 0], .int .i64 (k : Int), .int .i64 f]) (by simp [results, Tryz.results20, R0.out, go_sem]) rfl HFIN.out
       ·have HS : Hid (StepIs t (st k) (l.getD k ev0) [] 18) := by rw [← HV.out]; exact .inr (.inr (.inr (.inl ⟨HEM.out, HKD.out, hno, rfl⟩)))
        clear hno
        go_wp2_with (first | (refine wp_letAll rfl 29 _ _ rfl (w.heap.size + 1) rfl #[.slice none 0 0] rfl (by kernel_rfl) (by simp [Value.oneCell']) #[.slice none 0 0] 29 HM4.out.br rfl ?_) | fail)
        intro WF hU
        have R0 : Hid (WF.cell? ⟨w.heap.size + 1, 0, none⟩ = some (.slice none 0 0)) := hU.blk.cell 0
        have HBF : Hid (Below w.heap.size w WF) := hU.bel _ _ (by omega) HM4.out.bel
        clear hU
        have HFIN : Hid (BookPost w t l (.returned (.tuple #[.agg #[.slice none 0 0], .int .i64 (k : Int), .int .i64 18])) WF) := ⟨none, 0, 0, [], [], (k : Int), 18, rfl, HM4.out.stop HTR.out HFEW.out HKL.out HS.out (by decide), sees_nil _, Nat.zero_le _, HBF.out⟩
        go_wp2_with fail
        exact bodyPost_ret (v := .tuple #[.agg #[.slice none 0 0], .int .i64 (k : Int), .int .i64 18]) (by simp [results, Tryz.results20, R0.out, go_sem]) rfl HFIN.out
    ·obtain rfl : k = n := by omega
     have hdl : decide ((k : Int) < (k : Int)) = false := by simp
     have k8 : wr.cell? ⟨g8, 0, none⟩ = some (.slice pa xs.length pc) := HM.out.bb.cell 0
     go_wp2_with (first | (refine wp_letAll rfl 29 _ _ rfl (w.heap.size + 1) rfl #[.slice pa xs.length pc] rfl (by kernel_rfl) (by simp [Value.oneCell']) #[.slice none 0 0] 29 HM.out.br rfl ?_) | fail)
     intro WF hU
     have R0 : Hid (WF.cell? ⟨w.heap.size + 1, 0, none⟩ = some (.slice pa xs.length pc)) := hU.blk.cell 0
     have HUF : Hid (Upd wr WF (w.heap.size + 1) #[.slice pa xs.length pc] 29) := hU
     clear hU k8
     have HFIN : Hid (BookPost w t l (.returned (.tuple #[.agg #[.slice pa xs.length pc], .int .i64 0, .int .i64 0])) WF) := by
      obtain ⟨p0, c0, hv0, hs⟩ := (HM.out.hold.upd HUF.out (by have := HG8.out; omega)).sees
      injection hv0 with e1 _ e3
      subst e1
      exact ⟨pa, xs.length, pc, xs, st k, 0, 0, rfl, .inr (.inr ⟨HTR.out, HFEW.out, k, st, HM.out.s0, HM.out.steps, .inl ⟨HLN.out.symm, rfl, rfl, rfl⟩⟩), hs, by have := HM.out.few; omega, HUF.out.bel _ _ (by omega) HM.out.bel⟩
     go_wp2_with fail
     exact bodyPost_ret (v := .tuple #[.agg #[.slice pa xs.length pc], .int .i64 0, .int .i64 0]) (by simp [results, Tryz.results20, R0.out, go_sem]) rfl HFIN.out
 ·have hne : (f != 0) = true := by simpa using h0
  have HF : Hid (TFault t f) := hf
  have HNE : Hid (f ≠ 0) := h0
  clear hf h0
  go_wp2_with (first | (refine zql rfl rfl rfl rfl zqu29 (by simp [Value.oneCell']) HR1 rfl ?_) | fail)
  intro WF hU
  have R0 : Hid (WF.cell? ⟨w.heap.size + 1, 0, none⟩ = some (.slice none 0 0)) := hU.blk.cell 0
  have HBF := shV hU HB1 (by omega)
  clear hU
  have HFIN : Hid (BookPost w t l (.returned (.tuple #[.agg #[.slice none 0 0], .int .i64 0, .int .i64 f])) WF) := ⟨none, 0, 0, [], [], 0, f, rfl, .inl ⟨HF.out, HNE.out, rfl, rfl⟩, sees_nil _, Nat.zero_le _, HBF.out⟩
  go_wp2_with fail
  exact bodyPost_ret (v := .tuple #[.agg #[.slice none 0 0], .int .i64 0, .int .i64 f]) (by simp [results, Tryz.results20, R0.out, go_sem]) rfl HFIN.out
end book
end Go.Proofs.YtomibnggmhjdfaaGreat
