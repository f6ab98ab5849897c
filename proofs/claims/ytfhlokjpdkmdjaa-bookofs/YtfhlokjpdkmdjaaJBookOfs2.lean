import Derived.Test.YtfhlokjpdkmdjaaSh
import Derived.Test.YtfhlokjpdkmdjaaJBookOfs1
import Derived.Test.YtfhlokjpdkmdjaaAcTf
import Derived.Test.YtfhlokjpdkmdjaaAcOp
import Derived.Test.YtfhlokjpdkmdjaaLetS
import Derived.Test.YtfhlokjpdkmdjaaCallFirst
import Derived.Deep.RegionHeld
import Derived.Deep.DeepCutAuto
import Derived.Test.YtfhlokjpdkmdjaaDbK
import Derived.Test.YtfhlokjpdkmdjaaProg
import Derived.WalkKit
import Derived.Laws.StructEq
import Derived.Test.YtfhlokjpdkmdjaaAcU
import Derived.Test.YtfhlokjpdkmdjaaSoR
import Derived.Test.YtfhlokjpdkmdjaaEqI
import Derived.Test.YtfhlokjpdkmdjaaLet
import Derived.Test.YtfhlokjpdkmdjaaBkH
import Derived.Test.YtfhlokjpdkmdjaaWRow
import Derived.Laws.OwnMore
import Derived.OwnWalk
import Derived.Test.YtfhlokjpdkmdjaaBkE
import Derived.Below
import Derived.Test.YtfhlokjpdkmdjaaAcD
import Derived.Test.YtfhlokjpdkmdjaaAcCt
import Derived.Test.YtfhlokjpdkmdjaaTfD
import Derived.Test.YtfhlokjpdkmdjaaBlk
import Derived.Test.YtfhlokjpdkmdjaaBkP
import Derived.Maps.OwnOps
import Derived.Defers
import Derived.Recover
import Derived.WalkLawsBesides
import Derived.Test.YtfhlokjpdkmdjaaDbD

/- The book of events, as the document has it. -/
namespace Go.Proofs.Ytfhlokjpdkmdjaa.book
open Go.RowKit
open Go.Proofs.Ytfhlokjpdkmdjaa.acc (Ac Tm Bi APost BPost TFault TRight OpenIs)
set_option maxRecDepth 100000
set_option linter.unusedVariables false
set_option linter.unusedSimpArgs false

set_option maxHeartbeats 8000000 in
theorem rbook (t : Tm) (pt : Option Addr) (lt ct : Nat) (pl : Option Addr) (n cap : Nat) (l : List Ev) (w : World) (ht : tar.RowD w pt lt t.ts) (htl : lt ≤ maxLen) (hl : RowE w pl n l) (hnm : n ≤ 9223372036854775807) :
    Calls Try.prog 18 #[.agg #[.slice pt lt ct, .int .i64 t.ff, .int .i64 t.fb, .int .i64 t.db, .int .i64 t.al], .slice pl n cap] w fun e w' => BookPost w t l e w' := by
  have HTM : Hid (∀ W, Below w.heap.size w W → tar.RowD W pt lt t.ts) := fun W hB => ht.below hB
  have HTL : Hid (lt ≤ maxLen) := htl
  have HRE : Hid (RowE w pl n l) := hl
  have HLN : Hid (l.length = n) := hl.1
  have HTF : Hid (∀ W, Below w.heap.size w W → Calls Try.prog 36 #[.agg #[.slice pt lt ct, .int .i64 t.ff, .int .i64 t.fb, .int .i64 t.db, .int .i64 t.al]] W fun e w' => tar.ErrPost W (TFault t) e w') := fun W hB => acc.rterms t pt lt ct W (ht.below hB) htl
  obtain ⟨W0, HWW, HT0, HR0, HB0, -⟩ := sh2 w #[.slice pt lt ct, .int .i64 t.ff, .int .i64 t.fb, .int .i64 t.db, .int .i64 t.al] 40 #[.slice none 0 0] 45
  clear ht htl hl
  go_enter Try.func18, Try.ntmps18
  go_upto_region 1 with fail
  rw [HWW.out]
  clear HWW
  obtain ⟨k0, k1, k2, k3, k4⟩ := scl5 HT0
  have HF1 : Hid (Calls Try.prog 36 #[.agg #[.slice pt lt ct, .int .i64 t.ff, .int .i64 t.fb, .int .i64 t.db, .int .i64 t.al]] W0 fun e w' => tar.ErrPost W0 (TFault t) e w') := HTF.out W0 HB0.out
  clear HTF
  go_wp2_with fail
  refine HF1.out.mono ?_
  rintro e w1 ⟨f, rfl, hf, hb1⟩
  have HT1 := shN HT0 hb1
  have HR1 := shN HR0 hb1
  have HB1 := shB HB0 hb1
  clear hb1 HT0 HR0 HB0 HF1 k0 k1 k2 k3 k4
  by_cases h0 : f = 0
  · subst h0
    have HTR : Hid (TRight t) := hf.ok.1 rfl
    clear hf
    by_cases hbig : 120 < n
    · have hd1 : decide ((120 : Int) < (n : Int)) = true := decide_eq_true (by omega)
      have HBG : Hid (120 < l.length) := by show _ < _; rw [HLN.out]; exact hbig
      clear hbig
      go_wp2_with (first | (refine wp_letAll rfl 45 _ _ rfl _ rfl _ rfl (by kernel_rfl) (by simp [Value.oneCell']) _ 45 HR1.out rfl ?_) | fail)
      intro WF hU
      have R0 : Hid (WF.cell? ⟨w.heap.size + 1, 0, none⟩ = some (.slice none 0 0)) := hU.blk.cell 0
      have HBF := shV hU HB1 (by omega)
      clear hU
      have HFIN : Hid (BookPost w t l (.returned (.tuple #[.agg #[.slice none 0 0], .int .i64 0, .int .i64 1])) WF) := ⟨none, 0, 0, [], [], 0, 1, rfl, .inr (.inl ⟨HTR.out, HBG.out, rfl, rfl, rfl⟩), sees_nil _, Nat.zero_le _, HBF.out⟩
      go_wp2_with fail
      exact bodyPost_ret (v := .tuple #[.agg #[.slice none 0 0], .int .i64 0, .int .i64 1]) (by simp [results, Try.results18, R0.out, go_sem]) rfl HFIN.out
    · have hd1 : decide ((120 : Int) < (n : Int)) = false := decide_eq_false (by omega)
      have HFEW : Hid (l.length ≤ 120) := by show _ ≤ _; rw [HLN.out]; omega
      have hn120 : n ≤ 120 := by omega
      have HM0 : Hid (Mid w t pt lt ct l w1.heap.size (w1.alloc (.cells #[.slice none 0 0] 45)).heap.size 0 (fun _ => []) [] none 0 (w1.alloc (.cells #[.slice none 0 0] 45))) := ⟨rfl, (fun i hi => absurd hi (Nat.not_lt_zero _)), Small.zero, HT1.out.alloc _, HR1.out.alloc _, Blk.new _ _ _, Holds.zero _ _, HB1.out.alloc HB1.out.size _, Nat.le_refl _⟩
      have HG8 : Hid (w.heap.size + 1 < w1.heap.size ∧ w1.heap.size < (w1.alloc (.cells #[.slice none 0 0] 45)).heap.size) := ⟨HR1.out.lt, by simp⟩
      go_upto_region 7 with fail
      generalize (w1.alloc (.cells #[.slice none 0 0] 45)) = W1 at *
      generalize w1.heap.size = g8 at *
      clear HT1 HR1 HB1 hbig
      go_wp2_with fail
      go_loopw [9] (fun i wr => ∃ (k : Nat) (st : Nat → List Cm) (xs : List Cu) (pa : Option Addr) (pc : Nat), k ≤ n ∧ i = .int .i64 (k : Int) ∧ Mid w t pt lt ct l g8 W1.heap.size k st xs pa pc wr) (fun i _ => n - (intOf i).toNat)
      case atStart => exact ⟨0, _, _, _, _, Nat.zero_le _, rfl, HM0.out⟩
      case round =>
        obtain ⟨k, st, xs, pa, pc, hk, rfl, hmid⟩ := hrel
        have HM : Hid (Mid w t pt lt ct l g8 W1.heap.size k st xs pa pc wr) := hmid
        clear hmid HM0
        by_cases hlt : k < n
        · obtain ⟨bl, off, rfl, lb, hc⟩ := HRE.out.2.resolve_left (by omega)
          have hce : ∀ j, j < 13 → wr.cell? ⟨bl, off + k * 13 + j, none⟩ = (l.getD k ev0).cl[j]? := fun j hj => (HM.out.bel.cell (p := ⟨bl, off + k * 13 + j, none⟩) lb).trans (hc k j hlt hj)
          obtain ⟨v, hv⟩ : ∃ v, v = l.getD k ev0 := ⟨_, rfl⟩
          have HV : Hid (v = l.getD k ev0) := hv
          rw [← hv] at hce
          clear hv hc
          have c0 : wr.cell? ⟨bl, off + k * 13, none⟩ = some (.int .i64 v.kd) := hce 0 (by decide)
          have c1 : wr.cell? ⟨bl, off + k * 13 + 1, none⟩ = some (.int .i64 v.me) := hce 1 (by decide)
          have c2 : wr.cell? ⟨bl, off + k * 13 + 2, none⟩ = some (.int .i64 v.mo) := hce 2 (by decide)
          have c3 : wr.cell? ⟨bl, off + k * 13 + 3, none⟩ = some (.int .i64 v.id) := hce 3 (by decide)
          have c4 : wr.cell? ⟨bl, off + k * 13 + 4, none⟩ = some (.int .i64 v.te) := hce 4 (by decide)
          have c5 : wr.cell? ⟨bl, off + k * 13 + 5, none⟩ = some (.int .i64 v.de) := hce 5 (by decide)
          have c6 : wr.cell? ⟨bl, off + k * 13 + 6, none⟩ = some (.int .i64 v.fe) := hce 6 (by decide)
          have c7 : wr.cell? ⟨bl, off + k * 13 + 7, none⟩ = some (.int .i64 v.pr) := hce 7 (by decide)
          have c8 : wr.cell? ⟨bl, off + k * 13 + 8, none⟩ = some (.int .i64 v.ch) := hce 8 (by decide)
          have c9 : wr.cell? ⟨bl, off + k * 13 + 9, none⟩ = some (.int .i64 v.un) := hce 9 (by decide)
          have c10 : wr.cell? ⟨bl, off + k * 13 + 10, none⟩ = some (.int .i64 v.tg) := hce 10 (by decide)
          have c11 : wr.cell? ⟨bl, off + k * 13 + 11, none⟩ = some (.int .i64 v.ow) := hce 11 (by decide)
          have c12 : wr.cell? ⟨bl, off + k * 13 + 12, none⟩ = some (.int .i64 v.bp) := hce 12 (by decide)
          have HKL : Hid (k < l.length) := by show _ < _; rw [HLN.out]; exact hlt
          have HM1 : Hid (Mid w t pt lt ct l g8 W1.heap.size k st xs pa pc (wr.alloc (.cells #[.int .i64 v.kd, .int .i64 v.me, .int .i64 v.mo, .int .i64 v.id, .int .i64 v.te, .int .i64 v.de, .int .i64 v.fe, .int .i64 v.pr, .int .i64 v.ch, .int .i64 v.un, .int .i64 v.tg, .int .i64 v.ow, .int .i64 v.bp] 27))) := HM.out.next ((Below.refl _ _).alloc (Nat.le_refl _) _)
          have HV1 : Hid (Blk (wr.alloc (.cells #[.int .i64 v.kd, .int .i64 v.me, .int .i64 v.mo, .int .i64 v.id, .int .i64 v.te, .int .i64 v.de, .int .i64 v.fe, .int .i64 v.pr, .int .i64 v.ch, .int .i64 v.un, .int .i64 v.tg, .int .i64 v.ow, .int .i64 v.bp] 27)) wr.heap.size #[.int .i64 v.kd, .int .i64 v.me, .int .i64 v.mo, .int .i64 v.id, .int .i64 v.te, .int .i64 v.de, .int .i64 v.fe, .int .i64 v.pr, .int .i64 v.ch, .int .i64 v.un, .int .i64 v.tg, .int .i64 v.ow, .int .i64 v.bp] 27) := Blk.new _ _ _
          have HGW : Hid (W1.heap.size ≤ wr.heap.size) := HM.out.sz
          have HOL : Hid (∀ i, i < xs.length → ∀ g, (xs.getD i cu0).sold.ownBlock = some g → g < wr.heap.size) := fun i hi g hg => (World.ownsRow.lt (HM.out.hold.has i hi).so g hg).2
          clear hce HM
          go_upto_region 11 with fail
          clear c0 c1 c2 c3 c4 c5 c6 c7 c8 c9 c10 c11 c12
          generalize (wr.alloc (.cells #[.int .i64 v.kd, .int .i64 v.me, .int .i64 v.mo, .int .i64 v.id, .int .i64 v.te, .int .i64 v.de, .int .i64 v.fe, .int .i64 v.pr, .int .i64 v.ch, .int .i64 v.un, .int .i64 v.tg, .int .i64 v.ow, .int .i64 v.bp] 27)) = W2 at *
          generalize wr.heap.size = g10 at *
          obtain ⟨c0, c1, c2, c3, c4, c5, c6, c7, c8, c9, c10, c11, c12⟩ := scl13 HV1
          have HMY : Hid (∀ W, Calls Try.prog 29 #[.agg #[.int .i64 v.kd, .int .i64 v.me, .int .i64 v.mo, .int .i64 v.id, .int .i64 v.te, .int .i64 v.de, .int .i64 v.fe, .int .i64 v.pr, .int .i64 v.ch, .int .i64 v.un, .int .i64 v.tg, .int .i64 v.ow, .int .i64 v.bp]] W fun e w' => MayPost W v e w') := fun W => rmay v W
          go_wp2_with fail
          refine (HMY.out _).mono ?_
          rintro e w3 ⟨B, rfl, hB, hb3⟩
          have HM3 : Hid (Mid w t pt lt ct l g8 W1.heap.size k st xs pa pc w3) := HM1.out.next hb3
          have HV3 := shN HV1 hb3
          clear hb3 HM1 HV1 HMY
          clear c0 c1 c2 c3 c4 c5 c6 c7 c8 c9 c10 c11 c12
          cases B with
          | false =>
            have HS : Hid (StepIs t (st k) (l.getD k ev0) [] 5) := by rw [← HV.out]; exact .inl ⟨fun h => absurd (hB.2 h) (by decide), rfl⟩
            clear hB
            go_wp2_with (first | (refine wp_letAll rfl 45 _ _ rfl (w.heap.size + 1) rfl #[.slice none 0 0] rfl (by kernel_rfl) (by simp [Value.oneCell']) #[.slice none 0 0] 45 HM3.out.br rfl ?_) | fail)
            intro WF hU
            have R0 : Hid (WF.cell? ⟨w.heap.size + 1, 0, none⟩ = some (.slice none 0 0)) := hU.blk.cell 0
            have HBF : Hid (Below w.heap.size w WF) := hU.bel _ _ (by omega) HM3.out.bel
            clear hU
            have HFIN : Hid (BookPost w t l (.returned (.tuple #[.agg #[.slice none 0 0], .int .i64 (k : Int), .int .i64 5])) WF) := ⟨none, 0, 0, [], [], (k : Int), 5, rfl, HM3.out.stop HTR.out HFEW.out HKL.out HS.out (by decide), sees_nil _, Nat.zero_le _, HBF.out⟩
            go_wp2_with fail
            exact bodyPost_ret (v := .tuple #[.agg #[.slice none 0 0], .int .i64 (k : Int), .int .i64 5]) (by simp [results, Try.results18, R0.out, go_sem]) rfl HFIN.out
          | true =>
            have HEM : Hid (EMay v) := hB.1 rfl
            clear hB
            obtain ⟨p0, c0, hv0, hrow, _, _⟩ := HM3.out.hold.row.row
            injection hv0 with e1 _ e3
            subst e1
            subst e3
            have HFO : Hid (Calls Try.prog 22 #[.agg #[.slice pa xs.length pc], .int .i64 v.me] w3 fun e w' => ∃ x, e = .returned (.int .i64 x) ∧ FoundIs xs v.me x ∧ Below w3.heap.size w3 w') := rfound pa xs.length pc xs v.me w3 hrow (by have := HM3.out.few; omega)
            clear hrow
            obtain ⟨c0, c1, c2, c3, c4, c5, c6, c7, c8, c9, c10, c11, c12⟩ := scl13 HV3
            have k8 : w3.cell? ⟨g8, 0, none⟩ = some (.slice pa xs.length pc) := HM3.out.bb.cell 0
            go_wp2_with fail
            refine HFO.out.mono ?_
            rintro e w4 ⟨x, rfl, hfo, hb4⟩
            have HM4 : Hid (Mid w t pt lt ct l g8 W1.heap.size k st xs pa pc w4) := HM3.out.next hb4
            have HV4 := shN HV3 hb4
            have hfirst := first_of HM4.out.hold.len (fun i hi => (HM4.out.hold.has i hi).num) hfo
            clear hb4 hfo HFO HM3 HV3 k8
            clear c0 c1 c2 c3 c4 c5 c6 c7 c8 c9 c10 c11 c12
            obtain ⟨c0, c1, c2, c3, c4, c5, c6, c7, c8, c9, c10, c11, c12⟩ := scl13 HV4
            by_cases hkd : v.kd = 1
            · have n1 : (v.kd == 1) = true := by simpa using hkd
              have HKD : Hid (v.kd = 1) := hkd
              clear hkd
              rcases hfirst with ⟨j, hj, rfl⟩ | ⟨hno, rfl⟩
              · have hd2 : decide ((0 : Int) ≤ (j : Int)) = true := decide_eq_true (by omega)
                have HS : Hid (StepIs t (st k) (l.getD k ev0) [] 21) := by rw [← HV.out]; exact .inr (.inl ⟨HEM.out, HKD.out, hj.some, rfl⟩)
                clear hj
                go_wp2_with (first | (refine wp_letAll rfl 45 _ _ rfl (w.heap.size + 1) rfl #[.slice none 0 0] rfl (by kernel_rfl) (by simp [Value.oneCell']) #[.slice none 0 0] 45 HM4.out.br rfl ?_) | fail)
                intro WF hU
                have R0 : Hid (WF.cell? ⟨w.heap.size + 1, 0, none⟩ = some (.slice none 0 0)) := hU.blk.cell 0
                have HBF : Hid (Below w.heap.size w WF) := hU.bel _ _ (by omega) HM4.out.bel
                clear hU
                have HFIN : Hid (BookPost w t l (.returned (.tuple #[.agg #[.slice none 0 0], .int .i64 (k : Int), .int .i64 21])) WF) := ⟨none, 0, 0, [], [], (k : Int), 21, rfl, HM4.out.stop HTR.out HFEW.out HKL.out HS.out (by decide), sees_nil _, Nat.zero_le _, HBF.out⟩
                go_wp2_with fail
                exact bodyPost_ret (v := .tuple #[.agg #[.slice none 0 0], .int .i64 (k : Int), .int .i64 21]) (by simp [results, Try.results18, R0.out, go_sem]) rfl HFIN.out
              · skip
                have hd2 : decide ((0 : Int) ≤ -1) = false := by decide
                have hme : 0 ≤ v.me ∧ v.me ≤ 49 := HEM.out.1
                have HOP : Hid (Calls Try.prog 37 #[.int .i64 v.me] w4 fun e w' => APost w4 (OpenIs v.me) e w') := acc.ropen v.me w4
                have HS : Hid (StepIs t (st k) (l.getD k ev0) (st k ++ [(⟨⟨v.me, 0, 1, 0, 0, -1, []⟩, []⟩ : Cm)]) 0) := by rw [← HV.out]; exact .inr (.inr (.inl ⟨HEM.out, HKD.out, hno, rfl, rfl⟩))
                clear hno
                go_wp2_with fail
                refine HOP.out.mono ?_
                rintro e w5 ⟨b, pb, lb, cb, f, rfl, hi, hf, hb5⟩
                obtain ⟨rfl, rfl⟩ : b = ⟨v.me, 0, 1, 0, 0, -1, []⟩ ∧ f = 0 := hi.one (.inl ⟨hme, rfl, rfl⟩)
                have HLB : Hid (lb = 0) := hf.came.row.1.symm
                have HM5 : Hid (Mid w t pt lt ct l g8 W1.heap.size k st xs pa pc w5) := HM4.out.next hb5
                have HF5 : Hid (deb.Fresh w5 W1.heap.size pb lb cb []) := hf.low HM4.out.sz
                clear hb5 hf hi hme HOP HM4 HV4
                clear c0 c1 c2 c3 c4 c5 c6 c7 c8 c9 c10 c11 c12
                unfold acc.Ac.v acc.Ac.cs
                have HM6 : Hid (Mid w t pt lt ct l g8 W1.heap.size k st xs pa pc (w5.alloc (.cells #[.int .i64 v.me, .int .i64 0, .int .i64 1, .int .i64 0, .int .i64 0, .int .i64 (-1), .slice pb lb cb] 55))) := HM5.out.next ((Below.refl _ _).alloc (Nat.le_refl _) _)
                have HA6 : Hid (Blk (w5.alloc (.cells #[.int .i64 v.me, .int .i64 0, .int .i64 1, .int .i64 0, .int .i64 0, .int .i64 (-1), .slice pb lb cb] 55)) w5.heap.size #[.int .i64 v.me, .int .i64 0, .int .i64 1, .int .i64 0, .int .i64 0, .int .i64 (-1), .slice pb lb cb] 55) := Blk.new _ _ _
                have HF6 : Hid (deb.Fresh (w5.alloc (.cells #[.int .i64 v.me, .int .i64 0, .int .i64 1, .int .i64 0, .int .i64 0, .int .i64 (-1), .slice pb lb cb] 55)) W1.heap.size pb lb cb []) := HF5.out.below ((Below.refl _ _).alloc (Nat.le_refl _) _)
                go_upto_region 18 with fail
                generalize (w5.alloc (.cells #[.int .i64 v.me, .int .i64 0, .int .i64 1, .int .i64 0, .int .i64 0, .int .i64 (-1), .slice pb lb cb] 55)) = W6 at *
                generalize w5.heap.size = ga at *
                clear HM5 HF5
                obtain ⟨ka0, ka1, ka2, ka3, ka4, -, -⟩ := scl7 HA6
                have ka5 : W6.cell? ⟨ga, 5, none⟩ = some (.int .i64 (-1)) := HA6.out.cell 5
                have ka6 : W6.cell? ⟨ga, 6, none⟩ = some (.slice pb lb cb) := HA6.out.cell 6
                have k8 : W6.cell? ⟨g8, 0, none⟩ = some (.slice pa xs.length pc) := HM6.out.bb.cell 0
                have HM7 : Hid (Mid w t pt lt ct l g8 W1.heap.size k st xs pa pc (W6.alloc (.cells #[.int .i64 v.me, .int .i64 0, .int .i64 1, .int .i64 0, .int .i64 0, .int .i64 (-1), .slice pb lb cb, .slice none 0 0] 58))) := HM6.out.next ((Below.refl _ _).alloc (Nat.le_refl _) _)
                have HN7 : Hid (Blk (W6.alloc (.cells #[.int .i64 v.me, .int .i64 0, .int .i64 1, .int .i64 0, .int .i64 0, .int .i64 (-1), .slice pb lb cb, .slice none 0 0] 58)) W6.heap.size #[.int .i64 v.me, .int .i64 0, .int .i64 1, .int .i64 0, .int .i64 0, .int .i64 (-1), .slice pb lb cb, .slice none 0 0] 58) := Blk.new _ _ _
                have HF7 : Hid (deb.Fresh (W6.alloc (.cells #[.int .i64 v.me, .int .i64 0, .int .i64 1, .int .i64 0, .int .i64 0, .int .i64 (-1), .slice pb lb cb, .slice none 0 0] 58)) W1.heap.size pb lb cb []) := HF6.out.below ((Below.refl _ _).alloc (Nat.le_refl _) _)
                have hxs : xs.length ≤ 2000000 := by have := HM6.out.few; omega
                go_wp2_with (first
                  | (at_builtin; refine wp_cust rfl _ _ rfl W1.heap.size W6.heap.size _ xs (cuA ⟨v.me, 0, 1, 0, 0, -1, []⟩ pb lb cb none 0 0) rfl rfl HM7.out.hold.row HN7.out hxs HM7.out.sz ?_)
                  | fail)
                intro v8 w8 h8 hg8 ho8
                obtain ⟨pa8, pc8, rfl, _, _, _⟩ := h8.row
                have hH8 : Holds w8 W1.heap.size (.slice pa8 (xs ++ [(cuA ⟨v.me, 0, 1, 0, 0, -1, []⟩ pb lb cb none 0 0)]).length pc8) (xs ++ [(cuA ⟨v.me, 0, 1, 0, 0, -1, []⟩ pb lb cb none 0 0)]) (st k ++ [(⟨⟨v.me, 0, 1, 0, 0, -1, []⟩, []⟩ : Cm)]) := HM7.out.hold.snoc ⟨cuA_num _ _ _ _ _ _ _, HF7.out, Lo.zero _ _⟩ rfl HLB.out h8 hg8 (by simpa using ho8)
                have hkp : ∀ g cs ty, g < W1.heap.size → Blk (W6.alloc (.cells #[.int .i64 v.me, .int .i64 0, .int .i64 1, .int .i64 0, .int .i64 0, .int .i64 (-1), .slice pb lb cb, .slice none 0 0] 58)) g cs ty → Blk w8 g cs ty := fun g cs ty hg hb => by show w8.heap[g]? = _; rw [hg8.block g hb.lt (cell.own_far HM7.out.hold.row hg)]; exact hb
                have HT8 : Hid (Blk w8 w.heap.size #[.slice pt lt ct, .int .i64 t.ff, .int .i64 t.fb, .int .i64 t.db, .int .i64 t.al] 40) := hkp _ _ _ (by have := HG8.out; omega) HM7.out.bt
                have HR8 : Hid (Blk w8 (w.heap.size + 1) #[.slice none 0 0] 45) := hkp _ _ _ (by have := HG8.out; omega) HM7.out.br
                have HB8 : Hid (Blk w8 g8 #[.slice pa xs.length pc] 45) := hkp _ _ _ HG8.out.2 HM7.out.bb
                have HW8 : Hid (Below w.heap.size w w8) := cell.own_bel HM7.out.hold.row hg8 HM7.out.bel (by have := HG8.out; omega) HM7.out.bel.size
                have HZ8 : Hid (W1.heap.size ≤ w8.heap.size) := Nat.le_trans HM7.out.sz hg8.size
                have HH8 : Hid (Holds w8 W1.heap.size (.slice pa8 (xs ++ [(cuA ⟨v.me, 0, 1, 0, 0, -1, []⟩ pb lb cb none 0 0)]).length pc8) (xs ++ [(cuA ⟨v.me, 0, 1, 0, 0, -1, []⟩ pb lb cb none 0 0)]) (st k ++ [(⟨⟨v.me, 0, 1, 0, 0, -1, []⟩, []⟩ : Cm)])) := hH8
                have HSM : Hid (st 0 = [] ∧ (∀ i, i < k → StepIs t (st i) (l.getD i ev0) (st (i + 1)) 0) ∧ Small (st k) k) := ⟨HM7.out.s0, HM7.out.steps, HM7.out.small⟩
                clear h8 hg8 ho8 hH8 hkp HM7 HN7 HF7 HM6 HA6 HF6 k8 ka0 ka1 ka2 ka3 ka4 ka5 ka6
                generalize hys : xs ++ [(cuA ⟨v.me, 0, 1, 0, 0, -1, []⟩ pb lb cb none 0 0)] = ys at *
                clear hys
                go_wp2_with (first | (refine wp_letS rfl 43 _ _ rfl g8 0 rfl pa8 ys.length pc8 rfl (by kernel_rfl) #[.slice pa xs.length pc] 45 HB8.out (by simp) ?_) | fail)
                intro W9 hU
                have HMN : Hid (∃ st', Mid w t pt lt ct l g8 W1.heap.size (k + 1) st' ys pa8 pc8 W9) := by
                  obtain ⟨st', s0', sk', hst'⟩ := run_more HSM.out.2.1 HS.out
                  have hg := HG8.out
                  exact ⟨st', s0'.trans HSM.out.1, hst', by rw [sk']; exact step_small HS.out HSM.out.2.2, hU.keep HT8.out (by omega), hU.keep HR8.out (by omega), hU.blk, by rw [sk']; exact HH8.out.upd hU hg.2, hU.bel _ _ (by omega) HW8.out, by rw [hU.size]; exact HZ8.out⟩
                clear hU HT8 HR8 HB8 HW8 HZ8 HH8 HSM HS
                go_wp2_with fail
                go_roundw
                case rel =>
                  obtain ⟨st', hm'⟩ := HMN.out
                  exact ⟨k + 1, st', ys, pa8, pc8, by omega, by go_num, hm'⟩
                case measure => simp [intOf]; omega
            · have n1 : (v.kd == 1) = false := by simpa using hkd
              have HKD : Hid (v.kd ≠ 1) := hkd
              clear hkd
              rcases hfirst with ⟨j, hj, rfl⟩ | ⟨hno, rfl⟩
              · skip
                have hd2 : decide ((j : Int) < 0) = false := decide_eq_false (by omega)
                have hjx : j < xs.length := by rw [HM4.out.hold.len]; exact hj.1
                have HJ : Hid (FirstAt (st k) v.me j) := hj
                have hk5 : v.kd = 2 ∨ v.kd = 3 ∨ v.kd = 4 ∨ v.kd = 5 := by have h1 := HEM.out; have h2 := HKD.out; unfold EMay at h1; omega
                have hsm := HM4.out.small.2 _ (getD_mem hj.1)
                obtain ⟨gV, cur, hpa, hgv, hbv, hcs, hcc⟩ := lc_lies HM4.out.hold.row (by omega)
                obtain ⟨vo, hvo⟩ : ∃ vo : Nat, vo = 0 := ⟨0, rfl⟩
                have HVO : Hid (vo = 0) := hvo
                have hpa2 : pa = some ⟨gV, vo, none⟩ := by rw [hpa, hvo]
                have hhas := HM4.out.hold.has j hjx
                have hoff := HM4.out.hold.off j hjx
                obtain ⟨⟨a, sol⟩, hcm⟩ : ∃ c, c = (st k).getD j cm0 := ⟨_, rfl⟩
                rw [← hcm] at hhas hsm
                obtain ⟨dp, dn, dc, sp, sn, sc, hxe⟩ := cuA_of hhas.num
                have HXE : Hid (xs.getD j cu0 = (cuA a dp dn dc sp sn sc)) := hxe
                have HCM : Hid ((⟨a, sol⟩ : Cm) = (st k).getD j cm0) := hcm
                rw [hxe] at hhas hoff
                have hq0 : cur[vo + j * 8]? = some (.int .i64 a.me) := by have q := hcc j 0 hjx (by decide); rw [hxe] at q; rw [hvo, Nat.zero_add]; exact q
                have hq1 : cur[vo + j * 8 + 1]? = some (.int .i64 a.rv) := by have q := hcc j 1 hjx (by decide); rw [hxe] at q; rw [hvo, Nat.zero_add]; exact q
                have hq2 : cur[vo + j * 8 + 2]? = some (.int .i64 a.nx) := by have q := hcc j 2 hjx (by decide); rw [hxe] at q; rw [hvo, Nat.zero_add]; exact q
                have hq3 : cur[vo + j * 8 + 3]? = some (.int .i64 a.mo) := by have q := hcc j 3 hjx (by decide); rw [hxe] at q; rw [hvo, Nat.zero_add]; exact q
                have hq4 : cur[vo + j * 8 + 4]? = some (.int .i64 a.bo) := by have q := hcc j 4 hjx (by decide); rw [hxe] at q; rw [hvo, Nat.zero_add]; exact q
                have hq5 : cur[vo + j * 8 + 5]? = some (.int .i64 a.fr) := by have q := hcc j 5 hjx (by decide); rw [hxe] at q; rw [hvo, Nat.zero_add]; exact q
                have hq6 : cur[vo + j * 8 + 6]? = some (.slice dp dn dc) := by have q := hcc j 6 hjx (by decide); rw [hxe] at q; rw [hvo, Nat.zero_add]; exact q
                have hq7 : cur[vo + j * 8 + 7]? = some (.slice sp sn sc) := by have q := hcc j 7 hjx (by decide); rw [hxe] at q; rw [hvo, Nat.zero_add]; exact q
                have HHA : Hid (Has w4 W1.heap.size (cuA a dp dn dc sp sn sc) ⟨a, sol⟩) := hhas
                have HOF : Hid (Off (cuA a dp dn dc sp sn sc) (some gV)) := by have q := hoff; rw [hpa] at q; exact q
                have HOW : Hid (∀ g, (Value.slice sp sn sc).ownBlock = some g → W1.heap.size ≤ g ∧ g < g10) := fun g hg => ⟨(World.ownsRow.lt hhas.so g hg).1, HOL.out j hjx g (by rw [hxe]; exact hg)⟩
                have HHP : Hid (∀ W, Below w4.heap.size w4 W → Calls Try.prog 38 #[.agg #[.slice pt lt ct, .int .i64 t.ff, .int .i64 t.fb, .int .i64 t.db, .int .i64 t.al], .agg #[.int .i64 a.me, .int .i64 a.rv, .int .i64 a.nx, .int .i64 a.mo, .int .i64 a.bo, .int .i64 a.fr, .slice dp dn dc, .slice sp sn sc], .agg #[.int .i64 v.kd, .int .i64 v.me, .int .i64 v.mo, .int .i64 v.id, .int .i64 v.te, .int .i64 v.de, .int .i64 v.fe, .int .i64 v.pr, .int .i64 v.ch, .int .i64 v.un, .int .i64 v.tg, .int .i64 v.ow, .int .i64 v.bp]] W fun e w' => HapPost W W1.heap.size t (cuA a dp dn dc sp sn sc) ⟨a, sol⟩ v e w') := fun W hB => rhap a sol dp dn dc sp sn sc t pt lt ct v W1.heap.size W (hhas.next hB) (HTM.out W (HM4.out.bel.trans (hB.mono HM4.out.bel.size))) HTL.out (Nat.le_trans HM4.out.sz hB.size) hk5 (by have hq : sol.length ≤ k := hsm.1; omega) hsm.2
                have HBV : Hid (Blk w4 gV cur 58 ∧ W1.heap.size ≤ gV ∧ xs.length * 8 ≤ cur.size) := ⟨hbv, hgv, hcs⟩
                subst hpa2
                clear hj hsm hbv hgv hcs hcc hpa hhas hoff hcm hxe hvo hk5
                go_upto_region 21 with fail
                clear c0 c1 c2 c3 c4 c5 c6 c7 c8 c9 c10 c11 c12
                have HSD : Hid (Blk w4.drew w.heap.size #[.slice pt lt ct, .int .i64 t.ff, .int .i64 t.fb, .int .i64 t.db, .int .i64 t.al] 40 ∧ Blk w4.drew g8 #[.slice (some ⟨gV, vo, none⟩) xs.length pc] 45 ∧ Blk w4.drew g10 #[.int .i64 v.kd, .int .i64 v.me, .int .i64 v.mo, .int .i64 v.id, .int .i64 v.te, .int .i64 v.de, .int .i64 v.fe, .int .i64 v.pr, .int .i64 v.ch, .int .i64 v.un, .int .i64 v.tg, .int .i64 v.ow, .int .i64 v.bp] 27 ∧ Blk w4.drew gV cur 58) := ⟨HM4.out.bt, HM4.out.bb, HV4.out, HBV.out.1⟩
                refine wp_region_held_drew (S := fun u : World => Blk u w.heap.size #[.slice pt lt ct, .int .i64 t.ff, .int .i64 t.fb, .int .i64 t.db, .int .i64 t.al] 40 ∧ Blk u g8 #[.slice (some ⟨gV, vo, none⟩) xs.length pc] 45 ∧ Blk u g10 #[.int .i64 v.kd, .int .i64 v.me, .int .i64 v.mo, .int .i64 v.id, .int .i64 v.te, .int .i64 v.de, .int .i64 v.fe, .int .i64 v.pr, .int .i64 v.ch, .int .i64 v.un, .int .i64 v.tg, .int .i64 v.ow, .int .i64 v.bp] 27 ∧ Blk u gV cur 58) (by kernel_rfl) HSD.out (fun hHeld => ?_)
                refine take_at 0 70 (.agg #[.slice pt lt ct, .int .i64 t.ff, .int .i64 t.fb, .int .i64 t.db, .int .i64 t.al]) _ rfl rfl (by kernel_rfl) (by kernel_rfl) (by kernel_rfl) (fun _ _ _ h => h) (yieldsIf_whole (by rfl) 40 _ rfl (w.heap.size) rfl 40 #[.slice pt lt ct, .int .i64 t.ff, .int .i64 t.fb, .int .i64 t.db, .int .i64 t.al] _ (fun u hu => hu.1) Try.underlying40 rfl (by kernel_rfl)) hHeld ?_
                simp only [Act.put, List.setIfInBounds_toArray, List.set_cons_zero, List.set_cons_succ]
                refine take_at 1 71 (.pointer (some ⟨g8, 0, none⟩)) _ rfl rfl (by kernel_rfl) (by kernel_rfl) (by kernel_rfl) (fun _ _ _ h => h) (Or.inl ⟨by rfl, fun v hv => by clear hv; go_simp⟩) hHeld ?_
                simp only [Act.put, List.setIfInBounds_toArray, List.set_cons_zero, List.set_cons_succ]
                refine take_at 2 72 (.slice (some ⟨gV, vo, none⟩) xs.length pc) _ rfl rfl (by kernel_rfl) (by kernel_rfl) (by kernel_rfl) (fun _ _ _ h => h) (Or.inl ⟨by rfl, fun v hv => by have h2 := hv.2.1.cell 0; clear hv; go_simp⟩) hHeld ?_
                simp only [Act.put, List.setIfInBounds_toArray, List.set_cons_zero, List.set_cons_succ]
                refine take_at 3 73 (.int .i64 (j : Int)) _ rfl rfl (by kernel_rfl) (by kernel_rfl) (by kernel_rfl) (fun _ _ _ h => h) (Or.inl ⟨by rfl, fun v hv => by clear hv; go_simp⟩) hHeld ?_
                simp only [Act.put, List.setIfInBounds_toArray, List.set_cons_zero, List.set_cons_succ]
                refine take_at 4 74 (.pointer (some ⟨gV, vo + j * 8, none⟩)) _ rfl rfl (by kernel_rfl) (by kernel_rfl) (by kernel_rfl) (fun _ _ _ h => h) (Or.inl ⟨by rfl, fun v hv => by clear hv; go_simp⟩) hHeld ?_
                simp only [Act.put, List.setIfInBounds_toArray, List.set_cons_zero, List.set_cons_succ]
                refine take_at 5 75 (.agg #[.int .i64 a.me, .int .i64 a.rv, .int .i64 a.nx, .int .i64 a.mo, .int .i64 a.bo, .int .i64 a.fr, .slice dp dn dc, .slice sp sn sc]) _ rfl rfl (by kernel_rfl) (by kernel_rfl) (by kernel_rfl) (fun _ _ _ h => h) (Or.inl ⟨by rfl, fun v hv => by have q0 := (hv.2.2.2.cell (vo + j * 8)).trans hq0; have q1 := (hv.2.2.2.cell (vo + j * 8 + 1)).trans hq1; have q2 := (hv.2.2.2.cell (vo + j * 8 + 2)).trans hq2; have q3 := (hv.2.2.2.cell (vo + j * 8 + 3)).trans hq3; have q4 := (hv.2.2.2.cell (vo + j * 8 + 4)).trans hq4; have q5 := (hv.2.2.2.cell (vo + j * 8 + 5)).trans hq5; have q6 := (hv.2.2.2.cell (vo + j * 8 + 6)).trans hq6; have q7 := (hv.2.2.2.cell (vo + j * 8 + 7)).trans hq7; clear hv; go_simp⟩) hHeld ?_
                simp only [Act.put, List.setIfInBounds_toArray, List.set_cons_zero, List.set_cons_succ]
                refine take_at 6 76 (.agg #[.int .i64 v.kd, .int .i64 v.me, .int .i64 v.mo, .int .i64 v.id, .int .i64 v.te, .int .i64 v.de, .int .i64 v.fe, .int .i64 v.pr, .int .i64 v.ch, .int .i64 v.un, .int .i64 v.tg, .int .i64 v.ow, .int .i64 v.bp]) _ rfl rfl (by kernel_rfl) (by kernel_rfl) (by kernel_rfl) (fun _ _ _ h => h) (yieldsIf_whole (by rfl) 27 _ rfl (g10) rfl 27 #[.int .i64 v.kd, .int .i64 v.me, .int .i64 v.mo, .int .i64 v.id, .int .i64 v.te, .int .i64 v.de, .int .i64 v.fe, .int .i64 v.pr, .int .i64 v.ch, .int .i64 v.un, .int .i64 v.tg, .int .i64 v.ow, .int .i64 v.bp] _ (fun u hu => hu.2.2.1) Try.underlying27 rfl (by kernel_rfl)) hHeld ?_
                simp only [Act.put, List.setIfInBounds_toArray, List.set_cons_zero, List.set_cons_succ]
                have HM5 : Hid (Mid w t pt lt ct l g8 W1.heap.size k st xs (some ⟨gV, vo, none⟩) pc w4.drew) := HM4.out.next (Below.refl _ _).drew
                have HV5 : Hid (Blk w4.drew g10 #[.int .i64 v.kd, .int .i64 v.me, .int .i64 v.mo, .int .i64 v.id, .int .i64 v.te, .int .i64 v.de, .int .i64 v.fe, .int .i64 v.pr, .int .i64 v.ch, .int .i64 v.un, .int .i64 v.tg, .int .i64 v.ow, .int .i64 v.bp] 27) := HV4.out
                have HBV5 : Hid (Blk w4.drew gV cur 58) := HBV.out.1
                have HHP5 : Hid (∀ W, Below w4.drew.heap.size w4.drew W → Calls Try.prog 38 #[.agg #[.slice pt lt ct, .int .i64 t.ff, .int .i64 t.fb, .int .i64 t.db, .int .i64 t.al], .agg #[.int .i64 a.me, .int .i64 a.rv, .int .i64 a.nx, .int .i64 a.mo, .int .i64 a.bo, .int .i64 a.fr, .slice dp dn dc, .slice sp sn sc], .agg #[.int .i64 v.kd, .int .i64 v.me, .int .i64 v.mo, .int .i64 v.id, .int .i64 v.te, .int .i64 v.de, .int .i64 v.fe, .int .i64 v.pr, .int .i64 v.ch, .int .i64 v.un, .int .i64 v.tg, .int .i64 v.ow, .int .i64 v.bp]] W fun e w' => HapPost W W1.heap.size t (cuA a dp dn dc sp sn sc) ⟨a, sol⟩ v e w') := fun W hB => HHP.out W ((Below.refl _ _).drew.trans hB)
                clear HHP HM4 HV4 HSD HHA
                generalize w4.drew = U at *
                have HSN : Hid (Blk U w.heap.size #[.slice pt lt ct, .int .i64 t.ff, .int .i64 t.fb, .int .i64 t.db, .int .i64 t.al] 40 ∧ Blk U g8 #[.slice (some ⟨gV, vo, none⟩) xs.length pc] 45 ∧ Blk U g10 #[.int .i64 v.kd, .int .i64 v.me, .int .i64 v.mo, .int .i64 v.id, .int .i64 v.te, .int .i64 v.de, .int .i64 v.fe, .int .i64 v.pr, .int .i64 v.ch, .int .i64 v.un, .int .i64 v.tg, .int .i64 v.ow, .int .i64 v.bp] 27 ∧ Blk U gV cur 58) := ⟨HM5.out.bt, HM5.out.bb, HV5.out, HBV5.out⟩
                have HRN : Hid (Blk U (w.heap.size + 1) #[.slice none 0 0] 45) := HM5.out.br
                refine wpAnyH_ready (rs := [7, 11]) (by kernel_rfl) (by simp) (AllReadyH.cons rfl (fun K hK => ?_) (AllReadyH.cons rfl (fun K hK => ?_) AllReadyH.nil))
                · rw [if_pos (by rfl)]
                  refine wp_callOp 77 rfl (by clear hK; go_simp) (HHP5.out U (Below.refl _ _)) ?_
                  rintro e w6 ⟨⟨xme, xrv, xnx, xmo, xbo, xfr, xdp, xdn, xdc, xsp, xsn, xsc⟩, c', f, rfl, hhi, htu, hgr⟩
                  have HHI : Hid (HapIs t ⟨a, sol⟩ v c' f) := hhi
                  have HTU : Hid (f = 0 → Turned U w6 W1.heap.size (cuA a dp dn dc sp sn sc) (⟨xme, xrv, xnx, xmo, xbo, xfr, xdp, xdn, xdc, xsp, xsn, xsc⟩ : Cu) c') := htu
                  have HGR : Hid (U.grownBy w6 (Value.slice sp sn sc).ownBlock) := hgr
                  have hkp : ∀ g cs ty, (∀ q, (Value.slice sp sn sc).ownBlock = some q → g ≠ q) → Blk U g cs ty → Blk w6 g cs ty := fun g cs ty hq hb => blk_kept hb hgr (fun e => hq g e.symm rfl)
                  have HS6 : Hid (Blk w6 w.heap.size #[.slice pt lt ct, .int .i64 t.ff, .int .i64 t.fb, .int .i64 t.db, .int .i64 t.al] 40 ∧ Blk w6 g8 #[.slice (some ⟨gV, vo, none⟩) xs.length pc] 45 ∧ Blk w6 g10 #[.int .i64 v.kd, .int .i64 v.me, .int .i64 v.mo, .int .i64 v.id, .int .i64 v.te, .int .i64 v.de, .int .i64 v.fe, .int .i64 v.pr, .int .i64 v.ch, .int .i64 v.un, .int .i64 v.tg, .int .i64 v.ow, .int .i64 v.bp] 27 ∧ Blk w6 gV cur 58) := ⟨hkp _ _ _ (fun q hq => by have h1 := HOW.out q hq; have h2 := HG8.out; omega) HSN.out.1, hkp _ _ _ (fun q hq => by have h1 := HOW.out q hq; have h2 := HG8.out; omega) HSN.out.2.1, hkp _ _ _ (fun q hq => by have h1 := HOW.out q hq; omega) HSN.out.2.2.1, hkp _ _ _ (fun q hq e => HOF.out.1 q hq (by rw [e])) HSN.out.2.2.2⟩
                  have HR6 : Hid (Blk w6 (w.heap.size + 1) #[.slice none 0 0] 45) := hkp _ _ _ (fun q hq => by have h1 := HOW.out q hq; have h2 := HG8.out; omega) HRN.out
                  have HZ6 : Hid (U.heap.size ≤ w6.heap.size) := HGR.out.size
                  refine ⟨.tuple #[.agg #[.int .i64 xme, .int .i64 xrv, .int .i64 xnx, .int .i64 xmo, .int .i64 xbo, .int .i64 xfr, .slice xdp xdn xdc, .slice xsp xsn xsc], .int .i64 f], rfl, hK.out _ _ HS6.out (fun hHeld => ?_)⟩
                  clear hK hhi htu hgr hkp
                  simp only [Act.put, List.setIfInBounds_toArray, List.set_cons_zero, List.set_cons_succ]
                  refine take_at 8 69 (.tuple #[.agg #[.int .i64 xme, .int .i64 xrv, .int .i64 xnx, .int .i64 xmo, .int .i64 xbo, .int .i64 xfr, .slice xdp xdn xdc, .slice xsp xsn xsc], .int .i64 f]) _ rfl rfl (by kernel_rfl) (by kernel_rfl) (by kernel_rfl) (fun _ _ _ h => h) (Or.inl ⟨by rfl, fun v hv => by clear hv; go_simp⟩) hHeld ?_
                  simp only [Act.put, List.setIfInBounds_toArray, List.set_cons_zero, List.set_cons_succ]
                  refine take_at 9 78 (.agg #[.int .i64 xme, .int .i64 xrv, .int .i64 xnx, .int .i64 xmo, .int .i64 xbo, .int .i64 xfr, .slice xdp xdn xdc, .slice xsp xsn xsc]) _ rfl rfl (by kernel_rfl) (by kernel_rfl) (by kernel_rfl) (fun _ _ _ h => h) (Or.inl ⟨by rfl, fun v hv => by clear hv; go_simp⟩) hHeld ?_
                  simp only [Act.put, List.setIfInBounds_toArray, List.set_cons_zero, List.set_cons_succ]
                  refine take_at 10 79 (.int .i64 f) _ rfl rfl (by kernel_rfl) (by kernel_rfl) (by kernel_rfl) (fun _ _ _ h => h) (Or.inl ⟨by rfl, fun v hv => by clear hv; go_simp⟩) hHeld ?_
                  simp only [Act.put, List.setIfInBounds_toArray, List.set_cons_zero, List.set_cons_succ]
                  refine wpAnyH_ready (rs := [11]) (by kernel_rfl) (by simp) (AllReadyH.cons rfl (fun K hK => ?_) AllReadyH.nil)
                  rw [if_pos (by rfl)]
                  have HSA : Hid (Blk (w6.alloc (.cells #[.int .i64 0, .int .i64 0, .int .i64 0, .int .i64 0, .int .i64 0, .int .i64 0, .slice none 0 0, .slice none 0 0] 58)) w.heap.size #[.slice pt lt ct, .int .i64 t.ff, .int .i64 t.fb, .int .i64 t.db, .int .i64 t.al] 40 ∧ Blk (w6.alloc (.cells #[.int .i64 0, .int .i64 0, .int .i64 0, .int .i64 0, .int .i64 0, .int .i64 0, .slice none 0 0, .slice none 0 0] 58)) g8 #[.slice (some ⟨gV, vo, none⟩) xs.length pc] 45 ∧ Blk (w6.alloc (.cells #[.int .i64 0, .int .i64 0, .int .i64 0, .int .i64 0, .int .i64 0, .int .i64 0, .slice none 0 0, .slice none 0 0] 58)) g10 #[.int .i64 v.kd, .int .i64 v.me, .int .i64 v.mo, .int .i64 v.id, .int .i64 v.te, .int .i64 v.de, .int .i64 v.fe, .int .i64 v.pr, .int .i64 v.ch, .int .i64 v.un, .int .i64 v.tg, .int .i64 v.ow, .int .i64 v.bp] 27 ∧ Blk (w6.alloc (.cells #[.int .i64 0, .int .i64 0, .int .i64 0, .int .i64 0, .int .i64 0, .int .i64 0, .slice none 0 0, .slice none 0 0] 58)) gV cur 58) := ⟨HS6.out.1.alloc _, HS6.out.2.1.alloc _, HS6.out.2.2.1.alloc _, HS6.out.2.2.2.alloc _⟩
                  have HRA : Hid (Blk (w6.alloc (.cells #[.int .i64 0, .int .i64 0, .int .i64 0, .int .i64 0, .int .i64 0, .int .i64 0, .slice none 0 0, .slice none 0 0] 58)) (w.heap.size + 1) #[.slice none 0 0] 45) := HR6.out.alloc _
                  have HNA : Hid (Blk (w6.alloc (.cells #[.int .i64 0, .int .i64 0, .int .i64 0, .int .i64 0, .int .i64 0, .int .i64 0, .slice none 0 0, .slice none 0 0] 58)) w6.heap.size #[.int .i64 0, .int .i64 0, .int .i64 0, .int .i64 0, .int .i64 0, .int .i64 0, .slice none 0 0, .slice none 0 0] 58) := Blk.new _ _ _
                  have HGL : Hid (w.heap.size < w6.heap.size ∧ w.heap.size + 1 < w6.heap.size ∧ g8 < w6.heap.size ∧ g10 < w6.heap.size ∧ gV < w6.heap.size) := ⟨HS6.out.1.lt, HR6.out.lt, HS6.out.2.1.lt, HS6.out.2.2.1.lt, HS6.out.2.2.2.lt⟩
                  have HTA : Hid (f = 0 → Turned U (w6.alloc (.cells #[.int .i64 0, .int .i64 0, .int .i64 0, .int .i64 0, .int .i64 0, .int .i64 0, .slice none 0 0, .slice none 0 0] 58)) W1.heap.size (cuA a dp dn dc sp sn sc) (⟨xme, xrv, xnx, xmo, xbo, xfr, xdp, xdn, xdc, xsp, xsn, xsc⟩ : Cu) c') := fun hz => (HTU.out hz).next ((Below.refl _ _).alloc (Nat.le_refl _) _)
                  have HGA : Hid (U.grownBy (w6.alloc (.cells #[.int .i64 0, .int .i64 0, .int .i64 0, .int .i64 0, .int .i64 0, .int .i64 0, .slice none 0 0, .slice none 0 0] 58)) (Value.slice sp sn sc).ownBlock) := HGR.out.trans (grown_of ((Below.refl _ _).alloc (Nat.le_refl _) _) _)
                  have HLT : Hid (f = 0 → (∀ q, (⟨xme, xrv, xnx, xmo, xbo, xfr, xdp, xdn, xdc, xsp, xsn, xsc⟩ : Cu).sold.ownBlock = some q → q ≠ w6.heap.size) ∧ (0 < xdn → ∀ p, xdp = some p → p.block ≠ w6.heap.size)) := fun hz => ⟨fun q hq => Nat.ne_of_lt ((HTU.out hz).lt.1 q hq), fun hn p hp => Nat.ne_of_lt ((HTU.out hz).lt.2 hn p hp)⟩
                  have HGC : Hid (U.heap.size ≤ w6.heap.size) := HZ6.out
                  refine wp_runOp (v := .pointer (some ⟨w6.heap.size, 0, none⟩)) (w' := (w6.alloc (.cells #[.int .i64 0, .int .i64 0, .int .i64 0, .int .i64 0, .int .i64 0, .int .i64 0, .slice none 0 0, .slice none 0 0] 58))) 14 rfl (by clear hK; go_simp) ?_
                  refine hK.out _ _ HSA.out (fun hHeld => ?_)
                  clear hK
                  simp only [Act.put, List.setIfInBounds_toArray, List.set_cons_zero, List.set_cons_succ]
                  generalize hgc : w6.heap.size = gc at *
                  clear hgc
                  generalize w6.alloc _ = U2 at *
                  refine wpAnyH_ready (rs := [12]) (by kernel_rfl) (by simp) (AllReadyH.cons rfl (fun K hK => ?_) AllReadyH.nil)
                  rw [if_pos (by rfl)]
                  refine wp_letOp 58 _ _ rfl gc rfl #[.int .i64 xme, .int .i64 xrv, .int .i64 xnx, .int .i64 xmo, .int .i64 xbo, .int .i64 xfr, .slice xdp xdn xdc, .slice xsp xsn xsc] rfl (by kernel_rfl) (by simp [Value.oneCell']) #[.int .i64 0, .int .i64 0, .int .i64 0, .int .i64 0, .int .i64 0, .int .i64 0, .slice none 0 0, .slice none 0 0] 58 HNA.out rfl rfl ?_
                  intro W7 hU
                  have hgl := HGL.out
                  have HS7 : Hid (Blk W7 w.heap.size #[.slice pt lt ct, .int .i64 t.ff, .int .i64 t.fb, .int .i64 t.db, .int .i64 t.al] 40 ∧ Blk W7 g8 #[.slice (some ⟨gV, vo, none⟩) xs.length pc] 45 ∧ Blk W7 g10 #[.int .i64 v.kd, .int .i64 v.me, .int .i64 v.mo, .int .i64 v.id, .int .i64 v.te, .int .i64 v.de, .int .i64 v.fe, .int .i64 v.pr, .int .i64 v.ch, .int .i64 v.un, .int .i64 v.tg, .int .i64 v.ow, .int .i64 v.bp] 27 ∧ Blk W7 gV cur 58) := ⟨hU.keep HSA.out.1 (by omega), hU.keep HSA.out.2.1 (by omega), hU.keep HSA.out.2.2.1 (by omega), hU.keep HSA.out.2.2.2 (by omega)⟩
                  have HR7 := shK hU HRA (by omega)
                  have HN7 : Hid (Blk W7 gc #[.int .i64 xme, .int .i64 xrv, .int .i64 xnx, .int .i64 xmo, .int .i64 xbo, .int .i64 xfr, .slice xdp xdn xdc, .slice xsp xsn xsc] 58) := hU.blk
                  have HT7 : Hid (f = 0 → Turned U W7 W1.heap.size (cuA a dp dn dc sp sn sc) (⟨xme, xrv, xnx, xmo, xbo, xfr, xdp, xdn, xdc, xsp, xsn, xsc⟩ : Cu) c') := fun hz => (HTA.out hz).upd hU HGC.out (HLT.out hz).1 (HLT.out hz).2
                  have HG7 : Hid (U.grownBy W7 (Value.slice sp sn sc).ownBlock) := grown_upd HGA.out hU HGC.out
                  refine hK.out _ _ HS7.out (fun hHeld => ?_)
                  clear hK hU hgl
                  refine take_at 13 15 (.int .i64 f) _ rfl rfl (by kernel_rfl) (by kernel_rfl) (by kernel_rfl) (fun _ _ _ h => h) (Or.inl ⟨by rfl, fun v hv => by clear hv; go_simp⟩) hHeld ?_
                  simp only [Act.put, List.setIfInBounds_toArray, List.set_cons_zero, List.set_cons_succ]
                  refine wpAnyH_done (by kernel_rfl) ?_ _
                  clear hHeld
                  have HB7 : Hid (Below w.heap.size w W7) := bel_turned HM5.out.bel HG7.out HM5.out.bel.size (fun q hq => by have h1 := (HOW.out q hq).1; have h2 := HG8.out; omega)
                  by_cases hfz : f = 0
                  · subst hfz
                    have HTZ : Hid (Turned U W7 W1.heap.size (cuA a dp dn dc sp sn sc) (⟨xme, xrv, xnx, xmo, xbo, xfr, xdp, xdn, xdc, xsp, xsn, xsc⟩ : Cu) c') := HT7.out rfl
                    clear HT7
                    have HS : Hid (StepIs t (st k) (l.getD k ev0) ((st k).set j c') 0) := by rw [← HV.out]; exact .inr (.inr (.inr (.inr ⟨HEM.out, HKD.out, j, c', HJ.out, by rw [← HCM.out]; exact HHI.out, fun _ => rfl⟩)))
                    obtain ⟨kx0, kx1, kx2, kx3, kx4, kx5, kx6, kx7⟩ := scl8 HN7
                    have k8 : W7.cell? ⟨g8, 0, none⟩ = some (.slice (some ⟨gV, vo, none⟩) xs.length pc) := HS7.out.2.1.cell 0
                    have hsz : vo + j * 8 + 8 ≤ cur.size := by have h1 := HBV.out.2.2; have h2 := HVO.out; omega
                    go_wp2_with (first | (refine wp_let rfl 58 _ _ rfl gV (vo + j * 8) rfl (.agg #[.int .i64 xme, .int .i64 xrv, .int .i64 xnx, .int .i64 xmo, .int .i64 xbo, .int .i64 xfr, .slice xdp xdn xdc, .slice xsp xsn xsc]) rfl #[.int .i64 xme, .int .i64 xrv, .int .i64 xnx, .int .i64 xmo, .int .i64 xbo, .int .i64 xfr, .slice xdp xdn xdc, .slice xsp xsn xsc] rfl (by kernel_rfl) (by simp [Value.oneCell']) cur 58 HS7.out.2.2.2 hsz _ rfl ?_) | fail)
                    intro W8 hU
                    have HMN : Hid (∃ st', Mid w t pt lt ct l g8 W1.heap.size (k + 1) st' (xs.set j (⟨xme, xrv, xnx, xmo, xbo, xfr, xdp, xdn, xdc, xsp, xsn, xsc⟩ : Cu)) (some ⟨gV, vo, none⟩) pc W8) := by
                      obtain ⟨st', s0', sk', hst'⟩ := run_more HM5.out.steps HS.out
                      have hg := HG8.out
                      have hv := HBV.out.2.1
                      have hl7 : Lc W7 W1.heap.size (.slice (some ⟨gV, vo, none⟩) xs.length pc) xs := lc_kept HM5.out.hold.row HG7.out (fun q hq e => HOF.out.1 q e (by rw [← hq]; rfl))
                      have hl8 : Lc W8 W1.heap.size (.slice (some ⟨gV, vo, none⟩) xs.length pc) (xs.set j (⟨xme, xrv, xnx, xmo, xbo, xfr, xdp, xdn, xdc, xsp, xsn, xsc⟩ : Cu)) := by
                        have e0 := HVO.out
                        subst e0
                        rw [Nat.zero_add] at hU
                        exact lc_put hl7 HS7.out.2.2.2 hjx hU
                      have hp : Holds W8 W1.heap.size (.slice (some ⟨gV, vo, none⟩) xs.length pc) (xs.set j (⟨xme, xrv, xnx, xmo, xbo, xfr, xdp, xdn, xdc, xsp, xsn, xsc⟩ : Cu)) ((st k).set j c') := HM5.out.hold.put hjx (by rw [HXE.out]; exact HTZ.out) hl8 (upd_grown hU)
                      exact ⟨st', s0'.trans HM5.out.s0, hst', by rw [sk']; exact step_small HS.out HM5.out.small, hU.keep HS7.out.1 (by omega), hU.keep HR7.out (by omega), by rw [List.length_set]; exact hU.keep HS7.out.2.1 (by omega), by rw [sk', List.length_set]; exact hp, hU.bel _ _ (by omega) HB7.out, by rw [hU.size]; exact Nat.le_trans HM5.out.sz HG7.out.size⟩
                    clear hU k8 hsz kx0 kx1 kx2 kx3 kx4 kx5 kx6 kx7
                    go_wp2_with fail
                    go_roundw
                    case rel =>
                      obtain ⟨st', hm'⟩ := HMN.out
                      exact ⟨k + 1, st', _, _, pc, by omega, by go_num, hm'⟩
                    case measure => simp [intOf]; omega
                  · have nf : (f != 0) = true := by simpa using hfz
                    have HNZ : Hid (f ≠ 0) := hfz
                    clear hfz
                    have HS : Hid (StepIs t (st k) (l.getD k ev0) [] f) := by rw [← HV.out]; exact .inr (.inr (.inr (.inr ⟨HEM.out, HKD.out, j, c', HJ.out, by rw [← HCM.out]; exact HHI.out, fun hz => absurd hz HNZ.out⟩)))
                    go_wp2_with (first | (refine wp_letAll rfl 45 _ _ rfl _ rfl _ rfl (by kernel_rfl) (by simp [Value.oneCell']) _ 45 HR7.out rfl ?_) | fail)
                    intro WF hU
                    have R0 : Hid (WF.cell? ⟨w.heap.size + 1, 0, none⟩ = some (.slice none 0 0)) := hU.blk.cell 0
                    have HBF := shV hU HB7 (by omega)
                    clear hU
                    have HFIN : Hid (BookPost w t l (.returned (.tuple #[.agg #[.slice none 0 0], .int .i64 (k : Int), .int .i64 f])) WF) := ⟨none, 0, 0, [], [], (k : Int), f, rfl, HM5.out.stop HTR.out HFEW.out HKL.out HS.out HNZ.out, sees_nil _, Nat.zero_le _, HBF.out⟩
                    go_wp2_with fail
                    exact bodyPost_ret (v := .tuple #[.agg #[.slice none 0 0], .int .i64 (k : Int), .int .i64 f]) (by simp [results, Try.results18, R0.out, go_sem]) rfl HFIN.out
                · rw [if_pos (by rfl)]
                  have HSA : Hid (Blk (U.alloc (.cells #[.int .i64 0, .int .i64 0, .int .i64 0, .int .i64 0, .int .i64 0, .int .i64 0, .slice none 0 0, .slice none 0 0] 58)) w.heap.size #[.slice pt lt ct, .int .i64 t.ff, .int .i64 t.fb, .int .i64 t.db, .int .i64 t.al] 40 ∧ Blk (U.alloc (.cells #[.int .i64 0, .int .i64 0, .int .i64 0, .int .i64 0, .int .i64 0, .int .i64 0, .slice none 0 0, .slice none 0 0] 58)) g8 #[.slice (some ⟨gV, vo, none⟩) xs.length pc] 45 ∧ Blk (U.alloc (.cells #[.int .i64 0, .int .i64 0, .int .i64 0, .int .i64 0, .int .i64 0, .int .i64 0, .slice none 0 0, .slice none 0 0] 58)) g10 #[.int .i64 v.kd, .int .i64 v.me, .int .i64 v.mo, .int .i64 v.id, .int .i64 v.te, .int .i64 v.de, .int .i64 v.fe, .int .i64 v.pr, .int .i64 v.ch, .int .i64 v.un, .int .i64 v.tg, .int .i64 v.ow, .int .i64 v.bp] 27 ∧ Blk (U.alloc (.cells #[.int .i64 0, .int .i64 0, .int .i64 0, .int .i64 0, .int .i64 0, .int .i64 0, .slice none 0 0, .slice none 0 0] 58)) gV cur 58) := ⟨HSN.out.1.alloc _, HSN.out.2.1.alloc _, HSN.out.2.2.1.alloc _, HSN.out.2.2.2.alloc _⟩
                  have HRA : Hid (Blk (U.alloc (.cells #[.int .i64 0, .int .i64 0, .int .i64 0, .int .i64 0, .int .i64 0, .int .i64 0, .slice none 0 0, .slice none 0 0] 58)) (w.heap.size + 1) #[.slice none 0 0] 45) := HRN.out.alloc _
                  have HNA : Hid (Blk (U.alloc (.cells #[.int .i64 0, .int .i64 0, .int .i64 0, .int .i64 0, .int .i64 0, .int .i64 0, .slice none 0 0, .slice none 0 0] 58)) U.heap.size #[.int .i64 0, .int .i64 0, .int .i64 0, .int .i64 0, .int .i64 0, .int .i64 0, .slice none 0 0, .slice none 0 0] 58) := Blk.new _ _ _
                  have HGL : Hid (w.heap.size < U.heap.size ∧ w.heap.size + 1 < U.heap.size ∧ g8 < U.heap.size ∧ g10 < U.heap.size ∧ gV < U.heap.size) := ⟨HSN.out.1.lt, HRN.out.lt, HSN.out.2.1.lt, HSN.out.2.2.1.lt, HSN.out.2.2.2.lt⟩
                  have HBU0 : Hid (Below U.heap.size U (U.alloc (.cells #[.int .i64 0, .int .i64 0, .int .i64 0, .int .i64 0, .int .i64 0, .int .i64 0, .slice none 0 0, .slice none 0 0] 58))) := (Below.refl _ _).alloc (Nat.le_refl _) _
                  have HGC0 : Hid (g10 < U.heap.size) := HGL.out.2.2.2.1
                  have HLC0 : Hid (U.heap.size < (U.alloc (.cells #[.int .i64 0, .int .i64 0, .int .i64 0, .int .i64 0, .int .i64 0, .int .i64 0, .slice none 0 0, .slice none 0 0] 58)).heap.size) := by show _ < _; simp
                  refine wp_runOp (v := .pointer (some ⟨U.heap.size, 0, none⟩)) (w' := (U.alloc (.cells #[.int .i64 0, .int .i64 0, .int .i64 0, .int .i64 0, .int .i64 0, .int .i64 0, .slice none 0 0, .slice none 0 0] 58))) 14 rfl (by clear hK; go_simp) ?_
                  refine hK.out _ _ HSA.out (fun hHeld => ?_)
                  clear hK
                  simp only [Act.put, List.setIfInBounds_toArray, List.set_cons_zero, List.set_cons_succ]
                  generalize hgc : U.heap.size = gc at HNA HGL HGC0 HLC0 hHeld ⊢
                  have HGCE : Hid (U.heap.size = gc) := hgc
                  clear hgc
                  generalize U.alloc _ = U2 at *
                  have HBU : Hid (Below U.heap.size U U2) := HBU0.out
                  have HNN : Hid (Blk U2 gc #[.int .i64 0, .int .i64 0, .int .i64 0, .int .i64 0, .int .i64 0, .int .i64 0, .slice none 0 0, .slice none 0 0] 58) := HNA.out
                  have HGC : Hid (g10 < gc) := HGC0.out
                  clear HSN HRN
                  have HSN : Hid (Blk U2 w.heap.size #[.slice pt lt ct, .int .i64 t.ff, .int .i64 t.fb, .int .i64 t.db, .int .i64 t.al] 40 ∧ Blk U2 g8 #[.slice (some ⟨gV, vo, none⟩) xs.length pc] 45 ∧ Blk U2 g10 #[.int .i64 v.kd, .int .i64 v.me, .int .i64 v.mo, .int .i64 v.id, .int .i64 v.te, .int .i64 v.de, .int .i64 v.fe, .int .i64 v.pr, .int .i64 v.ch, .int .i64 v.un, .int .i64 v.tg, .int .i64 v.ow, .int .i64 v.bp] 27 ∧ Blk U2 gV cur 58) := HSA.out
                  have HRN : Hid (Blk U2 (w.heap.size + 1) #[.slice none 0 0] 45) := HRA.out
                  refine wpAnyH_ready (rs := [7]) (by kernel_rfl) (by simp) (AllReadyH.cons rfl (fun K hK => ?_) AllReadyH.nil)
                  rw [if_pos (by rfl)]
                  refine wp_callOp 77 rfl (by clear hK; go_simp) (HHP5.out U2 HBU.out) ?_
                  rintro e w6 ⟨⟨xme, xrv, xnx, xmo, xbo, xfr, xdp, xdn, xdc, xsp, xsn, xsc⟩, c', f, rfl, hhi, htu, hgr⟩
                  have HHI : Hid (HapIs t ⟨a, sol⟩ v c' f) := hhi
                  have HTU : Hid (f = 0 → Turned U w6 W1.heap.size (cuA a dp dn dc sp sn sc) (⟨xme, xrv, xnx, xmo, xbo, xfr, xdp, xdn, xdc, xsp, xsn, xsc⟩ : Cu) c') := fun hz => (htu hz).prev HBU.out
                  have HGR : Hid (U.grownBy w6 (Value.slice sp sn sc).ownBlock) := (grown_of HBU.out _).trans hgr
                  have HTN : Hid (f = 0 → (∀ q, (⟨xme, xrv, xnx, xmo, xbo, xfr, xdp, xdn, xdc, xsp, xsn, xsc⟩ : Cu).sold.ownBlock = some q → q < gc ∨ gc < q) ∧ (0 < xdn → ∀ p, xdp = some p → gc < p.block)) := fun hz => ⟨fun q hq => by rcases (htu hz).own q hq with q1 | q1; exact .inl (by have h1 := HOW.out q q1; have h2 := HGC.out; omega); exact .inr (by have h2 := HLC0.out; omega), fun hn p hp => by have q1 := (htu hz).new hn p hp; have h2 := HLC0.out; omega⟩
                  have hkp : ∀ g cs ty, (∀ q, (Value.slice sp sn sc).ownBlock = some q → g ≠ q) → Blk U2 g cs ty → Blk w6 g cs ty := fun g cs ty hq hb => blk_kept hb hgr (fun e => hq g e.symm rfl)
                  have HS6 : Hid (Blk w6 w.heap.size #[.slice pt lt ct, .int .i64 t.ff, .int .i64 t.fb, .int .i64 t.db, .int .i64 t.al] 40 ∧ Blk w6 g8 #[.slice (some ⟨gV, vo, none⟩) xs.length pc] 45 ∧ Blk w6 g10 #[.int .i64 v.kd, .int .i64 v.me, .int .i64 v.mo, .int .i64 v.id, .int .i64 v.te, .int .i64 v.de, .int .i64 v.fe, .int .i64 v.pr, .int .i64 v.ch, .int .i64 v.un, .int .i64 v.tg, .int .i64 v.ow, .int .i64 v.bp] 27 ∧ Blk w6 gV cur 58) := ⟨hkp _ _ _ (fun q hq => by have h1 := HOW.out q hq; have h2 := HG8.out; omega) HSN.out.1, hkp _ _ _ (fun q hq => by have h1 := HOW.out q hq; have h2 := HG8.out; omega) HSN.out.2.1, hkp _ _ _ (fun q hq => by have h1 := HOW.out q hq; omega) HSN.out.2.2.1, hkp _ _ _ (fun q hq e => HOF.out.1 q hq (by rw [e])) HSN.out.2.2.2⟩
                  have HR6 : Hid (Blk w6 (w.heap.size + 1) #[.slice none 0 0] 45) := hkp _ _ _ (fun q hq => by have h1 := HOW.out q hq; have h2 := HG8.out; omega) HRN.out
                  have HN6 : Hid (Blk w6 gc #[.int .i64 0, .int .i64 0, .int .i64 0, .int .i64 0, .int .i64 0, .int .i64 0, .slice none 0 0, .slice none 0 0] 58) := hkp _ _ _ (fun q hq => by have h1 := HOW.out q hq; have h2 := HGC.out; omega) HNN.out
                  have HZ6 : Hid (U.heap.size ≤ w6.heap.size) := HGR.out.size
                  refine ⟨.tuple #[.agg #[.int .i64 xme, .int .i64 xrv, .int .i64 xnx, .int .i64 xmo, .int .i64 xbo, .int .i64 xfr, .slice xdp xdn xdc, .slice xsp xsn xsc], .int .i64 f], rfl, hK.out _ _ HS6.out (fun hHeld => ?_)⟩
                  clear hK hhi htu hgr hkp
                  simp only [Act.put, List.setIfInBounds_toArray, List.set_cons_zero, List.set_cons_succ]
                  refine take_at 8 69 (.tuple #[.agg #[.int .i64 xme, .int .i64 xrv, .int .i64 xnx, .int .i64 xmo, .int .i64 xbo, .int .i64 xfr, .slice xdp xdn xdc, .slice xsp xsn xsc], .int .i64 f]) _ rfl rfl (by kernel_rfl) (by kernel_rfl) (by kernel_rfl) (fun _ _ _ h => h) (Or.inl ⟨by rfl, fun v hv => by clear hv; go_simp⟩) hHeld ?_
                  simp only [Act.put, List.setIfInBounds_toArray, List.set_cons_zero, List.set_cons_succ]
                  refine take_at 9 78 (.agg #[.int .i64 xme, .int .i64 xrv, .int .i64 xnx, .int .i64 xmo, .int .i64 xbo, .int .i64 xfr, .slice xdp xdn xdc, .slice xsp xsn xsc]) _ rfl rfl (by kernel_rfl) (by kernel_rfl) (by kernel_rfl) (fun _ _ _ h => h) (Or.inl ⟨by rfl, fun v hv => by clear hv; go_simp⟩) hHeld ?_
                  simp only [Act.put, List.setIfInBounds_toArray, List.set_cons_zero, List.set_cons_succ]
                  refine take_at 10 79 (.int .i64 f) _ rfl rfl (by kernel_rfl) (by kernel_rfl) (by kernel_rfl) (fun _ _ _ h => h) (Or.inl ⟨by rfl, fun v hv => by clear hv; go_simp⟩) hHeld ?_
                  simp only [Act.put, List.setIfInBounds_toArray, List.set_cons_zero, List.set_cons_succ]
                  refine wpAnyH_ready (rs := [12]) (by kernel_rfl) (by simp) (AllReadyH.cons rfl (fun K hK => ?_) AllReadyH.nil)
                  rw [if_pos (by rfl)]
                  refine wp_letOp 58 _ _ rfl gc rfl #[.int .i64 xme, .int .i64 xrv, .int .i64 xnx, .int .i64 xmo, .int .i64 xbo, .int .i64 xfr, .slice xdp xdn xdc, .slice xsp xsn xsc] rfl (by kernel_rfl) (by simp [Value.oneCell']) #[.int .i64 0, .int .i64 0, .int .i64 0, .int .i64 0, .int .i64 0, .int .i64 0, .slice none 0 0, .slice none 0 0] 58 HN6.out rfl rfl ?_
                  intro W7 hU
                  have hgl := HGL.out
                  have HS7 : Hid (Blk W7 w.heap.size #[.slice pt lt ct, .int .i64 t.ff, .int .i64 t.fb, .int .i64 t.db, .int .i64 t.al] 40 ∧ Blk W7 g8 #[.slice (some ⟨gV, vo, none⟩) xs.length pc] 45 ∧ Blk W7 g10 #[.int .i64 v.kd, .int .i64 v.me, .int .i64 v.mo, .int .i64 v.id, .int .i64 v.te, .int .i64 v.de, .int .i64 v.fe, .int .i64 v.pr, .int .i64 v.ch, .int .i64 v.un, .int .i64 v.tg, .int .i64 v.ow, .int .i64 v.bp] 27 ∧ Blk W7 gV cur 58) := ⟨hU.keep HS6.out.1 (by omega), hU.keep HS6.out.2.1 (by omega), hU.keep HS6.out.2.2.1 (by omega), hU.keep HS6.out.2.2.2 (by omega)⟩
                  have HR7 := shK hU HR6 (by omega)
                  have HN7 : Hid (Blk W7 gc #[.int .i64 xme, .int .i64 xrv, .int .i64 xnx, .int .i64 xmo, .int .i64 xbo, .int .i64 xfr, .slice xdp xdn xdc, .slice xsp xsn xsc] 58) := hU.blk
                  have HT7 : Hid (f = 0 → Turned U W7 W1.heap.size (cuA a dp dn dc sp sn sc) (⟨xme, xrv, xnx, xmo, xbo, xfr, xdp, xdn, xdc, xsp, xsn, xsc⟩ : Cu) c') := fun hz => (HTU.out hz).upd hU (Nat.le_of_eq HGCE.out) (fun q hq e => by rcases (HTN.out hz).1 q hq with q1 | q1 <;> omega) (fun hn p hp e => by have q1 := (HTN.out hz).2 hn p hp; omega)
                  have HG7 : Hid (U.grownBy W7 (Value.slice sp sn sc).ownBlock) := grown_upd HGR.out hU (Nat.le_of_eq HGCE.out)
                  refine hK.out _ _ HS7.out (fun hHeld => ?_)
                  clear hK hU hgl
                  refine take_at 13 15 (.int .i64 f) _ rfl rfl (by kernel_rfl) (by kernel_rfl) (by kernel_rfl) (fun _ _ _ h => h) (Or.inl ⟨by rfl, fun v hv => by clear hv; go_simp⟩) hHeld ?_
                  simp only [Act.put, List.setIfInBounds_toArray, List.set_cons_zero, List.set_cons_succ]
                  refine wpAnyH_done (by kernel_rfl) ?_ _
                  clear hHeld
                  have HB7 : Hid (Below w.heap.size w W7) := bel_turned HM5.out.bel HG7.out HM5.out.bel.size (fun q hq => by have h1 := (HOW.out q hq).1; have h2 := HG8.out; omega)
                  by_cases hfz : f = 0
                  · subst hfz
                    have HTZ : Hid (Turned U W7 W1.heap.size (cuA a dp dn dc sp sn sc) (⟨xme, xrv, xnx, xmo, xbo, xfr, xdp, xdn, xdc, xsp, xsn, xsc⟩ : Cu) c') := HT7.out rfl
                    clear HT7
                    have HS : Hid (StepIs t (st k) (l.getD k ev0) ((st k).set j c') 0) := by rw [← HV.out]; exact .inr (.inr (.inr (.inr ⟨HEM.out, HKD.out, j, c', HJ.out, by rw [← HCM.out]; exact HHI.out, fun _ => rfl⟩)))
                    obtain ⟨kx0, kx1, kx2, kx3, kx4, kx5, kx6, kx7⟩ := scl8 HN7
                    have k8 : W7.cell? ⟨g8, 0, none⟩ = some (.slice (some ⟨gV, vo, none⟩) xs.length pc) := HS7.out.2.1.cell 0
                    have hsz : vo + j * 8 + 8 ≤ cur.size := by have h1 := HBV.out.2.2; have h2 := HVO.out; omega
                    go_wp2_with (first | (refine wp_let rfl 58 _ _ rfl gV (vo + j * 8) rfl (.agg #[.int .i64 xme, .int .i64 xrv, .int .i64 xnx, .int .i64 xmo, .int .i64 xbo, .int .i64 xfr, .slice xdp xdn xdc, .slice xsp xsn xsc]) rfl #[.int .i64 xme, .int .i64 xrv, .int .i64 xnx, .int .i64 xmo, .int .i64 xbo, .int .i64 xfr, .slice xdp xdn xdc, .slice xsp xsn xsc] rfl (by kernel_rfl) (by simp [Value.oneCell']) cur 58 HS7.out.2.2.2 hsz _ rfl ?_) | fail)
                    intro W8 hU
                    have HMN : Hid (∃ st', Mid w t pt lt ct l g8 W1.heap.size (k + 1) st' (xs.set j (⟨xme, xrv, xnx, xmo, xbo, xfr, xdp, xdn, xdc, xsp, xsn, xsc⟩ : Cu)) (some ⟨gV, vo, none⟩) pc W8) := by
                      obtain ⟨st', s0', sk', hst'⟩ := run_more HM5.out.steps HS.out
                      have hg := HG8.out
                      have hv := HBV.out.2.1
                      have hl7 : Lc W7 W1.heap.size (.slice (some ⟨gV, vo, none⟩) xs.length pc) xs := lc_kept HM5.out.hold.row HG7.out (fun q hq e => HOF.out.1 q e (by rw [← hq]; rfl))
                      have hl8 : Lc W8 W1.heap.size (.slice (some ⟨gV, vo, none⟩) xs.length pc) (xs.set j (⟨xme, xrv, xnx, xmo, xbo, xfr, xdp, xdn, xdc, xsp, xsn, xsc⟩ : Cu)) := by
                        have e0 := HVO.out
                        subst e0
                        rw [Nat.zero_add] at hU
                        exact lc_put hl7 HS7.out.2.2.2 hjx hU
                      have hp : Holds W8 W1.heap.size (.slice (some ⟨gV, vo, none⟩) xs.length pc) (xs.set j (⟨xme, xrv, xnx, xmo, xbo, xfr, xdp, xdn, xdc, xsp, xsn, xsc⟩ : Cu)) ((st k).set j c') := HM5.out.hold.put hjx (by rw [HXE.out]; exact HTZ.out) hl8 (upd_grown hU)
                      exact ⟨st', s0'.trans HM5.out.s0, hst', by rw [sk']; exact step_small HS.out HM5.out.small, hU.keep HS7.out.1 (by omega), hU.keep HR7.out (by omega), by rw [List.length_set]; exact hU.keep HS7.out.2.1 (by omega), by rw [sk', List.length_set]; exact hp, hU.bel _ _ (by omega) HB7.out, by rw [hU.size]; exact Nat.le_trans HM5.out.sz HG7.out.size⟩
                    clear hU k8 hsz kx0 kx1 kx2 kx3 kx4 kx5 kx6 kx7
                    go_wp2_with fail
                    go_roundw
                    case rel =>
                      obtain ⟨st', hm'⟩ := HMN.out
                      exact ⟨k + 1, st', _, _, pc, by omega, by go_num, hm'⟩
                    case measure => simp [intOf]; omega
                  · have nf : (f != 0) = true := by simpa using hfz
                    have HNZ : Hid (f ≠ 0) := hfz
                    clear hfz
                    have HS : Hid (StepIs t (st k) (l.getD k ev0) [] f) := by rw [← HV.out]; exact .inr (.inr (.inr (.inr ⟨HEM.out, HKD.out, j, c', HJ.out, by rw [← HCM.out]; exact HHI.out, fun hz => absurd hz HNZ.out⟩)))
                    go_wp2_with (first | (refine wp_letAll rfl 45 _ _ rfl _ rfl _ rfl (by kernel_rfl) (by simp [Value.oneCell']) _ 45 HR7.out rfl ?_) | fail)
                    intro WF hU
                    have R0 : Hid (WF.cell? ⟨w.heap.size + 1, 0, none⟩ = some (.slice none 0 0)) := hU.blk.cell 0
                    have HBF := shV hU HB7 (by omega)
                    clear hU
                    have HFIN : Hid (BookPost w t l (.returned (.tuple #[.agg #[.slice none 0 0], .int .i64 (k : Int), .int .i64 f])) WF) := ⟨none, 0, 0, [], [], (k : Int), f, rfl, HM5.out.stop HTR.out HFEW.out HKL.out HS.out HNZ.out, sees_nil _, Nat.zero_le _, HBF.out⟩
                    go_wp2_with fail
                    exact bodyPost_ret (v := .tuple #[.agg #[.slice none 0 0], .int .i64 (k : Int), .int .i64 f]) (by simp [results, Try.results18, R0.out, go_sem]) rfl HFIN.out
              · have HS : Hid (StepIs t (st k) (l.getD k ev0) [] 18) := by rw [← HV.out]; exact .inr (.inr (.inr (.inl ⟨HEM.out, HKD.out, hno, rfl⟩)))
                clear hno
                go_wp2_with (first | (refine wp_letAll rfl 45 _ _ rfl (w.heap.size + 1) rfl #[.slice none 0 0] rfl (by kernel_rfl) (by simp [Value.oneCell']) #[.slice none 0 0] 45 HM4.out.br rfl ?_) | fail)
                intro WF hU
                have R0 : Hid (WF.cell? ⟨w.heap.size + 1, 0, none⟩ = some (.slice none 0 0)) := hU.blk.cell 0
                have HBF : Hid (Below w.heap.size w WF) := hU.bel _ _ (by omega) HM4.out.bel
                clear hU
                have HFIN : Hid (BookPost w t l (.returned (.tuple #[.agg #[.slice none 0 0], .int .i64 (k : Int), .int .i64 18])) WF) := ⟨none, 0, 0, [], [], (k : Int), 18, rfl, HM4.out.stop HTR.out HFEW.out HKL.out HS.out (by decide), sees_nil _, Nat.zero_le _, HBF.out⟩
                go_wp2_with fail
                exact bodyPost_ret (v := .tuple #[.agg #[.slice none 0 0], .int .i64 (k : Int), .int .i64 18]) (by simp [results, Try.results18, R0.out, go_sem]) rfl HFIN.out
        · obtain rfl : k = n := by omega
          have hdl : decide ((k : Int) < (k : Int)) = false := by simp
          have k8 : wr.cell? ⟨g8, 0, none⟩ = some (.slice pa xs.length pc) := HM.out.bb.cell 0
          go_wp2_with (first | (refine wp_letAll rfl 45 _ _ rfl (w.heap.size + 1) rfl #[.slice pa xs.length pc] rfl (by kernel_rfl) (by simp [Value.oneCell']) #[.slice none 0 0] 45 HM.out.br rfl ?_) | fail)
          intro WF hU
          have R0 : Hid (WF.cell? ⟨w.heap.size + 1, 0, none⟩ = some (.slice pa xs.length pc)) := hU.blk.cell 0
          have HUF : Hid (Upd wr WF (w.heap.size + 1) #[.slice pa xs.length pc] 45) := hU
          clear hU k8
          have HFIN : Hid (BookPost w t l (.returned (.tuple #[.agg #[.slice pa xs.length pc], .int .i64 0, .int .i64 0])) WF) := by
            obtain ⟨p0, c0, hv0, hs⟩ := (HM.out.hold.upd HUF.out (by have := HG8.out; omega)).sees
            injection hv0 with e1 _ e3
            subst e1
            exact ⟨pa, xs.length, pc, xs, st k, 0, 0, rfl, .inr (.inr ⟨HTR.out, HFEW.out, k, st, HM.out.s0, HM.out.steps, .inl ⟨HLN.out.symm, rfl, rfl, rfl⟩⟩), hs, by have := HM.out.few; omega, HUF.out.bel _ _ (by omega) HM.out.bel⟩
          go_wp2_with fail
          exact bodyPost_ret (v := .tuple #[.agg #[.slice pa xs.length pc], .int .i64 0, .int .i64 0]) (by simp [results, Try.results18, R0.out, go_sem]) rfl HFIN.out
  · have hne : (f != 0) = true := by simpa using h0
    have HF : Hid (TFault t f) := hf
    have HNE : Hid (f ≠ 0) := h0
    clear hf h0
    go_wp2_with (first | (refine wp_letAll rfl 45 _ _ rfl _ rfl _ rfl (by kernel_rfl) (by simp [Value.oneCell']) _ 45 HR1.out rfl ?_) | fail)
    intro WF hU
    have R0 : Hid (WF.cell? ⟨w.heap.size + 1, 0, none⟩ = some (.slice none 0 0)) := hU.blk.cell 0
    have HBF := shV hU HB1 (by omega)
    clear hU
    have HFIN : Hid (BookPost w t l (.returned (.tuple #[.agg #[.slice none 0 0], .int .i64 0, .int .i64 f])) WF) := ⟨none, 0, 0, [], [], 0, f, rfl, .inl ⟨HF.out, HNE.out, rfl, rfl⟩, sees_nil _, Nat.zero_le _, HBF.out⟩
    go_wp2_with fail
    exact bodyPost_ret (v := .tuple #[.agg #[.slice none 0 0], .int .i64 0, .int .i64 f]) (by simp [results, Try.results18, R0.out, go_sem]) rfl HFIN.out

end Go.Proofs.Ytfhlokjpdkmdjaa.book

/- Debts compared. -/
namespace Go.Proofs.Ytfhlokjpdkmdjaa.deb
open Go.Proofs.Ytfhlokjpdkmdjaa.tar (Du du0 Came RowD Ld PairT GaveD wp_pairs)
open Go.RowKit
set_option linter.unusedSimpArgs false
set_option linter.unusedVariables false
set_option maxRecDepth 100000

theorem seI (d : Nat) (a b : Int) (w : World) : (Op.equalIn (d + 1) 3 (.int .i64 a) (.int .i64 b)).run Try.prog w = .ok (a == b) w := run_equalIn_int w d _ _ _ a b Try.underlying3
theorem sf0 (s c : Int) (w : World) : (part 3 #[.int .i64 s, .int .i64 c] 0).run Try.prog w = .ok (.int .i64 s) w := by kernel_rfl
theorem sf1 (s c : Int) (w : World) : (part 3 #[.int .i64 s, .int .i64 c] 1).run Try.prog w = .ok (.int .i64 c) w := by kernel_rfl
theorem eqDebt (s t b c : Int) (w : World) :
    (Op.equalIn 10000 25 (.agg #[.int .i64 s, .int .i64 b]) (.agg #[.int .i64 t, .int .i64 c])).run Try.prog w = .ok (s == t && b == c) w := by
  rw [show (10000 : Nat) = 9999 + 1 from rfl, run_equalIn_agg w 9999 25 _ _ (by kernel_rfl) (by kernel_rfl)]
  simp only [Program.fieldsOf, Try.underlying25, Op.eqFields, Sem.run_bind, Sem.run_ite]
  by_cases h1 : (s == t) = true <;> by_cases h2 : (b == c) = true <;> simp [sf0, sf1, show (9999 : Nat) = 9998 + 1 from rfl, seI, h1, h2]

end Go.Proofs.Ytfhlokjpdkmdjaa.deb

/- Debts compared. -/
namespace Go.Proofs.Ytfhlokjpdkmdjaa.deb
open Go.Proofs.Ytfhlokjpdkmdjaa.tar (Du du0 Came RowD Ld PairT GaveD wp_pairs)
open Go.RowKit
set_option linter.unusedSimpArgs false
set_option linter.unusedVariables false
set_option maxRecDepth 100000

set_option maxHeartbeats 1000000 in
theorem same_debts (a b : Option Addr) (n c1 c2 : Nat) (zs : List Du) (w : World) (h1 : RowD w a n zs) (h2 : RowD w b n zs) (hn : n ≤ maxLen) :
    Calls Try.prog 59 #[.slice a n c1, .slice b n c2] w fun e w' => e = .returned (.bool true) ∧ Below w.heap.size w w' := by
  have hne : ((n : Int) != (n : Int)) = false := by simp
  unfold maxLen at hn
  go_enter Try.func59, Try.ntmps59
  go_wp2_with fail
  go_loopw [5] (fun i wr => ∃ k : Nat, k ≤ n ∧ i = .int .i64 k ∧ Below w.heap.size w wr) (fun i _ => n - (intOf i).toNat)
  case atStart => exact ⟨0, Nat.zero_le _, rfl, Below.refl _ _⟩
  case round =>
    obtain ⟨k, hk, rfl, hb⟩ := hrel
    by_cases hlt : k < n
    · obtain ⟨b1, o1, rfl, l1, hc1⟩ := h1.at (by omega)
      obtain ⟨b2, o2, rfl, l2, hc2⟩ := h2.at (by omega)
      have f1 : wr.cell? ⟨b1, o1 + k * 2, none⟩ = some (.int .i64 (zs.getD k du0).a) := (hb.cell (p := ⟨b1, o1 + k * 2, none⟩) l1).trans (hc1 k hlt).1
      have f2 : wr.cell? ⟨b1, o1 + k * 2 + 1, none⟩ = some (.int .i64 (zs.getD k du0).b) := (hb.cell (p := ⟨b1, o1 + k * 2 + 1, none⟩) l1).trans (hc1 k hlt).2
      have f3 : wr.cell? ⟨b2, o2 + k * 2, none⟩ = some (.int .i64 (zs.getD k du0).a) := (hb.cell (p := ⟨b2, o2 + k * 2, none⟩) l2).trans (hc2 k hlt).1
      have f4 : wr.cell? ⟨b2, o2 + k * 2 + 1, none⟩ = some (.int .i64 (zs.getD k du0).b) := (hb.cell (p := ⟨b2, o2 + k * 2 + 1, none⟩) l2).trans (hc2 k hlt).2
      have hq : ∀ wz : World, (Op.equalIn 10000 25 (.agg #[.int .i64 (zs.getD k du0).a, .int .i64 (zs.getD k du0).b]) (.agg #[.int .i64 (zs.getD k du0).a, .int .i64 (zs.getD k du0).b])).run Try.prog wz = .ok true wz := fun wz => by rw [eqDebt]; simp
      have HB : Hid (Below w.heap.size w wr) := hb
      clear hc1 hc2 h1 h2 l1 l2 hb
      generalize (zs.getD k du0).a = p at *
      generalize (zs.getD k du0).b = d at *
      go_wp2_with fail
      go_region
      all_goals go_wp2_with fail
      go_roundw
      case rel => exact ⟨k + 1, by omega, by go_num, HB.out.drew⟩
      case measure => simp [intOf]; omega
    · go_wp2_with fail
      go_ret
      exact ⟨rfl, hb⟩

end Go.Proofs.Ytfhlokjpdkmdjaa.deb

/- Accounts compared by the exact statements. -/
namespace Go.Proofs.Ytfhlokjpdkmdjaa.acc
open Go.Proofs.Ytfhlokjpdkmdjaa.tar (Du du0 Came RowD Ld PairT)
open Go.RowKit
set_option maxRecDepth 100000
set_option linter.unusedVariables false
set_option linter.unusedSimpArgs false

set_option maxHeartbeats 4000000 in
theorem same_acc (x : Ac) (p p2 : Option Addr) (len cap cap2 : Nat) (w : World) (h : Came w p len cap x.ds) (h2 : Came w p2 len cap2 x.ds) : Calls Try.prog 39 #[x.v p len cap, x.v p2 len cap2] w fun e w' => e = .returned (.bool true) ∧ Below w.heap.size w w' := by
  unfold Ac.v Ac.cs
  obtain ⟨W0, HWW, H0d, H0e, H0B, hs0⟩ := sh2 w #[.int .i64 x.me, .int .i64 x.rv, .int .i64 x.nx, .int .i64 x.mo, .int .i64 x.bo, .int .i64 x.fr, .slice p len cap] 55 #[.int .i64 x.me, .int .i64 x.rv, .int .i64 x.nx, .int .i64 x.mo, .int .i64 x.bo, .int .i64 x.fr, .slice p2 len cap2] 55
  have H0C : Hid (Came W0 p len cap x.ds) := h.below H0B.out
  have H0D : Hid (Came W0 p2 len cap2 x.ds) := h2.below H0B.out
  go_enter Try.func39, Try.ntmps39
  go_upto_region 1 with fail
  rw [HWW.out]
  clear HWW
  have HSD : Hid (Calls Try.prog 59 #[.slice p len cap, .slice p2 len cap2] W0 fun e w' => e = .returned (.bool true) ∧ Below W0.heap.size W0 w') := deb.same_debts p p2 len cap cap2 x.ds W0 H0C.out.row H0D.out.row H0C.out.most
  clear h h2 H0C H0D
  have n0 : (x.me != x.me) = false := by simp
  have n1 : (x.rv != x.rv) = false := by simp
  have n2 : (x.nx != x.nx) = false := by simp
  have n3 : (x.mo != x.mo) = false := by simp
  have n4 : (x.bo != x.bo) = false := by simp
  have n5 : (x.fr != x.fr) = false := by simp
  obtain ⟨qd0, qd1, qd2, qd3, qd4, qd5, qd6⟩ := scl7 H0d
  obtain ⟨qe0, qe1, qe2, qe3, qe4, qe5, qe6⟩ := scl7 H0e
  clear H0d H0e
  go_wp2_with fail
  refine HSD.out.mono ?_
  rintro e w2 ⟨rfl, hb2⟩
  have H2B := shB H0B hb2
  clear hb2 HSD
  go_wp2_with fail
  go_ret
  exact ⟨rfl, H2B.out⟩

end Go.Proofs.Ytfhlokjpdkmdjaa.acc

/- Two structs are held to be unlike, where what comes of it is known. -/
namespace Go.Proofs.Ytfhlokjpdkmdjaa.book
open Go.RowKit
set_option maxRecDepth 100000
set_option linter.unusedVariables false
set_option linter.unusedSimpArgs false

theorem run_neOp {P : Program} {o : Oper} {a : Act} {w : World} (ty rt : TypeId) (x y : Operand) (ho : o.op = .binOp .neq ty x y rt) (ca cb : Array Value) (hx : a.eval x = .agg ca) (hy : a.eval y = .agg cb) (hg : P.eqGuardType P.depth ty = false) (b : Bool)
    (hr : (Op.equalIn 10000 ty (.agg ca) (.agg cb)).run P w = .ok b w) : (execOp a.eval o).run P w = .ok (.value (.bool (!b))) w := by
  have hr' : (Op.equal ty (.agg ca) (.agg cb)).run P w = .ok b w := hr
  have hp : ∀ w' : World, (program : Sem Program).run P w' = .ok P w' := fun _ => rfl
  unfold execOp
  simp only [ho, hx, hy]
  simp [eqGuard, hg, binOp, hr', hp, Sem.run_bind]

end Go.Proofs.Ytfhlokjpdkmdjaa.book

/- What was sold, compared. -/
namespace Go.Proofs.Ytfhlokjpdkmdjaa.book
open Go.RowKit
set_option maxRecDepth 100000
set_option linter.unusedVariables false
set_option linter.unusedSimpArgs false

theorem eqSo_f0 (x0 x1 x2 x3 x4 : Int) (w : World) : (part 3 #[.int .i64 x0, .int .i64 x1, .int .i64 x2, .int .i64 x3, .int .i64 x4] 0).run Try.prog w = .ok (.int .i64 x0) w := by kernel_rfl
theorem eqSo_f1 (x0 x1 x2 x3 x4 : Int) (w : World) : (part 3 #[.int .i64 x0, .int .i64 x1, .int .i64 x2, .int .i64 x3, .int .i64 x4] 1).run Try.prog w = .ok (.int .i64 x1) w := by kernel_rfl
theorem eqSo_f2 (x0 x1 x2 x3 x4 : Int) (w : World) : (part 3 #[.int .i64 x0, .int .i64 x1, .int .i64 x2, .int .i64 x3, .int .i64 x4] 2).run Try.prog w = .ok (.int .i64 x2) w := by kernel_rfl
theorem eqSo_f3 (x0 x1 x2 x3 x4 : Int) (w : World) : (part 3 #[.int .i64 x0, .int .i64 x1, .int .i64 x2, .int .i64 x3, .int .i64 x4] 3).run Try.prog w = .ok (.int .i64 x3) w := by kernel_rfl
theorem eqSo_f4 (x0 x1 x2 x3 x4 : Int) (w : World) : (part 3 #[.int .i64 x0, .int .i64 x1, .int .i64 x2, .int .i64 x3, .int .i64 x4] 4).run Try.prog w = .ok (.int .i64 x4) w := by kernel_rfl
theorem eqSoN (x0 x1 x2 x3 x4 : Int) (w : World) : (Op.equalIn 10000 103 (.agg #[.int .i64 x0, .int .i64 x1, .int .i64 x2, .int .i64 x3, .int .i64 x4]) (.agg #[.int .i64 x0, .int .i64 x1, .int .i64 x2, .int .i64 x3, .int .i64 x4])).run Try.prog w = .ok true w := by
  rw [show (10000 : Nat) = 9999 + 1 from rfl, run_equalIn_agg w 9999 103 _ _ (by kernel_rfl) (by kernel_rfl)]
  simp only [Program.fieldsOf, Try.underlying103, Op.eqFields, Sem.run_bind, Sem.run_ite]
  simp [eqSo_f0, eqSo_f1, eqSo_f2, eqSo_f3, eqSo_f4, show (9999 : Nat) = 9998 + 1 from rfl, eqI]
theorem eqRSo (r : So) : ∀ w : World, (Op.equalIn 10000 103 (.agg #[.int .i64 r.id, .int .i64 r.cl, .int .i64 r.am, .int .i64 r.tg, .int .i64 r.rv]) (.agg #[.int .i64 r.id, .int .i64 r.cl, .int .i64 r.am, .int .i64 r.tg, .int .i64 r.rv])).run Try.prog w = .ok true w := fun w => eqSoN _ _ _ _ _ w
set_option maxHeartbeats 4000000 in
theorem solds_law (a b : Option Addr) (n c1 c2 : Nat) (zs : List So) (w : World) (h1 : RowS w a n zs) (h2 : RowS w b n zs) (hn : n ≤ 4611686018427387903) :
    Calls Try.prog 40 #[.slice a n c1, .slice b n c2] w fun e w' => e = .returned (.bool true) ∧ Below w.heap.size w w' := by
  have hne : ((n : Int) != (n : Int)) = false := by simp
  have H1 : Hid (RowS w a n zs) := h1
  have H2 : Hid (RowS w b n zs) := h2
  clear h1 h2
  go_enter Try.func40, Try.ntmps40
  go_wp2_with fail
  go_loopw [5] (fun i wr => ∃ k : Nat, k ≤ n ∧ i = .int .i64 (k : Int) ∧ Below w.heap.size w wr) (fun i _ => n - (intOf i).toNat)
  case atStart => exact ⟨0, Nat.zero_le _, rfl, Below.refl _ _⟩
  case round =>
    obtain ⟨k, hk, rfl, hbl⟩ := hrel
    have HBL : Hid (Below w.heap.size w wr) := hbl
    clear hbl
    by_cases hkn : k < n
    · have ek : decide ((k : Int) < (n : Int)) = true := by simp; omega
      obtain ⟨b1, o1, ea, l1, hc1⟩ := H1.out.2.resolve_left (by omega)
      obtain ⟨b2, o2, eb, l2, hc2⟩ := H2.out.2.resolve_left (by omega)
      subst ea
      subst eb
      have HC0 : Hid (∀ u, Below w.heap.size w u → u.cell? ⟨b1, o1 + k * 5, none⟩ = some (.int .i64 (zs.getD k so0).id)) := fun u hu => (hu.cell (p := ⟨b1, o1 + k * 5 + 0, none⟩) l1).trans (hc1 k 0 hkn (by decide))
      have HC1 : Hid (∀ u, Below w.heap.size w u → u.cell? ⟨b1, o1 + k * 5 + 1, none⟩ = some (.int .i64 (zs.getD k so0).cl)) := fun u hu => (hu.cell (p := ⟨b1, o1 + k * 5 + 1, none⟩) l1).trans (hc1 k 1 hkn (by decide))
      have HC2 : Hid (∀ u, Below w.heap.size w u → u.cell? ⟨b1, o1 + k * 5 + 2, none⟩ = some (.int .i64 (zs.getD k so0).am)) := fun u hu => (hu.cell (p := ⟨b1, o1 + k * 5 + 2, none⟩) l1).trans (hc1 k 2 hkn (by decide))
      have HC3 : Hid (∀ u, Below w.heap.size w u → u.cell? ⟨b1, o1 + k * 5 + 3, none⟩ = some (.int .i64 (zs.getD k so0).tg)) := fun u hu => (hu.cell (p := ⟨b1, o1 + k * 5 + 3, none⟩) l1).trans (hc1 k 3 hkn (by decide))
      have HC4 : Hid (∀ u, Below w.heap.size w u → u.cell? ⟨b1, o1 + k * 5 + 4, none⟩ = some (.int .i64 (zs.getD k so0).rv)) := fun u hu => (hu.cell (p := ⟨b1, o1 + k * 5 + 4, none⟩) l1).trans (hc1 k 4 hkn (by decide))
      have HD0 : Hid (∀ u, Below w.heap.size w u → u.cell? ⟨b2, o2 + k * 5, none⟩ = some (.int .i64 (zs.getD k so0).id)) := fun u hu => (hu.cell (p := ⟨b2, o2 + k * 5 + 0, none⟩) l2).trans (hc2 k 0 hkn (by decide))
      have HD1 : Hid (∀ u, Below w.heap.size w u → u.cell? ⟨b2, o2 + k * 5 + 1, none⟩ = some (.int .i64 (zs.getD k so0).cl)) := fun u hu => (hu.cell (p := ⟨b2, o2 + k * 5 + 1, none⟩) l2).trans (hc2 k 1 hkn (by decide))
      have HD2 : Hid (∀ u, Below w.heap.size w u → u.cell? ⟨b2, o2 + k * 5 + 2, none⟩ = some (.int .i64 (zs.getD k so0).am)) := fun u hu => (hu.cell (p := ⟨b2, o2 + k * 5 + 2, none⟩) l2).trans (hc2 k 2 hkn (by decide))
      have HD3 : Hid (∀ u, Below w.heap.size w u → u.cell? ⟨b2, o2 + k * 5 + 3, none⟩ = some (.int .i64 (zs.getD k so0).tg)) := fun u hu => (hu.cell (p := ⟨b2, o2 + k * 5 + 3, none⟩) l2).trans (hc2 k 3 hkn (by decide))
      have HD4 : Hid (∀ u, Below w.heap.size w u → u.cell? ⟨b2, o2 + k * 5 + 4, none⟩ = some (.int .i64 (zs.getD k so0).rv)) := fun u hu => (hu.cell (p := ⟨b2, o2 + k * 5 + 4, none⟩) l2).trans (hc2 k 4 hkn (by decide))
      have hq := eqRSo (zs.getD k so0)
      clear hc1 hc2 l1 l2
      generalize zs.getD k so0 = r at *
      go_wp2_with fail
      refine wp_region_held_drew (S := fun v => Below w.heap.size w v) (by kernel_rfl) HBL.out.drew (fun hHeld => ?_)
      refine take_at 0 17 (.slice (some ⟨b1, o1, none⟩) n c1) _ rfl rfl (by kernel_rfl) (by kernel_rfl) (by kernel_rfl) (fun _ _ _ h => h) (Or.inl ⟨by rfl, fun v hv => by clear hv; go_simp⟩) hHeld ?_
      simp only [Act.put, List.setIfInBounds_toArray, List.set_cons_zero, List.set_cons_succ]
      refine take_at 1 18 (.int .i64 (k : Int)) _ rfl rfl (by kernel_rfl) (by kernel_rfl) (by kernel_rfl) (fun _ _ _ h => h) (Or.inl ⟨by rfl, fun v hv => by clear hv; go_simp⟩) hHeld ?_
      simp only [Act.put, List.setIfInBounds_toArray, List.set_cons_zero, List.set_cons_succ]
      refine take_at 2 19 (.pointer (some ⟨b1, o1 + k * 5, none⟩)) _ rfl rfl (by kernel_rfl) (by kernel_rfl) (by kernel_rfl) (fun _ _ _ h => h) (Or.inl ⟨by rfl, fun v hv => by clear hv; go_simp⟩) hHeld ?_
      simp only [Act.put, List.setIfInBounds_toArray, List.set_cons_zero, List.set_cons_succ]
      refine take_at 3 20 (.agg #[.int .i64 r.id, .int .i64 r.cl, .int .i64 r.am, .int .i64 r.tg, .int .i64 r.rv]) _ rfl rfl (by kernel_rfl) (by kernel_rfl) (by kernel_rfl) (fun _ _ _ h => h) (Or.inl ⟨by rfl, fun v hv => by have q0 := HC0.out v hv; have q1 := HC1.out v hv; have q2 := HC2.out v hv; have q3 := HC3.out v hv; have q4 := HC4.out v hv; clear hv; go_simp⟩) hHeld ?_
      simp only [Act.put, List.setIfInBounds_toArray, List.set_cons_zero, List.set_cons_succ]
      refine take_at 4 21 (.slice (some ⟨b2, o2, none⟩) n c2) _ rfl rfl (by kernel_rfl) (by kernel_rfl) (by kernel_rfl) (fun _ _ _ h => h) (Or.inl ⟨by rfl, fun v hv => by clear hv; go_simp⟩) hHeld ?_
      simp only [Act.put, List.setIfInBounds_toArray, List.set_cons_zero, List.set_cons_succ]
      refine take_at 5 22 (.int .i64 (k : Int)) _ rfl rfl (by kernel_rfl) (by kernel_rfl) (by kernel_rfl) (fun _ _ _ h => h) (Or.inl ⟨by rfl, fun v hv => by clear hv; go_simp⟩) hHeld ?_
      simp only [Act.put, List.setIfInBounds_toArray, List.set_cons_zero, List.set_cons_succ]
      refine take_at 6 23 (.pointer (some ⟨b2, o2 + k * 5, none⟩)) _ rfl rfl (by kernel_rfl) (by kernel_rfl) (by kernel_rfl) (fun _ _ _ h => h) (Or.inl ⟨by rfl, fun v hv => by clear hv; go_simp⟩) hHeld ?_
      simp only [Act.put, List.setIfInBounds_toArray, List.set_cons_zero, List.set_cons_succ]
      refine take_at 7 24 (.agg #[.int .i64 r.id, .int .i64 r.cl, .int .i64 r.am, .int .i64 r.tg, .int .i64 r.rv]) _ rfl rfl (by kernel_rfl) (by kernel_rfl) (by kernel_rfl) (fun _ _ _ h => h) (Or.inl ⟨by rfl, fun v hv => by have q0 := HD0.out v hv; have q1 := HD1.out v hv; have q2 := HD2.out v hv; have q3 := HD3.out v hv; have q4 := HD4.out v hv; clear hv; go_simp⟩) hHeld ?_
      simp only [Act.put, List.setIfInBounds_toArray, List.set_cons_zero, List.set_cons_succ]
      refine take_at 8 25 (.bool false) _ rfl rfl (by kernel_rfl) (by kernel_rfl) (by kernel_rfl) (fun _ _ _ h => h) (Or.inl ⟨by rfl, fun v hv => run_neOp 103 _ _ _ rfl #[.int .i64 r.id, .int .i64 r.cl, .int .i64 r.am, .int .i64 r.tg, .int .i64 r.rv] #[.int .i64 r.id, .int .i64 r.cl, .int .i64 r.am, .int .i64 r.tg, .int .i64 r.rv] rfl rfl (by kernel_rfl) true (hq _)⟩) hHeld ?_
      simp only [Act.put, List.setIfInBounds_toArray, List.set_cons_zero, List.set_cons_succ]
      refine wpAnyH_done (by kernel_rfl) ?_ _
      clear hHeld
      have HB2 : Hid (Below w.heap.size w wr.drew) := HBL.out.drew
      go_wp2_with fail
      go_roundw
      case rel => exact ⟨k + 1, by omega, by go_num, HB2.out⟩
      case measure => simp [intOf]; omega
    · obtain rfl : k = n := by omega
      go_wp2_with fail
      go_ret
      exact ⟨rfl, HBL.out⟩

end Go.Proofs.Ytfhlokjpdkmdjaa.book

/- Books compared. -/
namespace Go.Proofs.Ytfhlokjpdkmdjaa.book
open Go.RowKit
set_option maxRecDepth 100000
set_option linter.unusedVariables false
set_option linter.unusedSimpArgs false

set_option maxHeartbeats 8000000 in
theorem book_law (p1 p2 : Option Addr) (m c1 c2 : Nat) (xs ys : List Cu) (bk : List Cm) (w : World) (h1 : Sees w p1 m xs bk) (h2 : Sees w p2 m ys bk) (hm : m ≤ 1000) (hs : ∀ c ∈ bk, c.so.length ≤ 1000000) :
    Calls Try.prog 19 #[.agg #[.slice p1 m c1], .agg #[.slice p2 m c2]] w fun e w' => e = .returned (.bool true) ∧ Below w.heap.size w w' := by
  have hne : ((m : Int) != (m : Int)) = false := by simp
  have hbw : Below w.heap.size w ((w.alloc (.cells #[.slice p1 m c1] 45)).alloc (.cells #[.slice p2 m c2] 45)) := ((Below.refl w.heap.size w).alloc (Nat.le_refl _) _).alloc (by simp) _
  have H1 : Hid (Sees ((w.alloc (.cells #[.slice p1 m c1] 45)).alloc (.cells #[.slice p2 m c2] 45)) p1 m xs bk) := h1.below hbw
  have H2 : Hid (Sees ((w.alloc (.cells #[.slice p1 m c1] 45)).alloc (.cells #[.slice p2 m c2] 45)) p2 m ys bk) := h2.below hbw
  have HSO : Hid (∀ c ∈ bk, c.so.length ≤ 1000000) := hs
  have HX1 : Hid (Blk ((w.alloc (.cells #[.slice p1 m c1] 45)).alloc (.cells #[.slice p2 m c2] 45)) w.heap.size #[.slice p1 m c1] 45) := (Blk.new w _ _).alloc _
  have HX2 : Hid (Blk ((w.alloc (.cells #[.slice p1 m c1] 45)).alloc (.cells #[.slice p2 m c2] 45)) (w.heap.size + 1) #[.slice p2 m c2] 45) := Blk.new1 w _ _ _
  have HBW : Hid (Below w.heap.size w ((w.alloc (.cells #[.slice p1 m c1] 45)).alloc (.cells #[.slice p2 m c2] 45))) := hbw
  clear h1 h2 hbw hs
  go_enter Try.func19, Try.ntmps19
  go_upto_region 1 with fail
  generalize ((w.alloc (.cells #[.slice p1 m c1] 45)).alloc (.cells #[.slice p2 m c2] 45)) = W at *
  have HK1 : Hid (∀ u, Below W.heap.size W u → u.cell? ⟨w.heap.size, 0, none⟩ = some (.slice p1 m c1)) := fun u hu => (HX1.out.next hu).cell 0
  have HK2 : Hid (∀ u, Below W.heap.size W u → u.cell? ⟨w.heap.size + 1, 0, none⟩ = some (.slice p2 m c2)) := fun u hu => (HX2.out.next hu).cell 0
  have k1 := HK1.out W (Below.refl _ _)
  have k2 := HK2.out W (Below.refl _ _)
  go_wp2_with fail
  clear k1 k2
  go_loopw [5] (fun i wr => ∃ k : Nat, k ≤ m ∧ i = .int .i64 (k : Int) ∧ Below W.heap.size W wr) (fun i _ => m - (intOf i).toNat)
  case atStart => exact ⟨0, Nat.zero_le _, rfl, Below.refl _ _⟩
  case round =>
    obtain ⟨k, hk, rfl, hbl⟩ := hrel
    have HBL : Hid (Below W.heap.size W wr) := hbl
    have k1 := HK1.out wr hbl
    have k2 := HK2.out wr hbl
    clear hbl
    by_cases hkn : k < m
    · have ek : decide ((k : Int) < (m : Int)) = true := by simp; omega
      obtain ⟨b1, o1, e1, l1, hc1⟩ := H1.out.row.2.resolve_left (by omega)
      obtain ⟨b2, o2, e2, l2, hc2⟩ := H2.out.row.2.resolve_left (by omega)
      have hk1 : k < xs.length := by rw [H1.out.row.1]; exact hkn
      have hk2 : k < ys.length := by rw [H2.out.row.1]; exact hkn
      have hkb : k < bk.length := by rw [← H1.out.len]; exact hk1
      have hn1 := H1.out.num k hk1
      have hn2 := H2.out.num k hk2
      have hd1 := H1.out.ds k hk1
      have hd2 := H2.out.ds k hk2
      have hs1 := H1.out.so k hk1
      have hs2 := H2.out.so k hk2
      have hsl := HSO.out (bk.getD k cm0) (by have q : bk.getD k cm0 = bk[k] := by simp [List.getD, List.getElem?_eq_getElem hkb]
                                              rw [q]; exact List.getElem_mem _)
      obtain ⟨⟨a, sol⟩, hcm⟩ : ∃ c, c = bk.getD k cm0 := ⟨_, rfl⟩
      rw [← hcm] at hn1 hn2 hd1 hd2 hs1 hs2 hsl
      obtain ⟨d1, dn, dc1, s1, sn, sc1, hx1⟩ := cuA_of hn1
      obtain ⟨d2, dn2, dc2, s2, sn2, sc2, hx2⟩ := cuA_of hn2
      rw [hx1] at hd1 hs1
      rw [hx2] at hd2 hs2
      simp only at hd1 hd2 hs1 hs2 hsl
      obtain rfl : dn = dn2 := hd1.row.1.symm.trans hd2.row.1
      obtain rfl : sn = sn2 := hs1.1.symm.trans hs2.1
      have HSA : Hid (∀ U, Below W.heap.size W U → Calls Try.prog 39 #[.agg #[.int .i64 a.me, .int .i64 a.rv, .int .i64 a.nx, .int .i64 a.mo, .int .i64 a.bo, .int .i64 a.fr, .slice d1 dn dc1], .agg #[.int .i64 a.me, .int .i64 a.rv, .int .i64 a.nx, .int .i64 a.mo, .int .i64 a.bo, .int .i64 a.fr, .slice d2 dn dc2]] U fun e w' => e = .returned (.bool true) ∧ Below U.heap.size U w') := fun U hU => acc.same_acc a d1 d2 dn dc1 dc2 U (hd1.below hU) (hd2.below hU)
      have HSS : Hid (∀ U, Below W.heap.size W U → Calls Try.prog 40 #[.slice s1 sn sc1, .slice s2 sn sc2] U fun e w' => e = .returned (.bool true) ∧ Below U.heap.size U w') := fun U hU => solds_law s1 s2 sn sc1 sc2 sol U (hs1.below hU) (hs2.below hU) (by have := hs1.1; omega)
      subst e1
      subst e2
      clear hn1 hn2 hd1 hd2 hs1 hs2 hsl hcm hk1 hk2 hkb
      have HC0 : Hid (∀ u, Below W.heap.size W u → u.cell? ⟨b1, o1 + k * 8, none⟩ = some (.int .i64 a.me)) := fun u hu => (hu.cell (p := ⟨b1, o1 + k * 8 + 0, none⟩) l1).trans (by have q := hc1 k 0 hkn (by decide); rw [hx1] at q; exact q)
      have HC1 : Hid (∀ u, Below W.heap.size W u → u.cell? ⟨b1, o1 + k * 8 + 1, none⟩ = some (.int .i64 a.rv)) := fun u hu => (hu.cell (p := ⟨b1, o1 + k * 8 + 1, none⟩) l1).trans (by have q := hc1 k 1 hkn (by decide); rw [hx1] at q; exact q)
      have HC2 : Hid (∀ u, Below W.heap.size W u → u.cell? ⟨b1, o1 + k * 8 + 2, none⟩ = some (.int .i64 a.nx)) := fun u hu => (hu.cell (p := ⟨b1, o1 + k * 8 + 2, none⟩) l1).trans (by have q := hc1 k 2 hkn (by decide); rw [hx1] at q; exact q)
      have HC3 : Hid (∀ u, Below W.heap.size W u → u.cell? ⟨b1, o1 + k * 8 + 3, none⟩ = some (.int .i64 a.mo)) := fun u hu => (hu.cell (p := ⟨b1, o1 + k * 8 + 3, none⟩) l1).trans (by have q := hc1 k 3 hkn (by decide); rw [hx1] at q; exact q)
      have HC4 : Hid (∀ u, Below W.heap.size W u → u.cell? ⟨b1, o1 + k * 8 + 4, none⟩ = some (.int .i64 a.bo)) := fun u hu => (hu.cell (p := ⟨b1, o1 + k * 8 + 4, none⟩) l1).trans (by have q := hc1 k 4 hkn (by decide); rw [hx1] at q; exact q)
      have HC5 : Hid (∀ u, Below W.heap.size W u → u.cell? ⟨b1, o1 + k * 8 + 5, none⟩ = some (.int .i64 a.fr)) := fun u hu => (hu.cell (p := ⟨b1, o1 + k * 8 + 5, none⟩) l1).trans (by have q := hc1 k 5 hkn (by decide); rw [hx1] at q; exact q)
      have HC6 : Hid (∀ u, Below W.heap.size W u → u.cell? ⟨b1, o1 + k * 8 + 6, none⟩ = some (.slice d1 dn dc1)) := fun u hu => (hu.cell (p := ⟨b1, o1 + k * 8 + 6, none⟩) l1).trans (by have q := hc1 k 6 hkn (by decide); rw [hx1] at q; exact q)
      have HC7 : Hid (∀ u, Below W.heap.size W u → u.cell? ⟨b1, o1 + k * 8 + 7, none⟩ = some (.slice s1 sn sc1)) := fun u hu => (hu.cell (p := ⟨b1, o1 + k * 8 + 7, none⟩) l1).trans (by have q := hc1 k 7 hkn (by decide); rw [hx1] at q; exact q)
      have HD0 : Hid (∀ u, Below W.heap.size W u → u.cell? ⟨b2, o2 + k * 8, none⟩ = some (.int .i64 a.me)) := fun u hu => (hu.cell (p := ⟨b2, o2 + k * 8 + 0, none⟩) l2).trans (by have q := hc2 k 0 hkn (by decide); rw [hx2] at q; exact q)
      have HD1 : Hid (∀ u, Below W.heap.size W u → u.cell? ⟨b2, o2 + k * 8 + 1, none⟩ = some (.int .i64 a.rv)) := fun u hu => (hu.cell (p := ⟨b2, o2 + k * 8 + 1, none⟩) l2).trans (by have q := hc2 k 1 hkn (by decide); rw [hx2] at q; exact q)
      have HD2 : Hid (∀ u, Below W.heap.size W u → u.cell? ⟨b2, o2 + k * 8 + 2, none⟩ = some (.int .i64 a.nx)) := fun u hu => (hu.cell (p := ⟨b2, o2 + k * 8 + 2, none⟩) l2).trans (by have q := hc2 k 2 hkn (by decide); rw [hx2] at q; exact q)
      have HD3 : Hid (∀ u, Below W.heap.size W u → u.cell? ⟨b2, o2 + k * 8 + 3, none⟩ = some (.int .i64 a.mo)) := fun u hu => (hu.cell (p := ⟨b2, o2 + k * 8 + 3, none⟩) l2).trans (by have q := hc2 k 3 hkn (by decide); rw [hx2] at q; exact q)
      have HD4 : Hid (∀ u, Below W.heap.size W u → u.cell? ⟨b2, o2 + k * 8 + 4, none⟩ = some (.int .i64 a.bo)) := fun u hu => (hu.cell (p := ⟨b2, o2 + k * 8 + 4, none⟩) l2).trans (by have q := hc2 k 4 hkn (by decide); rw [hx2] at q; exact q)
      have HD5 : Hid (∀ u, Below W.heap.size W u → u.cell? ⟨b2, o2 + k * 8 + 5, none⟩ = some (.int .i64 a.fr)) := fun u hu => (hu.cell (p := ⟨b2, o2 + k * 8 + 5, none⟩) l2).trans (by have q := hc2 k 5 hkn (by decide); rw [hx2] at q; exact q)
      have HD6 : Hid (∀ u, Below W.heap.size W u → u.cell? ⟨b2, o2 + k * 8 + 6, none⟩ = some (.slice d2 dn dc2)) := fun u hu => (hu.cell (p := ⟨b2, o2 + k * 8 + 6, none⟩) l2).trans (by have q := hc2 k 6 hkn (by decide); rw [hx2] at q; exact q)
      have HD7 : Hid (∀ u, Below W.heap.size W u → u.cell? ⟨b2, o2 + k * 8 + 7, none⟩ = some (.slice s2 sn sc2)) := fun u hu => (hu.cell (p := ⟨b2, o2 + k * 8 + 7, none⟩) l2).trans (by have q := hc2 k 7 hkn (by decide); rw [hx2] at q; exact q)
      clear hc1 hc2 l1 l2 hx1 hx2
      go_wp2_with fail
      refine wp_region_held_drew (S := fun v => Below W.heap.size W v) (by kernel_rfl) HBL.out.drew (fun hHeld => ?_)
      refine take_at 0 20 (.pointer (some ⟨w.heap.size, 0, none⟩)) _ rfl rfl (by kernel_rfl) (by kernel_rfl) (by kernel_rfl) (fun _ _ _ h => h) (Or.inl ⟨by rfl, fun v hv => by clear hv; go_simp⟩) hHeld ?_
      simp only [Act.put, List.setIfInBounds_toArray, List.set_cons_zero, List.set_cons_succ]
      refine take_at 1 21 (.slice (some ⟨b1, o1, none⟩) m c1) _ rfl rfl (by kernel_rfl) (by kernel_rfl) (by kernel_rfl) (fun _ _ _ h => h) (Or.inl ⟨by rfl, fun v hv => by have q0 := HK1.out v hv; clear hv; go_simp⟩) hHeld ?_
      simp only [Act.put, List.setIfInBounds_toArray, List.set_cons_zero, List.set_cons_succ]
      refine take_at 2 22 (.int .i64 (k : Int)) _ rfl rfl (by kernel_rfl) (by kernel_rfl) (by kernel_rfl) (fun _ _ _ h => h) (Or.inl ⟨by rfl, fun v hv => by clear hv; go_simp⟩) hHeld ?_
      simp only [Act.put, List.setIfInBounds_toArray, List.set_cons_zero, List.set_cons_succ]
      refine take_at 3 23 (.pointer (some ⟨b1, o1 + k * 8, none⟩)) _ rfl rfl (by kernel_rfl) (by kernel_rfl) (by kernel_rfl) (fun _ _ _ h => h) (Or.inl ⟨by rfl, fun v hv => by clear hv; go_simp⟩) hHeld ?_
      simp only [Act.put, List.setIfInBounds_toArray, List.set_cons_zero, List.set_cons_succ]
      refine take_at 4 24 (.pointer (some ⟨b1, o1 + k * 8, none⟩)) _ rfl rfl (by kernel_rfl) (by kernel_rfl) (by kernel_rfl) (fun _ _ _ h => h) (Or.inl ⟨by rfl, fun v hv => by clear hv; go_simp⟩) hHeld ?_
      simp only [Act.put, List.setIfInBounds_toArray, List.set_cons_zero, List.set_cons_succ]
      refine take_at 5 25 (.agg #[.int .i64 a.me, .int .i64 a.rv, .int .i64 a.nx, .int .i64 a.mo, .int .i64 a.bo, .int .i64 a.fr, .slice d1 dn dc1]) _ rfl rfl (by kernel_rfl) (by kernel_rfl) (by kernel_rfl) (fun _ _ _ h => h) (Or.inl ⟨by rfl, fun v hv => by have q0 := HC0.out v hv; have q1 := HC1.out v hv; have q2 := HC2.out v hv; have q3 := HC3.out v hv; have q4 := HC4.out v hv; have q5 := HC5.out v hv; have q6 := HC6.out v hv; clear hv; go_simp⟩) hHeld ?_
      simp only [Act.put, List.setIfInBounds_toArray, List.set_cons_zero, List.set_cons_succ]
      refine take_at 6 26 (.pointer (some ⟨w.heap.size + 1, 0, none⟩)) _ rfl rfl (by kernel_rfl) (by kernel_rfl) (by kernel_rfl) (fun _ _ _ h => h) (Or.inl ⟨by rfl, fun v hv => by clear hv; go_simp⟩) hHeld ?_
      simp only [Act.put, List.setIfInBounds_toArray, List.set_cons_zero, List.set_cons_succ]
      refine take_at 7 27 (.slice (some ⟨b2, o2, none⟩) m c2) _ rfl rfl (by kernel_rfl) (by kernel_rfl) (by kernel_rfl) (fun _ _ _ h => h) (Or.inl ⟨by rfl, fun v hv => by have q0 := HK2.out v hv; clear hv; go_simp⟩) hHeld ?_
      simp only [Act.put, List.setIfInBounds_toArray, List.set_cons_zero, List.set_cons_succ]
      refine take_at 8 28 (.int .i64 (k : Int)) _ rfl rfl (by kernel_rfl) (by kernel_rfl) (by kernel_rfl) (fun _ _ _ h => h) (Or.inl ⟨by rfl, fun v hv => by clear hv; go_simp⟩) hHeld ?_
      simp only [Act.put, List.setIfInBounds_toArray, List.set_cons_zero, List.set_cons_succ]
      refine take_at 9 29 (.pointer (some ⟨b2, o2 + k * 8, none⟩)) _ rfl rfl (by kernel_rfl) (by kernel_rfl) (by kernel_rfl) (fun _ _ _ h => h) (Or.inl ⟨by rfl, fun v hv => by clear hv; go_simp⟩) hHeld ?_
      simp only [Act.put, List.setIfInBounds_toArray, List.set_cons_zero, List.set_cons_succ]
      refine take_at 10 30 (.pointer (some ⟨b2, o2 + k * 8, none⟩)) _ rfl rfl (by kernel_rfl) (by kernel_rfl) (by kernel_rfl) (fun _ _ _ h => h) (Or.inl ⟨by rfl, fun v hv => by clear hv; go_simp⟩) hHeld ?_
      simp only [Act.put, List.setIfInBounds_toArray, List.set_cons_zero, List.set_cons_succ]
      refine take_at 11 31 (.agg #[.int .i64 a.me, .int .i64 a.rv, .int .i64 a.nx, .int .i64 a.mo, .int .i64 a.bo, .int .i64 a.fr, .slice d2 dn dc2]) _ rfl rfl (by kernel_rfl) (by kernel_rfl) (by kernel_rfl) (fun _ _ _ h => h) (Or.inl ⟨by rfl, fun v hv => by have q0 := HD0.out v hv; have q1 := HD1.out v hv; have q2 := HD2.out v hv; have q3 := HD3.out v hv; have q4 := HD4.out v hv; have q5 := HD5.out v hv; have q6 := HD6.out v hv; clear hv; go_simp⟩) hHeld ?_
      simp only [Act.put, List.setIfInBounds_toArray, List.set_cons_zero, List.set_cons_succ]
      refine wpAnyH_ready (rs := [12]) (by kernel_rfl) (by simp) (AllReadyH.cons rfl (fun K hK => ?_) AllReadyH.nil)
      rw [if_pos (by rfl)]
      refine wp_callOp 32 rfl (by clear hK; go_simp) (HSA.out _ HBL.out.drew) ?_
      rintro e w2 ⟨rfl, hb⟩
      have HBw2 : Hid (Below W.heap.size W w2) := HBL.out.drew.trans (hb.mono HBL.out.drew.size)
      refine ⟨_, rfl, hK.out _ _ HBw2.out (fun hHeld => ?_)⟩
      clear hK hb
      simp only [Act.put, List.setIfInBounds_toArray, List.set_cons_zero, List.set_cons_succ]
      refine take_at 13 33 (.bool false) _ rfl rfl (by kernel_rfl) (by kernel_rfl) (by kernel_rfl) (fun _ _ _ h => h) (Or.inl ⟨by rfl, fun v hv => by clear hv; go_simp⟩) hHeld ?_
      simp only [Act.put, List.setIfInBounds_toArray, List.set_cons_zero, List.set_cons_succ]
      refine take_at 14 34 (.bool false) _ rfl rfl (by kernel_rfl) (by kernel_rfl) (by kernel_rfl) (fun _ _ _ h => h) (Or.inl ⟨by rfl, fun v hv => by clear hv; go_simp⟩) hHeld ?_
      simp only [Act.put, List.setIfInBounds_toArray, List.set_cons_zero, List.set_cons_succ]
      refine take_at 15 35 (.pointer (some ⟨w.heap.size, 0, none⟩)) _ rfl rfl (by kernel_rfl) (by kernel_rfl) (by kernel_rfl) (fun _ _ _ h => h) (Or.inl ⟨by rfl, fun v hv => by clear hv; go_simp⟩) hHeld ?_
      simp only [Act.put, List.setIfInBounds_toArray, List.set_cons_zero, List.set_cons_succ]
      refine take_at 16 36 (.slice (some ⟨b1, o1, none⟩) m c1) _ rfl rfl (by kernel_rfl) (by kernel_rfl) (by kernel_rfl) (fun _ _ _ h => h) (Or.inl ⟨by rfl, fun v hv => by have q0 := HK1.out v hv; clear hv; go_simp⟩) hHeld ?_
      simp only [Act.put, List.setIfInBounds_toArray, List.set_cons_zero, List.set_cons_succ]
      refine take_at 17 37 (.int .i64 (k : Int)) _ rfl rfl (by kernel_rfl) (by kernel_rfl) (by kernel_rfl) (fun _ _ _ h => h) (Or.inl ⟨by rfl, fun v hv => by clear hv; go_simp⟩) hHeld ?_
      simp only [Act.put, List.setIfInBounds_toArray, List.set_cons_zero, List.set_cons_succ]
      refine take_at 18 38 (.pointer (some ⟨b1, o1 + k * 8, none⟩)) _ rfl rfl (by kernel_rfl) (by kernel_rfl) (by kernel_rfl) (fun _ _ _ h => h) (Or.inl ⟨by rfl, fun v hv => by clear hv; go_simp⟩) hHeld ?_
      simp only [Act.put, List.setIfInBounds_toArray, List.set_cons_zero, List.set_cons_succ]
      refine take_at 19 39 (.pointer (some ⟨b1, o1 + k * 8 + 7, none⟩)) _ rfl rfl (by kernel_rfl) (by kernel_rfl) (by kernel_rfl) (fun _ _ _ h => h) (Or.inl ⟨by rfl, fun v hv => by clear hv; go_simp⟩) hHeld ?_
      simp only [Act.put, List.setIfInBounds_toArray, List.set_cons_zero, List.set_cons_succ]
      refine take_at 20 40 (.slice s1 sn sc1) _ rfl rfl (by kernel_rfl) (by kernel_rfl) (by kernel_rfl) (fun _ _ _ h => h) (Or.inl ⟨by rfl, fun v hv => by have q7 := HC7.out v hv; clear hv; go_simp⟩) hHeld ?_
      simp only [Act.put, List.setIfInBounds_toArray, List.set_cons_zero, List.set_cons_succ]
      refine take_at 21 41 (.pointer (some ⟨w.heap.size + 1, 0, none⟩)) _ rfl rfl (by kernel_rfl) (by kernel_rfl) (by kernel_rfl) (fun _ _ _ h => h) (Or.inl ⟨by rfl, fun v hv => by clear hv; go_simp⟩) hHeld ?_
      simp only [Act.put, List.setIfInBounds_toArray, List.set_cons_zero, List.set_cons_succ]
      refine take_at 22 42 (.slice (some ⟨b2, o2, none⟩) m c2) _ rfl rfl (by kernel_rfl) (by kernel_rfl) (by kernel_rfl) (fun _ _ _ h => h) (Or.inl ⟨by rfl, fun v hv => by have q0 := HK2.out v hv; clear hv; go_simp⟩) hHeld ?_
      simp only [Act.put, List.setIfInBounds_toArray, List.set_cons_zero, List.set_cons_succ]
      refine take_at 23 43 (.int .i64 (k : Int)) _ rfl rfl (by kernel_rfl) (by kernel_rfl) (by kernel_rfl) (fun _ _ _ h => h) (Or.inl ⟨by rfl, fun v hv => by clear hv; go_simp⟩) hHeld ?_
      simp only [Act.put, List.setIfInBounds_toArray, List.set_cons_zero, List.set_cons_succ]
      refine take_at 24 44 (.pointer (some ⟨b2, o2 + k * 8, none⟩)) _ rfl rfl (by kernel_rfl) (by kernel_rfl) (by kernel_rfl) (fun _ _ _ h => h) (Or.inl ⟨by rfl, fun v hv => by clear hv; go_simp⟩) hHeld ?_
      simp only [Act.put, List.setIfInBounds_toArray, List.set_cons_zero, List.set_cons_succ]
      refine take_at 25 45 (.pointer (some ⟨b2, o2 + k * 8 + 7, none⟩)) _ rfl rfl (by kernel_rfl) (by kernel_rfl) (by kernel_rfl) (fun _ _ _ h => h) (Or.inl ⟨by rfl, fun v hv => by clear hv; go_simp⟩) hHeld ?_
      simp only [Act.put, List.setIfInBounds_toArray, List.set_cons_zero, List.set_cons_succ]
      refine take_at 26 46 (.slice s2 sn sc2) _ rfl rfl (by kernel_rfl) (by kernel_rfl) (by kernel_rfl) (fun _ _ _ h => h) (Or.inl ⟨by rfl, fun v hv => by have q7 := HD7.out v hv; clear hv; go_simp⟩) hHeld ?_
      simp only [Act.put, List.setIfInBounds_toArray, List.set_cons_zero, List.set_cons_succ]
      refine wpAnyH_ready (rs := [27]) (by kernel_rfl) (by simp) (AllReadyH.cons rfl (fun K hK => ?_) AllReadyH.nil)
      rw [if_pos (by rfl)]
      refine wp_callOp 47 rfl (by clear hK; go_simp) (HSS.out _ HBw2.out) ?_
      rintro e w3 ⟨rfl, hb⟩
      have HBw3 := shB HBw2 hb
      refine ⟨_, rfl, hK.out _ _ HBw3.out (fun hHeld => ?_)⟩
      clear hK hb
      simp only [Act.put, List.setIfInBounds_toArray, List.set_cons_zero, List.set_cons_succ]
      refine take_at 28 48 (.bool false) _ rfl rfl (by kernel_rfl) (by kernel_rfl) (by kernel_rfl) (fun _ _ _ h => h) (Or.inl ⟨by rfl, fun v hv => by clear hv; go_simp⟩) hHeld ?_
      simp only [Act.put, List.setIfInBounds_toArray, List.set_cons_zero, List.set_cons_succ]
      refine take_at 29 49 (.bool false) _ rfl rfl (by kernel_rfl) (by kernel_rfl) (by kernel_rfl) (fun _ _ _ h => h) (Or.inl ⟨by rfl, fun v hv => by clear hv; go_simp⟩) hHeld ?_
      simp only [Act.put, List.setIfInBounds_toArray, List.set_cons_zero, List.set_cons_succ]
      refine wpAnyH_done (by kernel_rfl) ?_ _
      clear hHeld
      go_wp2_with fail
      go_roundw
      case rel => exact ⟨k + 1, by omega, by go_num, HBw3.out⟩
      case measure => simp [intOf]; omega
    · obtain rfl : k = m := by omega
      have ek : decide ((k : Int) < (k : Int)) = false := by simp
      have HB9 : Hid (Below w.heap.size w wr) := HBW.out.trans (HBL.out.mono HBW.out.size)
      go_wp2_with fail
      go_ret
      exact ⟨rfl, HB9.out⟩

end Go.Proofs.Ytfhlokjpdkmdjaa.book

/- Events that came in. -/
namespace Go.Proofs.Ytfhlokjpdkmdjaa.book
open Go.RowKit
set_option maxRecDepth 100000
set_option linter.unusedVariables false
set_option linter.unusedSimpArgs false

def cellsE : List Ev → List Value
  | [] => []
  | x :: l => x.cl ++ cellsE l
theorem cellsE_len (l : List Ev) : (cellsE l).length = l.length * 13 := by
  induction l with
  | nil => rfl
  | cons e l ih => rw [cellsE, List.length_append, ih, List.length_cons]; show 13 + _ = _; omega
theorem oneE (l : List Ev) : ∀ u ∈ cellsE l, u.oneCell' = true := by
  induction l with
  | nil => intro u hu; cases hu
  | cons e l ih =>
    intro u hu
    rw [cellsE] at hu
    rcases List.mem_append.1 hu with hu | hu
    · simp only [Ev.cl, List.mem_cons, List.not_mem_nil, or_false] at hu
      rcases hu with rfl | rfl | rfl | rfl | rfl | rfl | rfl | rfl | rfl | rfl | rfl | rfl | rfl <;> rfl
    · exact ih u hu
theorem cellsE_at (l : List Ev) (k j : Nat) (hk : k < l.length) (hj : j < 13) : (cellsE l)[k * 13 + j]? = (l.getD k ev0).cl[j]? := by
  induction l generalizing k with
  | nil => simp at hk
  | cons x l ih =>
    have h8 : x.cl.length = 13 := rfl
    cases k with
    | zero => rw [Nat.zero_mul, Nat.zero_add, cellsE, List.getElem?_append_left (by omega)]; rfl
    | succ k =>
      rw [show (k + 1) * 13 + j = x.cl.length + (k * 13 + j) by omega, cellsE, List.getElem?_append_right (by omega), Nat.add_sub_cancel_left]
      exact ih k (by simpa using hk)
/-- Events that came in. -/
structure ECame (w : World) (a : Option Addr) (n cap : Nat) (l : List Ev) : Prop where
  row : RowE w a n l
  nil : a = none → cap = 0
  room : n ≤ cap
  bytes : n * 104 ≤ 140737488351232
  wf : ∀ v ∈ l, wf13 v
theorem ECame.below {w w' : World} {a : Option Addr} {n cap : Nat} {l : List Ev} (h : ECame w a n cap l) (hb : Below w.heap.size w w') : ECame w' a n cap l := ⟨h.row.below hb, h.nil, h.room, h.bytes, h.wf⟩
theorem evI : (Try.prog.info? 27).map (fun i => (i.zero, i.size, i.bytes)) = some (some (.agg ev0.cl.toArray), 13, 104) := by kernel_rfl

end Go.Proofs.Ytfhlokjpdkmdjaa.book

/- Events copied. -/
namespace Go.Proofs.Ytfhlokjpdkmdjaa.book
open Go.RowKit
set_option maxRecDepth 100000
set_option linter.unusedVariables false
set_option linter.unusedSimpArgs false

def GaveE (w : World) (l : List Ev) (n : Nat) (e : Ending) (w' : World) : Prop := ∃ a cap, e = .returned (.slice a n cap) ∧ ECame w' a n cap l ∧ Below w.heap.size w w'
set_option maxHeartbeats 1000000 in
theorem events_any (a : Option Addr) (n cap : Nat) (l : List Ev) (w : World) (h : ECame w a n cap l) : Calls Try.prog 15 #[.slice a n cap] w fun e w' => GaveE w l n e w' := by
  have hlen := h.row.1
  cases a with
  | none =>
    have hc := h.nil rfl
    have h0 : n = 0 := by rcases h.row.2 with q | ⟨b, off, q, _⟩; exact q; cases q
    subst hc h0
    have happ : ∀ w : World, (Builtin.append_ #[41, 41] 41 #[.slice none 0 0, .slice none 0 0]).run Try.prog w = .ok (.slice none 0 0) w := fun w => by kernel_rfl
    have HH : Hid (ECame w none 0 0 l) := h
    clear h hlen
    go_enter Try.func15, Try.ntmps15
    go_wp2_with fail
    go_ret
    exact ⟨none, 0, rfl, HH.out, Below.refl _ _⟩
  | some x =>
    obtain ⟨i0, hi, hz0, hz1, hz2⟩ := info_parts evI
    have hby := h.bytes
    have hcell : ∀ j u, (cellsE l)[j]? = some u → w.cell? (x.add j) = some u := fun j u hu => by
      have hj : j < l.length * 13 := by
        rw [← cellsE_len]
        by_cases q : j < (cellsE l).length
        · exact q
        · rw [List.getElem?_eq_none (by omega)] at hu; cases hu
      rcases h.row.2 with q | ⟨b, off, q, _, hc⟩
      · omega
      · obtain rfl := Option.some.inj q
        have h1 := hc (j / 13) (j % 13) (by omega) (by omega)
        have h2 := cellsE_at l (j / 13) (j % 13) (by omega) (by omega)
        rw [show j / 13 * 13 + j % 13 = j by omega, hu] at h2
        rw [Addr.add_lit]
        rw [Nat.add_assoc, show j / 13 * 13 + j % 13 = j by omega] at h1
        rw [h1]; exact h2.symm
    have HWF : Hid (∀ v ∈ l, wf13 v) := h.wf
    have HLN : Hid (l.length = n) := hlen
    clear h
    go_enter Try.func15, Try.ntmps15
    go_wp2_with (first
      | (at_builtin; refine wpList_append_own w rfl _ _ 41 rfl w.heap.size 27 i0 (.agg ev0.cl.toArray) 13 104 Try.underlying41 hi hz0 hz1 hz2 rfl (by decide) _ _ _ rfl (World.ownsRow_nil _ _ _ _) x n cap (cellsE l) rfl (by rw [cellsE_len, hlen]) hcell (oneE l) (by unfold maxLen; omega) (by omega) (Nat.le_refl _) ?_)
      | fail)
    intro v' w' hown hg _
    have HW : Hid (∃ a2 c2, v' = .slice a2 n c2 ∧ ECame w' a2 n c2 l) := by
      rcases hown.2 with ⟨hv, hn⟩ | ⟨g, cap2, cur, hv, _, hc, hle, _, _, ht⟩
      · have hn0 : n = 0 := by omega
        subst hn0
        exact ⟨none, 0, hv, ⟨HLN.out, .inl rfl⟩, fun _ => rfl, Nat.le_refl _, by omega, HWF.out⟩
      · refine ⟨some ⟨g, 0, none⟩, cap2, (by first | exact hv | (rw [hv, Nat.zero_add])), ⟨HLN.out, .inr ⟨g, 0, rfl, Blk.lt hc, fun i j hi hj => ?_⟩⟩, (fun h => by cases h), by omega, hby, HWF.out⟩
        have e1 : w'.cell? ⟨g, i * 13 + j, none⟩ = cur[i * 13 + j]? := Blk.cell hc _
        rw [Nat.zero_add, e1]
        have e2 : cur.toList[i * 13 + j]? = (cellsE l)[i * 13 + j]? := by
          have := congrArg (fun q => q[i * 13 + j]?) ht
          try simp only [List.nil_append] at this
          rw [← this, List.getElem?_take_of_lt (by omega)]
        rw [Array.getElem?_toList] at e2
        rw [e2]; exact cellsE_at l i j (by rw [HLN.out]; exact hi) hj
    have HG : Hid (Below w.heap.size w w') := (Below.refl _ _).grown hg (Nat.le_refl _) (fun k hk => by cases hk)
    clear hown hg hcell
    obtain ⟨a2, c2, hv2, _⟩ := HW.out
    subst hv2
    have HW2 : Hid (ECame w' a2 n c2 l) := by
      obtain ⟨a3, c3, q, hh⟩ := HW.out
      simp only [Value.slice.injEq, true_and] at q
      obtain ⟨rfl, rfl⟩ := q
      exact hh
    go_wp2_with fail
    go_ret
    exact ⟨a2, c2, rfl, HW2.out, HG.out⟩

end Go.Proofs.Ytfhlokjpdkmdjaa.book

/- Events that are the same. -/
namespace Go.Proofs.Ytfhlokjpdkmdjaa.book
open Go.RowKit Go.Proofs.Ytfhlokjpdkmdjaa.cell
set_option maxRecDepth 100000
set_option linter.unusedVariables false
set_option linter.unusedSimpArgs false

theorem eqSame (kd me mo id te de fe pr ch un tg ow bp : Int) (wz : World) : (Op.equalIn 10000 27 (.agg #[.int .i64 kd, .int .i64 me, .int .i64 mo, .int .i64 id, .int .i64 te, .int .i64 de, .int .i64 fe, .int .i64 pr, .int .i64 ch, .int .i64 un, .int .i64 tg, .int .i64 ow, .int .i64 bp]) (.agg #[.int .i64 kd, .int .i64 me, .int .i64 mo, .int .i64 id, .int .i64 te, .int .i64 de, .int .i64 fe, .int .i64 pr, .int .i64 ch, .int .i64 un, .int .i64 tg, .int .i64 ow, .int .i64 bp])).run Try.prog wz = .ok true wz := by
  rw [show (10000 : Nat) = 9997 + 3 from rfl, eqEv]
  simp

end Go.Proofs.Ytfhlokjpdkmdjaa.book

/- Events compared. -/
namespace Go.Proofs.Ytfhlokjpdkmdjaa.book
open Go.RowKit
set_option maxRecDepth 100000
set_option linter.unusedVariables false
set_option linter.unusedSimpArgs false

theorem eqREv (r : Ev) : ∀ w : World, (Op.equalIn 10000 27 (.agg #[.int .i64 r.kd, .int .i64 r.me, .int .i64 r.mo, .int .i64 r.id, .int .i64 r.te, .int .i64 r.de, .int .i64 r.fe, .int .i64 r.pr, .int .i64 r.ch, .int .i64 r.un, .int .i64 r.tg, .int .i64 r.ow, .int .i64 r.bp]) (.agg #[.int .i64 r.kd, .int .i64 r.me, .int .i64 r.mo, .int .i64 r.id, .int .i64 r.te, .int .i64 r.de, .int .i64 r.fe, .int .i64 r.pr, .int .i64 r.ch, .int .i64 r.un, .int .i64 r.tg, .int .i64 r.ow, .int .i64 r.bp])).run Try.prog w = .ok true w := fun w => eqSame r.kd r.me r.mo r.id r.te r.de r.fe r.pr r.ch r.un r.tg r.ow r.bp w
set_option maxHeartbeats 4000000 in
theorem events_law (a b : Option Addr) (n c1 c2 : Nat) (zs : List Ev) (w : World) (h1 : RowE w a n zs) (h2 : RowE w b n zs) (hn : n ≤ 4611686018427387903) :
    Calls Try.prog 20 #[.slice a n c1, .slice b n c2] w fun e w' => e = .returned (.bool true) ∧ Below w.heap.size w w' := by
  have hne : ((n : Int) != (n : Int)) = false := by simp
  have H1 : Hid (RowE w a n zs) := h1
  have H2 : Hid (RowE w b n zs) := h2
  clear h1 h2
  go_enter Try.func20, Try.ntmps20
  go_wp2_with fail
  go_loopw [5] (fun i wr => ∃ k : Nat, k ≤ n ∧ i = .int .i64 (k : Int) ∧ Below w.heap.size w wr) (fun i _ => n - (intOf i).toNat)
  case atStart => exact ⟨0, Nat.zero_le _, rfl, Below.refl _ _⟩
  case round =>
    obtain ⟨k, hk, rfl, hbl⟩ := hrel
    have HBL : Hid (Below w.heap.size w wr) := hbl
    clear hbl
    by_cases hkn : k < n
    · have ek : decide ((k : Int) < (n : Int)) = true := by simp; omega
      obtain ⟨b1, o1, ea, l1, hc1⟩ := H1.out.2.resolve_left (by omega)
      obtain ⟨b2, o2, eb, l2, hc2⟩ := H2.out.2.resolve_left (by omega)
      subst ea
      subst eb
      have HC0 : Hid (∀ u, Below w.heap.size w u → u.cell? ⟨b1, o1 + k * 13, none⟩ = some (.int .i64 (zs.getD k ev0).kd)) := fun u hu => (hu.cell (p := ⟨b1, o1 + k * 13 + 0, none⟩) l1).trans (hc1 k 0 hkn (by decide))
      have HC1 : Hid (∀ u, Below w.heap.size w u → u.cell? ⟨b1, o1 + k * 13 + 1, none⟩ = some (.int .i64 (zs.getD k ev0).me)) := fun u hu => (hu.cell (p := ⟨b1, o1 + k * 13 + 1, none⟩) l1).trans (hc1 k 1 hkn (by decide))
      have HC2 : Hid (∀ u, Below w.heap.size w u → u.cell? ⟨b1, o1 + k * 13 + 2, none⟩ = some (.int .i64 (zs.getD k ev0).mo)) := fun u hu => (hu.cell (p := ⟨b1, o1 + k * 13 + 2, none⟩) l1).trans (hc1 k 2 hkn (by decide))
      have HC3 : Hid (∀ u, Below w.heap.size w u → u.cell? ⟨b1, o1 + k * 13 + 3, none⟩ = some (.int .i64 (zs.getD k ev0).id)) := fun u hu => (hu.cell (p := ⟨b1, o1 + k * 13 + 3, none⟩) l1).trans (hc1 k 3 hkn (by decide))
      have HC4 : Hid (∀ u, Below w.heap.size w u → u.cell? ⟨b1, o1 + k * 13 + 4, none⟩ = some (.int .i64 (zs.getD k ev0).te)) := fun u hu => (hu.cell (p := ⟨b1, o1 + k * 13 + 4, none⟩) l1).trans (hc1 k 4 hkn (by decide))
      have HC5 : Hid (∀ u, Below w.heap.size w u → u.cell? ⟨b1, o1 + k * 13 + 5, none⟩ = some (.int .i64 (zs.getD k ev0).de)) := fun u hu => (hu.cell (p := ⟨b1, o1 + k * 13 + 5, none⟩) l1).trans (hc1 k 5 hkn (by decide))
      have HC6 : Hid (∀ u, Below w.heap.size w u → u.cell? ⟨b1, o1 + k * 13 + 6, none⟩ = some (.int .i64 (zs.getD k ev0).fe)) := fun u hu => (hu.cell (p := ⟨b1, o1 + k * 13 + 6, none⟩) l1).trans (hc1 k 6 hkn (by decide))
      have HC7 : Hid (∀ u, Below w.heap.size w u → u.cell? ⟨b1, o1 + k * 13 + 7, none⟩ = some (.int .i64 (zs.getD k ev0).pr)) := fun u hu => (hu.cell (p := ⟨b1, o1 + k * 13 + 7, none⟩) l1).trans (hc1 k 7 hkn (by decide))
      have HC8 : Hid (∀ u, Below w.heap.size w u → u.cell? ⟨b1, o1 + k * 13 + 8, none⟩ = some (.int .i64 (zs.getD k ev0).ch)) := fun u hu => (hu.cell (p := ⟨b1, o1 + k * 13 + 8, none⟩) l1).trans (hc1 k 8 hkn (by decide))
      have HC9 : Hid (∀ u, Below w.heap.size w u → u.cell? ⟨b1, o1 + k * 13 + 9, none⟩ = some (.int .i64 (zs.getD k ev0).un)) := fun u hu => (hu.cell (p := ⟨b1, o1 + k * 13 + 9, none⟩) l1).trans (hc1 k 9 hkn (by decide))
      have HC10 : Hid (∀ u, Below w.heap.size w u → u.cell? ⟨b1, o1 + k * 13 + 10, none⟩ = some (.int .i64 (zs.getD k ev0).tg)) := fun u hu => (hu.cell (p := ⟨b1, o1 + k * 13 + 10, none⟩) l1).trans (hc1 k 10 hkn (by decide))
      have HC11 : Hid (∀ u, Below w.heap.size w u → u.cell? ⟨b1, o1 + k * 13 + 11, none⟩ = some (.int .i64 (zs.getD k ev0).ow)) := fun u hu => (hu.cell (p := ⟨b1, o1 + k * 13 + 11, none⟩) l1).trans (hc1 k 11 hkn (by decide))
      have HC12 : Hid (∀ u, Below w.heap.size w u → u.cell? ⟨b1, o1 + k * 13 + 12, none⟩ = some (.int .i64 (zs.getD k ev0).bp)) := fun u hu => (hu.cell (p := ⟨b1, o1 + k * 13 + 12, none⟩) l1).trans (hc1 k 12 hkn (by decide))
      have HD0 : Hid (∀ u, Below w.heap.size w u → u.cell? ⟨b2, o2 + k * 13, none⟩ = some (.int .i64 (zs.getD k ev0).kd)) := fun u hu => (hu.cell (p := ⟨b2, o2 + k * 13 + 0, none⟩) l2).trans (hc2 k 0 hkn (by decide))
      have HD1 : Hid (∀ u, Below w.heap.size w u → u.cell? ⟨b2, o2 + k * 13 + 1, none⟩ = some (.int .i64 (zs.getD k ev0).me)) := fun u hu => (hu.cell (p := ⟨b2, o2 + k * 13 + 1, none⟩) l2).trans (hc2 k 1 hkn (by decide))
      have HD2 : Hid (∀ u, Below w.heap.size w u → u.cell? ⟨b2, o2 + k * 13 + 2, none⟩ = some (.int .i64 (zs.getD k ev0).mo)) := fun u hu => (hu.cell (p := ⟨b2, o2 + k * 13 + 2, none⟩) l2).trans (hc2 k 2 hkn (by decide))
      have HD3 : Hid (∀ u, Below w.heap.size w u → u.cell? ⟨b2, o2 + k * 13 + 3, none⟩ = some (.int .i64 (zs.getD k ev0).id)) := fun u hu => (hu.cell (p := ⟨b2, o2 + k * 13 + 3, none⟩) l2).trans (hc2 k 3 hkn (by decide))
      have HD4 : Hid (∀ u, Below w.heap.size w u → u.cell? ⟨b2, o2 + k * 13 + 4, none⟩ = some (.int .i64 (zs.getD k ev0).te)) := fun u hu => (hu.cell (p := ⟨b2, o2 + k * 13 + 4, none⟩) l2).trans (hc2 k 4 hkn (by decide))
      have HD5 : Hid (∀ u, Below w.heap.size w u → u.cell? ⟨b2, o2 + k * 13 + 5, none⟩ = some (.int .i64 (zs.getD k ev0).de)) := fun u hu => (hu.cell (p := ⟨b2, o2 + k * 13 + 5, none⟩) l2).trans (hc2 k 5 hkn (by decide))
      have HD6 : Hid (∀ u, Below w.heap.size w u → u.cell? ⟨b2, o2 + k * 13 + 6, none⟩ = some (.int .i64 (zs.getD k ev0).fe)) := fun u hu => (hu.cell (p := ⟨b2, o2 + k * 13 + 6, none⟩) l2).trans (hc2 k 6 hkn (by decide))
      have HD7 : Hid (∀ u, Below w.heap.size w u → u.cell? ⟨b2, o2 + k * 13 + 7, none⟩ = some (.int .i64 (zs.getD k ev0).pr)) := fun u hu => (hu.cell (p := ⟨b2, o2 + k * 13 + 7, none⟩) l2).trans (hc2 k 7 hkn (by decide))
      have HD8 : Hid (∀ u, Below w.heap.size w u → u.cell? ⟨b2, o2 + k * 13 + 8, none⟩ = some (.int .i64 (zs.getD k ev0).ch)) := fun u hu => (hu.cell (p := ⟨b2, o2 + k * 13 + 8, none⟩) l2).trans (hc2 k 8 hkn (by decide))
      have HD9 : Hid (∀ u, Below w.heap.size w u → u.cell? ⟨b2, o2 + k * 13 + 9, none⟩ = some (.int .i64 (zs.getD k ev0).un)) := fun u hu => (hu.cell (p := ⟨b2, o2 + k * 13 + 9, none⟩) l2).trans (hc2 k 9 hkn (by decide))
      have HD10 : Hid (∀ u, Below w.heap.size w u → u.cell? ⟨b2, o2 + k * 13 + 10, none⟩ = some (.int .i64 (zs.getD k ev0).tg)) := fun u hu => (hu.cell (p := ⟨b2, o2 + k * 13 + 10, none⟩) l2).trans (hc2 k 10 hkn (by decide))
      have HD11 : Hid (∀ u, Below w.heap.size w u → u.cell? ⟨b2, o2 + k * 13 + 11, none⟩ = some (.int .i64 (zs.getD k ev0).ow)) := fun u hu => (hu.cell (p := ⟨b2, o2 + k * 13 + 11, none⟩) l2).trans (hc2 k 11 hkn (by decide))
      have HD12 : Hid (∀ u, Below w.heap.size w u → u.cell? ⟨b2, o2 + k * 13 + 12, none⟩ = some (.int .i64 (zs.getD k ev0).bp)) := fun u hu => (hu.cell (p := ⟨b2, o2 + k * 13 + 12, none⟩) l2).trans (hc2 k 12 hkn (by decide))
      have hq := eqREv (zs.getD k ev0)
      clear hc1 hc2 l1 l2
      generalize zs.getD k ev0 = r at *
      go_wp2_with fail
      refine wp_region_held_drew (S := fun v => Below w.heap.size w v) (by kernel_rfl) HBL.out.drew (fun hHeld => ?_)
      refine take_at 0 17 (.slice (some ⟨b1, o1, none⟩) n c1) _ rfl rfl (by kernel_rfl) (by kernel_rfl) (by kernel_rfl) (fun _ _ _ h => h) (Or.inl ⟨by rfl, fun v hv => by clear hv; go_simp⟩) hHeld ?_
      simp only [Act.put, List.setIfInBounds_toArray, List.set_cons_zero, List.set_cons_succ]
      refine take_at 1 18 (.int .i64 (k : Int)) _ rfl rfl (by kernel_rfl) (by kernel_rfl) (by kernel_rfl) (fun _ _ _ h => h) (Or.inl ⟨by rfl, fun v hv => by clear hv; go_simp⟩) hHeld ?_
      simp only [Act.put, List.setIfInBounds_toArray, List.set_cons_zero, List.set_cons_succ]
      refine take_at 2 19 (.pointer (some ⟨b1, o1 + k * 13, none⟩)) _ rfl rfl (by kernel_rfl) (by kernel_rfl) (by kernel_rfl) (fun _ _ _ h => h) (Or.inl ⟨by rfl, fun v hv => by clear hv; go_simp⟩) hHeld ?_
      simp only [Act.put, List.setIfInBounds_toArray, List.set_cons_zero, List.set_cons_succ]
      refine take_at 3 20 (.agg #[.int .i64 r.kd, .int .i64 r.me, .int .i64 r.mo, .int .i64 r.id, .int .i64 r.te, .int .i64 r.de, .int .i64 r.fe, .int .i64 r.pr, .int .i64 r.ch, .int .i64 r.un, .int .i64 r.tg, .int .i64 r.ow, .int .i64 r.bp]) _ rfl rfl (by kernel_rfl) (by kernel_rfl) (by kernel_rfl) (fun _ _ _ h => h) (Or.inl ⟨by rfl, fun v hv => by have q0 := HC0.out v hv; have q1 := HC1.out v hv; have q2 := HC2.out v hv; have q3 := HC3.out v hv; have q4 := HC4.out v hv; have q5 := HC5.out v hv; have q6 := HC6.out v hv; have q7 := HC7.out v hv; have q8 := HC8.out v hv; have q9 := HC9.out v hv; have q10 := HC10.out v hv; have q11 := HC11.out v hv; have q12 := HC12.out v hv; clear hv; go_simp⟩) hHeld ?_
      simp only [Act.put, List.setIfInBounds_toArray, List.set_cons_zero, List.set_cons_succ]
      refine take_at 4 21 (.slice (some ⟨b2, o2, none⟩) n c2) _ rfl rfl (by kernel_rfl) (by kernel_rfl) (by kernel_rfl) (fun _ _ _ h => h) (Or.inl ⟨by rfl, fun v hv => by clear hv; go_simp⟩) hHeld ?_
      simp only [Act.put, List.setIfInBounds_toArray, List.set_cons_zero, List.set_cons_succ]
      refine take_at 5 22 (.int .i64 (k : Int)) _ rfl rfl (by kernel_rfl) (by kernel_rfl) (by kernel_rfl) (fun _ _ _ h => h) (Or.inl ⟨by rfl, fun v hv => by clear hv; go_simp⟩) hHeld ?_
      simp only [Act.put, List.setIfInBounds_toArray, List.set_cons_zero, List.set_cons_succ]
      refine take_at 6 23 (.pointer (some ⟨b2, o2 + k * 13, none⟩)) _ rfl rfl (by kernel_rfl) (by kernel_rfl) (by kernel_rfl) (fun _ _ _ h => h) (Or.inl ⟨by rfl, fun v hv => by clear hv; go_simp⟩) hHeld ?_
      simp only [Act.put, List.setIfInBounds_toArray, List.set_cons_zero, List.set_cons_succ]
      refine take_at 7 24 (.agg #[.int .i64 r.kd, .int .i64 r.me, .int .i64 r.mo, .int .i64 r.id, .int .i64 r.te, .int .i64 r.de, .int .i64 r.fe, .int .i64 r.pr, .int .i64 r.ch, .int .i64 r.un, .int .i64 r.tg, .int .i64 r.ow, .int .i64 r.bp]) _ rfl rfl (by kernel_rfl) (by kernel_rfl) (by kernel_rfl) (fun _ _ _ h => h) (Or.inl ⟨by rfl, fun v hv => by have q0 := HD0.out v hv; have q1 := HD1.out v hv; have q2 := HD2.out v hv; have q3 := HD3.out v hv; have q4 := HD4.out v hv; have q5 := HD5.out v hv; have q6 := HD6.out v hv; have q7 := HD7.out v hv; have q8 := HD8.out v hv; have q9 := HD9.out v hv; have q10 := HD10.out v hv; have q11 := HD11.out v hv; have q12 := HD12.out v hv; clear hv; go_simp⟩) hHeld ?_
      simp only [Act.put, List.setIfInBounds_toArray, List.set_cons_zero, List.set_cons_succ]
      refine take_at 8 25 (.bool false) _ rfl rfl (by kernel_rfl) (by kernel_rfl) (by kernel_rfl) (fun _ _ _ h => h) (Or.inl ⟨by rfl, fun v hv => run_neOp 27 _ _ _ rfl #[.int .i64 r.kd, .int .i64 r.me, .int .i64 r.mo, .int .i64 r.id, .int .i64 r.te, .int .i64 r.de, .int .i64 r.fe, .int .i64 r.pr, .int .i64 r.ch, .int .i64 r.un, .int .i64 r.tg, .int .i64 r.ow, .int .i64 r.bp] #[.int .i64 r.kd, .int .i64 r.me, .int .i64 r.mo, .int .i64 r.id, .int .i64 r.te, .int .i64 r.de, .int .i64 r.fe, .int .i64 r.pr, .int .i64 r.ch, .int .i64 r.un, .int .i64 r.tg, .int .i64 r.ow, .int .i64 r.bp] rfl rfl (by kernel_rfl) true (hq _)⟩) hHeld ?_
      simp only [Act.put, List.setIfInBounds_toArray, List.set_cons_zero, List.set_cons_succ]
      refine wpAnyH_done (by kernel_rfl) ?_ _
      clear hHeld
      have HB2 : Hid (Below w.heap.size w wr.drew) := HBL.out.drew
      go_wp2_with fail
      go_roundw
      case rel => exact ⟨k + 1, by omega, by go_num, HB2.out⟩
      case measure => simp [intOf]; omega
    · obtain rfl : k = n := by omega
      go_wp2_with fail
      go_ret
      exact ⟨rfl, HBL.out⟩

end Go.Proofs.Ytfhlokjpdkmdjaa.book

/- How much a book may tell. -/
namespace Go.Proofs.Ytfhlokjpdkmdjaa.book
open Go.RowKit
set_option maxRecDepth 100000
set_option linter.unusedVariables false
set_option linter.unusedSimpArgs false

/-- Books of events are small. -/
theorem states_small {t : acc.Tm} {l : List Ev} {k : Nat} {st : Nat → List Cm} (h0 : st 0 = []) (h : ∀ i, i < k → StepIs t (st i) (l.getD i ev0) (st (i + 1)) 0) : ∀ i, i ≤ k → Small (st i) i
  | 0, _ => by rw [h0]; exact Small.zero
  | i + 1, hk => step_small (h i (by omega)) (states_small h0 h i (by omega))
theorem book_small {t : acc.Tm} {l : List Ev} {bk : List Cm} {at_ f : Int} (h : BookIs t l bk at_ f) : ∀ c ∈ bk, c.so.length ≤ 1000000 := by
  rcases h with ⟨_, _, rfl, _⟩ | ⟨_, _, rfl, _⟩ | ⟨_, q, k, st, s0, s1, s2⟩
  · intro c hc; cases hc
  · intro c hc; cases hc
  · rcases s2 with ⟨e, rfl, _⟩ | ⟨_, _, _, rfl, _⟩
    · intro c hc
      have := ((states_small s0 s1 k (Nat.le_refl _)).2 c hc).1
      omega
    · intro c hc; cases hc

end Go.Proofs.Ytfhlokjpdkmdjaa.book

/- book.Of: what is asked of it. -/
namespace Go.Proofs.Ytfhlokjpdkmdjaa.book
open Go.RowKit
set_option maxRecDepth 100000
set_option linter.unusedVariables false
set_option linter.unusedSimpArgs false

def KOf : Prop := ∀ (W : World) (t : acc.Tm) (pt : Option Addr) (lt ct : Nat) (pl : Option Addr) (n cap : Nat) (l : List Ev), acc.TCame W t pt lt ct → ECame W pl n cap l → Calls Try.prog 16 #[t.v pt lt ct, .slice pl n cap] W fun e w' => BookPost W t l e w'

end Go.Proofs.Ytfhlokjpdkmdjaa.book

/- The statement BookOfs. -/
namespace Go.Proofs.Ytfhlokjpdkmdjaa.book
open Go.RowKit
set_option maxRecDepth 100000
set_option linter.unusedVariables false
set_option linter.unusedSimpArgs false

set_option maxHeartbeats 4000000 in
theorem BookOfs_walk (K : KOf) (t : acc.Tm) (pt : Option Addr) (lt ct : Nat) (pl : Option Addr) (n cap : Nat) (l : List Ev) (w : World) (ht : acc.TCame w t pt lt ct) (hl : ECame w pl n cap l) :
    Calls Try.prog 5 #[t.v pt lt ct, .slice pl n cap] w fun e w' => e = .returned (.bool true) ∧ Below w.heap.size w w' := by
  have HEV : Hid (∀ W, Below w.heap.size w W → Calls Try.prog 15 #[.slice pl n cap] W fun e w' => GaveE W l n e w') := fun W hB => events_any pl n cap l W (hl.below hB)
  have HTA : Hid (∀ W, Below w.heap.size w W → Calls Try.prog 17 #[.agg #[.slice pt lt ct, .int .i64 t.ff, .int .i64 t.fb, .int .i64 t.db, .int .i64 t.al]] W fun e w' => ∃ p' cap', e = .returned (t.v p' lt cap') ∧ deb.Fresh w' W.heap.size p' lt cap' t.ts ∧ Below W.heap.size W w') := fun W hB => acc.terms_any t pt lt ct W (ht.below hB)
  have HK : Hid (∀ W p' c' pl' cl', acc.TCame W t p' lt c' → ECame W pl' n cl' l → Calls Try.prog 16 #[t.v p' lt c', .slice pl' n cl'] W fun e w' => BookPost W t l e w') := fun W p' c' pl' cl' h1 h2 => K W t p' lt c' pl' n cl' l h1 h2
  have HR : Hid (∀ W, Below w.heap.size w W → Calls Try.prog 18 #[.agg #[.slice pt lt ct, .int .i64 t.ff, .int .i64 t.fb, .int .i64 t.db, .int .i64 t.al], .slice pl n cap] W fun e w' => BookPost W t l e w') := fun W hB => rbook t pt lt ct pl n cap l W (ht.below hB).ts.row ht.ts.most (hl.below hB).row (by have := hl.bytes; omega)
  have HSE : Hid (∀ W a1 cap1, Below w.heap.size w W → ECame W a1 n cap1 l → Calls Try.prog 20 #[.slice a1 n cap1, .slice pl n cap] W fun e w' => e = .returned (.bool true) ∧ Below W.heap.size W w') := fun W a1 cap1 hB q => events_law a1 pl n cap1 cap l W q.row (hl.below hB).row (by have := hl.bytes; omega)
  have HWF : Hid (acc.wf4 t) := ht.wf
  obtain ⟨W0, HWW, HX0, HB0, -⟩ := sh1 w #[.slice pt lt ct, .int .i64 t.ff, .int .i64 t.fb, .int .i64 t.db, .int .i64 t.al] 40
  clear ht hl K
  unfold acc.Tm.v
  go_enter Try.func5, Try.ntmps5
  go_upto_region 1 with fail
  rw [HWW.out]
  clear HWW
  have HEV1 : Hid (Calls Try.prog 15 #[.slice pl n cap] W0 fun e w' => GaveE W0 l n e w') := HEV.out W0 HB0.out
  go_wp2_with fail
  refine HEV1.out.mono ?_
  rintro e w1 ⟨a1, cap1, rfl, he1, hb1⟩
  have HB1 := shB HB0 hb1
  have HX1 := shN HX0 hb1
  have HE1 : Hid (ECame w1 a1 n cap1 l) := he1
  clear he1 hb1 HEV HEV1 HX0 HB0
  obtain ⟨k0, k1, k2, k3, k4⟩ := scl5 HX1
  have HTA1 : Hid (Calls Try.prog 17 #[.agg #[.slice pt lt ct, .int .i64 t.ff, .int .i64 t.fb, .int .i64 t.db, .int .i64 t.al]] w1 fun e w' => ∃ p' cap', e = .returned (t.v p' lt cap') ∧ deb.Fresh w' w1.heap.size p' lt cap' t.ts ∧ Below w1.heap.size w1 w') := HTA.out w1 HB1.out
  clear HTA
  go_wp2_with fail
  refine HTA1.out.mono ?_
  rintro e w2 ⟨p', c', rfl, hf2, hb2⟩
  have HB2 := shB HB1 hb2
  have HX2 := shN HX1 hb2
  have HE2 : Hid (ECame w2 a1 n cap1 l) := HE1.out.below hb2
  have HK2 : Hid (Calls Try.prog 16 #[t.v p' lt c', .slice a1 n cap1] w2 fun e w' => BookPost w2 t l e w') := HK.out w2 p' c' a1 cap1 ⟨hf2.came, HWF.out⟩ HE2.out
  clear hf2 hb2 HK HTA1 HX1 HE1 HB1 k0 k1 k2 k3 k4
  go_wp2_with fail
  refine HK2.out.mono ?_
  rintro e w3 ⟨p1, m1, c1, xs, bk, at1, f1, rfl, hi1, hs1, hm1, hb3⟩
  have hba : Below w3.heap.size w3 (w3.alloc (.cells #[.slice p1 m1 c1] 45)) := (Below.refl _ _).alloc (Nat.le_refl _) _
  have hB3 := HB2.out.trans (hb3.mono HB2.out.size)
  have HB3 : Hid (Below w.heap.size w (w3.alloc (.cells #[.slice p1 m1 c1] 45))) := hB3.trans (hba.mono hB3.size)
  have HX3 : Hid (Blk (w3.alloc (.cells #[.slice p1 m1 c1] 45)) w.heap.size #[.slice pt lt ct, .int .i64 t.ff, .int .i64 t.fb, .int .i64 t.db, .int .i64 t.al] 40) := (HX2.out.next hb3).next hba
  have HE3 : Hid (ECame (w3.alloc (.cells #[.slice p1 m1 c1] 45)) a1 n cap1 l) := (HE2.out.below hb3).below hba
  have HS3 : Hid (Sees (w3.alloc (.cells #[.slice p1 m1 c1] 45)) p1 m1 xs bk) := hs1.below hba
  have HI1 : Hid (BookIs t l bk at1 f1) := hi1
  have HY3 : Hid (Blk (w3.alloc (.cells #[.slice p1 m1 c1] 45)) w3.heap.size #[.slice p1 m1 c1] 45) := Blk.new _ _ _
  clear hb3 hi1 hs1 hba hB3 HB2 HX2 HE2 HK2
  go_upto_region 3 with fail
  generalize (w3.alloc (.cells #[.slice p1 m1 c1] 45)) = W4 at *
  generalize w3.heap.size = g6 at *
  obtain ⟨k0, k1, k2, k3, k4⟩ := scl5 HX3
  have HR4 : Hid (Calls Try.prog 18 #[.agg #[.slice pt lt ct, .int .i64 t.ff, .int .i64 t.fb, .int .i64 t.db, .int .i64 t.al], .slice pl n cap] W4 fun e w' => BookPost W4 t l e w') := HR.out W4 HB3.out
  clear HR
  go_wp2_with fail
  refine HR4.out.mono ?_
  rintro e w5 ⟨p2, m2, c2, ys, bk2, at2, f2, rfl, hi2, hs2, hm2, hb5⟩
  obtain ⟨rfl, rfl, rfl⟩ := HI1.out.one hi2
  obtain rfl : m1 = m2 := HS3.out.row.1.symm.trans (HS3.out.len.trans (hs2.len.symm.trans hs2.row.1))
  have hba : Below w5.heap.size w5 (w5.alloc (.cells #[.slice p2 m1 c2] 45)) := (Below.refl _ _).alloc (Nat.le_refl _) _
  have hB5 := HB3.out.trans (hb5.mono HB3.out.size)
  have HB5 : Hid (Below w.heap.size w (w5.alloc (.cells #[.slice p2 m1 c2] 45))) := hB5.trans (hba.mono hB5.size)
  have HE5 : Hid (ECame (w5.alloc (.cells #[.slice p2 m1 c2] 45)) a1 n cap1 l) := (HE3.out.below hb5).below hba
  have HS5 : Hid (Sees (w5.alloc (.cells #[.slice p2 m1 c2] 45)) p1 m1 xs bk) := (HS3.out.below hb5).below hba
  have HT5 : Hid (Sees (w5.alloc (.cells #[.slice p2 m1 c2] 45)) p2 m1 ys bk) := hs2.below hba
  have HY5 : Hid (Blk (w5.alloc (.cells #[.slice p2 m1 c2] 45)) g6 #[.slice p1 m1 c1] 45) := (HY3.out.next hb5).next hba
  have HZ5 : Hid (Blk (w5.alloc (.cells #[.slice p2 m1 c2] 45)) w5.heap.size #[.slice p2 m1 c2] 45) := Blk.new _ _ _
  clear hb5 hi2 hs2 hba hB5 HB3 HX3 HE3 HS3 HY3 HR4 k0 k1 k2 k3 k4
  go_upto_region 4 with fail
  generalize (w5.alloc (.cells #[.slice p2 m1 c2] 45)) = W6 at *
  generalize w5.heap.size = g9 at *
  have ka : W6.cell? ⟨g6, 0, none⟩ = some (.slice p1 m1 c1) := HY5.out.cell 0
  have kb : W6.cell? ⟨g9, 0, none⟩ = some (.slice p2 m1 c2) := HZ5.out.cell 0
  have HBK : Hid (Calls Try.prog 19 #[.agg #[.slice p1 m1 c1], .agg #[.slice p2 m1 c2]] W6 fun e w' => e = .returned (.bool true) ∧ Below W6.heap.size W6 w') := book_law p1 p2 m1 c1 c2 xs ys bk W6 HS5.out HT5.out (by omega) (book_small HI1.out)
  have ex : (at1 == at1) = true := by simp
  have ef : (f1 == f1) = true := by simp
  clear HS5 HT5 HI1 HY5 HZ5
  go_wp2_with fail
  refine HBK.out.mono ?_
  rintro e w7 ⟨rfl, hb7⟩
  have HB7 := shB HB5 hb7
  have HS7 : Hid (Calls Try.prog 20 #[.slice a1 n cap1, .slice pl n cap] w7 fun e w' => e = .returned (.bool true) ∧ Below w7.heap.size w7 w') := HSE.out w7 a1 cap1 HB7.out (HE5.out.below hb7)
  clear hb7 HE5 HB5 HBK HSE ka kb
  go_wp2_with fail
  refine HS7.out.mono ?_
  rintro e w8 ⟨rfl, hb8⟩
  have HB8 := shB HB7 hb8
  clear hb8
  go_wp2_with fail
  go_ret
  exact ⟨rfl, HB8.out⟩

end Go.Proofs.Ytfhlokjpdkmdjaa.book

/- Lies a number within its bounds, in the program. -/
namespace Go.Proofs.Ytfhlokjpdkmdjaa.acc
open Go.Proofs.Ytfhlokjpdkmdjaa.tar (Du du0 Came RowD Ld PairT)
open Go.RowKit
set_option maxRecDepth 100000
set_option linter.unusedVariables false
set_option linter.unusedSimpArgs false

theorem awithin (lo hi n : Int) (w : World) : Calls Try.prog 49 #[.int .i64 lo, .int .i64 hi, .int .i64 n] w fun e w' => e = .returned (.bool (decide (lo ≤ n ∧ n ≤ hi))) ∧ w' = w := by
  by_cases h1 : lo ≤ n
  · by_cases h2 : n ≤ hi
    · have h3 : decide (lo ≤ n ∧ n ≤ hi) = true := by simp; omega
      rw [h3]; clear h3
      go_enter Try.func49, Try.ntmps49
      go_wp2
      go_ret
      exact ⟨rfl, rfl⟩
    · have h3 : decide (lo ≤ n ∧ n ≤ hi) = false := by simp; omega
      have h4 : decide (n ≤ hi) = false := by simp; omega
      rw [h3]; clear h3 h2
      go_enter Try.func49, Try.ntmps49
      go_wp2
      go_ret
      exact ⟨rfl, rfl⟩
  · have h3 : decide (lo ≤ n ∧ n ≤ hi) = false := by simp; omega
    have h4 : decide (lo ≤ n) = false := by simp; omega
    rw [h3]; clear h3 h1
    go_enter Try.func49, Try.ntmps49
    go_wp2
    go_ret
    exact ⟨rfl, rfl⟩

end Go.Proofs.Ytfhlokjpdkmdjaa.acc

/- account.Check: what is asked of it. -/
namespace Go.Proofs.Ytfhlokjpdkmdjaa.acc
open Go.Proofs.Ytfhlokjpdkmdjaa.tar (Du)
open Go.RowKit

def KcCheck : Prop := ∀ (W : World) (t : Tm) (pt : Option Addr) (lt ct : Nat), TCame W t pt lt ct → Calls Try.prog 32 #[t.v pt lt ct] W fun e w' => tar.ErrPost W (TFault t) e w'

end Go.Proofs.Ytfhlokjpdkmdjaa.acc

/- tariff.Check: what is asked of it. -/
namespace Go.Proofs.Ytfhlokjpdkmdjaa.tar
open Go.RowKit

def KtCheck : Prop := ∀ (W : World) (a : Option Addr) (len cap : Nat) (ls : List Du), Came W a len cap ls → Calls Try.prog 48 #[.slice a len cap] W fun e w' => ErrPost W (FaultIs ls) e w'

end Go.Proofs.Ytfhlokjpdkmdjaa.tar

/- Do the steps rise, in the program. -/
namespace Go.Proofs.Ytfhlokjpdkmdjaa.tar
open Go.RowKit
set_option maxRecDepth 100000
set_option linter.unusedVariables false
set_option linter.unusedSimpArgs false

open Classical in
set_option maxHeartbeats 2000000 in
theorem prises (b off k cap : Nat) (ls : List Du) (w1 : World) (hs1 : 1 ≤ k) (hs2 : k ≤ 8) (hlen : ls.length = k) (hbl : b < w1.heap.size) (hc : ∀ i, i < k → w1.cell? ⟨b, off + i * 2, none⟩ = some (.int .i64 (ls.getD i du0).a) ∧ w1.cell? ⟨b, off + i * 2 + 1, none⟩ = some (.int .i64 (ls.getD i du0).b)) : Calls Try.prog 64 #[.slice (some ⟨b, off, none⟩) k cap] w1 fun e w' => e = .returned (.bool (decide (Rises ls))) ∧ Below w1.heap.size w1 w' := by
  have HC : Hid (∀ i, i < k → w1.cell? ⟨b, off + i * 2, none⟩ = some (.int .i64 (ls.getD i du0).a) ∧ w1.cell? ⟨b, off + i * 2 + 1, none⟩ = some (.int .i64 (ls.getD i du0).b)) := hc
  have HLEN : Hid (ls.length = k) := hlen
  have hnm : k ≤ 9223372036854775807 := by omega
  clear hc hlen
  go_enter Try.func64, Try.ntmps64
  go_wp2_with fail
  go_loopw [3] (fun x wr2 => ∃ j : Nat, 1 ≤ j ∧ j ≤ k ∧ x = .int .i64 (j : Int) ∧ (∀ i, 1 ≤ i → i < j → (ls.getD (i - 1) du0).a < (ls.getD i du0).a) ∧ Below w1.heap.size w1 wr2) (fun x _ => k - (intOf x).toNat)
  case atStart => exact ⟨1, Nat.le_refl _, hs1, rfl, fun i h1 h2 => absurd h2 (by omega), Below.refl _ _⟩
  case round =>
    obtain ⟨j, hj1, hj, rfl, hf, hb⟩ := hrel
    have HF : Hid (∀ i, 1 ≤ i → i < j → (ls.getD (i - 1) du0).a < (ls.getD i du0).a) := hf
    have HB : Hid (Below w1.heap.size w1 wr) := hb
    by_cases hlt2 : j < k
    · have hdl2 : decide ((j : Int) < (k : Int)) = true := by simp; omega
      have c0 : wr.cell? ⟨b, off + j * 2, none⟩ = some (.int .i64 (ls.getD j du0).a) := (hb.cell (p := ⟨b, off + j * 2, none⟩) hbl).trans (HC.out j hlt2).1
      have c1 : wr.cell? ⟨b, off + (j - 1) * 2, none⟩ = some (.int .i64 (ls.getD (j - 1) du0).a) := (hb.cell (p := ⟨b, off + (j - 1) * 2, none⟩) hbl).trans (HC.out (j - 1) (by omega)).1
      have hs2' : wr.drew.cell? ⟨b, off + j * 2, none⟩ = some (.int .i64 (ls.getD j du0).a) := c0
      have HBD : Hid (Below w1.heap.size w1 wr.drew) := hb.drew
      have hsub : ((j : Int) - 1) = ((j - 1 : Nat) : Int) := by omega
      have hjm : j - 1 < k := by omega
      clear hb hf
      by_cases hle : (ls.getD j du0).a ≤ (ls.getD (j - 1) du0).a
      · have hde : decide ((ls.getD j du0).a ≤ (ls.getD (j - 1) du0).a) = true := decide_eq_true hle
        have HN : Hid (decide (Rises ls) = false) := decide_eq_false fun h => by
          have := h j hj1 (by rw [HLEN.out]; exact hlt2); omega
        clear hle
        generalize (ls.getD j du0).a = x at *
        generalize (ls.getD (j - 1) du0).a = y at *
        generalize j - 1 = j1 at *
        go_wp2_with fail
        go_region
        all_goals go_wp2_with fail
        go_ret
        exact ⟨by rw [HN.out]; rfl, HBD.out⟩
      · have hde : decide ((ls.getD j du0).a ≤ (ls.getD (j - 1) du0).a) = false := decide_eq_false hle
        have HF2 : Hid (∀ i, 1 ≤ i → i < j + 1 → (ls.getD (i - 1) du0).a < (ls.getD i du0).a) := fun i h1 h2 => by
          by_cases e : i = j
          · subst e; omega
          · exact HF.out i h1 (by omega)
        clear hle
        generalize (ls.getD j du0).a = x at *
        generalize (ls.getD (j - 1) du0).a = y at *
        generalize j - 1 = j1 at *
        go_wp2_with fail
        go_region
        all_goals go_wp2_with fail
        go_roundw
        case rel => exact ⟨j + 1, by omega, by omega, by go_num, HF2.out, HBD.out⟩
        case measure => simp [intOf]; omega
    · obtain rfl : j = k := by omega
      have hdl2 : decide ((j : Int) < (j : Int)) = false := by simp
      have HR : Hid (decide (Rises ls) = true) := decide_eq_true fun i h1 h2 => HF.out i h1 (by rw [HLEN.out] at h2; exact h2)
      clear hb hf
      go_wp2_with fail
      go_ret
      exact ⟨by rw [HR.out]; rfl, HB.out⟩

end Go.Proofs.Ytfhlokjpdkmdjaa.tar

/- Lies a number within its bounds, in the program. -/
namespace Go.Proofs.Ytfhlokjpdkmdjaa.tar
open Go.RowKit

theorem pwithin (lo hi n : Int) (w : World) : Calls Try.prog 63 #[.int .i64 lo, .int .i64 hi, .int .i64 n] w fun e w' => e = .returned (.bool (decide (lo ≤ n ∧ n ≤ hi))) ∧ w' = w := by
  by_cases h1 : lo ≤ n
  · by_cases h2 : n ≤ hi
    · have h3 : decide (lo ≤ n ∧ n ≤ hi) = true := by simp; omega
      rw [h3]; clear h3
      go_enter Try.func63, Try.ntmps63
      go_wp2
      go_ret
      exact ⟨rfl, rfl⟩
    · have h3 : decide (lo ≤ n ∧ n ≤ hi) = false := by simp; omega
      have h4 : decide (n ≤ hi) = false := by simp; omega
      rw [h3]; clear h3 h2
      go_enter Try.func63, Try.ntmps63
      go_wp2
      go_ret
      exact ⟨rfl, rfl⟩
  · have h3 : decide (lo ≤ n ∧ n ≤ hi) = false := by simp; omega
    have h4 : decide (lo ≤ n) = false := by simp; omega
    rw [h3]; clear h3 h1
    go_enter Try.func63, Try.ntmps63
    go_wp2
    go_ret
    exact ⟨rfl, rfl⟩

end Go.Proofs.Ytfhlokjpdkmdjaa.tar

/- What is wrong with a tariff, in the program. -/
namespace Go.Proofs.Ytfhlokjpdkmdjaa.tar
open Go.RowKit
set_option maxRecDepth 100000
set_option linter.unusedVariables false
set_option linter.unusedSimpArgs false

open Classical in
set_option maxHeartbeats 2000000 in
theorem kcheck : KtCheck := by
  intro w a n cap ls hcame
  have hr := hcame.row
  have hn := hcame.most
  clear hcame
  have hlen := hr.1
  have HIU : Hid (∀ x W, Calls Try.prog 63 #[.int .i64 1, .int .i64 10000000, .int .i64 x] W fun e w' => e = .returned (.bool (decide (1 ≤ x ∧ x ≤ 10000000))) ∧ w' = W) := fun x W => pwithin 1 10000000 x W
  have HIP : Hid (∀ x W, Calls Try.prog 63 #[.int .i64 1, .int .i64 100000, .int .i64 x] W fun e w' => e = .returned (.bool (decide (1 ≤ x ∧ x ≤ 100000))) ∧ w' = W) := fun x W => pwithin 1 100000 x W
  by_cases hs : 1 ≤ n ∧ n ≤ 8
  · have HS : Hid (Sized ls) := by show 1 ≤ ls.length ∧ ls.length ≤ 8; rw [hlen]; exact hs
    obtain ⟨hs1, hs2⟩ := hs
    have hd0 : ((n : Int) == 0) = false := by simp; omega
    have hd8 : decide ((8 : Int) < (n : Int)) = false := by simp; omega
    obtain ⟨b, off, rfl, hbl, hc⟩ := hr.at hs1
    have HC : Hid (∀ i, i < n → w.cell? ⟨b, off + i * 2, none⟩ = some (.int .i64 (ls.getD i du0).a) ∧ w.cell? ⟨b, off + i * 2 + 1, none⟩ = some (.int .i64 (ls.getD i du0).b)) := hc
    have HLEN : Hid (ls.length = n) := hlen
    have HRS : Hid (∀ W, Below w.heap.size w W → Calls Try.prog 64 #[.slice (some ⟨b, off, none⟩) n cap] W fun e w' => e = .returned (.bool (decide (Rises ls))) ∧ Below W.heap.size W w') := fun W hW => prises b off n cap ls W hs1 hs2 hlen (Nat.lt_of_lt_of_le hbl hW.size) (fun i hi => ⟨(hW.cell (p := ⟨b, off + i * 2, none⟩) hbl).trans (hc i hi).1, (hW.cell (p := ⟨b, off + i * 2 + 1, none⟩) hbl).trans (hc i hi).2⟩)
    have hnm : n ≤ 9223372036854775807 := by omega
    clear hc hr hn hlen
    go_enter Try.func48, Try.ntmps48
    go_wp2_with fail
    go_loopw [15] (fun x wr => ∃ k : Nat, k ≤ n ∧ x = .int .i64 (k : Int) ∧ (∀ i, i < k → (1 ≤ (ls.getD i du0).a ∧ (ls.getD i du0).a ≤ 10000000) ∧ 1 ≤ (ls.getD i du0).b ∧ (ls.getD i du0).b ≤ 100000) ∧ Below w.heap.size w wr) (fun x _ => n - (intOf x).toNat)
    case atStart => exact ⟨0, Nat.zero_le _, rfl, fun i hi => absurd hi (Nat.not_lt_zero _), Below.refl _ _⟩
    case round =>
      obtain ⟨k, hk, rfl, hf, hb⟩ := hrel
      have HF : Hid (∀ i, i < k → (1 ≤ (ls.getD i du0).a ∧ (ls.getD i du0).a ≤ 10000000) ∧ 1 ≤ (ls.getD i du0).b ∧ (ls.getD i du0).b ≤ 100000) := hf
      have HB : Hid (Below w.heap.size w wr) := hb
      clear hf
      by_cases hlt : k < n
      · have hdl : decide ((k : Int) < (n : Int)) = true := by simp; omega
        have c0 : wr.cell? ⟨b, off + k * 2, none⟩ = some (.int .i64 (ls.getD k du0).a) := (hb.cell (p := ⟨b, off + k * 2, none⟩) hbl).trans (HC.out k hlt).1
        have c1 : wr.cell? ⟨b, off + k * 2 + 1, none⟩ = some (.int .i64 (ls.getD k du0).b) := (hb.cell (p := ⟨b, off + k * 2 + 1, none⟩) hbl).trans (HC.out k hlt).2
        have HBA : Hid (∀ o, Below w.heap.size w (wr.alloc o)) := fun o => hb.alloc hb.size o
        clear hb
        have HU := HIU.out (ls.getD k du0).a
        have HP := HIP.out (ls.getD k du0).b
        by_cases hu : 1 ≤ (ls.getD k du0).a ∧ (ls.getD k du0).a ≤ 10000000
        · rw [decide_eq_true hu] at HU
          by_cases hp : 1 ≤ (ls.getD k du0).b ∧ (ls.getD k du0).b ≤ 100000
          · rw [decide_eq_true hp] at HP
            have HF2 : Hid (∀ i, i < k + 1 → (1 ≤ (ls.getD i du0).a ∧ (ls.getD i du0).a ≤ 10000000) ∧ 1 ≤ (ls.getD i du0).b ∧ (ls.getD i du0).b ≤ 100000) := fun i hi => by
              by_cases e : i = k
              · subst e; exact ⟨hu, hp⟩
              · exact HF.out i (by omega)
            have HU2 : Hid (∀ W, Calls Try.prog 63 #[.int .i64 1, .int .i64 10000000, .int .i64 (ls.getD k du0).a] W fun e w' => e = .returned (.bool true) ∧ w' = W) := HU
            have HP2 : Hid (∀ W, Calls Try.prog 63 #[.int .i64 1, .int .i64 100000, .int .i64 (ls.getD k du0).b] W fun e w' => e = .returned (.bool true) ∧ w' = W) := HP
            clear HU HP hu hp HF
            generalize (ls.getD k du0).a = x at *
            generalize (ls.getD k du0).b = y at *
            go_wp2_with fail
            refine (HU2.out _).mono ?_
            rintro e w2 ⟨rfl, hw2⟩
            subst w2
            go_wp2_with fail
            refine (HP2.out _).mono ?_
            rintro e w2 ⟨rfl, hw2⟩
            subst w2
            go_wp2_with fail
            go_roundw
            case rel => exact ⟨k + 1, by omega, by go_num, HF2.out, HBA.out _⟩
            case measure => simp [intOf]; omega
          · rw [decide_eq_false hp] at HP
            have HN : Hid (¬ Fits ls) := fun h => hp (h k (by rw [HLEN.out]; exact hlt)).2
            have HU2 : Hid (∀ W, Calls Try.prog 63 #[.int .i64 1, .int .i64 10000000, .int .i64 (ls.getD k du0).a] W fun e w' => e = .returned (.bool true) ∧ w' = W) := HU
            have HP2 : Hid (∀ W, Calls Try.prog 63 #[.int .i64 1, .int .i64 100000, .int .i64 (ls.getD k du0).b] W fun e w' => e = .returned (.bool false) ∧ w' = W) := HP
            clear HU HP hu hp HF
            generalize (ls.getD k du0).a = x at *
            generalize (ls.getD k du0).b = y at *
            go_wp2_with fail
            refine (HU2.out _).mono ?_
            rintro e w2 ⟨rfl, hw2⟩
            subst w2
            go_wp2_with fail
            refine (HP2.out _).mono ?_
            rintro e w2 ⟨rfl, hw2⟩
            subst w2
            go_wp2_with fail
            go_ret
            exact ⟨_, rfl, .inr (.inl ⟨HS.out, HN.out, rfl⟩), HBA.out _⟩
        · rw [decide_eq_false hu] at HU
          have HN : Hid (¬ Fits ls) := fun h => hu (h k (by rw [HLEN.out]; exact hlt)).1
          have HU2 : Hid (∀ W, Calls Try.prog 63 #[.int .i64 1, .int .i64 10000000, .int .i64 (ls.getD k du0).a] W fun e w' => e = .returned (.bool false) ∧ w' = W) := HU
          clear HU HP hu HF
          generalize (ls.getD k du0).a = x at *
          generalize (ls.getD k du0).b = y at *
          go_wp2_with fail
          refine (HU2.out _).mono ?_
          rintro e w2 ⟨rfl, hw2⟩
          subst w2
          go_wp2_with fail
          go_ret
          exact ⟨_, rfl, .inr (.inl ⟨HS.out, HN.out, rfl⟩), HBA.out _⟩
      · obtain rfl : k = n := by omega
        have hdl : decide ((k : Int) < (k : Int)) = false := by simp
        have HFT : Hid (Fits ls) := fun i hi => HF.out i (by rw [HLEN.out] at hi; exact hi)
        have HR := HRS.out wr hb
        clear HF HIU HIP HRS hb
        have HE : Hid (Ends ls ↔ (ls.getD (k - 1) du0).a = 10000000) := by show Ends ls ↔ _; unfold Ends; rw [HLEN.out]
        have HC1 : Hid (∀ W, Below wr.heap.size wr W → W.cell? ⟨b, off + (k - 1) * 2, none⟩ = some (.int .i64 (ls.getD (k - 1) du0).a)) := fun W hW => ((HB.out.trans (hW.mono HB.out.size)).cell (p := ⟨b, off + (k - 1) * 2, none⟩) hbl).trans (HC.out (k - 1) (by omega)).1
        have hsub : ((k : Int) - 1) = ((k - 1 : Nat) : Int) := by omega
        have hjm : k - 1 < k := by omega
        by_cases hri : Rises ls
        · rw [decide_eq_true hri] at HR
          have HR2 : Hid (Calls Try.prog 64 #[.slice (some ⟨b, off, none⟩) k cap] wr fun e w' => e = .returned (.bool true) ∧ Below wr.heap.size wr w') := HR
          have HRI : Hid (Rises ls) := hri
          clear HR hri
          go_wp2_with fail
          refine HR2.out.mono ?_
          rintro e w2 ⟨rfl, hw2⟩
          have c1 := HC1.out w2 hw2
          have HB2 := shB HB hw2
          clear hw2 HR2
          by_cases he : (ls.getD (k - 1) du0).a = 10000000
          · have HRT : Hid (Right ls) := ⟨HS.out, HFT.out, HRI.out, HE.out.2 he⟩
            have hne : ((ls.getD (k - 1) du0).a != 10000000) = false := by rw [he]; rfl
            clear he HE HC1
            generalize (ls.getD (k - 1) du0).a = y at *
            generalize k - 1 = j1 at *
            go_wp2_with fail
            go_ret
            exact ⟨_, rfl, .inr (.inr (.inr ⟨HRT.out, rfl⟩)), HB2.out⟩
          · have HN : Hid (¬ (Rises ls ∧ Ends ls)) := fun h => he (HE.out.1 h.2)
            have hne : ((ls.getD (k - 1) du0).a != 10000000) = true := by simpa using he
            clear he HE HC1
            generalize (ls.getD (k - 1) du0).a = y at *
            generalize k - 1 = j1 at *
            go_wp2_with fail
            go_ret
            exact ⟨_, rfl, .inr (.inr (.inl ⟨HS.out, HFT.out, HN.out, rfl⟩)), HB2.out⟩
        · rw [decide_eq_false hri] at HR
          have HR2 : Hid (Calls Try.prog 64 #[.slice (some ⟨b, off, none⟩) k cap] wr fun e w' => e = .returned (.bool false) ∧ Below wr.heap.size wr w') := HR
          have HN : Hid (¬ (Rises ls ∧ Ends ls)) := fun h => hri h.1
          clear HR hri
          go_wp2_with fail
          refine HR2.out.mono ?_
          rintro e w2 ⟨rfl, hw2⟩
          have HB2 := shB HB hw2
          clear hw2 HR2 HE HC1
          generalize k - 1 = j1 at *
          go_wp2_with fail
          go_ret
          exact ⟨_, rfl, .inr (.inr (.inl ⟨HS.out, HFT.out, HN.out, rfl⟩)), HB2.out⟩
  · have HS : Hid (¬ Sized ls) := by show ¬ (1 ≤ ls.length ∧ ls.length ≤ 8); rw [hlen]; exact hs
    have hnm : n ≤ 9223372036854775807 := by unfold maxLen at hn; omega
    clear hr hlen hn
    by_cases h0 : n = 0
    · subst h0
      clear hs hnm
      go_enter Try.func48, Try.ntmps48
      go_wp2_with fail
      go_ret
      exact ⟨_, rfl, .inl ⟨HS.out, rfl⟩, Below.refl _ _⟩
    · have hd0 : ((n : Int) == 0) = false := by simp; omega
      have hd8 : decide ((8 : Int) < (n : Int)) = true := by simp; omega
      clear hs h0
      go_enter Try.func48, Try.ntmps48
      go_wp2_with fail
      go_ret
      exact ⟨_, rfl, .inl ⟨HS.out, rfl⟩, Below.refl _ _⟩

end Go.Proofs.Ytfhlokjpdkmdjaa.tar

/- account.Check. -/
namespace Go.Proofs.Ytfhlokjpdkmdjaa.acc
open Go.Proofs.Ytfhlokjpdkmdjaa.tar (Du du0 Came RowD Ld PairT)
open Go.RowKit
set_option maxRecDepth 100000
set_option linter.unusedVariables false
set_option linter.unusedSimpArgs false

set_option maxHeartbeats 4000000 in
theorem kcheck : KcCheck := by
  intro w t pt lt ct hc
  have h := hc.ts
  unfold Tm.v
  have HI0 : Hid (∀ W, Calls Try.prog 49 #[.int .i64 0, .int .i64 100000, .int .i64 t.ff] W fun e w' => e = .returned (.bool (decide (0 ≤ t.ff ∧ t.ff ≤ 100000))) ∧ w' = W) := fun W => awithin 0 100000 t.ff W
  have HI1 : Hid (∀ W, Calls Try.prog 49 #[.int .i64 0, .int .i64 10000, .int .i64 t.fb] W fun e w' => e = .returned (.bool (decide (0 ≤ t.fb ∧ t.fb ≤ 10000))) ∧ w' = W) := fun W => awithin 0 10000 t.fb W
  have HI2 : Hid (∀ W, Calls Try.prog 49 #[.int .i64 0, .int .i64 10000, .int .i64 t.db] W fun e w' => e = .returned (.bool (decide (0 ≤ t.db ∧ t.db ≤ 10000))) ∧ w' = W) := fun W => awithin 0 10000 t.db W
  have HI3 : Hid (∀ W, Calls Try.prog 49 #[.int .i64 0, .int .i64 2097151, .int .i64 t.al] W fun e w' => e = .returned (.bool (decide (0 ≤ t.al ∧ t.al ≤ 2097151))) ∧ w' = W) := fun W => awithin 0 2097151 t.al W
  obtain ⟨WW, HWW, HBK, HBA, -⟩ := sh1 w #[.slice pt lt ct, .int .i64 t.ff, .int .i64 t.fb, .int .i64 t.db, .int .i64 t.al] 40
  have HTO : Hid (Calls Try.prog 48 #[.slice pt lt ct] WW fun e w' => tar.ErrPost WW (tar.FaultIs t.ts) e w') := tar.kcheck _ pt lt ct t.ts (h.below HBA.out)
  have c0 : WW.cell? ⟨w.heap.size, 0, none⟩ = some (.slice pt lt ct) := HBK.out.cell 0
  clear h hc
  go_enter Try.func32, Try.ntmps32
  go_upto_region 1 with fail
  rw [HWW.out]
  clear HWW
  go_wp2_with fail
  refine HTO.out.mono ?_
  rintro e w1 ⟨f, rfl, hf, hb1⟩
  have HB1 := shB HBA hb1
  have HK1 := shN HBK hb1
  have HF : Hid (tar.FaultIs t.ts f) := hf
  clear hf hb1 HTO HBA HBK c0
  obtain ⟨c0, c1, c2, c3, c4⟩ := scl5 HK1
  by_cases h0 : f = 0
  · have HR : Hid (tar.Right t.ts) := HF.out.ok.1 h0
    subst h0
    by_cases g0 : 0 ≤ t.ff ∧ t.ff ≤ 100000
    · rw [decide_eq_true g0] at HI0
      go_wp2_with fail
      refine (HI0.out _).mono ?_
      rintro e w2 ⟨rfl, hw2⟩
      subst w2
      by_cases g1 : 0 ≤ t.fb ∧ t.fb ≤ 10000
      · rw [decide_eq_true g1] at HI1
        go_wp2_with fail
        refine (HI1.out _).mono ?_
        rintro e w2 ⟨rfl, hw2⟩
        subst w2
        by_cases g2 : 0 ≤ t.db ∧ t.db ≤ 10000
        · rw [decide_eq_true g2] at HI2
          go_wp2_with fail
          refine (HI2.out _).mono ?_
          rintro e w2 ⟨rfl, hw2⟩
          subst w2
          by_cases g3 : 0 ≤ t.al ∧ t.al ≤ 2097151
          · rw [decide_eq_true g3] at HI3
            go_wp2_with fail
            refine (HI3.out _).mono ?_
            rintro e w2 ⟨rfl, hw2⟩
            subst w2
            have HV : Hid (TFault t 0) := .inr (.inr ⟨⟨HR.out, g0, g1, g2, g3⟩, rfl⟩)
            clear g0 g1 g2 g3
            go_wp2_with fail
            go_ret
            exact ⟨0, rfl, HV.out, HB1.out⟩
          · rw [decide_eq_false g3] at HI3
            have HV : Hid (TFault t 2) := .inr (.inl ⟨HR.out, fun h => g3 h.2.2.2, rfl⟩)
            clear g3
            go_wp2_with fail
            refine (HI3.out _).mono ?_
            rintro e w2 ⟨rfl, hw2⟩
            subst w2
            go_wp2_with fail
            all_goals first
              | (rename_i q1 q2; exact absurd q1 (by simp [undef]))
              | (go_ret; exact ⟨2, rfl, HV.out, HB1.out⟩)
        · rw [decide_eq_false g2] at HI2
          have HV : Hid (TFault t 2) := .inr (.inl ⟨HR.out, fun h => g2 h.2.2.1, rfl⟩)
          clear g2
          go_wp2_with fail
          refine (HI2.out _).mono ?_
          rintro e w2 ⟨rfl, hw2⟩
          subst w2
          go_wp2_with fail
          all_goals first
            | (rename_i q1 q2; exact absurd q1 (by simp [undef]))
            | (go_ret; exact ⟨2, rfl, HV.out, HB1.out⟩)
      · rw [decide_eq_false g1] at HI1
        have HV : Hid (TFault t 2) := .inr (.inl ⟨HR.out, fun h => g1 h.2.1, rfl⟩)
        clear g1
        go_wp2_with fail
        refine (HI1.out _).mono ?_
        rintro e w2 ⟨rfl, hw2⟩
        subst w2
        go_wp2_with fail
        all_goals first
          | (rename_i q1 q2; exact absurd q1 (by simp [undef]))
          | (go_ret; exact ⟨2, rfl, HV.out, HB1.out⟩)
    · rw [decide_eq_false g0] at HI0
      have HV : Hid (TFault t 2) := .inr (.inl ⟨HR.out, fun h => g0 h.1, rfl⟩)
      clear g0
      go_wp2_with fail
      refine (HI0.out _).mono ?_
      rintro e w2 ⟨rfl, hw2⟩
      subst w2
      go_wp2_with fail
      all_goals first
        | (rename_i q1 q2; exact absurd q1 (by simp [undef]))
        | (go_ret; exact ⟨2, rfl, HV.out, HB1.out⟩)
  · have d0 : (f != 0) = true := by simpa using h0
    have HV : Hid (TFault t f) := .inl ⟨fun h => h0 (HF.out.ok.2 h), HF.out⟩
    clear h0
    go_wp2_with fail
    go_ret
    exact ⟨f, rfl, HV.out, HB1.out⟩

end Go.Proofs.Ytfhlokjpdkmdjaa.acc

/- An account at work: it lies in a block of its own. -/
namespace Go.Proofs.Ytfhlokjpdkmdjaa.acc
open Go.Proofs.Ytfhlokjpdkmdjaa.tar (Du du0 Came RowD Ld PairT)
open Go.RowKit
set_option maxRecDepth 100000
set_option linter.unusedVariables false
set_option linter.unusedSimpArgs false

/-- Nothing that was there is changed but the block g. -/
structure Chg (w W : World) (g : Nat) : Prop where
  os : W.os = w.os
  tape : W.tape = w.tape
  output : W.output = w.output
  size : w.heap.size ≤ W.heap.size
  oth : ∀ k, k < w.heap.size → k ≠ g → W.heap[k]? = w.heap[k]?
theorem Chg.refl (w : World) (g : Nat) : Chg w w g := ⟨rfl, rfl, rfl, Nat.le_refl _, fun _ _ _ => rfl⟩
theorem Chg.trans {w W V : World} {g : Nat} (h : Chg w W g) (h' : Chg W V g) : Chg w V g :=
  ⟨h'.os.trans h.os, h'.tape.trans h.tape, h'.output.trans h.output, Nat.le_trans h.size h'.size, fun k hk hne => (h'.oth k (Nat.lt_of_lt_of_le hk h.size) hne).trans (h.oth k hk hne)⟩
theorem Chg.of {w W : World} {g : Nat} (hb : Below w.heap.size w W) : Chg w W g := ⟨hb.os, hb.tape, hb.output, hb.size, fun k hk _ => hb.block k hk⟩
theorem Chg.upd {w W : World} {g : Nat} {cs : Array Value} {t : TypeId} (hu : Upd w W g cs t) : Chg w W g := by
  have h := hu.bel 0 w (Nat.zero_le _) (Below.refl _ _)
  exact ⟨h.os, h.tape, h.output, h.size, fun k _ hne => hu.oth k hne⟩
theorem Chg.keep {w W : World} {g G : Nat} {cs : Array Value} {t : TypeId} (h : Chg w W g) (hb : Blk w G cs t) (hne : G ≠ g) : Blk W G cs t := by
  have hl := hb.lt
  unfold Blk at *
  rw [h.oth G hl hne]; exact hb
theorem Chg.bel {w W : World} {g : Nat} (h : Chg w W g) (hl : g ≤ w.heap.size) : Below g w W :=
  ⟨h.os, h.tape, h.output, h.size, fun k hk => h.oth k (by omega) (by omega)⟩
/-- A slice does not lie in the block g. -/
def Far (p : Option Addr) (len g : Nat) : Prop := 0 < len → ∀ y, p = some y → y.block ≠ g
theorem row_chg {w W : World} {g : Nat} {p : Option Addr} {len : Nat} {l : List Du} (h : RowD w p len l) (hc : Chg w W g) (hf : Far p len g) : RowD W p len l := by
  refine ⟨h.1, ?_⟩
  rcases Nat.eq_zero_or_pos len with h0 | h0
  · exact .inl h0
  · obtain ⟨b, off, rfl, hb, hcs⟩ := h.at h0
    have hne : b ≠ g := hf h0 _ rfl
    refine .inr ⟨b, off, rfl, fun i hi => ?_⟩
    have e : ∀ o, W.cell? ⟨b, o, none⟩ = w.cell? ⟨b, o, none⟩ := fun o => by simp only [World.cell?, hc.oth b hb hne]
    rw [e, e]; exact hcs i hi
theorem came_chg {w W : World} {g : Nat} {p : Option Addr} {len cap : Nat} {l : List Du} (h : Came w p len cap l) (hc : Chg w W g) (hf : Far p len g) : Came W p len cap l := ⟨row_chg h.row hc hf, h.nil, h.room, h.bytes, h.wf⟩
theorem fresh_far {w : World} {g : Nat} {p : Option Addr} {len cap : Nat} {l : List Du} (h : deb.Fresh w (g + 1) p len cap l) : Far p len g := fun hn y hy => by have := h.new hn y hy; omega
theorem fresh_chg {w W : World} {g : Nat} {p : Option Addr} {len cap : Nat} {l : List Du} (h : deb.Fresh w (g + 1) p len cap l) (hc : Chg w W g) : deb.Fresh W (g + 1) p len cap l := ⟨came_chg h.came hc (fresh_far h), h.new⟩
/-- An account and its bill, cell by cell. -/
def wcs (x : Ac) (b : Bi) (p : Option Addr) (len cap : Nat) : Array Value := #[.int .i64 x.me, .int .i64 x.rv, .int .i64 x.nx, .int .i64 x.mo, .int .i64 x.bo, .int .i64 x.fr, .slice p len cap, .int .i64 b.id, .int .i64 b.te, .int .i64 b.de, .int .i64 b.fe, .int .i64 b.pr, .int .i64 b.ch, .int .i64 b.un]
/-- What a deed leaves: the account and the bill in the block g, the debts in memory that is newer. -/
def WPost (w : World) (g : Nat) (R : Ac → Bi → Int → Prop) (e : Ending) (w' : World) : Prop := ∃ y b q n c f, e = .returned (.int .i64 f) ∧ R y b f ∧ Blk w' g (wcs y b q n c) 134 ∧ deb.Fresh w' (g + 1) q n c y.ds ∧ Below g w w'
def DPost (w : World) (g : Nat) (R : Ac → Bi → Int → Prop) (e : Ending) (w' : World) : Prop := ∃ y b q n c f, e = .returned (.int .i64 f) ∧ R y b f ∧ Blk w' g (wcs y b q n c) 134 ∧ deb.Fresh w' (g + 1) q n c y.ds ∧ Chg w w' g
theorem DPost.w {w w' : World} {g : Nat} {R : Ac → Bi → Int → Prop} {e : Ending} (h : DPost w g R e w') (hl : g ≤ w.heap.size) : WPost w g R e w' := by
  obtain ⟨y, b, q, n, c, f, h1, h2, h3, h4, h5⟩ := h
  exact ⟨y, b, q, n, c, f, h1, h2, h3, h4, h5.bel hl⟩
/-- What is asked, where a refusal gives nothing. -/
def Or0 (Is : Ac → Bi → Int → Prop) (y : Ac) (b : Bi) (f : Int) : Prop := (f ≠ 0 ∧ Is ac0 bi0 f) ∨ (f = 0 ∧ Is y b 0)
theorem blk_new4 (w : World) (o p q r : Obj) (cs : Array Value) (t : TypeId) : Blk (((((w.alloc o).alloc p).alloc q).alloc r).alloc (.cells cs t)) (w.heap.size + 1 + 1 + 1 + 1) cs t := by
  have h := Blk.new ((((w.alloc o).alloc p).alloc q).alloc r) cs t
  rwa [show ((((w.alloc o).alloc p).alloc q).alloc r).heap.size = w.heap.size + 1 + 1 + 1 + 1 by simp] at h
theorem blk_new5 (w : World) (o p q r s : Obj) (cs : Array Value) (t : TypeId) : Blk ((((((w.alloc o).alloc p).alloc q).alloc r).alloc s).alloc (.cells cs t)) (w.heap.size + 1 + 1 + 1 + 1 + 1) cs t := by
  have h := Blk.new (((((w.alloc o).alloc p).alloc q).alloc r).alloc s) cs t
  rwa [show (((((w.alloc o).alloc p).alloc q).alloc r).alloc s).heap.size = w.heap.size + 1 + 1 + 1 + 1 + 1 by simp] at h
/-- One cell is stored, where the order is open. -/
theorem wp_letOp1 {P : Program} {o : Oper} {a : Act} {w : World} {K : Act → World → Prop} {Q : Exit → Act → World → Prop} (ty : TypeId) (x y : Operand) (ho : o.op = .store ty x y)
    (g off : Nat) (hx : a.eval x = .pointer (some ⟨g, off, none⟩)) (v : Value) (hy : a.eval y = v) (hv : v.cells = #[v]) (hi : (P.info? ty).map (·.size) = some 1) (h1 : v.oneCell' = true)
    (cs : Array Value) (t : TypeId) (hB : Blk w g cs t) (hin : off < cs.size) (hd : o.dst = none)
    (h : ∀ W, Upd w W g (cs.setIfInBounds off v) t → K a W) : o.wp P a w K Q := by
  have hs := run_storeVar_let (P := P) (w := w) (g := g) (off := off) (ty := ty) (t := t) (v := v) (cells := #[v]) (cs := cs) hv (by simpa using hi) (by simpa using h1) hB (by simp; omega)
  have hu := upd_cells g t [v] off w cs hB
  unfold Oper.wp execOp
  simp only [ho, hx, hy, Instr.storeAt, Instr.sureAddr, Sem.run_bind, Sem.run_pure, Result.andThen_ok, hs]
  have := h _ hu
  have e : a.put o.dst undef = a := by rw [hd]; rfl
  rw [← e] at this
  exact this

end Go.Proofs.Ytfhlokjpdkmdjaa.acc

/- Where the customer of each meter stands: a map that only grows. -/
namespace Go.Proofs.Ytfhlokjpdkmdjaa.book
open Go.RowKit
open Go.ChangeMaps (setBlock heap_setBlock_same heap_setBlock_other)
set_option maxRecDepth 100000
set_option linter.unusedVariables false
set_option linter.unusedSimpArgs false

def entI (m : Int) (i : Nat) : MapEntry := { key := .int .i64 m, val := .int .i64 (i : Int), born := i }
def entsI : List Int → Nat → List MapEntry
  | [], _ => []
  | p :: l, i => entI p i :: entsI l (i + 1)
theorem entsI_app (l : List Int) (p : Int) (i : Nat) : entsI (l ++ [p]) i = entsI l i ++ [entI p (i + l.length)] := by
  induction l generalizing i with
  | nil => rfl
  | cons x l ih => simp only [List.cons_append, entsI, ih, List.length_cons]; rw [show i + 1 + l.length = i + (l.length + 1) by omega]
/-- The map of the meters so far. -/
def MpI (w : World) (B : Nat) (l : List Int) : Prop := w.heap[B]? = some (.map (entsI l 0).toArray l.length)
theorem MpI.lt {w : World} {B : Nat} {l : List Int} (h : MpI w B l) : B < w.heap.size := by
  unfold MpI at h
  by_cases hh : B < w.heap.size
  · exact hh
  · rw [Array.getElem?_eq_none (by omega)] at h; cases h
theorem MpI.below {w w' : World} {B : Nat} {l : List Int} (h : MpI w B l) (hb : Below w.heap.size w w') : MpI w' B l := by
  have hl := h.lt
  unfold MpI at *; rw [hb.block B hl]; exact h
theorem MpI.upd {w W : World} {B g : Nat} {cs : Array Value} {t : TypeId} {l : List Int} (h : MpI w B l) (hU : Upd w W g cs t) (hne : B ≠ g) : MpI W B l := by
  unfold MpI at *; rw [hU.oth B hne]; exact h
theorem MpI.kept {w W : World} {B : Nat} {own : Option Nat} {l : List Int} (h : MpI w B l) (hg : w.grownBy W own) (hne : some B ≠ own) : MpI W B l := by
  have hl := h.lt
  unfold MpI at *; rw [hg.block B hl hne]; exact h
theorem MpI.new (w : World) : MpI (w.alloc (.map #[] 0)) w.heap.size [] := by
  show (w.heap.push _)[w.heap.size]? = _
  rw [Array.getElem?_push_size]; rfl
/-- The place of the first one. -/
def firstI : List Int → Int → Option Nat
  | [], _ => none
  | m :: l, x => if x = m then some 0 else (firstI l x).map (· + 1)
theorem findingI (x : Int) : ∀ (l : List Int) (i j : Nat), Instr.findNow (.int .i64) (.int .i64 x) (entsI l i) j = some ((firstI l x).map fun k => (j + k, Value.int .i64 ((i + k : Nat) : Int)))
  | [], i, j => rfl
  | m :: l, i, j => by
    have ih := findingI x l (i + 1) (j + 1)
    unfold firstI
    by_cases h : x = m
    · subst h
      simp [entsI, entI, Instr.findNow, Instr.sameNow]
    · have hb : (x == m) = false := by simpa using h
      rw [if_neg h]
      simp only [entsI, entI, Instr.findNow, Instr.sameNow, if_true, hb]
      rw [ih]
      cases firstI l x with
      | none => rfl
      | some k => simp [show j + 1 + k = j + (k + 1) by omega, show i + 1 + k = i + (k + 1) by omega]; omega
theorem zintI (w : World) : (zeroValue 3).run Try.prog w = .ok (.int .i64 0) w := by kernel_rfl
theorem chkI (em : Bool) (x : Int) (w : World) : (Instr.checkKey em 10000 3 (.int .i64 x)).run Try.prog w = .ok () w := by kernel_rfl
theorem keyI (x : Int) (l : List Int) (w : World) : (Instr.findKey 3 (.int .i64 x) (entsI l 0)).run Try.prog w = .ok ((firstI l x).map fun k => (k, Value.int .i64 (k : Int))) w := by
  have h := findingI x l 0 0
  simp only [Nat.zero_add] at h
  simp [Instr.findKey, run_underlying Try.underlying3, Sem.run_bind, h]
theorem lookI_run {w : World} {B : Nat} {l : List Int} (h : MpI w B l) (x : Int) :
    (Instr.lookup 70 (.map (some B)) (.int .i64 x) true).run Try.prog w = .ok (.tuple #[.int .i64 (((firstI l x).getD 0 : Nat) : Int), .bool (firstI l x).isSome]) w := by
  have hf := keyI x l w
  cases hl : firstI l x with
  | none => rw [hl] at hf; simp [Instr.lookup, run_underlying Try.underlying70, MapKept.run_getObj_map h, chkI, hf, zintI, Result.andThen, Sem.run_bind]
  | some k => rw [hl] at hf; simp [Instr.lookup, run_underlying Try.underlying70, MapKept.run_getObj_map h, chkI, hf, Result.andThen, Sem.run_bind]
theorem updI_run {w : World} {B : Nat} {l : List Int} (h : MpI w B l) (x : Int) (hn : firstI l x = none) :
    ∃ W, (Instr.mapUpdate 70 (.map (some B)) (.int .i64 x) (.int .i64 (l.length : Int))).run Try.prog w = .ok () W ∧ MpI W B (l ++ [x]) ∧ (∀ G, G ≠ B → W.heap[G]? = w.heap[G]?) ∧ (∀ B0 w0, B0 ≤ B → Below B0 w0 w → Below B0 w0 W) ∧ W.heap.size = w.heap.size ∧ w.grownBy W (some B) := by
  have hf := keyI x l w
  rw [hn] at hf
  refine ⟨setBlock w B (.map ((entsI l 0).toArray.push ⟨.int .i64 x, .int .i64 (l.length : Int), l.length⟩) (l.length + 1)), ?_, ?_, fun G hG => heap_setBlock_other h _ hG, fun B0 w0 hB hb => ?_, by simp [setBlock], ⟨rfl, rfl, rfl, by simp [setBlock], fun k hk hne => heap_setBlock_other h _ (fun e => hne (by rw [e]))⟩⟩
  · simp [Instr.mapUpdate, run_underlying Try.underlying70, MapKept.run_getObj_map h, chkI, hf, MapKept.run_setObj_map _ h, Result.andThen, setBlock, Sem.run_bind]
  · unfold MpI
    rw [heap_setBlock_same h, entsI_app, List.length_append]
    simp [entI]
  · refine ⟨hb.os, hb.tape, hb.output, by simp [setBlock]; exact hb.size, fun k hk => ?_⟩
    rw [heap_setBlock_other h _ (by omega)]; exact hb.block k hk
theorem mkMapI (w : World) : (Instr.makeMap 70 none).run Try.prog w = .ok (.map (some w.heap.size)) (w.alloc (.map #[] 0)) := by kernel_rfl
def mes (bk : List Cm) : List Int := bk.map fun c => c.a.me
theorem mes_len (bk : List Cm) : (mes bk).length = bk.length := by simp [mes]
theorem first_some {bk : List Cm} {x : Int} {k : Nat} (h : firstI (mes bk) x = some k) : FirstAt bk x k := by
  induction bk generalizing k with
  | nil => cases h
  | cons c bk ih =>
    unfold mes firstI at h
    simp only [List.map_cons] at h
    by_cases hx : x = c.a.me
    · rw [if_pos hx] at h
      cases h
      exact ⟨by simp, hx.symm, fun j hj => absurd hj (Nat.not_lt_zero _)⟩
    · rw [if_neg hx] at h
      cases hf : firstI (mes bk) x with
      | none => rw [show firstI (List.map (fun c => c.a.me) bk) x = none from hf] at h; cases h
      | some m =>
        rw [show firstI (List.map (fun c => c.a.me) bk) x = some m from hf] at h
        cases h
        have := ih hf
        exact ⟨by have := this.1; simp; omega, this.2.1, fun j hj => by
          cases j with
          | zero => exact fun e => hx e.symm
          | succ j => exact this.2.2 j (by have : j + 1 < m + 1 := hj; omega)⟩
theorem first_none {bk : List Cm} {x : Int} (h : firstI (mes bk) x = none) : NoneAt bk x := by
  induction bk with
  | nil => intro j hj; cases hj
  | cons c bk ih =>
    unfold mes firstI at h
    simp only [List.map_cons] at h
    by_cases hx : x = c.a.me
    · rw [if_pos hx] at h; cases h
    · rw [if_neg hx] at h
      have hf : firstI (mes bk) x = none := by
        cases hf : firstI (mes bk) x with
        | none => rfl
        | some m => rw [show firstI (List.map (fun c => c.a.me) bk) x = some m from hf] at h; cases h
      intro j hj
      cases j with
      | zero => exact fun e => hx e.symm
      | succ j => exact ih hf j (by simpa using hj)
theorem mes_set {bk : List Cm} {k : Nat} {c : Cm} (h : c.a.me = (bk.getD k cm0).a.me) : mes (bk.set k c) = mes bk := by
  unfold mes
  apply List.ext_getElem?
  intro j
  simp only [List.getElem?_map, List.getElem?_set]
  by_cases hj : k = j
  · subst hj
    rw [if_pos rfl]
    by_cases hl : k < bk.length
    · rw [if_pos hl, List.getElem?_eq_getElem hl]
      simp only [Option.map_some, h, List.getD, List.getElem?_eq_getElem hl, Option.getD]
    · rw [if_neg hl, List.getElem?_eq_none (by omega)]
  · rw [if_neg hj]

end Go.Proofs.Ytfhlokjpdkmdjaa.book

/- What is thrown in package book, and what is made of it. -/
namespace Go.Proofs.Ytfhlokjpdkmdjaa.book
open Go.RowKit
set_option maxRecDepth 100000
set_option linter.unusedVariables false
set_option linter.unusedSimpArgs false

/-- A refusal, as it is thrown. -/
def refV (f : Int) : Value := .iface 85 (.agg #[.int .i64 f])
def thrown (f : Int) : List PanicEntry := [{ v := refV f, recovered := false }]
theorem insist_ok (w : World) : Calls Try.prog 46 #[.int .i64 0] w fun e w' => e = .returned (.tuple #[]) ∧ w' = w := by
  go_enter Try.func46, Try.ntmps46
  go_wp2
  go_end0
  exact ⟨rfl, rfl⟩
theorem insist_no (f : Int) (hf : f ≠ 0) (w : World) : Calls Try.prog 46 #[.int .i64 f] w fun e w' => e = .panicked (thrown f) ∧ w' = w := by
  have nf : (f != 0) = true := by simpa using hf
  clear hf
  go_enter Try.func46, Try.ntmps46
  go_wp2
  exact ⟨rfl, rfl, rfl⟩
theorem reason_nil (w : World) : Calls Try.prog 26 #[.nilIface] w fun e w' => e = .returned (.int .i64 0) ∧ w' = w := by
  have hq : ∀ w : World, (binOp BinOp.eql 20 .nilIface .nilIface).run Try.prog w = .ok (.bool true) w := fun _ => by kernel_rfl
  go_enter Try.func26, Try.ntmps26
  go_wp2
  go_ret
  exact ⟨rfl, rfl⟩
theorem reason_is (f : Int) (w : World) : Calls Try.prog 26 #[refV f] w fun e w' => e = .returned (.int .i64 f) ∧ Below w.heap.size w w' := by
  have hq : ∀ w : World, (binOp BinOp.eql 20 (refV f) .nilIface).run Try.prog w = .ok (.bool false) w := fun _ => by kernel_rfl
  have h1 : ∀ w : World, (Instr.typeAssert (refV f) 20 83 false).run Try.prog w = .ok (refV f) w := fun _ => by kernel_rfl
  have h2 : ∀ w : World, (Instr.typeAssert (refV f) 83 85 true).run Try.prog w = .ok (.tuple #[.agg #[.int .i64 f], .bool true]) w := fun _ => by kernel_rfl
  have HB : Hid (Below w.heap.size w (w.alloc (.cells #[.int .i64 f] 85))) := (Below.refl _ _).alloc (Nat.le_refl _) _
  unfold refV at *
  go_enter Try.func26, Try.ntmps26
  go_wp2
  go_ret
  exact ⟨rfl, HB.out⟩
set_option maxHeartbeats 1000000 in
theorem encode_caught (g : Nat) (f0 f : Int) (w : World) (hb : Blk w g #[.int .i64 f0] 29) :
    CallsD Try.prog 25 #[.pointer (some ⟨g, 0, none⟩)] (.panicking (thrown f)) w fun e u' w' => e = .returned (.tuple #[]) ∧ settle u' = .returning ∧ ∃ W, Below w.heap.size w W ∧ Upd W w' g #[.int .i64 f] 29 := by
  refine callsD_of_wpS Try.func25 rfl fun c₀ cs hu => ?_
  apply wpS_region
  simp only [thrown] at hu
  simp [wpOpsS, go_sem, recoverD, hu, Try.ntmps25, Exit.thenS]
  refine (reason_is f w).mono ?_
  rintro e w1 ⟨rfl, hb1⟩
  have hB := hb.next hb1
  have hc : w1.cell? ⟨g, 0, none⟩ = some (.int .i64 f0) := hB.cell 0
  have hz : w1.frozen? ⟨g, 0, none⟩ = false := hB.free 0
  have hU : Upd w1 (w1.setCell ⟨g, 0, none⟩ (.int .i64 f)) g #[.int .i64 f] 29 := upd_cells g _ [.int .i64 f] 0 w1 _ hB
  simp [go_sem, hc, hz, bodyPostS, results, Try.results25, settle]
  exact ⟨w1, hb1, hU⟩
set_option maxHeartbeats 1000000 in
theorem encode_idle (g : Nat) (f0 : Int) (w : World) (hb : Blk w g #[.int .i64 f0] 29) :
    CallsD Try.prog 25 #[.pointer (some ⟨g, 0, none⟩)] .returning w fun e u' w' => e = .returned (.tuple #[]) ∧ settle u' = .returning ∧ ∃ W, Below w.heap.size w W ∧ Upd W w' g #[.int .i64 0] 29 := by
  refine callsD_of_wpS Try.func25 rfl fun c₀ cs hu => ?_
  apply wpS_region
  simp [wpOpsS, go_sem, recoverD, hu, Try.ntmps25, Exit.thenS]
  refine (reason_nil w).mono ?_
  rintro e w1 ⟨rfl, rfl⟩
  have hc : w1.cell? ⟨g, 0, none⟩ = some (.int .i64 f0) := hb.cell 0
  have hz : w1.frozen? ⟨g, 0, none⟩ = false := hb.free 0
  have hU : Upd w1 (w1.setCell ⟨g, 0, none⟩ (.int .i64 0)) g #[.int .i64 0] 29 := upd_cells g _ [.int .i64 0] 0 w1 _ hb
  simp [go_sem, hc, hz, bodyPostS, results, Try.results25, hu, settle]
  exact ⟨.returning, (by cases c₀; simp_all), rfl, w1, Below.refl _ _, hU⟩
set_option maxHeartbeats 1000000 in
theorem decode_caught (g : Nat) (f0 f : Int) (w : World) (hb : Blk w g #[.int .i64 f0] 29) :
    CallsD Try.prog 30 #[.pointer (some ⟨g, 0, none⟩)] (.panicking (thrown f)) w fun e u' w' => e = .returned (.tuple #[]) ∧ settle u' = .returning ∧ ∃ W, Below w.heap.size w W ∧ Upd W w' g #[.int .i64 f] 29 := by
  refine callsD_of_wpS Try.func30 rfl fun c₀ cs hu => ?_
  apply wpS_region
  simp only [thrown] at hu
  simp [wpOpsS, go_sem, recoverD, hu, Try.ntmps30, Exit.thenS]
  refine (reason_is f w).mono ?_
  rintro e w1 ⟨rfl, hb1⟩
  have hB := hb.next hb1
  have hc : w1.cell? ⟨g, 0, none⟩ = some (.int .i64 f0) := hB.cell 0
  have hz : w1.frozen? ⟨g, 0, none⟩ = false := hB.free 0
  have hU : Upd w1 (w1.setCell ⟨g, 0, none⟩ (.int .i64 f)) g #[.int .i64 f] 29 := upd_cells g _ [.int .i64 f] 0 w1 _ hB
  simp [go_sem, hc, hz, bodyPostS, results, Try.results30, settle]
  exact ⟨w1, hb1, hU⟩
set_option maxHeartbeats 1000000 in
theorem decode_idle (g : Nat) (f0 : Int) (w : World) (hb : Blk w g #[.int .i64 f0] 29) :
    CallsD Try.prog 30 #[.pointer (some ⟨g, 0, none⟩)] .returning w fun e u' w' => e = .returned (.tuple #[]) ∧ settle u' = .returning ∧ ∃ W, Below w.heap.size w W ∧ Upd W w' g #[.int .i64 0] 29 := by
  refine callsD_of_wpS Try.func30 rfl fun c₀ cs hu => ?_
  apply wpS_region
  simp [wpOpsS, go_sem, recoverD, hu, Try.ntmps30, Exit.thenS]
  refine (reason_nil w).mono ?_
  rintro e w1 ⟨rfl, rfl⟩
  have hc : w1.cell? ⟨g, 0, none⟩ = some (.int .i64 f0) := hb.cell 0
  have hz : w1.frozen? ⟨g, 0, none⟩ = false := hb.free 0
  have hU : Upd w1 (w1.setCell ⟨g, 0, none⟩ (.int .i64 0)) g #[.int .i64 0] 29 := upd_cells g _ [.int .i64 0] 0 w1 _ hb
  simp [go_sem, hc, hz, bodyPostS, results, Try.results30, hu, settle]
  exact ⟨.returning, (by cases c₀; simp_all), rfl, w1, Below.refl _ _, hU⟩

end Go.Proofs.Ytfhlokjpdkmdjaa.book

/- A book that is being written, in memory. -/
namespace Go.Proofs.Ytfhlokjpdkmdjaa.book
open Go.RowKit
open Go.Proofs.Ytfhlokjpdkmdjaa.acc (Ac Tm Bi APost BPost TFault TRight OpenIs OweIs SellIs GrantIs RekeyIs wf6 ACame TCame)
set_option maxRecDepth 100000
set_option linter.unusedVariables false
set_option linter.unusedSimpArgs false

theorem wf_i {z : Int} (h0 : -1 ≤ z) (h1 : z ≤ 4000000000) : (Lit.int .i64 z).wf = true := by
  have h1 : IntKind.i64.min ≤ z := by have e : IntKind.i64.min = -9223372036854775808 := by decide
                                      omega
  have h2 : z ≤ IntKind.i64.max := by have e : IntKind.i64.max = 9223372036854775807 := by decide
                                      omega
  show (decide (IntKind.i64.min ≤ z) && decide (z ≤ IntKind.i64.max)) = true
  rw [Bool.and_eq_true]
  exact ⟨decide_eq_true h1, decide_eq_true h2⟩
theorem may_wf {a : Ac} (h : acc.AMay a) : wf6 a := by
  obtain ⟨_, ⟨a1, a2⟩, ⟨b1, b2⟩, ⟨c1, c2⟩, ⟨d1, d2⟩, ⟨e1, e2⟩, f1, f2⟩ := h
  exact ⟨wf_i (by omega) (by omega), wf_i (by omega) (by omega), wf_i (by omega) (by omega), wf_i (by omega) (by omega), wf_i (by omega) (by omega), wf_i (by omega) (by omega)⟩
/-- The numbers of each account are numbers of this machine. -/
def AWf (bk : List Cm) : Prop := ∀ c ∈ bk, wf6 c.a
theorem owe_wf {a b : Ac} {d : tar.Du} (h : OweIs a d b 0) : wf6 b ∧ b.me = a.me := by
  rcases h with ⟨_, _, e⟩ | ⟨_, _, _, e⟩ | ⟨_, _, _, _, e⟩ | ⟨p, _, _, rfl, _⟩
  · cases e
  · cases e
  · cases e
  · have h := may_wf p
    exact ⟨⟨h.1, h.2.1, h.2.2.1, h.2.2.2.1, h.2.2.2.2.1, h.2.2.2.2.2⟩, rfl⟩
theorem tells_wf {t : Tm} {c : Cm} {v : Ev} {b : Ac} {l : Bi} (h : Tells t c v b l 0) (hl : l.un ≤ 2097151) (hl0 : 0 ≤ l.un) : wf6 b ∧ b.me = c.a.me := by
  rcases h with ⟨_, h⟩ | ⟨_, h⟩ | ⟨_, h⟩
  · rcases h with ⟨p, _, _⟩ | ⟨_, _, e, _⟩ | ⟨_, _, _, e, _⟩ | ⟨hr, _, _, _, u, _, rfl, rfl⟩
    · exact absurd rfl (fun (q : (0 : Int) = 0) => by
        rcases p with ⟨_, p⟩ | ⟨_, p, q'⟩ | ⟨_, _, _, p⟩
        · cases p
        · exact p (q'.ok.1 rfl)
        · exact p.ne rfl)
    · cases e
    · cases e
    · obtain ⟨_, ⟨a1, a2⟩, ⟨b1, b2⟩, ⟨c1, c2⟩, ⟨d1, d2⟩, ⟨e1, e2⟩, f1, f2⟩ := hr.1
      obtain ⟨_, _, _, _, ⟨m1, m2⟩, ⟨k1, k2⟩, _⟩ := acc.rolled_may hr.1 hr.2.2
      have hm := hr.2.2.1
      have hu : u ≤ 2097151 := hl
      have hu0 : 0 ≤ u := hl0
      refine ⟨⟨wf_i (z := c.a.me) (by omega) (by omega), wf_i (z := c.a.rv) (by omega) (by omega), wf_i (z := c.a.nx + 1) (by omega) (by omega), wf_i (z := v.mo) (by omega) (by omega), wf_i (z := (acc.rolled c.a v.mo).bo + u) (by omega) (by omega), wf_i (z := c.a.fr) (by omega) (by omega)⟩, rfl⟩
  · rcases h with ⟨p, _, _⟩ | ⟨_, _, e, _⟩ | ⟨_, _, _, e, _⟩ | ⟨_, _, _, _, e, _⟩ | ⟨hr, _, _, _, _, rfl, _⟩
    · exact absurd rfl (fun (q : (0 : Int) = 0) => by
        rcases p with ⟨_, p⟩ | ⟨_, p, q'⟩ | ⟨_, _, _, p⟩
        · cases p
        · exact p (q'.ok.1 rfl)
        · exact p.ne rfl)
    · cases e
    · cases e
    · cases e
    · obtain ⟨_, ⟨a1, a2⟩, ⟨b1, b2⟩, ⟨c1, c2⟩, ⟨d1, d2⟩, ⟨e1, e2⟩, f1, f2⟩ := hr.1
      obtain ⟨_, _, _, _, ⟨m1, m2⟩, ⟨k1, k2⟩, _⟩ := acc.rolled_may hr.1 hr.2.2
      have hm := hr.2.2.1
      exact ⟨⟨wf_i (z := c.a.me) (by omega) (by omega), wf_i (z := c.a.rv) (by omega) (by omega), wf_i (z := c.a.nx + 1) (by omega) (by omega), wf_i (z := v.mo) (by omega) (by omega), wf_i (z := (acc.rolled c.a v.mo).bo) (by omega) (by omega), wf_i (z := v.mo) (by omega) (by omega)⟩, rfl⟩
  · rcases h with ⟨_, _, _, e⟩ | ⟨_, _, _, _, e⟩ | ⟨_, _, _, _, _, e⟩ | ⟨hr, _, _, rfl, _, _⟩
    · cases e
    · cases e
    · cases e
    · obtain ⟨_, ⟨a1, a2⟩, ⟨b1, b2⟩, ⟨c1, c2⟩, ⟨d1, d2⟩, ⟨e1, e2⟩, f1, f2⟩ := hr
      exact ⟨⟨wf_i (z := c.a.me) (by omega) (by omega), wf_i (z := c.a.rv + 1) (by omega) (by omega), wf_i (z := c.a.nx + 1) (by omega) (by omega), wf_i (z := c.a.mo) (by omega) (by omega), wf_i (z := c.a.bo) (by omega) (by omega), wf_i (z := c.a.fr) (by omega) (by omega)⟩, rfl⟩
theorem may_un {v : Ev} (h : EMay v) : 0 ≤ v.un ∧ v.un ≤ 2097151 := by
  unfold EMay at h; omega
theorem hap_wf {t : Tm} {c c' : Cm} {v : Ev} (h : HapIs t c v c' 0) (hm : EMay v) : wf6 c'.a ∧ c'.a.me = c.a.me := by
  rcases h with ⟨_, b, q, r⟩ | ⟨_, b, l, e, q, r⟩
  · rw [r rfl]; exact owe_wf q
  · rcases r with ⟨x, y⟩ | ⟨_, _, y⟩ | ⟨x, y, _, rfl⟩
    · exact absurd y.symm x
    · cases y
    · subst x
      subst y
      exact tells_wf q (may_un hm).2 (may_un hm).1
theorem getD_in {bk : List Cm} {j : Nat} (h : j < bk.length) : bk.getD j cm0 ∈ bk := getD_mem h
theorem AWf.set {bk : List Cm} {k : Nat} {c : Cm} (h : AWf bk) (hc : wf6 c.a) : AWf (bk.set k c) := fun x hx => by
  rcases List.mem_or_eq_of_mem_set hx with h' | rfl
  · exact h x h'
  · exact hc
theorem AWf.snoc {bk : List Cm} {c : Cm} (h : AWf bk) (hc : wf6 c.a) : AWf (bk ++ [c]) := fun x hx => by
  rcases List.mem_append.1 hx with h' | h'
  · exact h x h'
  · rw [List.mem_singleton.1 h']; exact hc
/-- The cells of a book at work. -/
def wrc (V : Value) (t : Tm) (pt : Option Addr) (lt ct B : Nat) : Array Value := #[V, .slice pt lt ct, .int .i64 t.ff, .int .i64 t.fb, .int .i64 t.db, .int .i64 t.al, .map (some B)]
/-- Of what is older than base nothing is changed but two blocks. -/
structure Kp (base gW B : Nat) (w w' : World) : Prop where
  os : w'.os = w.os
  tape : w'.tape = w.tape
  output : w'.output = w.output
  size : w.heap.size ≤ w'.heap.size
  block : ∀ k, k < base → k ≠ gW → k ≠ B → w'.heap[k]? = w.heap[k]?
theorem Kp.refl (base gW B : Nat) (w : World) : Kp base gW B w w := ⟨rfl, rfl, rfl, Nat.le_refl _, fun _ _ _ _ => rfl⟩
theorem Kp.trans {base gW B : Nat} {a b c : World} (h : Kp base gW B a b) (k : Kp base gW B b c) : Kp base gW B a c := ⟨k.os.trans h.os, k.tape.trans h.tape, k.output.trans h.output, Nat.le_trans h.size k.size, fun i h1 h2 h3 => (k.block i h1 h2 h3).trans (h.block i h1 h2 h3)⟩
theorem Kp.of {base gW B n : Nat} {a b : World} (h : Below n a b) (hn : base ≤ n) : Kp base gW B a b := ⟨h.os, h.tape, h.output, h.size, fun i h1 _ _ => h.block i (by omega)⟩
theorem Kp.bel {base gW B n : Nat} {a b c : World} (k : Kp base gW B b c) (h : Below n a b) (hn : n ≤ base) (h1 : n ≤ gW) (h2 : n ≤ B) : Below n a c := ⟨k.os.trans h.os, k.tape.trans h.tape, k.output.trans h.output, Nat.le_trans h.size k.size, fun i hi => (k.block i (by omega) (by omega) (by omega)).trans (h.block i hi)⟩
theorem Kp.keep {base gW B G : Nat} {a b : World} {cs : Array Value} {t : TypeId} (k : Kp base gW B a b) (h : Blk a G cs t) (h0 : G < base) (h1 : G ≠ gW) (h2 : G ≠ B) : Blk b G cs t := by
  unfold Blk at *; rw [k.block G h0 h1 h2]; exact h
theorem Kp.upd {base gW B g : Nat} {a b : World} {cs : Array Value} {t : TypeId} (hU : Upd a b g cs t) (hg : base ≤ g ∨ g = gW) : Kp base gW B a b := by
  have h := hU.bel 0 a (Nat.zero_le _) (Below.refl _ _)
  exact ⟨h.os, h.tape, h.output, h.size, fun k h1 h2 _ => hU.oth k (by omega)⟩
theorem Kp.grown {base gW B : Nat} {a b : World} {own : Option Nat} (hg : a.grownBy b own) (hs : base ≤ a.heap.size) (ho : ∀ g, own = some g → base ≤ g) : Kp base gW B a b := ⟨hg.os, hg.tape, hg.output, hg.size, fun k h1 _ _ => hg.block k (by omega) (fun e => by have := ho k e.symm; omega)⟩
/-- A book at work. -/
structure Wr (w0 : World) (base gW B : Nat) (t : Tm) (pt : Option Addr) (lt ct : Nat) (V : Value) (xs : List Cu) (bk : List Cm) (w : World) : Prop where
  blk : Blk w gW (wrc V t pt lt ct B) 72
  mp : MpI w B (mes bk)
  hold : Holds w base V xs bk
  gw : gW < base
  gb : B < base
  ne : gW ≠ B
  n0 : w0.heap.size ≤ gW
  n1 : w0.heap.size ≤ B
  sz : base ≤ w.heap.size
  bel : Below w0.heap.size w0 w
  few : Small bk 120
  wf : AWf bk
theorem Wr.next {w0 : World} {base gW B : Nat} {t : Tm} {pt : Option Addr} {lt ct : Nat} {V : Value} {xs : List Cu} {bk : List Cm} {w w' : World} (h : Wr w0 base gW B t pt lt ct V xs bk w) (hb : Below w.heap.size w w') : Wr w0 base gW B t pt lt ct V xs bk w' :=
  ⟨h.blk.next hb, h.mp.below hb, h.hold.next hb, h.gw, h.gb, h.ne, h.n0, h.n1, Nat.le_trans h.sz hb.size, h.bel.trans (hb.mono h.bel.size), h.few, h.wf⟩
theorem Wr.kp {w0 : World} {base gW B : Nat} {t : Tm} {pt : Option Addr} {lt ct : Nat} {V : Value} {xs : List Cu} {bk : List Cm} {w w' : World} (h : Wr w0 base gW B t pt lt ct V xs bk w) (hb : Below w.heap.size w w') : Kp base gW B w w' := .of hb h.sz
/-- What a step of the writing comes to. -/
def WPost (w0 : World) (base gW B : Nat) (t : Tm) (pt : Option Addr) (lt ct : Nat) (R : List Cm → Int → Prop) (w : World) (e : Ending) (w' : World) : Prop :=
  Kp base gW B w w' ∧ ((∃ V xs bk', e = .returned (.tuple #[]) ∧ R bk' 0 ∧ (Small bk' 120 → Wr w0 base gW B t pt lt ct V xs bk' w')) ∨ ∃ f bk', f ≠ 0 ∧ e = .panicked (thrown f) ∧ R bk' f)
theorem WPost.back {w0 : World} {base gW B : Nat} {t : Tm} {pt : Option Addr} {lt ct : Nat} {R R' : List Cm → Int → Prop} {w1 w : World} {e : Ending} {w' : World} (h : WPost w0 base gW B t pt lt ct R w e w') (hk : Kp base gW B w1 w) (hR : ∀ b f, R b f → R' b f) : WPost w0 base gW B t pt lt ct R' w1 e w' := by
  refine ⟨hk.trans h.1, ?_⟩
  rcases h.2 with ⟨V, xs, bk', h1, h2, h3⟩ | ⟨f, bk', h1, h2, h3⟩
  · exact .inl ⟨V, xs, bk', h1, hR _ _ h2, h3⟩
  · exact .inr ⟨f, bk', h1, h2, hR _ _ h3⟩
theorem rowD_same {w w' : World} {a : Option Addr} {n : Nat} {zs : List tar.Du} (h : tar.RowD w a n zs) (he : 0 < n → ∀ x, a = some x → w'.heap[x.block]? = w.heap[x.block]?) : tar.RowD w' a n zs := by
  refine ⟨h.1, ?_⟩
  rcases h.2 with h0 | ⟨b, off, rfl, hc⟩
  · exact .inl h0
  · refine .inr ⟨b, off, rfl, fun i hi => ?_⟩
    have h1 := hc i hi
    have hb : w'.heap[b]? = w.heap[b]? := he (by omega) _ rfl
    have e : ∀ o, w'.cell? ⟨b, o, none⟩ = w.cell? ⟨b, o, none⟩ := fun o => by simp [World.cell?, hb]
    rw [e, e]; exact h1
theorem came_same {w w' : World} {a : Option Addr} {n cap : Nat} {zs : List tar.Du} (h : tar.Came w a n cap zs) (he : 0 < n → ∀ x, a = some x → w'.heap[x.block]? = w.heap[x.block]?) : tar.Came w' a n cap zs := ⟨rowD_same h.row he, h.nil, h.room, h.bytes, h.wf⟩
theorem lo_same {w w' : World} {base : Nat} {v : Value} {l : List So} (h : Lo w base v l) (he : ∀ g, v.ownBlock = some g → w'.heap[g]? = w.heap[g]?) : Lo w' base v l := by
  refine ⟨h.1, ?_⟩
  rcases h.2 with hn | ⟨g', cap, cur, hv, hb, hc, rest⟩
  · exact .inl hn
  · exact .inr ⟨g', cap, cur, hv, hb, by rw [he g' (by rw [hv]; rfl)]; exact hc, rest⟩
theorem Has.same {w w' : World} {base : Nat} {x : Cu} {c : Cm} (h : Has w base x c) (h1 : ∀ g, x.sold.ownBlock = some g → w'.heap[g]? = w.heap[g]?) (h2 : 0 < x.dn → ∀ p, x.dp = some p → w'.heap[p.block]? = w.heap[p.block]?) : Has w' base x c := ⟨h.num, ⟨came_same h.ds.came h2, h.ds.new⟩, lo_same h.so h1⟩
/-- One customer is another now; the row and what was sold to it may have been turned, nothing else. -/
theorem Holds.put2 {w w4 : World} {base : Nat} {V : Value} {xs : List Cu} {bk : List Cm} {k : Nat} {x' : Cu} {c' : Cm} (h : Holds w base V xs bk) (hk : k < xs.length)
    (hO : ∀ g, g < w.heap.size → V.ownBlock ≠ some g → (xs.getD k cu0).sold.ownBlock ≠ some g → w4.heap[g]? = w.heap[g]?) (has : Has w4 base x' c')
    (own : ∀ g, x'.sold.ownBlock = some g → (xs.getD k cu0).sold.ownBlock = some g ∨ w.heap.size ≤ g) (new : 0 < x'.dn → ∀ p, x'.dp = some p → w.heap.size ≤ p.block) (self : ∀ g, x'.sold.ownBlock = some g → 0 < x'.dn → ∀ p, x'.dp = some p → p.block ≠ g)
    (hr : Lc w4 base V (xs.set k x')) : Holds w4 base V (xs.set k x') (bk.set k c') := by
  have hkb : k < bk.length := by rw [← h.len]; exact hk
  have lt1 : ∀ i, i < xs.length → ∀ g, (xs.getD i cu0).sold.ownBlock = some g → g < w.heap.size := fun i hi g hgg => (World.ownsRow.lt (h.has i hi).so g hgg).2
  have lt2 : ∀ i, i < xs.length → 0 < (xs.getD i cu0).dn → ∀ p, (xs.getD i cu0).dp = some p → p.block < w.heap.size := fun i hi hn p hp => by
    obtain ⟨b, off, e, lb, _⟩ := (h.has i hi).ds.came.row.at hn
    rw [hp] at e
    rw [Option.some.inj e]; exact lb
  have ltV : ∀ g, V.ownBlock = some g → g < w.heap.size := fun g hgg => (World.ownsRow.lt h.row g hgg).2
  have offx : Off x' V.ownBlock := ⟨fun g hgg q => by
    rcases own g hgg with e | e
    · exact (h.off k hk).1 g e q
    · have := ltV g q; omega, fun hn p hp q => by
    have h1 := new hn p hp
    have h2 := ltV p.block q.symm
    omega⟩
  have apx : ∀ i, i < xs.length → i ≠ k → Apart (xs.getD i cu0) x' := fun i hi hik => by
    refine ⟨fun g h1 h2 => ?_, fun g h1 hn p hp q => ?_, fun g h1 hn p hp q => ?_⟩
    · rcases own g h2 with e | e
      · exact (h.apart i k hi hk hik).1 g h1 e
      · have := lt1 i hi g h1; omega
    · have h3 := new hn p hp
      have h4 := lt1 i hi g h1
      omega
    · rcases own g h1 with e | e
      · exact (h.apart i k hi hk hik).2.2 g e hn p hp q
      · have := lt2 i hi hn p hp; omega
  refine ⟨hr, by rw [List.length_set, List.length_set, h.len], fun i hi => ?_, fun i hi => ?_, fun i hi => ?_, fun i j hi hj hij => ?_⟩
  all_goals rw [List.length_set] at hi
  · rw [getD_put xs x' cu0 k i hk, getD_put bk c' cm0 k i hkb]
    by_cases q : i = k
    · rw [if_pos q, if_pos q]; exact has
    · rw [if_neg q, if_neg q]
      have ap := h.apart i k hi hk q
      refine (h.has i hi).same (fun g hg => hO g (lt1 i hi g hg) (fun e => (h.off i hi).1 g hg e) (fun e => ap.1 g hg e)) (fun hn p hp => hO p.block (lt2 i hi hn p hp) (fun e => (h.off i hi).2 hn p hp e.symm) (fun e => ap.2.2 p.block e hn p hp rfl))
  · rw [getD_put xs x' cu0 k i hk]
    by_cases q : i = k
    · rw [if_pos q]; exact offx
    · rw [if_neg q]; exact h.off i hi
  · rw [getD_put xs x' cu0 k i hk]
    by_cases q : i = k
    · rw [if_pos q]; exact self
    · rw [if_neg q]; exact h.self i hi
  · rw [List.length_set] at hj
    rw [getD_put xs x' cu0 k i hk, getD_put xs x' cu0 k j hk]
    by_cases q : i = k <;> by_cases q' : j = k
    · omega
    · rw [if_pos q, if_neg q']; exact (apx j hj q').symm
    · rw [if_neg q, if_pos q']; exact apx i hi q
    · rw [if_neg q, if_neg q']; exact h.apart i j hi hj hij
/-- The row, one customer in it stored anew. -/
theorem lc_put2 {w W : World} {base g n cap k : Nat} {xs : List Cu} {x' : Cu} {cur : Array Value} (h : Lc w base (.slice (some ⟨g, 0, none⟩) n cap) xs) (hB : Blk w g cur 58) (hk : k < xs.length) (hW : Blk W g (putAll cur (k * 8) x'.cs) 58) : Lc W base (.slice (some ⟨g, 0, none⟩) n cap) (xs.set k x') := by
  unfold Lc at *
  rw [List.length_set]
  refine ⟨by rw [cellsC_len, List.length_set], ?_⟩
  rcases h.2 with ⟨h', _⟩ | ⟨g', cap', cur', hv, hg, hc, hn, hm, hz, ht⟩
  · cases h'
  · simp only [Value.slice.injEq, Option.some.injEq, Addr.mk.injEq, and_true] at hv
    obtain ⟨rfl, rfl, rfl⟩ := hv
    have e : cur' = cur := by
      have h1 : w.heap[g]? = some (.cells cur 58 (0, 0)) := hB
      rw [h1] at hc
      injection hc with hc
      injection hc with hc
      exact hc.symm
    subst e
    refine .inr ⟨g, cap, _, rfl, hg, hW, hn, hm, by rw [putAll_size]; exact hz, ?_⟩
    apply List.ext_getElem?
    intro j
    have h8 : x'.cs.length = 8 := rfl
    rw [cellsC_get, List.length_set, getD_put xs x' cu0 k (j / 8) hk]
    by_cases hj : j < xs.length * 8
    · rw [if_pos hj, List.getElem?_take_of_lt hj, Array.getElem?_toList, putAll_get _ _ _ _ (by rw [hz, h8]; omega), h8]
      by_cases h1 : k * 8 ≤ j ∧ j < k * 8 + 8
      · rw [if_pos h1, if_pos (by omega), show j - k * 8 = j % 8 by omega]
      · rw [if_neg h1, if_neg (by omega)]
        have h2 : cur'.toList[j]? = (cellsC xs)[j]? := by rw [← ht, List.getElem?_take_of_lt hj]
        rw [Array.getElem?_toList] at h2
        rw [h2, cellsC_get, if_pos hj]
    · rw [if_neg hj, List.getElem?_eq_none (by rw [List.length_take]; omega)]
/-- All cells but the last, then the last. -/
theorem putAll_more (cs : Array Value) : ∀ (l : List Value) (o : Nat) (v : Value), (putAll cs o l).setIfInBounds (o + l.length) v = putAll cs o (l ++ [v])
  | [], o, v => rfl
  | x :: l, o, v => by
    have := putAll_more (cs.setIfInBounds o x) l (o + 1) v
    rw [List.cons_append, putAll, putAll, ← this, List.length_cons, show o + (l.length + 1) = o + 1 + l.length by omega]
/-- The customer at a place, in memory. -/
theorem at_cust {w : World} {base n cap k : Nat} {a : Option Addr} {xs : List Cu} (h : Lc w base (.slice a n cap) xs) (hk : k < xs.length) : ∃ g cur, a = some ⟨g, 0, none⟩ ∧ base ≤ g ∧ Blk w g cur 58 ∧ k * 8 + 8 ≤ cur.size ∧ ∀ j, j < 8 → cur[k * 8 + j]? = (xs.getD k cu0).cs[j]? := by
  have hn : xs.length = n := by
    obtain ⟨a', c', hv, _⟩ := h.row
    injection hv with _ e _
    exact e.symm
  obtain ⟨g, cur, e1, e2, e3, e4, e5⟩ := lc_lies h (by omega)
  exact ⟨g, cur, e1, e2, e3, by omega, fun j hj => e5 k j hk hj⟩

end Go.Proofs.Ytfhlokjpdkmdjaa.book

/- The customer of a meter, in the program. -/
namespace Go.Proofs.Ytfhlokjpdkmdjaa.book
open Go.RowKit
open Go.Proofs.Ytfhlokjpdkmdjaa.acc (Ac Tm Bi APost BPost TFault TRight OpenIs OweIs SellIs GrantIs RekeyIs wf6 ACame TCame fresh_updN fresh_drew came_lt)
set_option maxRecDepth 100000
set_option linter.unusedVariables false
set_option linter.unusedSimpArgs false

/-- The customer of a meter, or none. -/
def CuPost (w : World) (a : Option Addr) (bk : List Cm) (me : Int) (e : Ending) (w' : World) : Prop := w' = w ∧ ((∃ k g, FirstAt bk me k ∧ a = some ⟨g, 0, none⟩ ∧ e = .returned (.pointer (some ⟨g, k * 8, none⟩))) ∨ (NoneAt bk me ∧ e = .panicked (thrown 18)))
set_option maxHeartbeats 4000000 in
theorem bcust (gW B : Nat) (t : Tm) (pt : Option Addr) (lt ct : Nat) (a : Option Addr) (n cap : Nat) (bk : List Cm) (me : Int) (w : World) (hw : Blk w gW #[.slice a n cap, .slice pt lt ct, .int .i64 t.ff, .int .i64 t.fb, .int .i64 t.db, .int .i64 t.al, .map (some B)] 72) (hm : MpI w B (mes bk)) (hn : bk.length = n) (ha : 0 < n → ∃ g, a = some ⟨g, 0, none⟩) (hs : n ≤ 1000) : Calls Try.prog 51 #[.pointer (some ⟨gW, 0, none⟩), .int .i64 me] w fun e w' => CuPost w a bk me e w' := by
  have HNO : Hid (∀ W, Calls Try.prog 46 #[.int .i64 18] W fun e w' => e = .panicked (thrown 18) ∧ w' = W) := fun W => insist_no 18 (by decide) W
  have q0 : w.cell? ⟨gW, 0, none⟩ = some (.slice a n cap) := hw.cell 0
  have q6 : w.cell? ⟨gW, 6, none⟩ = some (.map (some B)) := hw.cell 6
  have hlk := lookI_run hm me
  clear hw hm
  cases hf : firstI (mes bk) me with
  | none =>
    rw [hf] at hlk
    simp only [Option.getD_none, Option.isSome_none] at hlk
    have HN : Hid (NoneAt bk me) := first_none hf
    clear hf
    go_enter Try.func51, Try.ntmps51
    go_wp2_with fail
    refine (HNO.out _).mono ?_
    rintro e W9 ⟨rfl, rfl⟩
    exact ⟨rfl, rfl, .inr ⟨HN.out, rfl⟩⟩
  | some k =>
    rw [hf] at hlk
    simp only [Option.getD_some, Option.isSome_some] at hlk
    have hfa := first_some hf
    have hkn : k < n := by have := hfa.1; omega
    obtain ⟨g, rfl⟩ := ha (by omega)
    have HN : Hid (FirstAt bk me k) := hfa
    clear hf hfa ha hn
    go_enter Try.func51, Try.ntmps51
    go_wp2_with fail
    go_ret
    exact ⟨rfl, .inl ⟨k, g, HN.out, rfl, by first | rfl | simp⟩⟩

end Go.Proofs.Ytfhlokjpdkmdjaa.book

/- Lies a number within its bounds, in the program. -/
namespace Go.Proofs.Ytfhlokjpdkmdjaa.deb
open Go.Proofs.Ytfhlokjpdkmdjaa.tar (Du du0 Came RowD Ld ErrPost TwoPost PairT GaveD)
open Go.RowKit
set_option maxRecDepth 100000
set_option linter.unusedVariables false
set_option linter.unusedSimpArgs false

theorem dwithin (lo hi n : Int) (w : World) : Calls Try.prog 101 #[.int .i64 lo, .int .i64 hi, .int .i64 n] w fun e w' => e = .returned (.bool (decide (lo ≤ n ∧ n ≤ hi))) ∧ w' = w := by
  by_cases h1 : lo ≤ n
  · by_cases h2 : n ≤ hi
    · have h3 : decide (lo ≤ n ∧ n ≤ hi) = true := by simp; omega
      rw [h3]; clear h3
      go_enter Try.func101, Try.ntmps101
      go_wp2
      go_ret
      exact ⟨rfl, rfl⟩
    · have h3 : decide (lo ≤ n ∧ n ≤ hi) = false := by simp; omega
      have h4 : decide (n ≤ hi) = false := by simp; omega
      rw [h3]; clear h3 h2
      go_enter Try.func101, Try.ntmps101
      go_wp2
      go_ret
      exact ⟨rfl, rfl⟩
  · have h3 : decide (lo ≤ n ∧ n ≤ hi) = false := by simp; omega
    have h4 : decide (lo ≤ n) = false := by simp; omega
    rw [h3]; clear h3 h1
    go_enter Try.func101, Try.ntmps101
    go_wp2
    go_ret
    exact ⟨rfl, rfl⟩

end Go.Proofs.Ytfhlokjpdkmdjaa.deb

/- What is wrong with debts, in the program. -/
namespace Go.Proofs.Ytfhlokjpdkmdjaa.deb
open Go.Proofs.Ytfhlokjpdkmdjaa.tar (Du du0 Came RowD Ld ErrPost TwoPost PairT GaveD)
open Go.RowKit
set_option maxRecDepth 100000
set_option linter.unusedVariables false
set_option linter.unusedSimpArgs false

set_option maxHeartbeats 2000000 in
theorem pcheck (a : Option Addr) (n cap : Nat) (ls : List Du) (w : World) (hr : RowD w a n ls) (hn : n ≤ maxLen) : Calls Try.prog 94 #[.slice a n cap] w fun e w' => ∃ f, e = .returned (.int .i64 f) ∧ FaultIs ls f ∧ Below w.heap.size w w' := by
  have hlen := hr.1
  have HIU : Hid (∀ x W, Calls Try.prog 101 #[.int .i64 0, .int .i64 1000000000, .int .i64 x] W fun e w' => e = .returned (.bool (decide (0 ≤ x ∧ x ≤ 1000000000))) ∧ w' = W) := fun x W => dwithin 0 1000000000 x W
  have HIP : Hid (∀ x W, Calls Try.prog 101 #[.int .i64 0, .int .i64 10000, .int .i64 x] W fun e w' => e = .returned (.bool (decide (0 ≤ x ∧ x ≤ 10000))) ∧ w' = W) := fun x W => dwithin 0 10000 x W
  have hnm : n ≤ 9223372036854775807 := by unfold maxLen at hn; omega
  by_cases hs : n ≤ 8
  · have HS : Hid (ls.length ≤ 8) := by show _ ≤ _; rw [hlen]; exact hs
    have hd8 : decide (8 < (n : Int)) = false := decide_eq_false (by omega)
    have HROW : Hid (RowD w a n ls) := hr
    have HLEN : Hid (ls.length = n) := hlen
    clear hr hn hlen
    go_enter Try.func94, Try.ntmps94
    go_wp2_with fail
    go_loopw [10] (fun x wr => ∃ k : Nat, k ≤ n ∧ x = .int .i64 (k : Int) ∧ (∀ i, i < k → Ok1 (ls.getD i du0)) ∧ Below w.heap.size w wr) (fun x _ => n - (intOf x).toNat)
    case atStart => exact ⟨0, Nat.zero_le _, rfl, fun i hi => absurd hi (Nat.not_lt_zero _), Below.refl _ _⟩
    case round =>
      obtain ⟨k, hk, rfl, hf, hb⟩ := hrel
      have HF : Hid (∀ i, i < k → Ok1 (ls.getD i du0)) := hf
      have HB : Hid (Below w.heap.size w wr) := hb
      clear hf
      by_cases hlt : k < n
      · have hdl : decide ((k : Int) < (n : Int)) = true := by simp; omega
        obtain ⟨b, off, rfl, hbl, hc⟩ := HROW.out.at (by omega)
        have c0 : wr.cell? ⟨b, off + k * 2, none⟩ = some (.int .i64 (ls.getD k du0).a) := (hb.cell (p := ⟨b, off + k * 2, none⟩) hbl).trans (hc k hlt).1
        have c1 : wr.cell? ⟨b, off + k * 2 + 1, none⟩ = some (.int .i64 (ls.getD k du0).b) := (hb.cell (p := ⟨b, off + k * 2 + 1, none⟩) hbl).trans (hc k hlt).2
        have HBA : Hid (∀ o, Below w.heap.size w (wr.alloc o)) := fun o => hb.alloc hb.size o
        clear hb hc
        have HU := HIU.out (ls.getD k du0).a
        have HP := HIP.out (ls.getD k du0).b
        by_cases hu : 0 ≤ (ls.getD k du0).a ∧ (ls.getD k du0).a ≤ 1000000000
        · rw [decide_eq_true hu] at HU
          by_cases hp : 0 ≤ (ls.getD k du0).b ∧ (ls.getD k du0).b ≤ 10000
          ·
            rw [decide_eq_true hp] at HP
            have HF2 : Hid (∀ i, i < k + 1 → Ok1 (ls.getD i du0)) := fun i hi => by
              by_cases e : i = k
              · subst e; exact ⟨hu, hp⟩
              · exact HF.out i (by omega)
            have HU2 : Hid (∀ W, Calls Try.prog 101 #[.int .i64 0, .int .i64 1000000000, .int .i64 (ls.getD k du0).a] W fun e w' => e = .returned (.bool true) ∧ w' = W) := HU
            have HP2 : Hid (∀ W, Calls Try.prog 101 #[.int .i64 0, .int .i64 10000, .int .i64 (ls.getD k du0).b] W fun e w' => e = .returned (.bool true) ∧ w' = W) := HP
            clear HU HP hu hp HF
            generalize (ls.getD k du0).a = x at *
            generalize (ls.getD k du0).b = y at *
            go_wp2_with fail
            refine (HU2.out _).mono ?_
            rintro e w2 ⟨rfl, hw2⟩
            subst w2
            go_wp2_with fail
            refine (HP2.out _).mono ?_
            rintro e w2 ⟨rfl, hw2⟩
            subst w2
            go_wp2_with fail
            go_roundw
            case rel => exact ⟨k + 1, by omega, by go_num, HF2.out, HBA.out _⟩
            case measure => simp [intOf]; omega
          ·
            rw [decide_eq_false hp] at HP
            have HN : Hid (¬ DFits ls) := fun h => hp (h k (by rw [HLEN.out]; exact hlt)).2
            have HU2 : Hid (∀ W, Calls Try.prog 101 #[.int .i64 0, .int .i64 1000000000, .int .i64 (ls.getD k du0).a] W fun e w' => e = .returned (.bool true) ∧ w' = W) := HU
            have HP2 : Hid (∀ W, Calls Try.prog 101 #[.int .i64 0, .int .i64 10000, .int .i64 (ls.getD k du0).b] W fun e w' => e = .returned (.bool false) ∧ w' = W) := HP
            clear HU HP hu hp HF
            generalize (ls.getD k du0).a = x at *
            generalize (ls.getD k du0).b = y at *
            go_wp2_with fail
            refine (HU2.out _).mono ?_
            rintro e w2 ⟨rfl, hw2⟩
            subst w2
            go_wp2_with fail
            refine (HP2.out _).mono ?_
            rintro e w2 ⟨rfl, hw2⟩
            subst w2
            go_wp2_with fail
            go_ret
            exact ⟨_, rfl, .inr (.inl ⟨HS.out, HN.out, rfl⟩), HBA.out _⟩
        ·
          rw [decide_eq_false hu] at HU
          have HN : Hid (¬ DFits ls) := fun h => hu (h k (by rw [HLEN.out]; exact hlt)).1
          have HU2 : Hid (∀ W, Calls Try.prog 101 #[.int .i64 0, .int .i64 1000000000, .int .i64 (ls.getD k du0).a] W fun e w' => e = .returned (.bool false) ∧ w' = W) := HU
          clear HU HP hu HF
          generalize (ls.getD k du0).a = x at *
          generalize (ls.getD k du0).b = y at *
          go_wp2_with fail
          refine (HU2.out _).mono ?_
          rintro e w2 ⟨rfl, hw2⟩
          subst w2
          go_wp2_with fail
          go_ret
          exact ⟨_, rfl, .inr (.inl ⟨HS.out, HN.out, rfl⟩), HBA.out _⟩
      · obtain rfl : k = n := by omega
        have hdl : decide ((k : Int) < (k : Int)) = false := by simp
        have HFT : Hid (DFits ls) := fun i hi => HF.out i (by rw [HLEN.out] at hi; exact hi)
        clear HF HIU HIP hb
        go_wp2_with fail
        go_ret
        exact ⟨_, rfl, .inr (.inr ⟨⟨HS.out, HFT.out⟩, rfl⟩), HB.out⟩
  · have HS : Hid (¬ ls.length ≤ 8) := by show ¬ _ ≤ _; rw [hlen]; exact hs
    have hd8 : decide (8 < (n : Int)) = true := decide_eq_true (by omega)
    clear hs hr hlen hn
    go_enter Try.func94, Try.ntmps94
    go_wp2_with fail
    go_ret
    exact ⟨_, rfl, .inl ⟨HS.out, rfl⟩, Below.refl _ _⟩

end Go.Proofs.Ytfhlokjpdkmdjaa.deb

/- What is owed in all, in the program. -/
namespace Go.Proofs.Ytfhlokjpdkmdjaa.deb
open Go.Proofs.Ytfhlokjpdkmdjaa.tar (Du du0 Came RowD Ld ErrPost TwoPost PairT GaveD)
open Go.RowKit
set_option maxRecDepth 100000
set_option linter.unusedVariables false
set_option linter.unusedSimpArgs false

set_option maxHeartbeats 2000000 in
theorem powed (a : Option Addr) (len cap : Nat) (ls : List Du) (w : World) (hr : RowD w a len ls) (hm : Mays ls) : Calls Try.prog 95 #[.slice a len cap] w fun e w' => e = .returned (.int .i64 (sumD ls)) ∧ Below w.heap.size w w' := by
  have HLEN : Hid (ls.length = len) := hr.1
  have HM : Hid (Mays ls) := hm
  have hl8 : len ≤ 8 := by have := hm.1; have := hr.1; omega
  have HROW : Hid (RowD w a len ls) := hr
  clear hm hr
  go_enter Try.func95, Try.ntmps95
  go_wp2_with fail
  go_loopw [3, 8] (fun v x wr => ∃ k : Nat, k ≤ len ∧ x = .int .i64 (k : Int) ∧ v = .int .i64 (sumK ls k) ∧ Below w.heap.size w wr) (fun _ x _ => len - (intOf x).toNat)
  case atStart => exact ⟨0, Nat.zero_le _, rfl, rfl, Below.refl _ _⟩
  case round =>
    obtain ⟨k, hk, rfl, rfl, hb⟩ := hrel
    have hsb := sumK_bd HM.out k (by rw [HLEN.out]; exact hk)
    have HB : Hid (Below w.heap.size w wr) := hb
    by_cases hlt : k < len
    · have hdl : decide ((k : Int) < (len : Int)) = true := by simp; omega
      obtain ⟨b, off, rfl, hbl, hc⟩ := HROW.out.at (by omega)
      have c0 : wr.cell? ⟨b, off + k * 2, none⟩ = some (.int .i64 (ls.getD k du0).a) := (hb.cell (p := ⟨b, off + k * 2, none⟩) hbl).trans (hc k hlt).1
      have c1 : wr.cell? ⟨b, off + k * 2 + 1, none⟩ = some (.int .i64 (ls.getD k du0).b) := (hb.cell (p := ⟨b, off + k * 2 + 1, none⟩) hbl).trans (hc k hlt).2
      have HBA : Hid (∀ o, Below w.heap.size w (wr.alloc o)) := fun o => hb.alloc hb.size o
      have ho := (HM.out.2 k (by rw [HLEN.out]; exact hlt)).1
      have HN : Hid (sumK ls k + (ls.getD k du0).a = sumK ls (k + 1)) := (sumK_next ls k).symm
      clear hc hb
      generalize sumK ls k = s at *
      generalize (ls.getD k du0).a = x at *
      generalize (ls.getD k du0).b = y at *
      go_wp2_with fail
      go_roundw
      case rel => exact ⟨k + 1, by omega, by go_num, by rw [← HN.out], HBA.out _⟩
      case measure => simp [intOf]; omega
    · obtain rfl : k = len := by omega
      have hdl : decide ((k : Int) < (k : Int)) = false := by simp
      have HV : Hid (sumK ls k = sumD ls) := by have := sumK_all ls; rw [HLEN.out] at this; exact this
      generalize sumK ls k = s at *
      clear hb
      go_wp2_with fail
      go_ret
      exact ⟨congrArg (fun z => Ending.returned (Value.int .i64 z)) HV.out, HB.out⟩

end Go.Proofs.Ytfhlokjpdkmdjaa.deb

/- debt.Total: what is asked of it. -/
namespace Go.Proofs.Ytfhlokjpdkmdjaa.deb
open Go.Proofs.Ytfhlokjpdkmdjaa.tar (Du du0 Came TwoPost)
open Go.RowKit

def KdTotal : Prop := ∀ (W : World) (a : Option Addr) (len cap : Nat) (ls : List Du), Came W a len cap ls → Calls Try.prog 86 #[.slice a len cap] W fun e w' => TwoPost W (OwedIs ls) e w'

end Go.Proofs.Ytfhlokjpdkmdjaa.deb

/- debt.Total. -/
namespace Go.Proofs.Ytfhlokjpdkmdjaa.deb
open Go.Proofs.Ytfhlokjpdkmdjaa.tar (Du du0 Came RowD Ld ErrPost TwoPost PairT GaveD)
open Go.RowKit
set_option maxRecDepth 100000
set_option linter.unusedVariables false
set_option linter.unusedSimpArgs false

set_option maxHeartbeats 2000000 in
theorem ktotal : KdTotal := by
  intro w a len cap ls hcame
  have hr := hcame.row
  have HFA : Hid (Calls Try.prog 94 #[.slice a len cap] w fun e w' => ∃ f, e = .returned (.int .i64 f) ∧ FaultIs ls f ∧ Below w.heap.size w w') := pcheck a len cap ls w hr hcame.most
  have HOW : Hid (Mays ls → ∀ W, Below w.heap.size w W → Calls Try.prog 95 #[.slice a len cap] W fun e w' => e = .returned (.int .i64 (sumD ls)) ∧ Below W.heap.size W w') := fun hm W hW => powed a len cap ls W (hr.below hW) hm
  clear hcame hr
  go_enter Try.func86, Try.ntmps86
  go_wp2_with fail
  refine HFA.out.mono ?_
  rintro e w1 ⟨f, rfl, hf, hb1⟩
  have HB1 : Hid (Below w.heap.size w w1) := hb1
  have HF : Hid (FaultIs ls f) := hf
  clear hb1 HFA
  by_cases h0 : f = 0
  · subst h0
    have hm := hf.ok.1 rfl
    have HO2 : Hid (Calls Try.prog 95 #[.slice a len cap] w1 fun e w' => e = .returned (.int .i64 (sumD ls)) ∧ Below w1.heap.size w1 w') := HOW.out hm w1 HB1.out
    clear hf hm HOW
    go_wp2_with fail
    refine HO2.out.mono ?_
    rintro e w2 ⟨rfl, hb2⟩
    have HB2 := shB HB1 hb2
    clear hb2 HO2
    go_wp2_with fail
    go_ret2
    exact ⟨_, _, rfl, ⟨HF.out, .inl ⟨rfl, rfl⟩⟩, HB2.out⟩
  · have hne : (f != 0) = true := by simpa using h0
    have HN : Hid (f ≠ 0) := h0
    clear hf h0 HOW
    go_wp2_with fail
    go_ret2
    exact ⟨_, _, rfl, ⟨HF.out, .inr ⟨HN.out, rfl⟩⟩, HB1.out⟩

end Go.Proofs.Ytfhlokjpdkmdjaa.deb

/- May an account be, in the program. -/
namespace Go.Proofs.Ytfhlokjpdkmdjaa.acc
open Go.Proofs.Ytfhlokjpdkmdjaa.tar (Du du0 Came RowD Ld PairT)
open Go.RowKit
set_option maxRecDepth 100000
set_option linter.unusedVariables false
set_option linter.unusedSimpArgs false

def MayPost (w : World) (x : Ac) (e : Ending) (w' : World) : Prop := ∃ r, e = .returned (.bool r) ∧ (r = true ↔ AMay x) ∧ Below w.heap.size w w'
set_option maxHeartbeats 4000000 in
theorem pmay (x : Ac) (p : Option Addr) (len cap : Nat) (w : World) (h : Came w p len cap x.ds) : Calls Try.prog 74 #[.agg #[.int .i64 x.me, .int .i64 x.rv, .int .i64 x.nx, .int .i64 x.mo, .int .i64 x.bo, .int .i64 x.fr, .slice p len cap]] w fun e w' => MayPost w x e w' := by
  have HI0 : Hid (∀ W, Calls Try.prog 49 #[.int .i64 0, .int .i64 49, .int .i64 x.me] W fun e w' => e = .returned (.bool (decide (0 ≤ x.me ∧ x.me ≤ 49))) ∧ w' = W) := fun W => awithin 0 49 x.me W
  have HI1 : Hid (∀ W, Calls Try.prog 49 #[.int .i64 0, .int .i64 15, .int .i64 x.rv] W fun e w' => e = .returned (.bool (decide (0 ≤ x.rv ∧ x.rv ≤ 15))) ∧ w' = W) := fun W => awithin 0 15 x.rv W
  have HI2 : Hid (∀ W, Calls Try.prog 49 #[.int .i64 1, .int .i64 1048576, .int .i64 x.nx] W fun e w' => e = .returned (.bool (decide (1 ≤ x.nx ∧ x.nx ≤ 1048576))) ∧ w' = W) := fun W => awithin 1 1048576 x.nx W
  have HI3 : Hid (∀ W, Calls Try.prog 49 #[.int .i64 0, .int .i64 2399, .int .i64 x.mo] W fun e w' => e = .returned (.bool (decide (0 ≤ x.mo ∧ x.mo ≤ 2399))) ∧ w' = W) := fun W => awithin 0 2399 x.mo W
  have HI4 : Hid (∀ W, Calls Try.prog 49 #[.int .i64 0, .int .i64 10000000, .int .i64 x.bo] W fun e w' => e = .returned (.bool (decide (0 ≤ x.bo ∧ x.bo ≤ 10000000))) ∧ w' = W) := fun W => awithin 0 10000000 x.bo W
  have HI5 : Hid (∀ W, Calls Try.prog 49 #[.int .i64 (-1), .int .i64 x.mo, .int .i64 x.fr] W fun e w' => e = .returned (.bool (decide (-1 ≤ x.fr ∧ x.fr ≤ x.mo))) ∧ w' = W) := fun W => awithin (-1) x.mo x.fr W
  obtain ⟨WW, HWW, HBK, HBA, -⟩ := sh1 w #[.int .i64 x.me, .int .i64 x.rv, .int .i64 x.nx, .int .i64 x.mo, .int .i64 x.bo, .int .i64 x.fr, .slice p len cap] 55
  have HTO : Hid (Calls Try.prog 86 #[.slice p len cap] WW fun e w' => tar.TwoPost WW (deb.OwedIs x.ds) e w') := deb.ktotal _ p len cap x.ds (h.below HBA.out)
  have c6 : WW.cell? ⟨w.heap.size, 6, none⟩ = some (.slice p len cap) := HBK.out.cell 6
  clear h
  go_enter Try.func74, Try.ntmps74
  go_upto_region 1 with fail
  rw [HWW.out]
  clear HWW
  go_wp2_with fail
  refine HTO.out.mono ?_
  rintro e w1 ⟨tt, f, rfl, hf, hb1⟩
  have HB1 := shB HBA hb1
  have HK1 := shN HBK hb1
  have HF : Hid (f = 0 ↔ deb.Mays x.ds) := hf.1.ok
  clear hf hb1 HTO HBA HBK c6
  obtain ⟨c0, c1, c2, c3, c4, c5, c6⟩ := scl7 HK1
  by_cases h0 : f = 0
  · have HM : Hid (deb.Mays x.ds) := HF.out.1 h0
    subst h0
    by_cases g0 : 0 ≤ x.me ∧ x.me ≤ 49
    · rw [decide_eq_true g0] at HI0
      go_wp2_with fail
      refine (HI0.out _).mono ?_
      rintro e w2 ⟨rfl, hw2⟩
      subst w2
      by_cases g1 : 0 ≤ x.rv ∧ x.rv ≤ 15
      · rw [decide_eq_true g1] at HI1
        go_wp2_with fail
        refine (HI1.out _).mono ?_
        rintro e w2 ⟨rfl, hw2⟩
        subst w2
        by_cases g2 : 1 ≤ x.nx ∧ x.nx ≤ 1048576
        · rw [decide_eq_true g2] at HI2
          go_wp2_with fail
          refine (HI2.out _).mono ?_
          rintro e w2 ⟨rfl, hw2⟩
          subst w2
          by_cases g3 : 0 ≤ x.mo ∧ x.mo ≤ 2399
          · rw [decide_eq_true g3] at HI3
            go_wp2_with fail
            refine (HI3.out _).mono ?_
            rintro e w2 ⟨rfl, hw2⟩
            subst w2
            by_cases g4 : 0 ≤ x.bo ∧ x.bo ≤ 10000000
            · rw [decide_eq_true g4] at HI4
              go_wp2_with fail
              refine (HI4.out _).mono ?_
              rintro e w2 ⟨rfl, hw2⟩
              subst w2
              by_cases g5 : -1 ≤ x.fr ∧ x.fr ≤ x.mo
              · rw [decide_eq_true g5] at HI5
                go_wp2_with fail
                refine (HI5.out _).mono ?_
                rintro e w2 ⟨rfl, hw2⟩
                subst w2
                have HY : Hid (AMay x) := ⟨HM.out, g0, g1, g2, g3, g4, g5⟩
                go_wp2_with fail
                go_ret
                exact ⟨true, rfl, ⟨fun _ => HY.out, fun _ => rfl⟩, HB1.out⟩
              · rw [decide_eq_false g5] at HI5
                have HN : Hid (¬ AMay x) := fun h => g5 h.2.2.2.2.2.2
                clear g5
                go_wp2_with fail
                refine (HI5.out _).mono ?_
                rintro e w2 ⟨rfl, hw2⟩
                subst w2
                go_wp2_with fail
                all_goals first
                  | (rename_i q1 q2; exact absurd q1 (by simp [undef]))
                  | (go_ret; exact ⟨false, rfl, ⟨fun h => absurd h (by decide), fun h => absurd h HN.out⟩, HB1.out⟩)
            · rw [decide_eq_false g4] at HI4
              have HN : Hid (¬ AMay x) := fun h => g4 h.2.2.2.2.2.1
              clear g4
              go_wp2_with fail
              refine (HI4.out _).mono ?_
              rintro e w2 ⟨rfl, hw2⟩
              subst w2
              go_wp2_with fail
              all_goals first
                | (rename_i q1 q2; exact absurd q1 (by simp [undef]))
                | (go_ret; exact ⟨false, rfl, ⟨fun h => absurd h (by decide), fun h => absurd h HN.out⟩, HB1.out⟩)
          · rw [decide_eq_false g3] at HI3
            have HN : Hid (¬ AMay x) := fun h => g3 h.2.2.2.2.1
            clear g3
            go_wp2_with fail
            refine (HI3.out _).mono ?_
            rintro e w2 ⟨rfl, hw2⟩
            subst w2
            go_wp2_with fail
            all_goals first
              | (rename_i q1 q2; exact absurd q1 (by simp [undef]))
              | (go_ret; exact ⟨false, rfl, ⟨fun h => absurd h (by decide), fun h => absurd h HN.out⟩, HB1.out⟩)
        · rw [decide_eq_false g2] at HI2
          have HN : Hid (¬ AMay x) := fun h => g2 h.2.2.2.1
          clear g2
          go_wp2_with fail
          refine (HI2.out _).mono ?_
          rintro e w2 ⟨rfl, hw2⟩
          subst w2
          go_wp2_with fail
          all_goals first
            | (rename_i q1 q2; exact absurd q1 (by simp [undef]))
            | (go_ret; exact ⟨false, rfl, ⟨fun h => absurd h (by decide), fun h => absurd h HN.out⟩, HB1.out⟩)
      · rw [decide_eq_false g1] at HI1
        have HN : Hid (¬ AMay x) := fun h => g1 h.2.2.1
        clear g1
        go_wp2_with fail
        refine (HI1.out _).mono ?_
        rintro e w2 ⟨rfl, hw2⟩
        subst w2
        go_wp2_with fail
        all_goals first
          | (rename_i q1 q2; exact absurd q1 (by simp [undef]))
          | (go_ret; exact ⟨false, rfl, ⟨fun h => absurd h (by decide), fun h => absurd h HN.out⟩, HB1.out⟩)
    · rw [decide_eq_false g0] at HI0
      have HN : Hid (¬ AMay x) := fun h => g0 h.2.1
      clear g0
      go_wp2_with fail
      refine (HI0.out _).mono ?_
      rintro e w2 ⟨rfl, hw2⟩
      subst w2
      go_wp2_with fail
      all_goals first
        | (rename_i q1 q2; exact absurd q1 (by simp [undef]))
        | (go_ret; exact ⟨false, rfl, ⟨fun h => absurd h (by decide), fun h => absurd h HN.out⟩, HB1.out⟩)
  · have d0 : (f == 0) = false := by simpa using h0
    have HN : Hid (¬ AMay x) := fun h => h0 (HF.out.2 h.1)
    clear h0
    go_wp2_with fail
    all_goals first
      | (rename_i q1 q2; exact absurd q1 (by simp [undef]))
      | (go_ret; exact ⟨false, rfl, ⟨fun h => absurd h (by decide), fun h => absurd h HN.out⟩, HB1.out⟩)

end Go.Proofs.Ytfhlokjpdkmdjaa.acc

/- account.Open: what is asked of it. -/
namespace Go.Proofs.Ytfhlokjpdkmdjaa.acc
open Go.Proofs.Ytfhlokjpdkmdjaa.tar (Du)
open Go.RowKit

def KcOpen : Prop := ∀ (W : World) (m : Int), (Lit.int .i64 m).wf = true → Calls Try.prog 65 #[.int .i64 m] W fun e w' => APost W (OpenIs m) e w'

end Go.Proofs.Ytfhlokjpdkmdjaa.acc

/- account.Open. -/
namespace Go.Proofs.Ytfhlokjpdkmdjaa.acc
open Go.Proofs.Ytfhlokjpdkmdjaa.tar (Du du0 Came RowD Ld PairT)
open Go.RowKit
set_option maxRecDepth 100000
set_option linter.unusedVariables false
set_option linter.unusedSimpArgs false

theorem open_may {m : Int} (h : 0 ≤ m ∧ m ≤ 49) : AMay ⟨m, 0, 1, 0, 0, -1, []⟩ := by
  unfold AMay deb.Mays deb.DFits
  simp
  omega
set_option maxHeartbeats 4000000 in
theorem kopen : KcOpen := by
  intro w m hm
  have HPM : Hid (∀ W, Calls Try.prog 74 #[.agg #[.int .i64 m, .int .i64 0, .int .i64 1, .int .i64 0, .int .i64 0, .int .i64 (-1), .slice none 0 0]] W fun e w' => MayPost W ⟨m, 0, 1, 0, 0, -1, []⟩ e w') := fun W => pmay ⟨m, 0, 1, 0, 0, -1, []⟩ none 0 0 W (deb.came_nil W)
  clear hm
  obtain ⟨W0, HWW, H0r, H0n, H0B, -⟩ := sh2 w #[.int .i64 0, .int .i64 0, .int .i64 0, .int .i64 0, .int .i64 0, .int .i64 0, .slice none 0 0] 55 #[.int .i64 m, .int .i64 0, .int .i64 1, .int .i64 0, .int .i64 0, .int .i64 (-1), .slice none 0 0] 55
  go_enter Try.func65, Try.ntmps65
  go_upto_region 2 with fail
  rw [HWW.out]
  clear HWW
  go_wp2_with (first
    | (refine wp_whole rfl 55 _ rfl _ rfl 55 _ _ H0r.out Try.underlying55 rfl (by kernel_rfl) ?_)
    | (refine wp_whole rfl 55 _ rfl _ rfl 55 _ _ H0n.out Try.underlying55 rfl (by kernel_rfl) ?_)
    | fail)
  refine (HPM.out _).mono ?_
  rintro e w1 ⟨r, rfl, hr, hb1⟩
  have H1r := shN H0r hb1
  have H1n := shN H0n hb1
  have H1B := shB H0B hb1
  have hsw1 : W0.heap.size ≤ w1.heap.size := hb1.size
  clear hb1 H0r H0n H0B
  clear HPM
  cases r with
  | false =>
    have HV : Hid (OpenIs m ac0 2) := .inr ⟨fun hh => Bool.noConfusion (hr.2 (open_may hh)), rfl, rfl⟩
    clear hr
    go_wp2_with (first
      | (refine wp_letAll rfl 55 _ _ rfl _ rfl _ rfl (by kernel_rfl) (by simp [Value.oneCell']) _ 55 H1r.out rfl ?_)
      | (refine wp_whole rfl 55 _ rfl _ rfl 55 _ _ H1r.out Try.underlying55 rfl (by kernel_rfl) ?_)
      | (refine wp_whole rfl 55 _ rfl _ rfl 55 _ _ H1n.out Try.underlying55 rfl (by kernel_rfl) ?_)
      | fail)
    intro w1a hU
    have H2r : Hid (Blk w1a (w.heap.size) #[.int .i64 0, .int .i64 0, .int .i64 0, .int .i64 0, .int .i64 0, .int .i64 0, .slice none 0 0] 55) := hU.blk
    have H2n := shK hU H1n (by omega)
    have H2B := shV hU H1B (by omega)
    have hsw1a : w1a.heap.size = w1.heap.size := hU.size
    clear hU H1r H1n H1B
    have Rr0 : Hid (w1a.cell? ⟨w.heap.size, 0, none⟩ = some (.int .i64 0)) := H2r.out.cell 0
    have Rr1 : Hid (w1a.cell? ⟨w.heap.size, 1, none⟩ = some (.int .i64 0)) := H2r.out.cell 1
    have Rr2 : Hid (w1a.cell? ⟨w.heap.size, 2, none⟩ = some (.int .i64 0)) := H2r.out.cell 2
    have Rr3 : Hid (w1a.cell? ⟨w.heap.size, 3, none⟩ = some (.int .i64 0)) := H2r.out.cell 3
    have Rr4 : Hid (w1a.cell? ⟨w.heap.size, 4, none⟩ = some (.int .i64 0)) := H2r.out.cell 4
    have Rr5 : Hid (w1a.cell? ⟨w.heap.size, 5, none⟩ = some (.int .i64 0)) := H2r.out.cell 5
    have Rr6 : Hid (w1a.cell? ⟨w.heap.size, 6, none⟩ = some (.slice none 0 0)) := H2r.out.cell 6
    go_wp2_with fail
    exact bodyPost_ret (v := .tuple #[.agg #[.int .i64 0, .int .i64 0, .int .i64 0, .int .i64 0, .int .i64 0, .int .i64 0, .slice none 0 0], .int .i64 2]) (by simp [results, Try.results65, Rr0.out, Rr1.out, Rr2.out, Rr3.out, Rr4.out, Rr5.out, Rr6.out, go_sem]) rfl ⟨ac0, none, 0, 0, _, rfl, HV.out, deb.fresh_nil _ _, H2B.out⟩
  | true =>
    have HV : Hid (OpenIs m ⟨m, 0, 1, 0, 0, -1, []⟩ 0) := .inl ⟨(hr.1 rfl).2.1, rfl, rfl⟩
    clear hr
    go_wp2_with (first
      | (refine wp_letAll rfl 55 _ _ rfl _ rfl _ rfl (by kernel_rfl) (by simp [Value.oneCell']) _ 55 H1r.out rfl ?_)
      | (refine wp_whole rfl 55 _ rfl _ rfl 55 _ _ H1r.out Try.underlying55 rfl (by kernel_rfl) ?_)
      | (refine wp_whole rfl 55 _ rfl _ rfl 55 _ _ H1n.out Try.underlying55 rfl (by kernel_rfl) ?_)
      | fail)
    intro w1a hU
    have H2r : Hid (Blk w1a (w.heap.size) #[.int .i64 m, .int .i64 0, .int .i64 1, .int .i64 0, .int .i64 0, .int .i64 (-1), .slice none 0 0] 55) := hU.blk
    have H2n := shK hU H1n (by omega)
    have H2B := shV hU H1B (by omega)
    have hsw1a : w1a.heap.size = w1.heap.size := hU.size
    clear hU H1r H1n H1B
    obtain ⟨Rr0, Rr1, Rr2, Rr3, Rr4, Rr5, Rr6⟩ := shc7 H2r
    go_wp2_with fail
    exact bodyPost_ret (v := .tuple #[.agg #[.int .i64 m, .int .i64 0, .int .i64 1, .int .i64 0, .int .i64 0, .int .i64 (-1), .slice none 0 0], .int .i64 0]) (by simp [results, Try.results65, Rr0.out, Rr1.out, Rr2.out, Rr3.out, Rr4.out, Rr5.out, Rr6.out, go_sem]) rfl ⟨⟨m, 0, 1, 0, 0, -1, []⟩, none, 0, 0, _, rfl, HV.out, deb.fresh_nil _ _, H2B.out⟩

end Go.Proofs.Ytfhlokjpdkmdjaa.acc

/- Stores and calls where the order is open: some cells of a block; a call that may be given up; a map that grows. -/
namespace Go.Proofs.Ytfhlokjpdkmdjaa
open Go.RowKit

/-- Some cells are stored, where the order is open. -/
theorem wp_letOpN {P : Program} {o : Oper} {a : Act} {w : World} {K : Act → World → Prop} {Q : Exit → Act → World → Prop} (ty : TypeId) (x y : Operand) (ho : o.op = .store ty x y)
    (g off : Nat) (hx : a.eval x = .pointer (some ⟨g, off, none⟩)) (v : Value) (hy : a.eval y = v) (cells : Array Value) (hv : v.cells = cells) (hi : (P.info? ty).map (·.size) = some cells.size) (h1 : cells.all (·.oneCell') = true)
    (cs : Array Value) (t : TypeId) (hB : Blk w g cs t) (hin : off + cells.size ≤ cs.size) (new : Array Value) (hnew : putAll cs off cells.toList = new) (hd : o.dst = none)
    (h : ∀ W, Upd w W g new t → K a W) : o.wp P a w K Q := by
  have hs := run_storeVar_let (P := P) (w := w) (g := g) (off := off) (ty := ty) (t := t) (v := v) (cells := cells) (cs := cs) hv hi h1 hB hin
  have hu := upd_cells g t cells.toList off w cs hB
  rw [hnew] at hu
  unfold Oper.wp execOp
  simp only [ho, hx, hy, Instr.storeAt, Instr.sureAddr, Sem.run_bind, Sem.run_pure, Result.andThen_ok, hs]
  have := h _ hu
  have e : a.put o.dst undef = a := by rw [hd]; rfl
  rw [← e] at this
  exact this
/-- A call by its contract, which may be given up, where the order is open. -/
theorem wp_callOpP {P : Program} {o : Oper} {a : Act} {w : World} {f : FuncId} {args : Array Value} {R : Ending → World → Prop} {K : Act → World → Prop} {Q : Exit → Act → World → Prop} (d : Nat) (hd : o.dst = some d) (hrun : (execOp a.eval o).run P w = .ok (.enter f args) w) (hc : Calls P f args w R)
    (h : ∀ e w', R e w' → (∃ v, e = .returned v ∧ K (a.put (some d) v) w') ∨ ∃ c, e = .panicked c ∧ Q (.panic c) a w') : o.wp P a w K Q := by
  rw [← hd] at h
  unfold Oper.wp
  rw [hrun, Oper.upon_enter]
  refine hc.mono fun e w' hr => ?_
  rcases h e w' hr with ⟨v, rfl, hk⟩ | ⟨c, rfl, hk⟩
  · exact hk
  · exact hk
/-- A map is stored into, where the order is open. -/
theorem wp_mapOp {P : Program} {o : Oper} {a : Act} {w W : World} {K : Act → World → Prop} {Q : Exit → Act → World → Prop} (ty : TypeId) (x y z : Operand) (ho : o.op = .mapUpdate ty x y z) (vx vy vz : Value) (hx : a.eval x = vx) (hy : a.eval y = vy) (hz : a.eval z = vz)
    (hr : (Instr.mapUpdate ty vx vy vz).run P w = .ok () W) (hd : o.dst = none) (h : K a W) : o.wp P a w K Q := by
  unfold Oper.wp execOp
  simp only [ho, hx, hy, hz, Sem.run_bind, Sem.run_pure, Result.andThen_ok, hr]
  have e : a.put o.dst undef = a := by rw [hd]; rfl
  rw [← e] at h
  exact h

end Go.Proofs.Ytfhlokjpdkmdjaa

/- A customer is registered, in the program. -/
namespace Go.Proofs.Ytfhlokjpdkmdjaa.book
open Go.RowKit
open Go.Proofs.Ytfhlokjpdkmdjaa.acc (Ac Tm Bi APost BPost TFault TRight OpenIs OweIs SellIs GrantIs RekeyIs wf6 ACame TCame fresh_updN fresh_drew came_lt)
set_option maxRecDepth 100000
set_option linter.unusedVariables false
set_option linter.unusedSimpArgs false

/-- What registering comes to. -/
def RegR (bk : List Cm) (me : Int) (bk' : List Cm) (f : Int) : Prop := (¬ NoneAt bk me ∧ f = 21) ∨ (NoneAt bk me ∧ f = 0 ∧ bk' = bk ++ [⟨⟨me, 0, 1, 0, 0, -1, []⟩, []⟩])
theorem step_cust2 {w : World} {o : Oper} {a : Act} {K : Act → World → Prop} {Q : Exit → Act → World → Prop} (d : Nat) (hd : o.dst = some d) (s x : Operand)
    (ho : o.op = .call { callee := .builtin .append, args := #[s, x], argTypes := #[43, 43] })
    (base G : Nat) (v : Value) (l : List Cu) (r : Cu) (hs : a.eval s = v) (hx : a.eval x = .slice (some ⟨G, 0, none⟩) 1 1) (hv : Lc w base v l) (hu : Blk w G r.cs.toArray 58) (hn : l.length ≤ 2000000) (hbase : base ≤ w.heap.size)
    (h : ∀ v' w', Lc w' base v' (l ++ [r]) → w.grownBy w' v.ownBlock → (v'.ownBlock = v.ownBlock ∨ v'.ownBlock = some w.heap.size) → K (a.put (some d) v') w') : Oper.wp Try.prog o a w K Q := by
  rw [← hd] at h
  exact step_cust s x ho base G v l r hs hx hv hu hn hbase h
theorem lc_same {w w' : World} {base : Nat} {v : Value} {l : List Cu} (h : Lc w base v l) (he : ∀ g, v.ownBlock = some g → w'.heap[g]? = w.heap[g]?) : Lc w' base v l := by
  refine ⟨h.1, ?_⟩
  rcases h.2 with hn | ⟨g', cap, cur, hv, hb, hc, rest⟩
  · exact .inl hn
  · exact .inr ⟨g', cap, cur, hv, hb, by rw [he g' (by rw [hv]; rfl)]; exact hc, rest⟩
/-- Older memory may be turned. -/
theorem Holds.same {w w' : World} {base : Nat} {V : Value} {xs : List Cu} {bk : List Cm} (h : Holds w base V xs bk) (he : ∀ g, base ≤ g → w'.heap[g]? = w.heap[g]?) : Holds w' base V xs bk :=
  ⟨lc_same h.row (fun g hg => he g (World.ownsRow.lt h.row g hg).1), h.len, fun i hi => (h.has i hi).same (fun g hg => he g (World.ownsRow.lt (h.has i hi).so g hg).1) (fun hn p hp => he _ ((h.has i hi).ds.new hn p hp)), h.off, h.self, h.apart⟩
set_option maxHeartbeats 8000000 in
theorem breg (w0 : World) (base gW B : Nat) (t : Tm) (pt : Option Addr) (lt ct : Nat) (a : Option Addr) (n cap : Nat) (xs : List Cu) (bk : List Cm) (me : Int) (w : World) (h : Wr w0 base gW B t pt lt ct (.slice a n cap) xs bk w) (hme : 0 ≤ me ∧ me ≤ 49) : Calls Try.prog 50 #[.pointer (some ⟨gW, 0, none⟩), .int .i64 me] w fun e w' => WPost w0 base gW B t pt lt ct (RegR bk me) w e w' := by
  have HNO : Hid (∀ W, Calls Try.prog 46 #[.int .i64 21] W fun e w' => e = .panicked (thrown 21) ∧ w' = W) := fun W => insist_no 21 (by decide) W
  have HOK : Hid (∀ W, Calls Try.prog 46 #[.int .i64 0] W fun e w' => e = .returned (.tuple #[]) ∧ w' = W) := fun W => insist_ok W
  have HOP : Hid (Calls Try.prog 65 #[.int .i64 me] w fun e w' => APost w (OpenIs me) e w') := acc.kopen w me (wf_i (by omega) (by omega))
  have HR : Hid (Wr w0 base gW B t pt lt ct (.slice a n cap) xs bk w) := h
  have HME : Hid (0 ≤ me ∧ me ≤ 49) := hme
  have q6 : w.cell? ⟨gW, 6, none⟩ = some (.map (some B)) := h.blk.cell 6
  have hlk := lookI_run h.mp me
  clear h hme
  cases hf : firstI (mes bk) me with
  | some k =>
    rw [hf] at hlk
    simp only [Option.getD_some, Option.isSome_some] at hlk
    have HN : Hid (¬ NoneAt bk me) := (first_some hf).some
    clear hf
    go_enter Try.func50, Try.ntmps50
    go_wp2_with fail
    refine (HNO.out _).mono ?_
    rintro e W9 ⟨rfl, rfl⟩
    exact ⟨rfl, Kp.refl _ _ _ _, .inr ⟨21, [], by decide, rfl, .inl ⟨HN.out, rfl⟩⟩⟩
  | none =>
    rw [hf] at hlk
    simp only [Option.getD_none, Option.isSome_none] at hlk
    have HN : Hid (NoneAt bk me) := first_none hf
    have HFI : Hid (firstI (mes bk) me = none) := hf
    clear hf
    go_enter Try.func50, Try.ntmps50
    go_wp2_with fail
    refine HOP.out.mono ?_
    rintro e w1 ⟨b, pb, lb, cb, f, rfl, hi, hf, hb1⟩
    obtain ⟨rfl, rfl⟩ : b = ⟨me, 0, 1, 0, 0, -1, []⟩ ∧ f = 0 := hi.one (.inl ⟨HME.out, rfl, rfl⟩)
    have HLB : Hid (lb = 0) := hf.came.row.1.symm
    have HK1 : Hid (Kp base gW B w w1) := HR.out.kp hb1
    have HF1 : Hid (deb.Fresh w1 base pb lb cb []) := hf.low HR.out.sz
    have HR1 : Hid (Wr w0 base gW B t pt lt ct (.slice a n cap) xs bk w1) := HR.out.next hb1
    have HBW : Hid (Below w0.heap.size w0 w) := HR.out.bel
    have HGO0 : Hid ((Value.slice a n cap).ownBlock = some w1.heap.size → False) := fun q => by have := (World.ownsRow.lt HR1.out.hold.row _ q).2; omega
    clear hb1 hf hi HOP HR q6 hlk
    unfold acc.Ac.v acc.Ac.cs
    have HR2 : Hid (Wr w0 base gW B t pt lt ct (.slice a n cap) xs bk (w1.alloc (.cells #[.int .i64 me, .int .i64 0, .int .i64 1, .int .i64 0, .int .i64 0, .int .i64 (-1), .slice pb lb cb] 55))) := HR1.out.next ((Below.refl _ _).alloc (Nat.le_refl _) _)
    have HK2 : Hid (Kp base gW B w (w1.alloc (.cells #[.int .i64 me, .int .i64 0, .int .i64 1, .int .i64 0, .int .i64 0, .int .i64 (-1), .slice pb lb cb] 55))) := HK1.out.trans (HR1.out.kp ((Below.refl _ _).alloc (Nat.le_refl _) _))
    have HF2 : Hid (deb.Fresh (w1.alloc (.cells #[.int .i64 me, .int .i64 0, .int .i64 1, .int .i64 0, .int .i64 0, .int .i64 (-1), .slice pb lb cb] 55)) base pb lb cb []) := HF1.out.below ((Below.refl _ _).alloc (Nat.le_refl _) _)
    have HA2 : Hid (Blk (w1.alloc (.cells #[.int .i64 me, .int .i64 0, .int .i64 1, .int .i64 0, .int .i64 0, .int .i64 (-1), .slice pb lb cb] 55)) w1.heap.size #[.int .i64 me, .int .i64 0, .int .i64 1, .int .i64 0, .int .i64 0, .int .i64 (-1), .slice pb lb cb] 55) := Blk.new _ _ _
    have HGA : Hid (base ≤ w1.heap.size) := HR1.out.sz
    go_upto_region 4 with fail
    generalize (w1.alloc (.cells #[.int .i64 me, .int .i64 0, .int .i64 1, .int .i64 0, .int .i64 0, .int .i64 (-1), .slice pb lb cb] 55)) = W2 at *
    generalize w1.heap.size = ga at *
    clear HR1 HK1 HF1
    go_wp2_with fail
    refine (HOK.out _).mono ?_
    rintro e W9 ⟨rfl, hw9⟩
    obtain rfl : W2 = W9 := hw9.symm
    go_wp2_with fail
    refine wp_region_held_drew (S := fun u => Blk u gW #[.slice a n cap, .slice pt lt ct, .int .i64 t.ff, .int .i64 t.fb, .int .i64 t.db, .int .i64 t.al, .map (some B)] 72) (by kernel_rfl) (show _ from Blk.drew HR2.out.blk 1) (fun hHeld => ?_)
    have HR3 : Hid (Wr w0 base gW B t pt lt ct (.slice a n cap) xs bk W2.drew) := HR2.out.next (Below.refl _ _).drew
    have HK3 : Hid (Kp base gW B w W2.drew) := HK2.out.trans (HR2.out.kp (Below.refl _ _).drew)
    have HF3 : Hid (deb.Fresh W2.drew base pb lb cb []) := fresh_drew HF2.out
    have HA3 : Hid (Blk W2.drew ga #[.int .i64 me, .int .i64 0, .int .i64 1, .int .i64 0, .int .i64 0, .int .i64 (-1), .slice pb lb cb] 55) := Blk.drew HA2.out 1
    clear HR2 HK2 HF2 HA2
    generalize W2.drew = U5 at *
    refine take_at 0 26 (.pointer (some ⟨gW, 0, none⟩)) _ rfl rfl (by kernel_rfl) (by kernel_rfl) (by kernel_rfl) (fun _ _ _ h => h) (Or.inl ⟨by rfl, fun v hv => by clear hv; go_simp⟩) hHeld ?_
    simp only [Act.put, List.setIfInBounds_toArray, List.set_cons_zero, List.set_cons_succ]
    refine take_at 1 27 (.pointer (some ⟨gW, 0, none⟩)) _ rfl rfl (by kernel_rfl) (by kernel_rfl) (by kernel_rfl) (fun _ _ _ h => h) (Or.inl ⟨by rfl, fun v hv => by clear hv; go_simp⟩) hHeld ?_
    simp only [Act.put, List.setIfInBounds_toArray, List.set_cons_zero, List.set_cons_succ]
    refine take_at 2 28 (.pointer (some ⟨gW, 6, none⟩)) _ rfl rfl (by kernel_rfl) (by kernel_rfl) (by kernel_rfl) (fun _ _ _ h => h) (Or.inl ⟨by rfl, fun v hv => by clear hv; go_simp⟩) hHeld ?_
    simp only [Act.put, List.setIfInBounds_toArray, List.set_cons_zero, List.set_cons_succ]
    refine take_at 3 29 (.map (some B)) _ rfl rfl (by kernel_rfl) (by kernel_rfl) (by kernel_rfl) (fun _ _ _ h => h) (Or.inl ⟨by rfl, fun v hv => by have g0 := hv.cell 6; clear hv; go_simp⟩) hHeld ?_
    simp only [Act.put, List.setIfInBounds_toArray, List.set_cons_zero, List.set_cons_succ]
    refine take_at 4 30 (.int .i64 me) _ rfl rfl (by kernel_rfl) (by kernel_rfl) (by kernel_rfl) (fun _ _ _ h => h) (Or.inl ⟨by rfl, fun v hv => by clear hv; go_simp⟩) hHeld ?_
    simp only [Act.put, List.setIfInBounds_toArray, List.set_cons_zero, List.set_cons_succ]
    refine take_at 5 31 (.pointer (some ⟨gW, 0, none⟩)) _ rfl rfl (by kernel_rfl) (by kernel_rfl) (by kernel_rfl) (fun _ _ _ h => h) (Or.inl ⟨by rfl, fun v hv => by clear hv; go_simp⟩) hHeld ?_
    simp only [Act.put, List.setIfInBounds_toArray, List.set_cons_zero, List.set_cons_succ]
    refine take_at 6 32 (.pointer (some ⟨gW, 0, none⟩)) _ rfl rfl (by kernel_rfl) (by kernel_rfl) (by kernel_rfl) (fun _ _ _ h => h) (Or.inl ⟨by rfl, fun v hv => by clear hv; go_simp⟩) hHeld ?_
    simp only [Act.put, List.setIfInBounds_toArray, List.set_cons_zero, List.set_cons_succ]
    refine take_at 7 33 (.pointer (some ⟨gW, 0, none⟩)) _ rfl rfl (by kernel_rfl) (by kernel_rfl) (by kernel_rfl) (fun _ _ _ h => h) (Or.inl ⟨by rfl, fun v hv => by clear hv; go_simp⟩) hHeld ?_
    simp only [Act.put, List.setIfInBounds_toArray, List.set_cons_zero, List.set_cons_succ]
    refine take_at 8 34 (.pointer (some ⟨gW, 0, none⟩)) _ rfl rfl (by kernel_rfl) (by kernel_rfl) (by kernel_rfl) (fun _ _ _ h => h) (Or.inl ⟨by rfl, fun v hv => by clear hv; go_simp⟩) hHeld ?_
    simp only [Act.put, List.setIfInBounds_toArray, List.set_cons_zero, List.set_cons_succ]
    refine take_at 9 35 (.slice a n cap) _ rfl rfl (by kernel_rfl) (by kernel_rfl) (by kernel_rfl) (fun _ _ _ h => h) (Or.inl ⟨by rfl, fun v hv => by have g0 := hv.cell 0; clear hv; go_simp⟩) hHeld ?_
    simp only [Act.put, List.setIfInBounds_toArray, List.set_cons_zero, List.set_cons_succ]
    refine take_at 10 36 (.int .i64 (n : Int)) _ rfl rfl (by kernel_rfl) (by kernel_rfl) (by kernel_rfl) (fun _ _ _ h => h) (Or.inl ⟨by rfl, fun v hv => by clear hv; go_simp⟩) hHeld ?_
    simp only [Act.put, List.setIfInBounds_toArray, List.set_cons_zero, List.set_cons_succ]
    obtain ⟨W3, hup, hmp, hoth, hbel, hsz, hgr⟩ := updI_run HR3.out.mp me HFI.out
    rw [show (mes bk).length = n by rw [mes_len, ← HR3.out.hold.len]; exact (by obtain ⟨_, _, hv, _⟩ := HR3.out.hold.row.row; injection hv with _ e1 _; exact e1.symm)] at hup
    refine wpAnyH_ready (rs := [11]) (by kernel_rfl) (by simp) (AllReadyH.cons rfl (fun K hK => ?_) AllReadyH.nil)
    rw [if_pos (by rfl)]
    refine wp_mapOp 70 _ _ _ rfl (.map (some B)) (.int .i64 me) (.int .i64 (n : Int)) rfl rfl rfl hup rfl ?_
    have HW3 : Hid (Blk W3 gW #[.slice a n cap, .slice pt lt ct, .int .i64 t.ff, .int .i64 t.fb, .int .i64 t.db, .int .i64 t.al, .map (some B)] 72) := by show W3.heap[gW]? = _; rw [hoth gW HR3.out.ne]; exact HR3.out.blk
    have HA6 : Hid (Blk W3 ga #[.int .i64 me, .int .i64 0, .int .i64 1, .int .i64 0, .int .i64 0, .int .i64 (-1), .slice pb lb cb] 55) := by show W3.heap[ga]? = _; rw [hoth ga (by have := HR3.out.gb; have := HGA.out; omega)]; exact HA3.out
    have HM6 : Hid (MpI W3 B (mes bk ++ [me])) := hmp
    have HH6 : Hid (Holds W3 base (.slice a n cap) xs bk) := HR3.out.hold.same (fun g hg => hoth g (by have := HR3.out.gb; omega))
    have HF6 : Hid (deb.Fresh W3 base pb lb cb []) := ⟨came_same HF3.out.came (fun hn p hp => hoth _ (by have := HF3.out.new hn p hp; have := HR3.out.gb; omega)), HF3.out.new⟩
    have HK6 : Hid (Kp base gW B w W3) := HK3.out.trans ⟨hgr.os, hgr.tape, hgr.output, hgr.size, fun k _ _ h2 => hoth k h2⟩
    have HS6 : Hid (base ≤ W3.heap.size) := by show _ ≤ _; rw [hsz]; exact HR3.out.sz
    have HGE : Hid (gW < base ∧ B < base ∧ gW ≠ B ∧ w0.heap.size ≤ gW ∧ w0.heap.size ≤ B) := ⟨HR3.out.gw, HR3.out.gb, HR3.out.ne, HR3.out.n0, HR3.out.n1⟩
    have HB6 : Hid (Below w0.heap.size w0 W3) := hbel _ _ HR3.out.n1 HR3.out.bel
    have HWF : Hid (AWf bk) := HR3.out.wf
    have HSM : Hid (xs.length ≤ 120) := by show _ ≤ _; rw [HR3.out.hold.len]; exact HR3.out.few.1
    clear hup hmp hoth hbel hsz hgr HF3 HA3 HK3
    refine hK.out _ _ HW3.out (fun hHeld => ?_)
    clear hK K HR3
    refine wpAnyH_done (by kernel_rfl) ?_ _
    clear hHeld
    go_wp2_with fail
    refine wp_region_held_drew (S := fun u => Blk u ga #[.int .i64 me, .int .i64 0, .int .i64 1, .int .i64 0, .int .i64 0, .int .i64 (-1), .slice pb lb cb] 55) (by kernel_rfl) (show _ from Blk.drew HA6.out 1) (fun hHeld => ?_)
    have q0 : W3.drew.cell? ⟨gW, 0, none⟩ = some (.slice a n cap) := HW3.out.cell 0
    have G0 : Hid (Blk W3.drew gW #[.slice a n cap, .slice pt lt ct, .int .i64 t.ff, .int .i64 t.fb, .int .i64 t.db, .int .i64 t.al, .map (some B)] 72) := HW3.out
    have G1 : Hid (Blk W3.drew ga #[.int .i64 me, .int .i64 0, .int .i64 1, .int .i64 0, .int .i64 0, .int .i64 (-1), .slice pb lb cb] 55) := HA6.out
    have G2 : Hid (MpI W3.drew B (mes bk ++ [me])) := HM6.out
    have G3 : Hid (Holds W3.drew base (.slice a n cap) xs bk) := HH6.out.same (fun g hg => rfl)
    have G4 : Hid (deb.Fresh W3.drew base pb lb cb []) := fresh_drew HF6.out
    have G5 : Hid (Kp base gW B w W3.drew) := HK6.out.trans (.of (Below.refl _ _).drew (Nat.le_refl base))
    have G6 : Hid (base ≤ W3.drew.heap.size) := HS6.out
    have G7 : Hid (Below w0.heap.size w0 W3.drew) := HB6.out.drew
    clear HW3 HA6 HM6 HH6 HF6 HK6 HS6 HB6
    generalize W3.drew = U at *
    refine take_at 0 37 (.pointer (some ⟨gW, 0, none⟩)) _ rfl rfl (by kernel_rfl) (by kernel_rfl) (by kernel_rfl) (fun _ _ _ h => h) (Or.inl ⟨by rfl, fun v hv => by clear hv; go_simp⟩) hHeld ?_
    simp only [Act.put, List.setIfInBounds_toArray, List.set_cons_zero, List.set_cons_succ]
    refine take_at 1 38 (.pointer (some ⟨gW, 0, none⟩)) _ rfl rfl (by kernel_rfl) (by kernel_rfl) (by kernel_rfl) (fun _ _ _ h => h) (Or.inl ⟨by rfl, fun v hv => by clear hv; go_simp⟩) hHeld ?_
    simp only [Act.put, List.setIfInBounds_toArray, List.set_cons_zero, List.set_cons_succ]
    refine take_at 2 39 (.pointer (some ⟨gW, 0, none⟩)) _ rfl rfl (by kernel_rfl) (by kernel_rfl) (by kernel_rfl) (fun _ _ _ h => h) (Or.inl ⟨by rfl, fun v hv => by clear hv; go_simp⟩) hHeld ?_
    simp only [Act.put, List.setIfInBounds_toArray, List.set_cons_zero, List.set_cons_succ]
    refine take_at 3 40 (.pointer (some ⟨gW, 0, none⟩)) _ rfl rfl (by kernel_rfl) (by kernel_rfl) (by kernel_rfl) (fun _ _ _ h => h) (Or.inl ⟨by rfl, fun v hv => by clear hv; go_simp⟩) hHeld ?_
    simp only [Act.put, List.setIfInBounds_toArray, List.set_cons_zero, List.set_cons_succ]
    refine take_at 4 41 (.pointer (some ⟨gW, 0, none⟩)) _ rfl rfl (by kernel_rfl) (by kernel_rfl) (by kernel_rfl) (fun _ _ _ h => h) (Or.inl ⟨by rfl, fun v hv => by clear hv; go_simp⟩) hHeld ?_
    simp only [Act.put, List.setIfInBounds_toArray, List.set_cons_zero, List.set_cons_succ]
    refine take_at 6 43 (.agg #[.int .i64 me, .int .i64 0, .int .i64 1, .int .i64 0, .int .i64 0, .int .i64 (-1), .slice pb lb cb]) _ rfl rfl (by kernel_rfl) (by kernel_rfl) (by kernel_rfl) (fun _ _ _ h => h) (Or.inl ⟨by rfl, fun v hv => by have g0 := hv.cell 0; have g1 := hv.cell 1; have g2 := hv.cell 2; have g3 := hv.cell 3; have g4 := hv.cell 4; have g5 := hv.cell 5; have g6 := hv.cell 6; clear hv; go_simp⟩) hHeld ?_
    simp only [Act.put, List.setIfInBounds_toArray, List.set_cons_zero, List.set_cons_succ]
    refine take_at 7 44 (.agg #[.int .i64 me, .int .i64 0, .int .i64 1, .int .i64 0, .int .i64 0, .int .i64 (-1), .slice pb lb cb, .slice none 0 0]) _ rfl rfl (by kernel_rfl) (by kernel_rfl) (by kernel_rfl) (fun _ _ _ h => h) (Or.inl ⟨by rfl, fun v hv => by clear hv; go_simp⟩) hHeld ?_
    simp only [Act.put, List.setIfInBounds_toArray, List.set_cons_zero, List.set_cons_succ]
    have HB0 : Hid (Below w0.heap.size w0 w) := HBW.out
    have HAO : Hid (∀ g, (Value.slice a n cap).ownBlock = some g → ga = g → False) := fun g hg e1 => by subst e1; exact HGO0.out hg
    refine wpAnyH_ready (rs := [5, 8]) (by kernel_rfl) (by simp) (AllReadyH.cons rfl (fun K hK => ?_) (AllReadyH.cons rfl (fun K hK => ?_) AllReadyH.nil))
    · rw [if_pos (by rfl)]
      refine wp_runOp (v := .slice a n cap) (w' := U) 42 rfl (by clear hK; go_simp) ?_
      refine hK.out _ _ G1.out (fun hHeld => ?_)
      clear hK K
      simp only [Act.put, List.setIfInBounds_toArray, List.set_cons_zero, List.set_cons_succ]
      refine wpAnyH_ready (rs := [8]) (by kernel_rfl) (by simp) (AllReadyH.cons rfl (fun K hK => ?_) AllReadyH.nil)
      rw [if_pos (by rfl)]
      refine wp_runOp (v := .slice (some ⟨U.heap.size, 0, none⟩) 1 1) (w' := (U.alloc (.cells #[.int .i64 me, .int .i64 0, .int .i64 1, .int .i64 0, .int .i64 0, .int .i64 (-1), .slice pb lb cb, .slice none 0 0] 58))) 45 rfl (by clear hK; go_simp) ?_
      refine hK.out _ _ (G1.out.alloc _) (fun hHeld => ?_)
      clear hK K q0
      simp only [Act.put, List.setIfInBounds_toArray, List.set_cons_zero, List.set_cons_succ]
      have J0 : Hid (Blk (U.alloc (.cells #[.int .i64 me, .int .i64 0, .int .i64 1, .int .i64 0, .int .i64 0, .int .i64 (-1), .slice pb lb cb, .slice none 0 0] 58)) gW #[.slice a n cap, .slice pt lt ct, .int .i64 t.ff, .int .i64 t.fb, .int .i64 t.db, .int .i64 t.al, .map (some B)] 72) := G0.out.alloc _
      have J1 : Hid (Blk (U.alloc (.cells #[.int .i64 me, .int .i64 0, .int .i64 1, .int .i64 0, .int .i64 0, .int .i64 (-1), .slice pb lb cb, .slice none 0 0] 58)) ga #[.int .i64 me, .int .i64 0, .int .i64 1, .int .i64 0, .int .i64 0, .int .i64 (-1), .slice pb lb cb] 55) := G1.out.alloc _
      have J2 : Hid (MpI (U.alloc (.cells #[.int .i64 me, .int .i64 0, .int .i64 1, .int .i64 0, .int .i64 0, .int .i64 (-1), .slice pb lb cb, .slice none 0 0] 58)) B (mes bk ++ [me])) := G2.out.below ((Below.refl _ _).alloc (Nat.le_refl _) _)
      have J3 : Hid (Holds (U.alloc (.cells #[.int .i64 me, .int .i64 0, .int .i64 1, .int .i64 0, .int .i64 0, .int .i64 (-1), .slice pb lb cb, .slice none 0 0] 58)) base (.slice a n cap) xs bk) := G3.out.next ((Below.refl _ _).alloc (Nat.le_refl _) _)
      have J4 : Hid (deb.Fresh (U.alloc (.cells #[.int .i64 me, .int .i64 0, .int .i64 1, .int .i64 0, .int .i64 0, .int .i64 (-1), .slice pb lb cb, .slice none 0 0] 58)) base pb lb cb []) := G4.out.below ((Below.refl _ _).alloc (Nat.le_refl _) _)
      have J5 : Hid (Kp base gW B w (U.alloc (.cells #[.int .i64 me, .int .i64 0, .int .i64 1, .int .i64 0, .int .i64 0, .int .i64 (-1), .slice pb lb cb, .slice none 0 0] 58))) := G5.out.trans (.of ((Below.refl _ _).alloc (Nat.le_refl _) _) G6.out)
      have J6 : Hid (base ≤ (U.alloc (.cells #[.int .i64 me, .int .i64 0, .int .i64 1, .int .i64 0, .int .i64 0, .int .i64 (-1), .slice pb lb cb, .slice none 0 0] 58)).heap.size) := by show _ ≤ _; have := G6.out; simp; omega
      have J7 : Hid (Below w0.heap.size w0 (U.alloc (.cells #[.int .i64 me, .int .i64 0, .int .i64 1, .int .i64 0, .int .i64 0, .int .i64 (-1), .slice pb lb cb, .slice none 0 0] 58))) := G7.out.alloc G7.out.size _
      have J8 : Hid (Blk (U.alloc (.cells #[.int .i64 me, .int .i64 0, .int .i64 1, .int .i64 0, .int .i64 0, .int .i64 (-1), .slice pb lb cb, .slice none 0 0] 58)) U.heap.size #[.int .i64 me, .int .i64 0, .int .i64 1, .int .i64 0, .int .i64 0, .int .i64 (-1), .slice pb lb cb, .slice none 0 0] 58) := Blk.new _ _ _
      clear G0 G1 G2 G3 G4 G5 G6 G7
      generalize U.heap.size = gn at *
      generalize (U.alloc (.cells #[.int .i64 me, .int .i64 0, .int .i64 1, .int .i64 0, .int .i64 0, .int .i64 (-1), .slice pb lb cb, .slice none 0 0] 58)) = U2 at *
      refine wpAnyH_ready (rs := [9]) (by kernel_rfl) (by simp) (AllReadyH.cons rfl (fun K hK => ?_) AllReadyH.nil)
      rw [if_pos (by rfl)]
      refine step_cust2 46 rfl _ _ rfl base gn _ xs ⟨me, 0, 1, 0, 0, -1, pb, lb, cb, none, 0, 0⟩ rfl rfl J3.out.row J8.out (by have := HSM.out; omega) J6.out ?_
      intro v3 w9 h3 hg3 ho3
      obtain ⟨p3, c3, rfl, _, _, _⟩ := h3.row
      have hown : ∀ g, (Value.slice a n cap).ownBlock = some g → base ≤ g := fun g hg => (World.ownsRow.lt J3.out.row g hg).1
      have J9 : Hid (Holds w9 base (.slice p3 (xs ++ [(⟨me, 0, 1, 0, 0, -1, pb, lb, cb, none, 0, 0⟩ : Cu)]).length c3) (xs ++ [⟨me, 0, 1, 0, 0, -1, pb, lb, cb, none, 0, 0⟩]) (bk ++ [⟨⟨me, 0, 1, 0, 0, -1, []⟩, []⟩])) := J3.out.snoc ⟨⟨rfl, rfl, rfl, rfl, rfl, rfl⟩, J4.out, Lo.zero _ _⟩ rfl HLB.out h3 hg3 ho3
      have hlow : ∀ g, g < base → w9.heap[g]? = U2.heap[g]? := fun g hg => hg3.block g (by have := J6.out; omega) (fun q => by have := hown g q.symm; omega)
      have L0 : Hid (Blk w9 gW #[.slice a n cap, .slice pt lt ct, .int .i64 t.ff, .int .i64 t.fb, .int .i64 t.db, .int .i64 t.al, .map (some B)] 72) := by show w9.heap[gW]? = _; rw [hlow gW HGE.out.1]; exact J0.out
      have L1 : Hid (Blk w9 ga #[.int .i64 me, .int .i64 0, .int .i64 1, .int .i64 0, .int .i64 0, .int .i64 (-1), .slice pb lb cb] 55) := by show w9.heap[ga]? = _; exact (blk_kept J1.out hg3 (fun q => HAO.out _ q.symm rfl))
      have L2 : Hid (MpI w9 B (mes bk ++ [me])) := by show w9.heap[B]? = _; rw [hlow B HGE.out.2.1]; exact J2.out
      have L5 : Hid (Kp base gW B w w9) := J5.out.trans (.grown hg3 J6.out hown)
      have L6 : Hid (base ≤ w9.heap.size) := Nat.le_trans J6.out hg3.size
      have L7 : Hid (Below w0.heap.size w0 w9) := L5.out.bel (HB0.out) (by have := HGE.out; omega) HGE.out.2.2.2.1 HGE.out.2.2.2.2
      refine hK.out _ _ L1.out (fun hHeld => ?_)
      clear hK K h3 hg3 ho3 hown hlow J0 J1 J2 J3 J4 J5 J6 J7 J8
      simp only [Act.put, List.setIfInBounds_toArray, List.set_cons_zero, List.set_cons_succ]
      generalize (xs ++ [(⟨me, 0, 1, 0, 0, -1, pb, lb, cb, none, 0, 0⟩ : Cu)]).length = n3 at *
      refine take_at 10 47 (.pointer (some ⟨gW, 0, none⟩)) _ rfl rfl (by kernel_rfl) (by kernel_rfl) (by kernel_rfl) (fun _ _ _ h => h) (Or.inl ⟨by rfl, fun v hv => by clear hv; go_simp⟩) hHeld ?_
      simp only [Act.put, List.setIfInBounds_toArray, List.set_cons_zero, List.set_cons_succ]
      refine take_at 11 48 (.pointer (some ⟨gW, 0, none⟩)) _ rfl rfl (by kernel_rfl) (by kernel_rfl) (by kernel_rfl) (fun _ _ _ h => h) (Or.inl ⟨by rfl, fun v hv => by clear hv; go_simp⟩) hHeld ?_
      simp only [Act.put, List.setIfInBounds_toArray, List.set_cons_zero, List.set_cons_succ]
      refine take_at 12 49 (.pointer (some ⟨gW, 0, none⟩)) _ rfl rfl (by kernel_rfl) (by kernel_rfl) (by kernel_rfl) (fun _ _ _ h => h) (Or.inl ⟨by rfl, fun v hv => by clear hv; go_simp⟩) hHeld ?_
      simp only [Act.put, List.setIfInBounds_toArray, List.set_cons_zero, List.set_cons_succ]
      refine wpAnyH_ready (rs := [13]) (by kernel_rfl) (by simp) (AllReadyH.cons rfl (fun K hK => ?_) AllReadyH.nil)
      rw [if_pos (by rfl)]
      refine acc.wp_letOp1 43 _ _ rfl gW 0 rfl (.slice p3 n3 c3) rfl rfl (by kernel_rfl) rfl #[.slice a n cap, .slice pt lt ct, .int .i64 t.ff, .int .i64 t.fb, .int .i64 t.db, .int .i64 t.al, .map (some B)] 72 L0.out (by simp) rfl ?_
      intro WF hU
      have M1 : Hid (Blk WF ga #[.int .i64 me, .int .i64 0, .int .i64 1, .int .i64 0, .int .i64 0, .int .i64 (-1), .slice pb lb cb] 55) := hU.keep L1.out (by have := HGE.out.1; have := HGA.out; omega)
      have MF : Hid (WPost w0 base gW B t pt lt ct (RegR bk me) w (.returned (.tuple #[])) WF) := by
        refine ⟨L5.out.trans (.upd hU (.inr rfl)), .inl ⟨.slice p3 n3 c3, _, _, rfl, .inr ⟨HN.out, rfl, rfl⟩, fun hsm => ⟨hU.blk, ?_, J9.out.same (fun g hg => hU.oth g (by have := HGE.out.1; omega)), HGE.out.1, HGE.out.2.1, HGE.out.2.2.1, HGE.out.2.2.2.1, HGE.out.2.2.2.2, by rw [hU.size]; exact L6.out, hU.bel _ _ HGE.out.2.2.2.1 L7.out, hsm, ?_⟩⟩⟩
        · have e1 : mes (bk ++ [(⟨⟨me, 0, 1, 0, 0, -1, []⟩, []⟩ : Cm)]) = mes bk ++ [me] := by simp [mes]
          rw [e1]
          show WF.heap[B]? = _
          rw [hU.oth B (Ne.symm HGE.out.2.2.1)]
          exact L2.out
        · refine HWF.out.snoc ?_
          have hm := HME.out
          exact ⟨wf_i (z := me) (by omega) (by omega), wf_i (z := 0) (by omega) (by omega), wf_i (z := 1) (by omega) (by omega), wf_i (z := 0) (by omega) (by omega), wf_i (z := 0) (by omega) (by omega), wf_i (z := -1) (by omega) (by omega)⟩
      refine hK.out _ _ M1.out (fun hHeld => ?_)
      clear hK K hU
      refine wpAnyH_done (by kernel_rfl) ?_ _
      clear hHeld
      go_wp2_with fail
      go_end0
      exact MF.out
    · rw [if_pos (by rfl)]
      refine wp_runOp (v := .slice (some ⟨U.heap.size, 0, none⟩) 1 1) (w' := (U.alloc (.cells #[.int .i64 me, .int .i64 0, .int .i64 1, .int .i64 0, .int .i64 0, .int .i64 (-1), .slice pb lb cb, .slice none 0 0] 58))) 45 rfl (by clear hK; go_simp) ?_
      refine hK.out _ _ (G1.out.alloc _) (fun hHeld => ?_)
      clear hK K q0
      simp only [Act.put, List.setIfInBounds_toArray, List.set_cons_zero, List.set_cons_succ]
      have q0 : (U.alloc (.cells #[.int .i64 me, .int .i64 0, .int .i64 1, .int .i64 0, .int .i64 0, .int .i64 (-1), .slice pb lb cb, .slice none 0 0] 58)).cell? ⟨gW, 0, none⟩ = some (.slice a n cap) := (G0.out.alloc _).cell 0
      refine wpAnyH_ready (rs := [5]) (by kernel_rfl) (by simp) (AllReadyH.cons rfl (fun K hK => ?_) AllReadyH.nil)
      rw [if_pos (by rfl)]
      refine wp_runOp (v := .slice a n cap) (w' := (U.alloc (.cells #[.int .i64 me, .int .i64 0, .int .i64 1, .int .i64 0, .int .i64 0, .int .i64 (-1), .slice pb lb cb, .slice none 0 0] 58))) 42 rfl (by clear hK; go_simp) ?_
      refine hK.out _ _ (G1.out.alloc _) (fun hHeld => ?_)
      clear hK K q0
      simp only [Act.put, List.setIfInBounds_toArray, List.set_cons_zero, List.set_cons_succ]
      have J0 : Hid (Blk (U.alloc (.cells #[.int .i64 me, .int .i64 0, .int .i64 1, .int .i64 0, .int .i64 0, .int .i64 (-1), .slice pb lb cb, .slice none 0 0] 58)) gW #[.slice a n cap, .slice pt lt ct, .int .i64 t.ff, .int .i64 t.fb, .int .i64 t.db, .int .i64 t.al, .map (some B)] 72) := G0.out.alloc _
      have J1 : Hid (Blk (U.alloc (.cells #[.int .i64 me, .int .i64 0, .int .i64 1, .int .i64 0, .int .i64 0, .int .i64 (-1), .slice pb lb cb, .slice none 0 0] 58)) ga #[.int .i64 me, .int .i64 0, .int .i64 1, .int .i64 0, .int .i64 0, .int .i64 (-1), .slice pb lb cb] 55) := G1.out.alloc _
      have J2 : Hid (MpI (U.alloc (.cells #[.int .i64 me, .int .i64 0, .int .i64 1, .int .i64 0, .int .i64 0, .int .i64 (-1), .slice pb lb cb, .slice none 0 0] 58)) B (mes bk ++ [me])) := G2.out.below ((Below.refl _ _).alloc (Nat.le_refl _) _)
      have J3 : Hid (Holds (U.alloc (.cells #[.int .i64 me, .int .i64 0, .int .i64 1, .int .i64 0, .int .i64 0, .int .i64 (-1), .slice pb lb cb, .slice none 0 0] 58)) base (.slice a n cap) xs bk) := G3.out.next ((Below.refl _ _).alloc (Nat.le_refl _) _)
      have J4 : Hid (deb.Fresh (U.alloc (.cells #[.int .i64 me, .int .i64 0, .int .i64 1, .int .i64 0, .int .i64 0, .int .i64 (-1), .slice pb lb cb, .slice none 0 0] 58)) base pb lb cb []) := G4.out.below ((Below.refl _ _).alloc (Nat.le_refl _) _)
      have J5 : Hid (Kp base gW B w (U.alloc (.cells #[.int .i64 me, .int .i64 0, .int .i64 1, .int .i64 0, .int .i64 0, .int .i64 (-1), .slice pb lb cb, .slice none 0 0] 58))) := G5.out.trans (.of ((Below.refl _ _).alloc (Nat.le_refl _) _) G6.out)
      have J6 : Hid (base ≤ (U.alloc (.cells #[.int .i64 me, .int .i64 0, .int .i64 1, .int .i64 0, .int .i64 0, .int .i64 (-1), .slice pb lb cb, .slice none 0 0] 58)).heap.size) := by show _ ≤ _; have := G6.out; simp; omega
      have J7 : Hid (Below w0.heap.size w0 (U.alloc (.cells #[.int .i64 me, .int .i64 0, .int .i64 1, .int .i64 0, .int .i64 0, .int .i64 (-1), .slice pb lb cb, .slice none 0 0] 58))) := G7.out.alloc G7.out.size _
      have J8 : Hid (Blk (U.alloc (.cells #[.int .i64 me, .int .i64 0, .int .i64 1, .int .i64 0, .int .i64 0, .int .i64 (-1), .slice pb lb cb, .slice none 0 0] 58)) U.heap.size #[.int .i64 me, .int .i64 0, .int .i64 1, .int .i64 0, .int .i64 0, .int .i64 (-1), .slice pb lb cb, .slice none 0 0] 58) := Blk.new _ _ _
      clear G0 G1 G2 G3 G4 G5 G6 G7
      generalize U.heap.size = gn at *
      generalize (U.alloc (.cells #[.int .i64 me, .int .i64 0, .int .i64 1, .int .i64 0, .int .i64 0, .int .i64 (-1), .slice pb lb cb, .slice none 0 0] 58)) = U2 at *
      refine wpAnyH_ready (rs := [9]) (by kernel_rfl) (by simp) (AllReadyH.cons rfl (fun K hK => ?_) AllReadyH.nil)
      rw [if_pos (by rfl)]
      refine step_cust2 46 rfl _ _ rfl base gn _ xs ⟨me, 0, 1, 0, 0, -1, pb, lb, cb, none, 0, 0⟩ rfl rfl J3.out.row J8.out (by have := HSM.out; omega) J6.out ?_
      intro v3 w9 h3 hg3 ho3
      obtain ⟨p3, c3, rfl, _, _, _⟩ := h3.row
      have hown : ∀ g, (Value.slice a n cap).ownBlock = some g → base ≤ g := fun g hg => (World.ownsRow.lt J3.out.row g hg).1
      have J9 : Hid (Holds w9 base (.slice p3 (xs ++ [(⟨me, 0, 1, 0, 0, -1, pb, lb, cb, none, 0, 0⟩ : Cu)]).length c3) (xs ++ [⟨me, 0, 1, 0, 0, -1, pb, lb, cb, none, 0, 0⟩]) (bk ++ [⟨⟨me, 0, 1, 0, 0, -1, []⟩, []⟩])) := J3.out.snoc ⟨⟨rfl, rfl, rfl, rfl, rfl, rfl⟩, J4.out, Lo.zero _ _⟩ rfl HLB.out h3 hg3 ho3
      have hlow : ∀ g, g < base → w9.heap[g]? = U2.heap[g]? := fun g hg => hg3.block g (by have := J6.out; omega) (fun q => by have := hown g q.symm; omega)
      have L0 : Hid (Blk w9 gW #[.slice a n cap, .slice pt lt ct, .int .i64 t.ff, .int .i64 t.fb, .int .i64 t.db, .int .i64 t.al, .map (some B)] 72) := by show w9.heap[gW]? = _; rw [hlow gW HGE.out.1]; exact J0.out
      have L1 : Hid (Blk w9 ga #[.int .i64 me, .int .i64 0, .int .i64 1, .int .i64 0, .int .i64 0, .int .i64 (-1), .slice pb lb cb] 55) := by show w9.heap[ga]? = _; exact (blk_kept J1.out hg3 (fun q => HAO.out _ q.symm rfl))
      have L2 : Hid (MpI w9 B (mes bk ++ [me])) := by show w9.heap[B]? = _; rw [hlow B HGE.out.2.1]; exact J2.out
      have L5 : Hid (Kp base gW B w w9) := J5.out.trans (.grown hg3 J6.out hown)
      have L6 : Hid (base ≤ w9.heap.size) := Nat.le_trans J6.out hg3.size
      have L7 : Hid (Below w0.heap.size w0 w9) := L5.out.bel (HB0.out) (by have := HGE.out; omega) HGE.out.2.2.2.1 HGE.out.2.2.2.2
      refine hK.out _ _ L1.out (fun hHeld => ?_)
      clear hK K h3 hg3 ho3 hown hlow J0 J1 J2 J3 J4 J5 J6 J7 J8
      simp only [Act.put, List.setIfInBounds_toArray, List.set_cons_zero, List.set_cons_succ]
      generalize (xs ++ [(⟨me, 0, 1, 0, 0, -1, pb, lb, cb, none, 0, 0⟩ : Cu)]).length = n3 at *
      refine take_at 10 47 (.pointer (some ⟨gW, 0, none⟩)) _ rfl rfl (by kernel_rfl) (by kernel_rfl) (by kernel_rfl) (fun _ _ _ h => h) (Or.inl ⟨by rfl, fun v hv => by clear hv; go_simp⟩) hHeld ?_
      simp only [Act.put, List.setIfInBounds_toArray, List.set_cons_zero, List.set_cons_succ]
      refine take_at 11 48 (.pointer (some ⟨gW, 0, none⟩)) _ rfl rfl (by kernel_rfl) (by kernel_rfl) (by kernel_rfl) (fun _ _ _ h => h) (Or.inl ⟨by rfl, fun v hv => by clear hv; go_simp⟩) hHeld ?_
      simp only [Act.put, List.setIfInBounds_toArray, List.set_cons_zero, List.set_cons_succ]
      refine take_at 12 49 (.pointer (some ⟨gW, 0, none⟩)) _ rfl rfl (by kernel_rfl) (by kernel_rfl) (by kernel_rfl) (fun _ _ _ h => h) (Or.inl ⟨by rfl, fun v hv => by clear hv; go_simp⟩) hHeld ?_
      simp only [Act.put, List.setIfInBounds_toArray, List.set_cons_zero, List.set_cons_succ]
      refine wpAnyH_ready (rs := [13]) (by kernel_rfl) (by simp) (AllReadyH.cons rfl (fun K hK => ?_) AllReadyH.nil)
      rw [if_pos (by rfl)]
      refine acc.wp_letOp1 43 _ _ rfl gW 0 rfl (.slice p3 n3 c3) rfl rfl (by kernel_rfl) rfl #[.slice a n cap, .slice pt lt ct, .int .i64 t.ff, .int .i64 t.fb, .int .i64 t.db, .int .i64 t.al, .map (some B)] 72 L0.out (by simp) rfl ?_
      intro WF hU
      have M1 : Hid (Blk WF ga #[.int .i64 me, .int .i64 0, .int .i64 1, .int .i64 0, .int .i64 0, .int .i64 (-1), .slice pb lb cb] 55) := hU.keep L1.out (by have := HGE.out.1; have := HGA.out; omega)
      have MF : Hid (WPost w0 base gW B t pt lt ct (RegR bk me) w (.returned (.tuple #[])) WF) := by
        refine ⟨L5.out.trans (.upd hU (.inr rfl)), .inl ⟨.slice p3 n3 c3, _, _, rfl, .inr ⟨HN.out, rfl, rfl⟩, fun hsm => ⟨hU.blk, ?_, J9.out.same (fun g hg => hU.oth g (by have := HGE.out.1; omega)), HGE.out.1, HGE.out.2.1, HGE.out.2.2.1, HGE.out.2.2.2.1, HGE.out.2.2.2.2, by rw [hU.size]; exact L6.out, hU.bel _ _ HGE.out.2.2.2.1 L7.out, hsm, ?_⟩⟩⟩
        · have e1 : mes (bk ++ [(⟨⟨me, 0, 1, 0, 0, -1, []⟩, []⟩ : Cm)]) = mes bk ++ [me] := by simp [mes]
          rw [e1]
          show WF.heap[B]? = _
          rw [hU.oth B (Ne.symm HGE.out.2.2.1)]
          exact L2.out
        · refine HWF.out.snoc ?_
          have hm := HME.out
          exact ⟨wf_i (z := me) (by omega) (by omega), wf_i (z := 0) (by omega) (by omega), wf_i (z := 1) (by omega) (by omega), wf_i (z := 0) (by omega) (by omega), wf_i (z := 0) (by omega) (by omega), wf_i (z := -1) (by omega) (by omega)⟩
      refine hK.out _ _ M1.out (fun hHeld => ?_)
      clear hK K hU
      refine wpAnyH_done (by kernel_rfl) ?_ _
      clear hHeld
      go_wp2_with fail
      go_end0
      exact MF.out

end Go.Proofs.Ytfhlokjpdkmdjaa.book
