import Derived.Test.YtomibnggmhjdfaaGreatVVRrs38
import Derived.Test.YtomibnggmhjdfaaGreatVVRrs39
import Derived.Test.YtomibnggmhjdfaaGreatVVRrs40
set_option linter.unusedVariables false
set_option linter.unusedSimpArgs false
namespace Go.Proofs.YtomibnggmhjdfaaGreat
namespace book
open Go.RowKit
open acc (Ac Tm Bi APost BPost TFault TRight OpenIs OweIs SellIs GrantIs RekeyIs wf6 ACame TCame fresh_updN fresh_drew came_lt)
set_option maxRecDepth 100000
theorem ev_me {v : Ev} (h : EMay v) : 0 ≤ v.me ∧ v.me ≤ 49 := by unfold EMay at h; omega
theorem ev_kd {v : Ev} (h : EMay v) (h1 : v.kd ≠ 1) (h5 : v.kd ≠ 5) : v.kd = 2 ∨ v.kd = 3 ∨ v.kd = 4 := by unfold EMay at h; omega
theorem ev_ow {v : Ev} (h : EMay v) : (Lit.int .i64 v.ow).wf = true ∧ (Lit.int .i64 v.bp).wf = true := by
 have : (0 ≤ v.ow ∧ v.ow ≤ 1000000000) ∧ 0 ≤ v.bp ∧ v.bp ≤ 10000 := by unfold EMay at h; omega
 exact ⟨wf_i (by omega) (by omega), wf_i (by omega) (by omega)⟩
theorem charge_wr {w0 : World} {base gW B : Nat} {t : Tm} {pt : Option Addr} {lt ct g n cap : Nat} {xs : List Cu} {bk : List Cm} {k : Nat} {v : Ev} {y b : Ac} {sol : List So} {dp pb : Option Addr} {dn dc lb cb : Nat} {sp : Option Addr} {sn sc : Nat} {cur : Array Value} {w w1 WF : World}
  (h : Wr w0 base gW B t pt lt ct (.slice (some ⟨g, 0, none⟩) n cap) xs bk w) (hk : k < xs.length) (hx : xs.getD k cu0 = ⟨y.me, y.rv, y.nx, y.mo, y.bo, y.fr, dp, dn, dc, sp, sn, sc⟩) (hc : bk.getD k cm0 = ⟨y, sol⟩) (hcb : Blk w g cur 62) (hcs : k * 8 + 8 ≤ cur.size) (hc7 : cur[k * 8 + 7]? = some (.slice sp sn sc))
  (hm : EMay v) (hh : HapIs t ⟨y, sol⟩ v ⟨b, sol⟩ 0) (hb : Below w.heap.size w w1) (hf : deb.Fresh w1 w.heap.size pb lb cb b.ds) (hU : Upd w1 WF g (putAll cur (k * 8) [.int .i64 b.me, .int .i64 b.rv, .int .i64 b.nx, .int .i64 b.mo, .int .i64 b.bo, .int .i64 b.fr, .slice pb lb cb]) 62) :
  WPost w0 base gW B t pt lt ct (HapR t bk k v) w (.returned (.tuple #[])) WF := by
 have hx0 := h.hold.has k hk
 have hoff := h.hold.off k hk
 rw [hc] at hx0
 rw [hx] at hx0 hoff
 have HOI : ∀ i, (Value.slice sp sn sc).ownBlock = some i → i < w.heap.size ∧ base ≤ i ∧ i ≠ g := fun i hi => ⟨(World.ownsRow.lt hx0.so i hi).2, (World.ownsRow.lt hx0.so i hi).1, fun e => hoff.1 i hi (by rw [e]; rfl)⟩
 have hgb : base ≤ g := (World.ownsRow.lt h.hold.row g rfl).1
 have hgl := hcb.lt
 have hsz0 := h.sz
 have hbb := hU.bel 0 w1 (Nat.zero_le _) (Below.refl _ _)
 have hO : ∀ i, i < w.heap.size → i ≠ g → WF.heap[i]? = w.heap[i]? := fun i h1 h2 => by rw [hU.oth i h2]; exact hb.block i h1
 have hos : WF.os = w.os ∧ WF.tape = w.tape ∧ WF.output = w.output := ⟨hbb.os.trans hb.os, hbb.tape.trans hb.tape, hbb.output.trans hb.output⟩
 have hsz : w.heap.size ≤ WF.heap.size := by rw [hU.size]; exact hb.size
 have hw := hap_wf hh hm
 refine ⟨⟨hos.1, hos.2.1, hos.2.2, hsz, fun i h1 _ _ => hO i (by omega) (by omega)⟩, .inl ⟨.slice (some ⟨g, 0, none⟩) n cap, xs.set k ⟨b.me, b.rv, b.nx, b.mo, b.bo, b.fr, pb, lb, cb, sp, sn, sc⟩, bk.set k ⟨b, sol⟩, rfl, ⟨⟨b, sol⟩, by rw [hc]; exact hh, fun _ => rfl⟩, fun hsm => ?_⟩⟩
 refine put_wr h hk hx hcb (fun i h1 h2 _ => hO i h1 h2) hsz hos (x' := ⟨b.me, b.rv, b.nx, b.mo, b.bo, b.fr, pb, lb, cb, sp, sn, sc⟩) ⟨⟨rfl, rfl, rfl, rfl, rfl, rfl⟩, ⟨acc_upd hf.came hU (fun hn p hp q => by have := hf.new hn p hp; omega), fun hn p hp => by have := hf.new hn p hp; omega⟩, ?_⟩ hw.1 (by rw [hc]; exact hw.2) (fun i hi => .inl hi) (fun hn p hp => hf.new hn p hp) (fun i hi hn p hp q => by have h1 := (HOI i hi).1; have h2 := hf.new hn p hp; omega) ?_ hsm
 ·exact lo_upd (hx0.so.next hb) hU (fun i hi => (HOI i hi).2.2)
 ·have e1 : putAll cur (k * 8) ([.int .i64 b.me, .int .i64 b.rv, .int .i64 b.nx, .int .i64 b.mo, .int .i64 b.bo, .int .i64 b.fr, .slice pb lb cb] ++ [.slice sp sn sc]) = putAll cur (k * 8) [.int .i64 b.me, .int .i64 b.rv, .int .i64 b.nx, .int .i64 b.mo, .int .i64 b.bo, .int .i64 b.fr, .slice pb lb cb] := by
   rw [← putAll_more]
   apply Array.ext_getElem?
   intro j
   by_cases hj : j = k * 8 + 7
   ·subst hj
    rw [show k * 8 + ([.int .i64 b.me, .int .i64 b.rv, .int .i64 b.nx, .int .i64 b.mo, .int .i64 b.bo, .int .i64 b.fr, .slice pb lb cb] : List Value).length = k * 8 + 7 from rfl, Array.getElem?_setIfInBounds_self_of_lt (by rw [putAll_size]; omega), putAll_get _ _ _ _ (by simp; omega), if_neg (by simp only [List.length_cons, List.length_nil]; omega), hc7]
   ·rw [Array.getElem?_setIfInBounds_ne (by simp only [List.length_cons, List.length_nil]; omega)]
  have e2 : (⟨b.me, b.rv, b.nx, b.mo, b.bo, b.fr, pb, lb, cb, sp, sn, sc⟩ : Cu).cs = [.int .i64 b.me, .int .i64 b.rv, .int .i64 b.nx, .int .i64 b.mo, .int .i64 b.bo, .int .i64 b.fr, .slice pb lb cb] ++ [.slice sp sn sc] := rfl
  rw [e2, e1]; exact hU.blk
set_option maxHeartbeats 16000000 in
theorem bhappen (w0 : World) (base gW B : Nat) (t : Tm) (pt : Option Addr) (lt ct : Nat) (a : Option Addr) (n cap : Nat) (xs : List Cu) (bk : List Cm) (v : Ev) (w : World) (h : Wr w0 base gW B t pt lt ct (.slice a n cap) xs bk w) (ht : TCame w0 t pt lt ct) : Calls Tryz.prog 54 #[.pointer (some ⟨gW, 0, none⟩), .agg #[.int .i64 v.kd, .int .i64 v.me, .int .i64 v.mo, .int .i64 v.id, .int .i64 v.te, .int .i64 v.de, .int .i64 v.fe, .int .i64 v.pr, .int .i64 v.ch, .int .i64 v.un, .int .i64 v.tg, .int .i64 v.ow, .int .i64 v.bp]] w fun e w' => WPost w0 base gW B t pt lt ct (StepIs t bk v) w e w' := by
 have HMU : Hid (∀ W, Calls Tryz.prog 63 #[.agg #[.int .i64 v.kd, .int .i64 v.me, .int .i64 v.mo, .int .i64 v.id, .int .i64 v.te, .int .i64 v.de, .int .i64 v.fe, .int .i64 v.pr, .int .i64 v.ch, .int .i64 v.un, .int .i64 v.tg, .int .i64 v.ow, .int .i64 v.bp]] W fun e w' => MustPost W v e w') := fun W => bmust v W
 have HR : Hid (Wr w0 base gW B t pt lt ct (.slice a n cap) xs bk w) := h
 have HT : Hid (TCame w0 t pt lt ct) := ht
 have HSZ : Hid (base ≤ w.heap.size) := h.sz
 clear h ht
 obtain ⟨W0, HWW, H0v, H0B, -⟩ := sh1 w #[.int .i64 v.kd, .int .i64 v.me, .int .i64 v.mo, .int .i64 v.id, .int .i64 v.te, .int .i64 v.de, .int .i64 v.fe, .int .i64 v.pr, .int .i64 v.ch, .int .i64 v.un, .int .i64 v.tg, .int .i64 v.ow, .int .i64 v.bp] 71
 go_enter Tryz.func54, Tryz.ntmps54
 go_upto_region 1 with fail
 rw [HWW.out]
 clear HWW
 go_wp2_with (first
  | (refine zqw rfl rfl rfl H0v zqu71 ?_)
  | fail)
 refine (HMU.out _).mono ?_
 rintro e W1 ⟨hm, hb⟩
 have H1v := shN H0v hb
 have H1B := shB H0B hb
 clear H0v H0B
 clear hb HMU
 rcases hm with ⟨hm, rfl⟩ | ⟨hm, rfl⟩
 case inr =>
  exact ⟨rfl, .of H1B.out HSZ.out, .inr ⟨5, [], by decide, rfl, .inl ⟨hm, rfl⟩⟩⟩
 have HMA : Hid (EMay v) := hm
 have HGN : Hid (∀ cur, ¬ Blk W1 w.heap.size cur 62) := fun cur q => by have h1 : W1.heap[w.heap.size]? = _ := H1v.out; have h2 : W1.heap[w.heap.size]? = _ := q; rw [h1] at h2; simp at h2
 clear hm
 have HR1 : Hid (Wr w0 base gW B t pt lt ct (.slice a n cap) xs bk W1) := HR.out.next H1B.out
 have HK1 : Hid (Kp base gW B w W1) := .of H1B.out HSZ.out
 clear HR
 have hgv : w.heap.size < W1.heap.size := H1v.out.lt
 have c0 : W1.cell? ⟨w.heap.size, 0, none⟩ = some (.int .i64 v.kd) := H1v.out.cell 0
 have c1 : W1.cell? ⟨w.heap.size, 1, none⟩ = some (.int .i64 v.me) := H1v.out.cell 1
 by_cases k1 : v.kd = 1
 case pos =>
  have q1 : (v.kd == 1) = true := by simpa using k1
  have HK : Hid (v.kd = 1) := k1
  clear k1
  have HRG : Hid (Calls Tryz.prog 76 #[.pointer (some ⟨gW, 0, none⟩), .int .i64 v.me] W1 fun e w' => WPost w0 base gW B t pt lt ct (RegR bk v.me) W1 e w') := breg w0 base gW B t pt lt ct a n cap xs bk v.me W1 HR1.out (ev_me HMA.out)
  go_wp2_with fail
  refine HRG.out.mono ?_
  intro e w9 hp
  have hq := hp.back (R' := StepIs t bk v) HK1.out (fun b f hr => by rcases hr with ⟨h1, rfl⟩ | ⟨h1, rfl, rfl⟩; exact .inr (.inl ⟨HMA.out, HK.out, h1, rfl⟩); exact .inr (.inr (.inl ⟨HMA.out, HK.out, h1, rfl, rfl⟩)))
  have HQ : Hid (WPost w0 base gW B t pt lt ct (StepIs t bk v) w e w9) := hq
  clear hp hq
  rcases HQ.out.2 with ⟨V3, xs3, bk3, rfl, _⟩ | ⟨f, bk3, _, rfl, _⟩
  ·go_wp2_with fail
   go_end0
   exact HQ.out
  ·exact ⟨rfl, HQ.out⟩
 have q1 : (v.kd == 1) = false := by simpa using k1
 have HN1 : Hid (v.kd ≠ 1) := k1
 clear k1
 have HCU : Hid (Calls Tryz.prog 77 #[.pointer (some ⟨gW, 0, none⟩), .int .i64 v.me] W1 fun e w' => CuPost W1 a bk v.me e w') := by
  have hl : xs.length = n := by obtain ⟨_, _, hv, _⟩ := HR1.out.hold.row.row; injection hv with _ e1 _; exact e1.symm
  refine bcust gW B t pt lt ct a n cap bk v.me W1 HR1.out.blk HR1.out.mp (by rw [← HR1.out.hold.len, hl]) (fun hn => ?_) (by have := HR1.out.few.1; have := HR1.out.hold.len; omega)
  obtain ⟨g, cur, e1, _⟩ := at_cust HR1.out.hold.row (k := 0) (by omega)
  exact ⟨g, e1⟩
 go_wp2_with fail
 refine HCU.out.mono ?_
 rintro e w9 ⟨hw9, hcu⟩
 obtain rfl : W1 = w9 := hw9.symm
 clear HCU
 rcases hcu with ⟨k, g, hfa, rfl, rfl⟩ | ⟨hno, rfl⟩
 case inr =>
  exact ⟨rfl, HK1.out, .inr ⟨18, [], by decide, rfl, .inr (.inr (.inr (.inl ⟨HMA.out, HN1.out, hno, rfl⟩)))⟩⟩
 have HFA : Hid (FirstAt bk v.me k) := hfa
 have HKL : Hid (k < xs.length) := by show _ < _; rw [HR1.out.hold.len]; exact hfa.1
 clear hfa
 by_cases k5 : v.kd = 5
 case neg =>
  have q5 : (v.kd == 5) = false := by simpa using k5
  have HN5 : Hid (v.kd ≠ 5) := k5
  clear k5
  have HSE : Hid (Calls Tryz.prog 79 #[.pointer (some ⟨gW, 0, none⟩), .pointer (some ⟨g, k * 8, none⟩), .agg #[.int .i64 v.kd, .int .i64 v.me, .int .i64 v.mo, .int .i64 v.id, .int .i64 v.te, .int .i64 v.de, .int .i64 v.fe, .int .i64 v.pr, .int .i64 v.ch, .int .i64 v.un, .int .i64 v.tg, .int .i64 v.ow, .int .i64 v.bp]] W1 fun e w' => WPost w0 base gW B t pt lt ct (HapR t bk k v) W1 e w') := bsell w0 base gW B t pt lt ct g n cap xs bk k v W1 HR1.out HKL.out HT.out HMA.out (ev_kd HMA.out HN1.out HN5.out)
  generalize k * 8 = O at *
  go_wp2_with (first
   | (refine zqw rfl rfl rfl H1v zqu71 ?_)
   | fail)
  refine HSE.out.mono ?_
  intro e w9 hp
  have hq := hp.back (R' := StepIs t bk v) HK1.out (fun b f hr => by obtain ⟨c', h1, h2⟩ := hr; exact .inr (.inr (.inr (.inr ⟨HMA.out, HN1.out, k, c', HFA.out, h1, h2⟩))))
  have HQ : Hid (WPost w0 base gW B t pt lt ct (StepIs t bk v) w e w9) := hq
  clear hp hq
  rcases HQ.out.2 with ⟨V3, xs3, bk3, rfl, _⟩ | ⟨f, bk3, _, rfl, _⟩
  ·go_wp2_with fail
   go_end0
   exact HQ.out
  ·exact ⟨rfl, HQ.out⟩
 have q5 : (v.kd == 5) = true := by simpa using k5
 have HK5 : Hid (v.kd = 5) := k5
 clear k5
 have hx0 := HR1.out.hold.has k HKL.out
 have hwf0 : wf6 (bk.getD k cm0).a := HR1.out.wf _ (getD_in (by rw [← HR1.out.hold.len]; exact HKL.out))
 obtain ⟨c, hc⟩ : ∃ c, bk.getD k cm0 = c := ⟨_, rfl⟩
 obtain ⟨x, hx⟩ : ∃ x, xs.getD k cu0 = x := ⟨_, rfl⟩
 obtain ⟨g', cur, e1, hgb, hcb, hcs, hcc⟩ := at_cust HR1.out.hold.row HKL.out
 obtain rfl : g = g' := by injection e1 with e1; injection e1
 clear e1
 rw [hc] at hx0 hwf0
 rw [hx] at hx0 hcc
 obtain ⟨y, sol⟩ := c
 obtain ⟨dp, dn, dc, sp, sn, sc, rfl⟩ := cuA_of hx0.num
 have HX : Hid (xs.getD k cu0 = (⟨y.me, y.rv, y.nx, y.mo, y.bo, y.fr, dp, dn, dc, sp, sn, sc⟩ : Cu)) := hx
 have HC : Hid (bk.getD k cm0 = ⟨y, sol⟩) := hc
 have HCB : Hid (Blk W1 g cur 62) := hcb
 have HCS : Hid (k * 8 + 8 ≤ cur.size) := hcs
 have hgl : g < W1.heap.size := hcb.lt
 have hgv2 : g ≠ w.heap.size := fun q => HGN.out cur (by rw [← q]; exact hcb)
 have HOW : Hid (Calls Tryz.prog 78 #[.agg #[.int .i64 y.me, .int .i64 y.rv, .int .i64 y.nx, .int .i64 y.mo, .int .i64 y.bo, .int .i64 y.fr, .slice dp dn dc], .agg #[.int .i64 v.ow, .int .i64 v.bp]] W1.drew fun e w' => OwPost W1.drew y ⟨v.ow, v.bp⟩ e w') := bowing y dp dn dc ⟨v.ow, v.bp⟩ W1.drew ⟨hx0.ds.came.below (Below.refl _ _).drew, hwf0⟩ (ev_ow HMA.out)
 have HC0 : Hid (cur[k * 8 + 0]? = some (.int .i64 y.me)) := hcc 0 (by decide)
 have HC1 : Hid (cur[k * 8 + 1]? = some (.int .i64 y.rv)) := hcc 1 (by decide)
 have HC2 : Hid (cur[k * 8 + 2]? = some (.int .i64 y.nx)) := hcc 2 (by decide)
 have HC3 : Hid (cur[k * 8 + 3]? = some (.int .i64 y.mo)) := hcc 3 (by decide)
 have HC4 : Hid (cur[k * 8 + 4]? = some (.int .i64 y.bo)) := hcc 4 (by decide)
 have HC5 : Hid (cur[k * 8 + 5]? = some (.int .i64 y.fr)) := hcc 5 (by decide)
 have HC6 : Hid (cur[k * 8 + 6]? = some (.slice dp dn dc)) := hcc 6 (by decide)
 have HC7 : Hid (cur[k * 8 + 7]? = some (.slice sp sn sc)) := hcc 7 (by decide)
 clear hcc hx hc hx0 hwf0 hgb hcs
 obtain ⟨O, hO⟩ : ∃ O, k * 8 = O := ⟨_, rfl⟩
 have HO : Hid (k * 8 = O) := hO
 rw [hO] at HCS HC0 HC1 HC2 HC3 HC4 HC5 HC6 HC7
 rw [hO]
 clear hO
 go_wp2_with fail
 clear q1 q5 c0 c1
 refine wp_region_held_drew (S := fun u => Blk u w.heap.size #[.int .i64 v.kd, .int .i64 v.me, .int .i64 v.mo, .int .i64 v.id, .int .i64 v.te, .int .i64 v.de, .int .i64 v.fe, .int .i64 v.pr, .int .i64 v.ch, .int .i64 v.un, .int .i64 v.tg, .int .i64 v.ow, .int .i64 v.bp] 71) (by kernel_rfl) (show _ from Blk.drew H1v.out 1) (fun hHeld => ?_)
 have z0 : W1.drew.cell? ⟨g, O, none⟩ = some (.int .i64 y.me) := (HCB.out.cell (O + 0)).trans HC0.out
 have z1 : W1.drew.cell? ⟨g, O + 1, none⟩ = some (.int .i64 y.rv) := (HCB.out.cell (O + 1)).trans HC1.out
 have z2 : W1.drew.cell? ⟨g, O + 2, none⟩ = some (.int .i64 y.nx) := (HCB.out.cell (O + 2)).trans HC2.out
 have z3 : W1.drew.cell? ⟨g, O + 3, none⟩ = some (.int .i64 y.mo) := (HCB.out.cell (O + 3)).trans HC3.out
 have z4 : W1.drew.cell? ⟨g, O + 4, none⟩ = some (.int .i64 y.bo) := (HCB.out.cell (O + 4)).trans HC4.out
 have z5 : W1.drew.cell? ⟨g, O + 5, none⟩ = some (.int .i64 y.fr) := (HCB.out.cell (O + 5)).trans HC5.out
 have z6 : W1.drew.cell? ⟨g, O + 6, none⟩ = some (.slice dp dn dc) := (HCB.out.cell (O + 6)).trans HC6.out
 refine zqt 0 21 (.pointer (some ⟨g, O, none⟩)) rfl rfl (by kernel_rfl) (fun _ _ _ h => h) (Or.inl ⟨by rfl, fun v hv => by clear hv; go_simp⟩) hHeld ?_
 simp only [Act.put, zqa, zqb, zqc]
 refine zqt 1 22 (.pointer (some ⟨g, O, none⟩)) rfl rfl (by kernel_rfl) (fun _ _ _ h => h) (Or.inl ⟨by rfl, fun v hv => by clear hv; go_simp⟩) hHeld ?_
 simp only [Act.put, zqa, zqb, zqc]
 refine zqt 2 23 (.pointer (some ⟨g, O, none⟩)) rfl rfl (by kernel_rfl) (fun _ _ _ h => h) (Or.inl ⟨by rfl, fun v hv => by clear hv; go_simp⟩) hHeld ?_
 simp only [Act.put, zqa, zqb, zqc]
 refine zqt 3 24 (.pointer (some ⟨g, O, none⟩)) rfl rfl (by kernel_rfl) (fun _ _ _ h => h) (Or.inl ⟨by rfl, fun v hv => by clear hv; go_simp⟩) hHeld ?_
 simp only [Act.put, zqa, zqb, zqc]
 refine zqt 5 26 (.pointer (some ⟨w.heap.size, 11, none⟩)) rfl rfl (by kernel_rfl) (fun _ _ _ h => h) (Or.inl ⟨by rfl, fun v hv => by clear hv; go_simp⟩) hHeld ?_
 simp only [Act.put, zqa, zqb, zqc]
 refine zqt 6 27 (.agg #[.int .i64 v.ow, .int .i64 v.bp]) rfl rfl (by kernel_rfl) (fun _ _ _ h => h) (Or.inl ⟨by rfl, fun v hv => by have g0 := hv.cell 11; have g1 := hv.cell 12; clear hv; go_simp⟩) hHeld ?_
 simp only [Act.put, zqa, zqb, zqc]
 refine wpAnyH_ready (rs := [4]) (by kernel_rfl) (by simp) (AllReadyH.cons rfl (fun K hK => ?_) AllReadyH.nil)
 rw [if_pos (by rfl)]
 refine wp_runOp (v := .agg #[.int .i64 y.me, .int .i64 y.rv, .int .i64 y.nx, .int .i64 y.mo, .int .i64 y.bo, .int .i64 y.fr, .slice dp dn dc]) (w' := W1.drew) 25 rfl (by clear hK; go_simp) ?_
 refine hK.out _ _ (Blk.drew H1v.out 1) (fun hHeld => ?_)
 clear hK K z0 z1 z2 z3 z4 z5 z6
 simp only [Act.put, zqa, zqb, zqc]
 refine wpAnyH_ready (rs := [7]) (by kernel_rfl) (by simp) (AllReadyH.cons rfl (fun K hK => ?_) AllReadyH.nil)
 rw [if_pos (by rfl)]
 refine wp_callOpP 28 rfl (by clear hK; go_simp) HOW.out ?_
 rintro e w2 ⟨hb, hp⟩
 rcases hp with ⟨b, pb, lb, cb, rfl, hi, hf⟩ | ⟨b, f, hf, rfl, hi⟩
 case inr =>
  exact .inr ⟨_, rfl, rfl, HK1.out.trans (.of ((Below.refl W1.heap.size W1).drew.trans hb) HR1.out.sz), .inr ⟨f, [], hf, rfl, .inr (.inr (.inr (.inr ⟨HMA.out, HN1.out, k, ⟨y, sol⟩, HFA.out, by rw [HC.out]; exact .inl ⟨HK5.out, b, hi, fun q => absurd q hf⟩, fun q => absurd q hf⟩)))⟩⟩
 refine .inl ⟨_, rfl, ?_⟩
 have hb2 : Below W1.heap.size W1 w2 := (Below.refl W1.heap.size W1).drew.trans hb
 have HV2 := shN H1v hb2
 have HC2 := shN HCB hb2
 have HB2 : Hid (Below W1.heap.size W1 w2) := hb2
 have HI : Hid (OweIs y ⟨v.ow, v.bp⟩ b 0) := hi
 have HF : Hid (deb.Fresh w2 W1.heap.size pb lb cb b.ds) := hf
 refine hK.out _ _ HV2.out (fun hHeld => ?_)
 clear hK K hi hf hb hb2 HOW
 unfold acc.Ac.v acc.Ac.cs
 simp only [Act.put, zqa, zqb, zqc]
 refine zqt 8 29 (.pointer (some ⟨g, O, none⟩)) rfl rfl (by kernel_rfl) (fun _ _ _ h => h) (Or.inl ⟨by rfl, fun v hv => by clear hv; go_simp⟩) hHeld ?_
 simp only [Act.put, zqa, zqb, zqc]
 refine zqt 9 30 (.pointer (some ⟨g, O, none⟩)) rfl rfl (by kernel_rfl) (fun _ _ _ h => h) (Or.inl ⟨by rfl, fun v hv => by clear hv; go_simp⟩) hHeld ?_
 simp only [Act.put, zqa, zqb, zqc]
 refine wpAnyH_ready (rs := [10]) (by kernel_rfl) (by simp) (AllReadyH.cons rfl (fun K hK => ?_) AllReadyH.nil)
 rw [if_pos (by rfl)]
 refine wp_letOpN 59 _ _ rfl g O rfl (.agg #[.int .i64 b.me, .int .i64 b.rv, .int .i64 b.nx, .int .i64 b.mo, .int .i64 b.bo, .int .i64 b.fr, .slice pb lb cb]) rfl #[.int .i64 b.me, .int .i64 b.rv, .int .i64 b.nx, .int .i64 b.mo, .int .i64 b.bo, .int .i64 b.fr, .slice pb lb cb] rfl (by kernel_rfl) (by simp [Value.oneCell']) cur 62 HC2.out (by have := HCS.out; simp; omega) (putAll cur O [.int .i64 b.me, .int .i64 b.rv, .int .i64 b.nx, .int .i64 b.mo, .int .i64 b.bo, .int .i64 b.fr, .slice pb lb cb]) rfl rfl ?_
 intro WF hU
 have M1 : Hid (Blk WF w.heap.size #[.int .i64 v.kd, .int .i64 v.me, .int .i64 v.mo, .int .i64 v.id, .int .i64 v.te, .int .i64 v.de, .int .i64 v.fe, .int .i64 v.pr, .int .i64 v.ch, .int .i64 v.un, .int .i64 v.tg, .int .i64 v.ow, .int .i64 v.bp] 71) := hU.keep HV2.out (Ne.symm hgv2)
 have MF : Hid (WPost w0 base gW B t pt lt ct (StepIs t bk v) w (.returned (.tuple #[])) WF) := by
  have hh : HapIs t ⟨y, sol⟩ v ⟨b, sol⟩ 0 := .inl ⟨HK5.out, b, HI.out, fun _ => rfl⟩
  refine (charge_wr HR1.out HKL.out HX.out HC.out HCB.out (by rw [HO.out]; exact HCS.out) (by rw [HO.out]; exact HC7.out) HMA.out hh HB2.out HF.out (by rw [HO.out]; exact hU)).back HK1.out (fun bb f hr => ?_)
  obtain ⟨c', h1, h2⟩ := hr
  exact .inr (.inr (.inr (.inr ⟨HMA.out, HN1.out, k, c', HFA.out, h1, h2⟩)))
 refine hK.out _ _ M1.out (fun hHeld => ?_)
 clear hK K hU
 refine wpAnyH_done (by kernel_rfl) ?_ _
 clear hHeld
 go_wp2_with fail
 go_end0
 exact MF.out
set_option maxHeartbeats 1000000 in
theorem of_caught (ge gn ga : Nat) (f0 m0 a0 f : Int) (hf : f ≠ 0) (w : World) (he : Blk w ge #[.int .i64 f0] 30) (hn : Blk w gn #[.int .i64 m0] 3) (ha : Blk w ga #[.int .i64 a0] 3) (h1 : gn ≠ ge) (h2 : ga ≠ ge) :
  CallsD Tryz.prog 52 #[.pointer (some ⟨ge, 0, none⟩), .pointer (some ⟨gn, 0, none⟩), .pointer (some ⟨ga, 0, none⟩)] (.panicking (thrown f)) w fun e u' w' => e = .returned (.tuple #[]) ∧ settle u' = .returning ∧ ∃ W W2, Below w.heap.size w W ∧ Upd W W2 ge #[.int .i64 f] 30 ∧ Upd W2 w' ga #[.int .i64 m0] 3 := by
 refine callsD_of_wpS Tryz.func52 rfl fun c₀ cs hu => ?_
 apply wpS_seq
 apply wpS_region
 simp only [thrown] at hu
 simp [wpOpsS, go_sem, recoverD, hu, Tryz.ntmps52, Exit.thenS]
 refine (reason_is f w).mono ?_
 rintro e w1 ⟨rfl, hb1⟩
 have hE := he.next hb1
 have hN := hn.next hb1
 have hA := ha.next hb1
 have hc : w1.cell? ⟨ge, 0, none⟩ = some (.int .i64 f0) := hE.cell 0
 have hz : w1.frozen? ⟨ge, 0, none⟩ = false := hE.free 0
 have hU : Upd w1 (w1.setCell ⟨ge, 0, none⟩ (.int .i64 f)) ge #[.int .i64 f] 30 := upd_cells ge _ [.int .i64 f] 0 w1 _ hE
 simp [go_sem, hc, hz, Exit.thenS]
 generalize w1.setCell ⟨ge, 0, none⟩ (.int .i64 f) = W2 at *
 have hE2 := hU.blk
 have hN2 := hU.keep hN h1
 have hA2 := hU.keep hA h2
 have q0 : W2.cell? ⟨ge, 0, none⟩ = some (.int .i64 f) := hE2.cell 0
 have q1 : W2.cell? ⟨gn, 0, none⟩ = some (.int .i64 m0) := hN2.cell 0
 have nf : (f != 0) = true := by simpa using hf
 change Code.wpS _ _ _ { tmps := #[.pointer (some ⟨ge, 0, none⟩), .pointer (some ⟨gn, 0, none⟩), .pointer (some ⟨ga, 0, none⟩), refV f, .int .i64 f, undef, undef, undef], defers := [] } _ _
 apply wpS_of_wp
 have HA2 : Hid (Blk W2 ga #[.int .i64 a0] 3) := hA2
 have HU : Hid (Upd w1 W2 ge #[.int .i64 f] 30) := hU
 have HB : Hid (Below w.heap.size w w1) := hb1
 clear hf he hn ha hE hN hA hc hz hU hE2 hN2 hA2 hb1 hu
 go_wp2_with (first | (refine wp_let1 rfl 3 _ _ rfl ga 0 rfl .i64 m0 rfl (by kernel_rfl) #[.int .i64 a0] 3 HA2.out (by simp) ?_) | fail)
 intro W3 hU3
 have HU3 : Hid (Upd W2 W3 ga #[.int .i64 m0] 3) := hU3
 clear hU3
 go_wp2_with fail
 simp [bodyPostS, results, Tryz.results52, settle]
 exact ⟨w1, HB.out, W2, HU.out, HU3.out⟩
set_option maxHeartbeats 1000000 in
theorem of_idle (ge gn ga : Nat) (f0 : Int) (w : World) (he : Blk w ge #[.int .i64 f0] 30) :
  CallsD Tryz.prog 52 #[.pointer (some ⟨ge, 0, none⟩), .pointer (some ⟨gn, 0, none⟩), .pointer (some ⟨ga, 0, none⟩)] .returning w fun e u' w' => e = .returned (.tuple #[]) ∧ settle u' = .returning ∧ ∃ W, Below w.heap.size w W ∧ Upd W w' ge #[.int .i64 0] 30 := by
 refine callsD_of_wpS Tryz.func52 rfl fun c₀ cs hu => ?_
 apply wpS_seq
 apply wpS_region
 simp [wpOpsS, go_sem, recoverD, hu, Tryz.ntmps52, Exit.thenS]
 refine (reason_nil w).mono ?_
 rintro e w1 ⟨rfl, rfl⟩
 have hc : w1.cell? ⟨ge, 0, none⟩ = some (.int .i64 f0) := he.cell 0
 have hz : w1.frozen? ⟨ge, 0, none⟩ = false := he.free 0
 have hU : Upd w1 (w1.setCell ⟨ge, 0, none⟩ (.int .i64 0)) ge #[.int .i64 0] 30 := upd_cells ge _ [.int .i64 0] 0 w1 _ he
 simp [go_sem, hc, hz, Exit.thenS]
 generalize w1.setCell ⟨ge, 0, none⟩ (.int .i64 0) = W2 at *
 have q0 : W2.cell? ⟨ge, 0, none⟩ = some (.int .i64 0) := hU.blk.cell 0
 change Code.wpS _ _ _ { tmps := #[.pointer (some ⟨ge, 0, none⟩), .pointer (some ⟨gn, 0, none⟩), .pointer (some ⟨ga, 0, none⟩), .nilIface, .int .i64 0, undef, undef, undef], defers := [] } _ _
 apply wpS_of_wp
 have HU : Hid (Upd w1 W2 ge #[.int .i64 0] 30) := hU
 have HH : Hid (c₀.mode = .returning) := hu
 clear he hc hz hU hu
 go_wp2_with fail
 have hu := HH.out
 have hU := HU.out
 simp [bodyPostS, results, Tryz.results52, hu, settle]
 exact ⟨.returning, (by cases c₀; simp_all), rfl, w1, Below.refl _ _, hU⟩
def KOf : Prop := ∀ (W : World) (t : acc.Tm) (pt : Option Addr) (lt ct : Nat) (pl : Option Addr) (n cap : Nat) (l : List Ev), acc.TCame W t pt lt ct → ECame W pl n cap l → Calls Tryz.prog 31 #[t.v pt lt ct, .slice pl n cap] W fun e w' => BookPost W t l e w'
end book
end Go.Proofs.YtomibnggmhjdfaaGreat
