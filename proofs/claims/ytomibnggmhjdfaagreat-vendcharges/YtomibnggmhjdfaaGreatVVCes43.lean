import Derived.Test.YtomibnggmhjdfaaGreatVVCes35
import Derived.Test.YtomibnggmhjdfaaGreatVVCes41
import Derived.Test.YtomibnggmhjdfaaGreatVVCes42
set_option linter.unusedVariables false
set_option linter.unusedSimpArgs false
namespace Go.Proofs.YtomibnggmhjdfaaGreat
namespace book
open Go.RowKit
open acc (Ac Tm Bi APost BPost TFault TRight OpenIs OweIs SellIs GrantIs RekeyIs wf6 ACame TCame fresh_updN fresh_drew came_lt)
set_option maxRecDepth 100000
def OwPost (w : World) (x : Ac) (d : tar.Du) (e : Ending) (w' : World) : Prop := Below w.heap.size w w' ∧ ((∃ b pb lb cb, e = .returned (acc.Ac.v b pb lb cb) ∧ OweIs x d b 0 ∧ deb.Fresh w' w.heap.size pb lb cb b.ds) ∨ ∃ b f, f ≠ 0 ∧ e = .panicked (thrown f) ∧ OweIs x d b f)
set_option maxHeartbeats 4000000 in
theorem bowing (x : Ac) (p : Option Addr) (len cap : Nat) (d : tar.Du) (w : World) (ha : ACame w x p len cap) (hd : (Lit.int .i64 d.a).wf = true ∧ (Lit.int .i64 d.b).wf = true) : Calls Tryz.prog 78 #[.agg #[.int .i64 x.me, .int .i64 x.rv, .int .i64 x.nx, .int .i64 x.mo, .int .i64 x.bo, .int .i64 x.fr, .slice p len cap], .agg #[.int .i64 d.a, .int .i64 d.b]] w fun e w' => OwPost w x d e w' := by
 have HNO : Hid (∀ (f : Int) (hf : f ≠ 0) W, Calls Tryz.prog 87 #[.int .i64 f] W fun e w' => e = .panicked (thrown f) ∧ w' = W) := fun f hf W => insist_no f hf W
 have HOK : Hid (∀ W, Calls Tryz.prog 87 #[.int .i64 0] W fun e w' => e = .returned (.tuple #[]) ∧ w' = W) := fun W => insist_ok W
 obtain ⟨W0, HWW, H0a, H0d, H0r, H0B, hs0⟩ := sh3 w #[.int .i64 x.me, .int .i64 x.rv, .int .i64 x.nx, .int .i64 x.mo, .int .i64 x.bo, .int .i64 x.fr, .slice p len cap] 59 #[.int .i64 d.a, .int .i64 d.b] 43 #[.int .i64 0, .int .i64 0, .int .i64 0, .int .i64 0, .int .i64 0, .int .i64 0, .slice none 0 0] 59
 have H0A : Hid (ACame W0 x p len cap) := ha.below H0B.out
 go_enter Tryz.func78, Tryz.ntmps78
 go_upto_region 1 with fail
 rw [HWW.out]
 clear HWW
 have HSL : Hid (Calls Tryz.prog 28 #[.agg #[.int .i64 x.me, .int .i64 x.rv, .int .i64 x.nx, .int .i64 x.mo, .int .i64 x.bo, .int .i64 x.fr, .slice p len cap], .agg #[.int .i64 d.a, .int .i64 d.b]] W0 fun e w' => APost W0 (OweIs x d) e w') := acc.kowe _ x p len cap d H0A.out hd
 clear hd ha
 have HS0 : Hid (w.heap.size ≤ W0.heap.size) := H0B.out.size
 go_wp2_with (first
  | (refine zqw rfl rfl rfl H0a zqu59 ?_)
  | (refine zqw rfl rfl rfl H0d zqu43 ?_)
  | (refine zqw rfl rfl rfl H0r zqu59 ?_)
  | fail)
 refine HSL.out.mono ?_
 rintro e w1 ⟨b, pb, lb, cb, f, rfl, hi, hf, hb1⟩
 have hW1 : W0.heap.size ≤ w1.heap.size := hb1.size
 have HI : Hid (OweIs x d b f) := hi
 have HF1 : Hid (deb.Fresh w1 W0.heap.size pb lb cb b.ds) := hf
 have H1a := shN H0a hb1
 have H1d := shN H0d hb1
 have H1r := shN H0r hb1
 have H1B := shB H0B hb1
 clear H0a H0d H0r H0B
 clear hi hf hb1 HSL
 unfold acc.Ac.v acc.Ac.cs
 go_wp2_with (first
  | (refine zql rfl rfl rfl rfl zqu59 (by simp [Value.oneCell']) H1a rfl ?_)
  | (refine zqw rfl rfl rfl H1a zqu59 ?_)
  | (refine zqw rfl rfl rfl H1d zqu43 ?_)
  | (refine zqw rfl rfl rfl H1r zqu59 ?_)
  | fail)
 intro V1 hU
 have H2a : Hid (Blk V1 (w.heap.size) #[.int .i64 b.me, .int .i64 b.rv, .int .i64 b.nx, .int .i64 b.mo, .int .i64 b.bo, .int .i64 b.fr, .slice pb lb cb] 59) := hU.blk
 have H2d := shK hU H1d (by omega)
 have H2r := shK hU H1r (by omega)
 have H2B := shV hU H1B (by omega)
 clear H1a H1d H1r H1B
 have HF2 : Hid (deb.Fresh V1 W0.heap.size pb lb cb b.ds) := fresh_updN HF1.out hU (fun hn y hy => by have f1 := HF1.out.new hn y hy; omega)
 clear hU HF1
 by_cases h0 : f = 0
 case neg =>
  have HN1 := HNO.out f h0
  have HN2 : Hid (∀ W, Calls Tryz.prog 87 #[.int .i64 f] W fun e w' => e = .panicked (thrown f) ∧ w' = W) := HN1
  have HNE : Hid (f ≠ 0) := h0
  clear HN1 HNO h0
  go_wp2_with (first
   | (refine zqw rfl rfl rfl H2a zqu59 ?_)
   | (refine zqw rfl rfl rfl H2d zqu43 ?_)
   | (refine zqw rfl rfl rfl H2r zqu59 ?_)
   | fail)
  refine (HN2.out _).mono ?_
  rintro e W9 ⟨rfl, rfl⟩
  exact ⟨rfl, H2B.out, .inr ⟨b, f, HNE.out, rfl, HI.out⟩⟩
 subst h0
 go_wp2_with (first
  | (refine zqw rfl rfl rfl H2a zqu59 ?_)
  | (refine zqw rfl rfl rfl H2d zqu43 ?_)
  | (refine zqw rfl rfl rfl H2r zqu59 ?_)
  | fail)
 refine (HOK.out _).mono ?_
 rintro e W9 ⟨rfl, hw9⟩
 obtain rfl : V1 = W9 := hw9.symm
 go_wp2_with (first
  | (refine zql rfl rfl rfl rfl zqu59 (by simp [Value.oneCell']) H2r rfl ?_)
  | (refine zqw rfl rfl rfl H2a zqu59 ?_)
  | (refine zqw rfl rfl rfl H2d zqu43 ?_)
  | (refine zqw rfl rfl rfl H2r zqu59 ?_)
  | fail)
 intro V2 hU
 have H3a := shK hU H2a (by omega)
 have H3d := shK hU H2d (by omega)
 have H3r : Hid (Blk V2 (w.heap.size + 1 + 1) #[.int .i64 b.me, .int .i64 b.rv, .int .i64 b.nx, .int .i64 b.mo, .int .i64 b.bo, .int .i64 b.fr, .slice pb lb cb] 59) := hU.blk
 have H3B := shV hU H2B (by omega)
 clear H2a H2d H2r H2B
 have HF3 : Hid (deb.Fresh V2 W0.heap.size pb lb cb b.ds) := fresh_updN HF2.out hU (fun hn y hy => by have f1 := HF2.out.new hn y hy; omega)
 clear hU HF2
 obtain ⟨R0, R1, R2, R3, R4, R5, R6⟩ := shc7 H3r
 go_wp2_with fail
 exact bodyPost_ret (v := .agg #[.int .i64 b.me, .int .i64 b.rv, .int .i64 b.nx, .int .i64 b.mo, .int .i64 b.bo, .int .i64 b.fr, .slice pb lb cb]) (by simp [results, Tryz.results78, R0.out, R1.out, R2.out, R3.out, R4.out, R5.out, R6.out, go_sem]) rfl ⟨H3B.out, .inl ⟨b, pb, lb, cb, rfl, HI.out, HF3.out.low HS0.out⟩⟩
theorem ev_me {v : Ev} (h : EMay v) : 0 ≤ v.me ∧ v.me ≤ 49 := by unfold EMay at h; omega
theorem ev_kd {v : Ev} (h : EMay v) (h1 : v.kd ≠ 1) (h5 : v.kd ≠ 5) : v.kd = 2 ∨ v.kd = 3 ∨ v.kd = 4 := by unfold EMay at h; omega
theorem ev_ow {v : Ev} (h : EMay v) : (Lit.int .i64 v.ow).wf = true ∧ (Lit.int .i64 v.bp).wf = true := by
 have : (0 ≤ v.ow ∧ v.ow ≤ 1000000000) ∧ 0 ≤ v.bp ∧ v.bp ≤ 10000 := by unfold EMay at h; omega
 exact ⟨wf_i (by omega) (by omega), wf_i (by omega) (by omega)⟩
theorem charge_wr {w0 : World} {base gW B : Nat} {t : Tm} {pt : Option Addr} {lt ct g n cap : Nat} {xs : List Cu} {bk : List Cm} {k : Nat} {v : Ev} {y b : Ac} {sol : List So} {dp pb : Option Addr} {dn dc lb cb : Nat} {sp : Option Addr} {sn sc : Nat} {cur : Array Value} {w w1 WF : World}
  (h : Wr w0 base gW B t pt lt ct (.slice (some ⟨g, 0, none⟩) n cap) xs bk w) (hk : k < xs.length) (hx : xs.getD k cu0 = ⟨y.me, y.rv, y.nx, y.mo, y.bo, y.fr, dp, dn, dc, sp, sn, sc⟩) (hc : bk.getD k cm0 = ⟨y, sol⟩) (hcb : Blk w g cur 62) (hcs : k * 8 + 8 ≤ cur.size) (hc7 : cur[k * 8 + 7]? = some (.slice sp sn sc))
  (hm : EMay v) (hh : HapIs t ⟨y, sol⟩ v ⟨b, sol⟩ 0) (hb : Below w.heap.size w w1) (hf : deb.Fresh w1 w.heap.size pb lb cb b.ds) (hU : Upd w1 WF g (putAll cur (k * 8) [.int .i64 b.me, .int .i64 b.rv, .int .i64 b.nx, .int .i64 b.mo, .int .i64 b.bo, .int .i64 b.fr, .slice pb lb cb]) 62) :
  WPost w0 base gW B t pt lt ct (HapR t bk k v) w (.returned (.tuple #[])) WF := by
 have hx0 := h.hold.has k hk
 have hoff := h.hold.off k hk
 rw [hc] at hx0
 rw [hx] at hx0 hoff
 have HOI : ∀ i, (Value.slice sp sn sc).ownBlock = some i → i < w.heap.size ∧ base ≤ i ∧ i ≠ g := fun i hi => ⟨(World.ownsRow.lt hx0.so i hi).2, (World.ownsRow.lt hx0.so i hi).1, fun e => hoff.1 i hi (by rw [e]; rfl)⟩
 have hgb : base ≤ g := (World.ownsRow.lt h.hold.row g rfl).1
 have hgl := hcb.lt
 have hsz0 := h.sz
 have hbb := hU.bel 0 w1 (Nat.zero_le _) (Below.refl _ _)
 have hO : ∀ i, i < w.heap.size → i ≠ g → WF.heap[i]? = w.heap[i]? := fun i h1 h2 => by rw [hU.oth i h2]; exact hb.block i h1
 have hos : WF.os = w.os ∧ WF.tape = w.tape ∧ WF.output = w.output := ⟨hbb.os.trans hb.os, hbb.tape.trans hb.tape, hbb.output.trans hb.output⟩
 have hsz : w.heap.size ≤ WF.heap.size := by rw [hU.size]; exact hb.size
 have hw := hap_wf hh hm
 refine ⟨⟨hos.1, hos.2.1, hos.2.2, hsz, fun i h1 _ _ => hO i (by omega) (by omega)⟩, .inl ⟨.slice (some ⟨g, 0, none⟩) n cap, xs.set k ⟨b.me, b.rv, b.nx, b.mo, b.bo, b.fr, pb, lb, cb, sp, sn, sc⟩, bk.set k ⟨b, sol⟩, rfl, ⟨⟨b, sol⟩, by rw [hc]; exact hh, fun _ => rfl⟩, fun hsm => ?_⟩⟩
 refine put_wr h hk hx hcb (fun i h1 h2 _ => hO i h1 h2) hsz hos (x' := ⟨b.me, b.rv, b.nx, b.mo, b.bo, b.fr, pb, lb, cb, sp, sn, sc⟩) ⟨⟨rfl, rfl, rfl, rfl, rfl, rfl⟩, ⟨acc_upd hf.came hU (fun hn p hp q => by have := hf.new hn p hp; omega), fun hn p hp => by have := hf.new hn p hp; omega⟩, ?_⟩ hw.1 (by rw [hc]; exact hw.2) (fun i hi => .inl hi) (fun hn p hp => hf.new hn p hp) (fun i hi hn p hp q => by have h1 := (HOI i hi).1; have h2 := hf.new hn p hp; omega) ?_ hsm
 ·exact lo_upd (hx0.so.next hb) hU (fun i hi => (HOI i hi).2.2)
 ·have e1 : putAll cur (k * 8) ([.int .i64 b.me, .int .i64 b.rv, .int .i64 b.nx, .int .i64 b.mo, .int .i64 b.bo, .int .i64 b.fr, .slice pb lb cb] ++ [.slice sp sn sc]) = putAll cur (k * 8) [.int .i64 b.me, .int .i64 b.rv, .int .i64 b.nx, .int .i64 b.mo, .int .i64 b.bo, .int .i64 b.fr, .slice pb lb cb] := by
   rw [← putAll_more]
   apply Array.ext_getElem?
   intro j
   by_cases hj : j = k * 8 + 7
   ·subst hj
    rw [show k * 8 + ([.int .i64 b.me, .int .i64 b.rv, .int .i64 b.nx, .int .i64 b.mo, .int .i64 b.bo, .int .i64 b.fr, .slice pb lb cb] : List Value).length = k * 8 + 7 from rfl, Array.getElem?_setIfInBounds_self_of_lt (by rw [putAll_size]; omega), putAll_get _ _ _ _ (by simp; omega), if_neg (by simp only [List.length_cons, List.length_nil]; omega), hc7]
   ·rw [Array.getElem?_setIfInBounds_ne (by simp only [List.length_cons, List.length_nil]; omega)]
  have e2 : (⟨b.me, b.rv, b.nx, b.mo, b.bo, b.fr, pb, lb, cb, sp, sn, sc⟩ : Cu).cs = [.int .i64 b.me, .int .i64 b.rv, .int .i64 b.nx, .int .i64 b.mo, .int .i64 b.bo, .int .i64 b.fr, .slice pb lb cb] ++ [.slice sp sn sc] := rfl
  rw [e2, e1]; exact hU.blk
set_option maxHeartbeats 16000000 in
theorem bhappen (w0 : World) (base gW B : Nat) (t : Tm) (pt : Option Addr) (lt ct : Nat) (a : Option Addr) (n cap : Nat) (xs : List Cu) (bk : List Cm) (v : Ev) (w : World) (h : Wr w0 base gW B t pt lt ct (.slice a n cap) xs bk w) (ht : TCame w0 t pt lt ct) : Calls Tryz.prog 54 #[.pointer (some ⟨gW, 0, none⟩), .agg #[.int .i64 v.kd, .int .i64 v.me, .int .i64 v.mo, .int .i64 v.id, .int .i64 v.te, .int .i64 v.de, .int .i64 v.fe, .int .i64 v.pr, .int .i64 v.ch, .int .i64 v.un, .int .i64 v.tg, .int .i64 v.ow, .int .i64 v.bp]] w fun e w' => WPost w0 base gW B t pt lt ct (StepIs t bk v) w e w' := by
 have HMU : Hid (∀ W, Calls Tryz.prog 63 #[.agg #[.int .i64 v.kd, .int .i64 v.me, .int .i64 v.mo, .int .i64 v.id, .int .i64 v.te, .int .i64 v.de, .int .i64 v.fe, .int .i64 v.pr, .int .i64 v.ch, .int .i64 v.un, .int .i64 v.tg, .int .i64 v.ow, .int .i64 v.bp]] W fun e w' => MustPost W v e w') := fun W => bmust v W
 have HR : Hid (Wr w0 base gW B t pt lt ct (.slice a n cap) xs bk w) := h
 have HT : Hid (TCame w0 t pt lt ct) := ht
 have HSZ : Hid (base ≤ w.heap.size) := h.sz
 clear h ht
 obtain ⟨W0, HWW, H0v, H0B, -⟩ := sh1 w #[.int .i64 v.kd, .int .i64 v.me, .int .i64 v.mo, .int .i64 v.id, .int .i64 v.te, .int .i64 v.de, .int .i64 v.fe, .int .i64 v.pr, .int .i64 v.ch, .int .i64 v.un, .int .i64 v.tg, .int .i64 v.ow, .int .i64 v.bp] 71
 go_enter Tryz.func54, Tryz.ntmps54
 go_upto_region 1 with fail
 rw [HWW.out]
 clear HWW
 go_wp2_with (first
  | (refine zqw rfl rfl rfl H0v zqu71 ?_)
  | fail)
 refine (HMU.out _).mono ?_
 rintro e W1 ⟨hm, hb⟩
 have H1v := shN H0v hb
 have H1B := shB H0B hb
 clear H0v H0B
 clear hb HMU
 rcases hm with ⟨hm, rfl⟩ | ⟨hm, rfl⟩
 case inr =>
  exact ⟨rfl, .of H1B.out HSZ.out, .inr ⟨5, [], by decide, rfl, .inl ⟨hm, rfl⟩⟩⟩
 have HMA : Hid (EMay v) := hm
 have HGN : Hid (∀ cur, ¬ Blk W1 w.heap.size cur 62) := fun cur q => by have h1 : W1.heap[w.heap.size]? = _ := H1v.out; have h2 : W1.heap[w.heap.size]? = _ := q; rw [h1] at h2; simp at h2
 clear hm
 have HR1 : Hid (Wr w0 base gW B t pt lt ct (.slice a n cap) xs bk W1) := HR.out.next H1B.out
 have HK1 : Hid (Kp base gW B w W1) := .of H1B.out HSZ.out
 clear HR
 have hgv : w.heap.size < W1.heap.size := H1v.out.lt
 have c0 : W1.cell? ⟨w.heap.size, 0, none⟩ = some (.int .i64 v.kd) := H1v.out.cell 0
 have c1 : W1.cell? ⟨w.heap.size, 1, none⟩ = some (.int .i64 v.me) := H1v.out.cell 1
 by_cases k1 : v.kd = 1
 case pos =>
  have q1 : (v.kd == 1) = true := by simpa using k1
  have HK : Hid (v.kd = 1) := k1
  clear k1
  have HRG : Hid (Calls Tryz.prog 76 #[.pointer (some ⟨gW, 0, none⟩), .int .i64 v.me] W1 fun e w' => WPost w0 base gW B t pt lt ct (RegR bk v.me) W1 e w') := breg w0 base gW B t pt lt ct a n cap xs bk v.me W1 HR1.out (ev_me HMA.out)
  go_wp2_with fail
  refine HRG.out.mono ?_
  intro e w9 hp
  have hq := hp.back (R' := StepIs t bk v) HK1.out (fun b f hr => by rcases hr with ⟨h1, rfl⟩ | ⟨h1, rfl, rfl⟩; exact .inr (.inl ⟨HMA.out, HK.out, h1, rfl⟩); exact .inr (.inr (.inl ⟨HMA.out, HK.out, h1, rfl, rfl⟩)))
  have HQ : Hid (WPost w0 base gW B t pt lt ct (StepIs t bk v) w e w9) := hq
  clear hp hq
  rcases HQ.out.2 with ⟨V3, xs3, bk3, rfl, _⟩ | ⟨f, bk3, _, rfl, _⟩
  ·go_wp2_with fail
   go_end0
   exact HQ.out
  ·exact ⟨rfl, HQ.out⟩
 have q1 : (v.kd == 1) = false := by simpa using k1
 have HN1 : Hid (v.kd ≠ 1) := k1
 clear k1
 have HCU : Hid (Calls Tryz.prog 77 #[.pointer (some ⟨gW, 0, none⟩), .int .i64 v.me] W1 fun e w' => CuPost W1 a bk v.me e w') := by
  have hl : xs.length = n := by obtain ⟨_, _, hv, _⟩ := HR1.out.hold.row.row; injection hv with _ e1 _; exact e1.symm
  refine bcust gW B t pt lt ct a n cap bk v.me W1 HR1.out.blk HR1.out.mp (by rw [← HR1.out.hold.len, hl]) (fun hn => ?_) (by have := HR1.out.few.1; have := HR1.out.hold.len; omega)
  obtain ⟨g, cur, e1, _⟩ := at_cust HR1.out.hold.row (k := 0) (by omega)
  exact ⟨g, e1⟩
 go_wp2_with fail
 refine HCU.out.mono ?_
 rintro e w9 ⟨hw9, hcu⟩
 obtain rfl : W1 = w9 := hw9.symm
 clear HCU
 rcases hcu with ⟨k, g, hfa, rfl, rfl⟩ | ⟨hno, rfl⟩
 case inr =>
  exact ⟨rfl, HK1.out, .inr ⟨18, [], by decide, rfl, .inr (.inr (.inr (.inl ⟨HMA.out, HN1.out, hno, rfl⟩)))⟩⟩
 have HFA : Hid (FirstAt bk v.me k) := hfa
 have HKL : Hid (k < xs.length) := by show _ < _; rw [HR1.out.hold.len]; exact hfa.1
 clear hfa
 by_cases k5 : v.kd = 5
 case neg =>
  have q5 : (v.kd == 5) = false := by simpa using k5
  have HN5 : Hid (v.kd ≠ 5) := k5
  clear k5
  have HSE : Hid (Calls Tryz.prog 79 #[.pointer (some ⟨gW, 0, none⟩), .pointer (some ⟨g, k * 8, none⟩), .agg #[.int .i64 v.kd, .int .i64 v.me, .int .i64 v.mo, .int .i64 v.id, .int .i64 v.te, .int .i64 v.de, .int .i64 v.fe, .int .i64 v.pr, .int .i64 v.ch, .int .i64 v.un, .int .i64 v.tg, .int .i64 v.ow, .int .i64 v.bp]] W1 fun e w' => WPost w0 base gW B t pt lt ct (HapR t bk k v) W1 e w') := bsell w0 base gW B t pt lt ct g n cap xs bk k v W1 HR1.out HKL.out HT.out HMA.out (ev_kd HMA.out HN1.out HN5.out)
  generalize k * 8 = O at *
  go_wp2_with (first
   | (refine zqw rfl rfl rfl H1v zqu71 ?_)
   | fail)
  refine HSE.out.mono ?_
  intro e w9 hp
  have hq := hp.back (R' := StepIs t bk v) HK1.out (fun b f hr => by obtain ⟨c', h1, h2⟩ := hr; exact .inr (.inr (.inr (.inr ⟨HMA.out, HN1.out, k, c', HFA.out, h1, h2⟩))))
  have HQ : Hid (WPost w0 base gW B t pt lt ct (StepIs t bk v) w e w9) := hq
  clear hp hq
  rcases HQ.out.2 with ⟨V3, xs3, bk3, rfl, _⟩ | ⟨f, bk3, _, rfl, _⟩
  ·go_wp2_with fail
   go_end0
   exact HQ.out
  ·exact ⟨rfl, HQ.out⟩
 have q5 : (v.kd == 5) = true := by simpa using k5
 have HK5 : Hid (v.kd = 5) := k5
 clear k5
 have hx0 := HR1.out.hold.has k HKL.out
 have hwf0 : wf6 (bk.getD k cm0).a := HR1.out.wf _ (getD_in (by rw [← HR1.out.hold.len]; exact HKL.out))
 obtain ⟨c, hc⟩ : ∃ c, bk.getD k cm0 = c := ⟨_, rfl⟩
 obtain ⟨x, hx⟩ : ∃ x, xs.getD k cu0 = x := ⟨_, rfl⟩
 obtain ⟨g', cur, e1, hgb, hcb, hcs, hcc⟩ := at_cust HR1.out.hold.row HKL.out
 obtain rfl : g = g' := by injection e1 with e1; injection e1
 clear e1
 rw [hc] at hx0 hwf0
 rw [hx] at hx0 hcc
 obtain ⟨y, sol⟩ := c
 obtain ⟨dp, dn, dc, sp, sn, sc, rfl⟩ := cuA_of hx0.num
 have HX : Hid (xs.getD k cu0 = (⟨y.me, y.rv, y.nx, y.mo, y.bo, y.fr, dp, dn, dc, sp, sn, sc⟩ : Cu)) := hx
 have HC : Hid (bk.getD k cm0 = ⟨y, sol⟩) := hc
 have HCB : Hid (Blk W1 g cur 62) := hcb
 have HCS : Hid (k * 8 + 8 ≤ cur.size) := hcs
 have hgl : g < W1.heap.size := hcb.lt
 have hgv2 : g ≠ w.heap.size := fun q => HGN.out cur (by rw [← q]; exact hcb)
 have HOW : Hid (Calls Tryz.prog 78 #[.agg #[.int .i64 y.me, .int .i64 y.rv, .int .i64 y.nx, .int .i64 y.mo, .int .i64 y.bo, .int .i64 y.fr, .slice dp dn dc], .agg #[.int .i64 v.ow, .int .i64 v.bp]] W1.drew fun e w' => OwPost W1.drew y ⟨v.ow, v.bp⟩ e w') := bowing y dp dn dc ⟨v.ow, v.bp⟩ W1.drew ⟨hx0.ds.came.below (Below.refl _ _).drew, hwf0⟩ (ev_ow HMA.out)
 have HC0 : Hid (cur[k * 8 + 0]? = some (.int .i64 y.me)) := hcc 0 (by decide)
 have HC1 : Hid (cur[k * 8 + 1]? = some (.int .i64 y.rv)) := hcc 1 (by decide)
 have HC2 : Hid (cur[k * 8 + 2]? = some (.int .i64 y.nx)) := hcc 2 (by decide)
 have HC3 : Hid (cur[k * 8 + 3]? = some (.int .i64 y.mo)) := hcc 3 (by decide)
 have HC4 : Hid (cur[k * 8 + 4]? = some (.int .i64 y.bo)) := hcc 4 (by decide)
 have HC5 : Hid (cur[k * 8 + 5]? = some (.int .i64 y.fr)) := hcc 5 (by decide)
 have HC6 : Hid (cur[k * 8 + 6]? = some (.slice dp dn dc)) := hcc 6 (by decide)
 have HC7 : Hid (cur[k * 8 + 7]? = some (.slice sp sn sc)) := hcc 7 (by decide)
 clear hcc hx hc hx0 hwf0 hgb hcs
 obtain ⟨O, hO⟩ : ∃ O, k * 8 = O := ⟨_, rfl⟩
 have HO : Hid (k * 8 = O) := hO
 rw [hO] at HCS HC0 HC1 HC2 HC3 HC4 HC5 HC6 HC7
 rw [hO]
 clear hO
 go_wp2_with fail
 clear q1 q5 c0 c1
 refine wp_region_held_drew (S := fun u => Blk u w.heap.size #[.int .i64 v.kd, .int .i64 v.me, .int .i64 v.mo, .int .i64 v.id, .int .i64 v.te, .int .i64 v.de, .int .i64 v.fe, .int .i64 v.pr, .int .i64 v.ch, .int .i64 v.un, .int .i64 v.tg, .int .i64 v.ow, .int .i64 v.bp] 71) (by kernel_rfl) (show _ from Blk.drew H1v.out 1) (fun hHeld => ?_)
 have z0 : W1.drew.cell? ⟨g, O, none⟩ = some (.int .i64 y.me) := (HCB.out.cell (O + 0)).trans HC0.out
 have z1 : W1.drew.cell? ⟨g, O + 1, none⟩ = some (.int .i64 y.rv) := (HCB.out.cell (O + 1)).trans HC1.out
 have z2 : W1.drew.cell? ⟨g, O + 2, none⟩ = some (.int .i64 y.nx) := (HCB.out.cell (O + 2)).trans HC2.out
 have z3 : W1.drew.cell? ⟨g, O + 3, none⟩ = some (.int .i64 y.mo) := (HCB.out.cell (O + 3)).trans HC3.out
 have z4 : W1.drew.cell? ⟨g, O + 4, none⟩ = some (.int .i64 y.bo) := (HCB.out.cell (O + 4)).trans HC4.out
 have z5 : W1.drew.cell? ⟨g, O + 5, none⟩ = some (.int .i64 y.fr) := (HCB.out.cell (O + 5)).trans HC5.out
 have z6 : W1.drew.cell? ⟨g, O + 6, none⟩ = some (.slice dp dn dc) := (HCB.out.cell (O + 6)).trans HC6.out
 refine zqs 0 21 (.pointer (some ⟨g, O, none⟩)) rfl rfl (by kernel_rfl) (fun _ _ _ h => h) rfl (fun v hv => by clear hv; go_simp) hHeld ?_
 simp only [Act.put, zqa, zqb, zqc]
 refine zqs 1 22 (.pointer (some ⟨g, O, none⟩)) rfl rfl (by kernel_rfl) (fun _ _ _ h => h) rfl (fun v hv => by clear hv; go_simp) hHeld ?_
 simp only [Act.put, zqa, zqb, zqc]
 refine zqs 2 23 (.pointer (some ⟨g, O, none⟩)) rfl rfl (by kernel_rfl) (fun _ _ _ h => h) rfl (fun v hv => by clear hv; go_simp) hHeld ?_
 simp only [Act.put, zqa, zqb, zqc]
 refine zqs 3 24 (.pointer (some ⟨g, O, none⟩)) rfl rfl (by kernel_rfl) (fun _ _ _ h => h) rfl (fun v hv => by clear hv; go_simp) hHeld ?_
 simp only [Act.put, zqa, zqb, zqc]
 refine zqs 5 26 (.pointer (some ⟨w.heap.size, 11, none⟩)) rfl rfl (by kernel_rfl) (fun _ _ _ h => h) rfl (fun v hv => by clear hv; go_simp) hHeld ?_
 simp only [Act.put, zqa, zqb, zqc]
 refine zqt 6 27 (.agg #[.int .i64 v.ow, .int .i64 v.bp]) rfl rfl (by kernel_rfl) (fun _ _ _ h => h) (Or.inl ⟨by rfl, fun v hv => by have g0 := hv.cell 11; have g1 := hv.cell 12; clear hv; go_simp⟩) hHeld ?_
 simp only [Act.put, zqa, zqb, zqc]
 refine zqo 4 (by kernel_rfl) rfl (fun K hK => ?_)
 rw [if_pos (by rfl)]
 refine wp_runOp (v := .agg #[.int .i64 y.me, .int .i64 y.rv, .int .i64 y.nx, .int .i64 y.mo, .int .i64 y.bo, .int .i64 y.fr, .slice dp dn dc]) (w' := W1.drew) 25 rfl (by clear hK; go_simp) ?_
 refine hK.out _ _ (Blk.drew H1v.out 1) (fun hHeld => ?_)
 clear hK K z0 z1 z2 z3 z4 z5 z6
 simp only [Act.put, zqa, zqb, zqc]
 refine zqo 7 (by kernel_rfl) rfl (fun K hK => ?_)
 rw [if_pos (by rfl)]
 refine wp_callOpP 28 rfl (by clear hK; go_simp) HOW.out ?_
 rintro e w2 ⟨hb, hp⟩
 rcases hp with ⟨b, pb, lb, cb, rfl, hi, hf⟩ | ⟨b, f, hf, rfl, hi⟩
 case inr =>
  exact .inr ⟨_, rfl, rfl, HK1.out.trans (.of ((Below.refl W1.heap.size W1).drew.trans hb) HR1.out.sz), .inr ⟨f, [], hf, rfl, .inr (.inr (.inr (.inr ⟨HMA.out, HN1.out, k, ⟨y, sol⟩, HFA.out, by rw [HC.out]; exact .inl ⟨HK5.out, b, hi, fun q => absurd q hf⟩, fun q => absurd q hf⟩)))⟩⟩
 refine .inl ⟨_, rfl, ?_⟩
 have hb2 : Below W1.heap.size W1 w2 := (Below.refl W1.heap.size W1).drew.trans hb
 have HV2 := shN H1v hb2
 have HC2 := shN HCB hb2
 have HB2 : Hid (Below W1.heap.size W1 w2) := hb2
 have HI : Hid (OweIs y ⟨v.ow, v.bp⟩ b 0) := hi
 have HF : Hid (deb.Fresh w2 W1.heap.size pb lb cb b.ds) := hf
 refine hK.out _ _ HV2.out (fun hHeld => ?_)
 clear hK K hi hf hb hb2 HOW
 unfold acc.Ac.v acc.Ac.cs
 simp only [Act.put, zqa, zqb, zqc]
 refine zqs 8 29 (.pointer (some ⟨g, O, none⟩)) rfl rfl (by kernel_rfl) (fun _ _ _ h => h) rfl (fun v hv => by clear hv; go_simp) hHeld ?_
 simp only [Act.put, zqa, zqb, zqc]
 refine zqs 9 30 (.pointer (some ⟨g, O, none⟩)) rfl rfl (by kernel_rfl) (fun _ _ _ h => h) rfl (fun v hv => by clear hv; go_simp) hHeld ?_
 simp only [Act.put, zqa, zqb, zqc]
 refine zqo 10 (by kernel_rfl) rfl (fun K hK => ?_)
 rw [if_pos (by rfl)]
 refine wp_letOpN 59 _ _ rfl g O rfl (.agg #[.int .i64 b.me, .int .i64 b.rv, .int .i64 b.nx, .int .i64 b.mo, .int .i64 b.bo, .int .i64 b.fr, .slice pb lb cb]) rfl #[.int .i64 b.me, .int .i64 b.rv, .int .i64 b.nx, .int .i64 b.mo, .int .i64 b.bo, .int .i64 b.fr, .slice pb lb cb] rfl (by kernel_rfl) (by simp [Value.oneCell']) cur 62 HC2.out (by have := HCS.out; simp; omega) (putAll cur O [.int .i64 b.me, .int .i64 b.rv, .int .i64 b.nx, .int .i64 b.mo, .int .i64 b.bo, .int .i64 b.fr, .slice pb lb cb]) rfl rfl ?_
 intro WF hU
 have M1 : Hid (Blk WF w.heap.size #[.int .i64 v.kd, .int .i64 v.me, .int .i64 v.mo, .int .i64 v.id, .int .i64 v.te, .int .i64 v.de, .int .i64 v.fe, .int .i64 v.pr, .int .i64 v.ch, .int .i64 v.un, .int .i64 v.tg, .int .i64 v.ow, .int .i64 v.bp] 71) := hU.keep HV2.out (Ne.symm hgv2)
 have MF : Hid (WPost w0 base gW B t pt lt ct (StepIs t bk v) w (.returned (.tuple #[])) WF) := by
  have hh : HapIs t ⟨y, sol⟩ v ⟨b, sol⟩ 0 := .inl ⟨HK5.out, b, HI.out, fun _ => rfl⟩
  refine (charge_wr HR1.out HKL.out HX.out HC.out HCB.out (by rw [HO.out]; exact HCS.out) (by rw [HO.out]; exact HC7.out) HMA.out hh HB2.out HF.out (by rw [HO.out]; exact hU)).back HK1.out (fun bb f hr => ?_)
  obtain ⟨c', h1, h2⟩ := hr
  exact .inr (.inr (.inr (.inr ⟨HMA.out, HN1.out, k, c', HFA.out, h1, h2⟩)))
 refine hK.out _ _ M1.out (fun hHeld => ?_)
 clear hK K hU
 refine wpAnyH_done (by kernel_rfl) ?_ _
 clear hHeld
 go_wp2_with fail
 go_end0
 exact MF.out
def findV (B : Nat) : Value := .func (.func 61) #[] #[.pointer (some ⟨B, 0, none⟩)]
theorem asked_any (B : Nat) (me xm xr xn xo xb xf : Int) (dp : Option Addr) (dn dc : Nat) (sp : Option Addr) (sn sc : Nat) (W : World) (hc : W.cell? ⟨B, 0, none⟩ = some (.int .i64 me)) (hB : B < W.heap.size) :
  Calls Tryz.prog 61 #[.agg #[.int .i64 xm, .int .i64 xr, .int .i64 xn, .int .i64 xo, .int .i64 xb, .int .i64 xf, .slice dp dn dc, .slice sp sn sc], .pointer (some ⟨B, 0, none⟩)] W fun e w' => e = .returned (.bool (xm == me)) ∧ Below W.heap.size W w' := by
 have hc2 : (W.alloc (.cells #[.int .i64 xm, .int .i64 xr, .int .i64 xn, .int .i64 xo, .int .i64 xb, .int .i64 xf, .slice dp dn dc, .slice sp sn sc] 62)).cell? ⟨B, 0, none⟩ = some (.int .i64 me) := by rw [World.cell?_alloc_lt W _ _ hB]; exact hc
 have HB : Hid (Below W.heap.size W (W.alloc (.cells #[.int .i64 xm, .int .i64 xr, .int .i64 xn, .int .i64 xo, .int .i64 xb, .int .i64 xf, .slice dp dn dc, .slice sp sn sc] 62))) := (Below.refl _ _).alloc (Nat.le_refl _) _
 clear hc hB
 go_enter Tryz.func61, Tryz.ntmps61
 go_wp2_with fail
 go_ret
 exact ⟨rfl, HB.out⟩
set_option maxHeartbeats 2000000 in
theorem index_cust (B n cap : Nat) (me : Int) (a : Option Addr) (l : List Cu) (w : World) (hc : w.cell? ⟨B, 0, none⟩ = some (.int .i64 me)) (hr : RowC w a n l) (hn : n ≤ 2000000) :
  Calls Tryz.prog 60 #[.slice a n cap, findV B] w fun e w' => ∃ x, e = .returned (.int .i64 x) ∧ FoundIs l me x ∧ Below w.heap.size w w' := by
 have hB := World.block_lt_of_cell? w _ hc
 have HC : Hid (∀ wr, Below w.heap.size w wr → ∀ (xm xr xn xo xb xf : Int) (dp : Option Addr) (dn dc : Nat) (sp : Option Addr) (sn sc : Nat), Calls Tryz.prog 61 #[.agg #[.int .i64 xm, .int .i64 xr, .int .i64 xn, .int .i64 xo, .int .i64 xb, .int .i64 xf, .slice dp dn dc, .slice sp sn sc], .pointer (some ⟨B, 0, none⟩)] wr fun e w' => e = .returned (.bool (xm == me)) ∧ Below wr.heap.size wr w') := fun wr hb xm xr xn xo xb xf dp dn dc sp sn sc =>
  asked_any B me xm xr xn xo xb xf dp dn dc sp sn sc wr ((hb.cell (p := ⟨B, 0, none⟩) hB).trans hc) (Nat.lt_of_lt_of_le hB hb.size)
 have HR : Hid (RowC w a n l) := hr
 have HL : Hid (l.length = n) := hr.1
 clear hc hB hr
 unfold findV
 go_enter Tryz.func60, Tryz.ntmps60
 go_wp2_with fail
 go_loopw [8] (fun i wr => ∃ k : Nat, k ≤ n ∧ i = .int .i64 (k : Int) ∧ (∀ j, j < k → (l.getD j cu0).me ≠ me) ∧ Below w.heap.size w wr) (fun i _ => n - (intOf i).toNat)
 case atStart => exact ⟨0, Nat.zero_le _, rfl, (fun j hj => absurd hj (Nat.not_lt_zero _)), Below.refl _ _⟩
 case round =>
  obtain ⟨k, hk, rfl, hal, hb⟩ := hrel
  have HA : Hid (∀ j, j < k → (l.getD j cu0).me ≠ me) := hal
  have HB : Hid (Below w.heap.size w wr) := hb
  clear hal hb
  by_cases hlt : k < n
  ·obtain ⟨b2, o2, rfl, l2, hc2⟩ := HR.out.2.resolve_left (by omega)
   have hce : ∀ j, j < 8 → wr.cell? ⟨b2, o2 + k * 8 + j, none⟩ = (l.getD k cu0).cs[j]? := fun j hj => (HB.out.cell (p := ⟨b2, o2 + k * 8 + j, none⟩) l2).trans (hc2 k j hlt hj)
   have HME : Hid (∀ z, z = (l.getD k cu0).me → (z = me → FoundIs l me (k : Int)) ∧ (z ≠ me → ∀ j, j < k + 1 → (l.getD j cu0).me ≠ me)) := fun z hz => ⟨fun e => .inl ⟨k, by rw [HL.out]; exact hlt, by rw [← hz]; exact e, HA.out, rfl⟩, fun e j hj => by
    by_cases q : j = k
    ·subst q; rw [← hz]; exact e
    ·exact HA.out j (by omega)⟩
   clear hc2 l2
   obtain ⟨⟨xm, xr, xn, xo, xb, xf, dp, dn, dc, sp, sn, sc⟩, hx⟩ : ∃ x, x = l.getD k cu0 := ⟨_, rfl⟩
   have HMX := HME.out xm (by rw [← hx])
   have HY : Hid (xm = me → FoundIs l me (k : Int)) := HMX.1
   have HNO : Hid (xm ≠ me → ∀ j, j < k + 1 → (l.getD j cu0).me ≠ me) := HMX.2
   rw [← hx] at hce
   clear hx HME HMX
   have c0 : wr.cell? ⟨b2, o2 + k * 8, none⟩ = some (.int .i64 xm) := hce 0 (by decide)
   have c1 : wr.cell? ⟨b2, o2 + k * 8 + 1, none⟩ = some (.int .i64 xr) := hce 1 (by decide)
   have c2 : wr.cell? ⟨b2, o2 + k * 8 + 2, none⟩ = some (.int .i64 xn) := hce 2 (by decide)
   have c3 : wr.cell? ⟨b2, o2 + k * 8 + 3, none⟩ = some (.int .i64 xo) := hce 3 (by decide)
   have c4 : wr.cell? ⟨b2, o2 + k * 8 + 4, none⟩ = some (.int .i64 xb) := hce 4 (by decide)
   have c5 : wr.cell? ⟨b2, o2 + k * 8 + 5, none⟩ = some (.int .i64 xf) := hce 5 (by decide)
   have c6 : wr.cell? ⟨b2, o2 + k * 8 + 6, none⟩ = some (.slice dp dn dc) := hce 6 (by decide)
   have c7 : wr.cell? ⟨b2, o2 + k * 8 + 7, none⟩ = some (.slice sp sn sc) := hce 7 (by decide)
   clear hce
   have hcall := HC.out wr HB.out xm xr xn xo xb xf dp dn dc sp sn sc
   clear HC
   by_cases he : xm = me
   ·have HF : Hid (FoundIs l me (k : Int)) := HY.out he
    rw [show (xm == me) = true by simpa using he] at hcall
    have HCL : Hid (Calls Tryz.prog 61 #[.agg #[.int .i64 xm, .int .i64 xr, .int .i64 xn, .int .i64 xo, .int .i64 xb, .int .i64 xf, .slice dp dn dc, .slice sp sn sc], .pointer (some ⟨B, 0, none⟩)] wr fun e w' => e = .returned (.bool true) ∧ Below wr.heap.size wr w') := hcall
    clear hcall he
    go_wp2_with fail
    refine HCL.out.mono ?_
    rintro e w' ⟨rfl, hb'⟩
    have HB' : Hid (Below w.heap.size w w') := bel_step HB.out hb'
    clear hb' c0 c1 c2 c3 c4 c5 c6 c7
    go_wp2_with fail
    go_ret
    exact ⟨(k : Int), rfl, HF.out, HB'.out⟩
   ·have HF : Hid (∀ j, j < k + 1 → (l.getD j cu0).me ≠ me) := HNO.out he
    rw [show (xm == me) = false by simpa using he] at hcall
    have HCL : Hid (Calls Tryz.prog 61 #[.agg #[.int .i64 xm, .int .i64 xr, .int .i64 xn, .int .i64 xo, .int .i64 xb, .int .i64 xf, .slice dp dn dc, .slice sp sn sc], .pointer (some ⟨B, 0, none⟩)] wr fun e w' => e = .returned (.bool false) ∧ Below wr.heap.size wr w') := hcall
    clear hcall he
    go_wp2_with fail
    refine HCL.out.mono ?_
    rintro e w' ⟨rfl, hb'⟩
    have HB' : Hid (Below w.heap.size w w') := bel_step HB.out hb'
    clear hb' c0 c1 c2 c3 c4 c5 c6 c7
    go_wp2_with fail
    go_roundw
    case rel => exact ⟨k + 1, by omega, by go_num, HF.out, HB'.out⟩
    case measure => simp [intOf]; omega
  ·obtain rfl : k = n := by omega
   have HFA : Hid (FoundIs l me (-1)) := .inr ⟨fun j hj => HA.out j (by rw [← HL.out]; exact hj), rfl⟩
   go_wp2_with fail
   go_ret
   exact ⟨-1, rfl, HFA.out, HB.out⟩
set_option maxHeartbeats 2000000 in
theorem pfind (w : World) (p : Option Addr) (n cap : Nat) (l : List Cu) (me : Int) (hr : RowC w p n l) (hn : n ≤ 2000000) : Calls Tryz.prog 39 #[.agg #[.slice p n cap], .int .i64 me] w fun e w' => FindPost w l me e w' := by
 have hmf : ∀ (fn : Fn) (first cap : Array Value) (w : World), (Instr.makeFunc fn first cap).run Tryz.prog w = .ok (.func fn first cap) w := fun _ _ _ _ => rfl
 obtain ⟨W1, HWW, HK1, HM1, HB1, -⟩ := sh2 w #[.slice p n cap] 29 #[.int .i64 me] 3
 have HR : Hid (RowC w p n l) := hr
 have HN : Hid (n ≤ 2000000) := hn
 clear hr hn
 go_enter Tryz.func39, Tryz.ntmps39
 go_upto_region 1 with fail
 rw [HWW.out]
 clear HWW
 have c0 : W1.cell? ⟨w.heap.size, 0, none⟩ = some (.slice p n cap) := HK1.out.cell 0
 have hI := index_cust (w.heap.size + 1) n cap me p l W1 (HM1.out.cell 0) (HR.out.below HB1.out) HN.out
 unfold findV at hI
 have HI : Hid (Calls Tryz.prog 60 #[.slice p n cap, .func (.func 61) #[] #[.pointer (some ⟨w.heap.size + 1, 0, none⟩)]] W1 fun e w' => ∃ x, e = .returned (.int .i64 x) ∧ FoundIs l me x ∧ Below W1.heap.size W1 w') := hI
 clear hI HK1 HM1 HR HN
 go_wp2_with fail
 refine HI.out.mono ?_
 rintro e w' ⟨x, rfl, hx, hb⟩
 have HB' : Hid (Below w.heap.size w w') := bel_step HB1.out hb
 clear hb HI HB1 c0
 by_cases hneg : x < 0
 ·have HF : Hid (FindIs l me 0 18) := by
   rcases hx with ⟨k, _, _, _, e⟩ | ⟨h, _⟩
   ·omega
   ·exact .inr ⟨h, rfl, rfl⟩
  clear hx
  go_wp2_with fail
  go_ret2
  exact ⟨0, 18, rfl, HF.out, HB'.out⟩
 ·have HF : Hid (FindIs l me x 0) := by
   rcases hx with ⟨k, h1, h2, h3, e⟩ | ⟨h, e⟩
   ·exact .inl ⟨k, h1, h2, h3, e, rfl⟩
   ·omega
  clear hx
  go_wp2_with fail
  go_ret2
  exact ⟨x, 0, rfl, HF.out, HB'.out⟩
end book
end Go.Proofs.YtomibnggmhjdfaaGreat
