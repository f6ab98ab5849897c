import Derived.Test.YtfhlokjpdkmdjaaJBookOfs5
import Derived.Test.YtfhlokjpdkmdjaaJBookOfs3
import Derived.Test.YtfhlokjpdkmdjaaJBookOfs4
import Derived.Test.YtfhlokjpdkmdjaaAcU
import Derived.Test.YtfhlokjpdkmdjaaJBookOfs1
import Derived.Deep.RegionHeld
import Derived.Deep.DeepCutAuto
import Derived.WalkKit
import Derived.Test.YtfhlokjpdkmdjaaLet
import Derived.Test.YtfhlokjpdkmdjaaLetS
import Derived.Defers
import Derived.Recover
import Derived.Deep.LoopGhost
import Derived.Test.YtfhlokjpdkmdjaaRows
import Derived.Test.YtfhlokjpdkmdjaaAcD
import Derived.ProofKit
import Derived.OpenShut
import Derived.Below
import Derived.SizedLaws
import Derived.ChangeSame
import Derived.Lib.SmallJoins
import Derived.Deep.SlicePairs
import Derived.Deep.Slices

/- What an event does, in the program. -/
namespace Go.Proofs.Ytfhlokjpdkmdjaa.book
open Go.RowKit
open Go.Proofs.Ytfhlokjpdkmdjaa.acc (Ac Tm Bi APost BPost TFault TRight OpenIs OweIs SellIs GrantIs RekeyIs wf6 ACame TCame fresh_updN fresh_drew came_lt)
set_option maxRecDepth 100000
set_option linter.unusedVariables false
set_option linter.unusedSimpArgs false

theorem ev_me {v : Ev} (h : EMay v) : 0 ≤ v.me ∧ v.me ≤ 49 := by unfold EMay at h; omega
theorem ev_kd {v : Ev} (h : EMay v) (h1 : v.kd ≠ 1) (h5 : v.kd ≠ 5) : v.kd = 2 ∨ v.kd = 3 ∨ v.kd = 4 := by unfold EMay at h; omega
theorem ev_ow {v : Ev} (h : EMay v) : (Lit.int .i64 v.ow).wf = true ∧ (Lit.int .i64 v.bp).wf = true := by
  have : (0 ≤ v.ow ∧ v.ow ≤ 1000000000) ∧ 0 ≤ v.bp ∧ v.bp ≤ 10000 := by unfold EMay at h; omega
  exact ⟨wf_i (by omega) (by omega), wf_i (by omega) (by omega)⟩
/-- A charge: the account alone is stored anew. -/
theorem charge_wr {w0 : World} {base gW B : Nat} {t : Tm} {pt : Option Addr} {lt ct g n cap : Nat} {xs : List Cu} {bk : List Cm} {k : Nat} {v : Ev} {y b : Ac} {sol : List So} {dp pb : Option Addr} {dn dc lb cb : Nat} {sp : Option Addr} {sn sc : Nat} {cur : Array Value} {w w1 WF : World}
    (h : Wr w0 base gW B t pt lt ct (.slice (some ⟨g, 0, none⟩) n cap) xs bk w) (hk : k < xs.length) (hx : xs.getD k cu0 = ⟨y.me, y.rv, y.nx, y.mo, y.bo, y.fr, dp, dn, dc, sp, sn, sc⟩) (hc : bk.getD k cm0 = ⟨y, sol⟩) (hcb : Blk w g cur 58) (hcs : k * 8 + 8 ≤ cur.size) (hc7 : cur[k * 8 + 7]? = some (.slice sp sn sc))
    (hm : EMay v) (hh : HapIs t ⟨y, sol⟩ v ⟨b, sol⟩ 0) (hb : Below w.heap.size w w1) (hf : deb.Fresh w1 w.heap.size pb lb cb b.ds) (hU : Upd w1 WF g (putAll cur (k * 8) [.int .i64 b.me, .int .i64 b.rv, .int .i64 b.nx, .int .i64 b.mo, .int .i64 b.bo, .int .i64 b.fr, .slice pb lb cb]) 58) :
    WPost w0 base gW B t pt lt ct (HapR t bk k v) w (.returned (.tuple #[])) WF := by
  have hx0 := h.hold.has k hk
  have hoff := h.hold.off k hk
  rw [hc] at hx0
  rw [hx] at hx0 hoff
  have HOI : ∀ i, (Value.slice sp sn sc).ownBlock = some i → i < w.heap.size ∧ base ≤ i ∧ i ≠ g := fun i hi => ⟨(World.ownsRow.lt hx0.so i hi).2, (World.ownsRow.lt hx0.so i hi).1, fun e => hoff.1 i hi (by rw [e]; rfl)⟩
  have hgb : base ≤ g := (World.ownsRow.lt h.hold.row g rfl).1
  have hgl := hcb.lt
  have hsz0 := h.sz
  have hbb := hU.bel 0 w1 (Nat.zero_le _) (Below.refl _ _)
  have hO : ∀ i, i < w.heap.size → i ≠ g → WF.heap[i]? = w.heap[i]? := fun i h1 h2 => by rw [hU.oth i h2]; exact hb.block i h1
  have hos : WF.os = w.os ∧ WF.tape = w.tape ∧ WF.output = w.output := ⟨hbb.os.trans hb.os, hbb.tape.trans hb.tape, hbb.output.trans hb.output⟩
  have hsz : w.heap.size ≤ WF.heap.size := by rw [hU.size]; exact hb.size
  have hw := hap_wf hh hm
  refine ⟨⟨hos.1, hos.2.1, hos.2.2, hsz, fun i h1 _ _ => hO i (by omega) (by omega)⟩, .inl ⟨.slice (some ⟨g, 0, none⟩) n cap, xs.set k ⟨b.me, b.rv, b.nx, b.mo, b.bo, b.fr, pb, lb, cb, sp, sn, sc⟩, bk.set k ⟨b, sol⟩, rfl, ⟨⟨b, sol⟩, by rw [hc]; exact hh, fun _ => rfl⟩, fun hsm => ?_⟩⟩
  refine put_wr h hk hx hcb (fun i h1 h2 _ => hO i h1 h2) hsz hos (x' := ⟨b.me, b.rv, b.nx, b.mo, b.bo, b.fr, pb, lb, cb, sp, sn, sc⟩) ⟨⟨rfl, rfl, rfl, rfl, rfl, rfl⟩, ⟨acc_upd hf.came hU (fun hn p hp q => by have := hf.new hn p hp; omega), fun hn p hp => by have := hf.new hn p hp; omega⟩, ?_⟩ hw.1 (by rw [hc]; exact hw.2) (fun i hi => .inl hi) (fun hn p hp => hf.new hn p hp) (fun i hi hn p hp q => by have h1 := (HOI i hi).1; have h2 := hf.new hn p hp; omega) ?_ hsm
  · exact lo_upd (hx0.so.next hb) hU (fun i hi => (HOI i hi).2.2)
  · have e1 : putAll cur (k * 8) ([.int .i64 b.me, .int .i64 b.rv, .int .i64 b.nx, .int .i64 b.mo, .int .i64 b.bo, .int .i64 b.fr, .slice pb lb cb] ++ [.slice sp sn sc]) = putAll cur (k * 8) [.int .i64 b.me, .int .i64 b.rv, .int .i64 b.nx, .int .i64 b.mo, .int .i64 b.bo, .int .i64 b.fr, .slice pb lb cb] := by
      rw [← putAll_more]
      apply Array.ext_getElem?
      intro j
      by_cases hj : j = k * 8 + 7
      · subst hj
        rw [show k * 8 + ([.int .i64 b.me, .int .i64 b.rv, .int .i64 b.nx, .int .i64 b.mo, .int .i64 b.bo, .int .i64 b.fr, .slice pb lb cb] : List Value).length = k * 8 + 7 from rfl, Array.getElem?_setIfInBounds_self_of_lt (by rw [putAll_size]; omega), putAll_get _ _ _ _ (by simp; omega), if_neg (by simp only [List.length_cons, List.length_nil]; omega), hc7]
      · rw [Array.getElem?_setIfInBounds_ne (by simp only [List.length_cons, List.length_nil]; omega)]
    have e2 : (⟨b.me, b.rv, b.nx, b.mo, b.bo, b.fr, pb, lb, cb, sp, sn, sc⟩ : Cu).cs = [.int .i64 b.me, .int .i64 b.rv, .int .i64 b.nx, .int .i64 b.mo, .int .i64 b.bo, .int .i64 b.fr, .slice pb lb cb] ++ [.slice sp sn sc] := rfl
    rw [e2, e1]; exact hU.blk
set_option maxHeartbeats 16000000 in
theorem bhappen (w0 : World) (base gW B : Nat) (t : Tm) (pt : Option Addr) (lt ct : Nat) (a : Option Addr) (n cap : Nat) (xs : List Cu) (bk : List Cm) (v : Ev) (w : World) (h : Wr w0 base gW B t pt lt ct (.slice a n cap) xs bk w) (ht : TCame w0 t pt lt ct) : Calls Try.prog 34 #[.pointer (some ⟨gW, 0, none⟩), .agg #[.int .i64 v.kd, .int .i64 v.me, .int .i64 v.mo, .int .i64 v.id, .int .i64 v.te, .int .i64 v.de, .int .i64 v.fe, .int .i64 v.pr, .int .i64 v.ch, .int .i64 v.un, .int .i64 v.tg, .int .i64 v.ow, .int .i64 v.bp]] w fun e w' => WPost w0 base gW B t pt lt ct (StepIs t bk v) w e w' := by
  have HMU : Hid (∀ W, Calls Try.prog 27 #[.agg #[.int .i64 v.kd, .int .i64 v.me, .int .i64 v.mo, .int .i64 v.id, .int .i64 v.te, .int .i64 v.de, .int .i64 v.fe, .int .i64 v.pr, .int .i64 v.ch, .int .i64 v.un, .int .i64 v.tg, .int .i64 v.ow, .int .i64 v.bp]] W fun e w' => MustPost W v e w') := fun W => bmust v W
  have HR : Hid (Wr w0 base gW B t pt lt ct (.slice a n cap) xs bk w) := h
  have HT : Hid (TCame w0 t pt lt ct) := ht
  have HSZ : Hid (base ≤ w.heap.size) := h.sz
  clear h ht
  have H0v : Hid (Blk (w.alloc (.cells #[.int .i64 v.kd, .int .i64 v.me, .int .i64 v.mo, .int .i64 v.id, .int .i64 v.te, .int .i64 v.de, .int .i64 v.fe, .int .i64 v.pr, .int .i64 v.ch, .int .i64 v.un, .int .i64 v.tg, .int .i64 v.ow, .int .i64 v.bp] 27)) w.heap.size #[.int .i64 v.kd, .int .i64 v.me, .int .i64 v.mo, .int .i64 v.id, .int .i64 v.te, .int .i64 v.de, .int .i64 v.fe, .int .i64 v.pr, .int .i64 v.ch, .int .i64 v.un, .int .i64 v.tg, .int .i64 v.ow, .int .i64 v.bp] 27) := Blk.new _ _ _
  have H0B : Hid (Below w.heap.size w (w.alloc (.cells #[.int .i64 v.kd, .int .i64 v.me, .int .i64 v.mo, .int .i64 v.id, .int .i64 v.te, .int .i64 v.de, .int .i64 v.fe, .int .i64 v.pr, .int .i64 v.ch, .int .i64 v.un, .int .i64 v.tg, .int .i64 v.ow, .int .i64 v.bp] 27))) := (Below.refl _ _).alloc (Nat.le_refl _) _
  go_enter Try.func34, Try.ntmps34
  go_upto_region 1 with fail
  generalize (w.alloc (.cells #[.int .i64 v.kd, .int .i64 v.me, .int .i64 v.mo, .int .i64 v.id, .int .i64 v.te, .int .i64 v.de, .int .i64 v.fe, .int .i64 v.pr, .int .i64 v.ch, .int .i64 v.un, .int .i64 v.tg, .int .i64 v.ow, .int .i64 v.bp] 27)) = W0 at *
  go_wp2_with (first
    | (refine wp_whole rfl 27 _ rfl (w.heap.size) rfl 27 #[.int .i64 v.kd, .int .i64 v.me, .int .i64 v.mo, .int .i64 v.id, .int .i64 v.te, .int .i64 v.de, .int .i64 v.fe, .int .i64 v.pr, .int .i64 v.ch, .int .i64 v.un, .int .i64 v.tg, .int .i64 v.ow, .int .i64 v.bp] _ H0v.out Try.underlying27 rfl (by kernel_rfl) ?_)
    | fail)
  refine (HMU.out _).mono ?_
  rintro e W1 ⟨hm, hb⟩
  have H1v : Hid (Blk W1 (w.heap.size) #[.int .i64 v.kd, .int .i64 v.me, .int .i64 v.mo, .int .i64 v.id, .int .i64 v.te, .int .i64 v.de, .int .i64 v.fe, .int .i64 v.pr, .int .i64 v.ch, .int .i64 v.un, .int .i64 v.tg, .int .i64 v.ow, .int .i64 v.bp] 27) := H0v.out.next hb
  have H1B : Hid (Below w.heap.size w W1) := H0B.out.trans (hb.mono H0B.out.size)
  clear H0v H0B
  clear hb HMU
  rcases hm with ⟨hm, rfl⟩ | ⟨hm, rfl⟩
  case inr =>
    exact ⟨rfl, .of H1B.out HSZ.out, .inr ⟨5, [], by decide, rfl, .inl ⟨hm, rfl⟩⟩⟩
  have HMA : Hid (EMay v) := hm
  have HGN : Hid (∀ cur, ¬ Blk W1 w.heap.size cur 58) := fun cur q => by have h1 : W1.heap[w.heap.size]? = _ := H1v.out; have h2 : W1.heap[w.heap.size]? = _ := q; rw [h1] at h2; simp at h2
  clear hm
  have HR1 : Hid (Wr w0 base gW B t pt lt ct (.slice a n cap) xs bk W1) := HR.out.next H1B.out
  have HK1 : Hid (Kp base gW B w W1) := .of H1B.out HSZ.out
  clear HR
  have hgv : w.heap.size < W1.heap.size := H1v.out.lt
  have c0 : W1.cell? ⟨w.heap.size, 0, none⟩ = some (.int .i64 v.kd) := H1v.out.cell 0
  have c1 : W1.cell? ⟨w.heap.size, 1, none⟩ = some (.int .i64 v.me) := H1v.out.cell 1
  by_cases k1 : v.kd = 1
  case pos =>
    have q1 : (v.kd == 1) = true := by simpa using k1
    have HK : Hid (v.kd = 1) := k1
    clear k1
    have HRG : Hid (Calls Try.prog 50 #[.pointer (some ⟨gW, 0, none⟩), .int .i64 v.me] W1 fun e w' => WPost w0 base gW B t pt lt ct (RegR bk v.me) W1 e w') := breg w0 base gW B t pt lt ct a n cap xs bk v.me W1 HR1.out (ev_me HMA.out)
    go_wp2_with fail
    refine HRG.out.mono ?_
    intro e w9 hp
    have hq := hp.back (R' := StepIs t bk v) HK1.out (fun b f hr => by rcases hr with ⟨h1, rfl⟩ | ⟨h1, rfl, rfl⟩; exact .inr (.inl ⟨HMA.out, HK.out, h1, rfl⟩); exact .inr (.inr (.inl ⟨HMA.out, HK.out, h1, rfl, rfl⟩)))
    have HQ : Hid (WPost w0 base gW B t pt lt ct (StepIs t bk v) w e w9) := hq
    clear hp hq
    rcases HQ.out.2 with ⟨V3, xs3, bk3, rfl, _⟩ | ⟨f, bk3, _, rfl, _⟩
    · go_wp2_with fail
      go_end0
      exact HQ.out
    · exact ⟨rfl, HQ.out⟩
  have q1 : (v.kd == 1) = false := by simpa using k1
  have HN1 : Hid (v.kd ≠ 1) := k1
  clear k1
  have HCU : Hid (Calls Try.prog 51 #[.pointer (some ⟨gW, 0, none⟩), .int .i64 v.me] W1 fun e w' => CuPost W1 a bk v.me e w') := by
    have hl : xs.length = n := by obtain ⟨_, _, hv, _⟩ := HR1.out.hold.row.row; injection hv with _ e1 _; exact e1.symm
    refine bcust gW B t pt lt ct a n cap bk v.me W1 HR1.out.blk HR1.out.mp (by rw [← HR1.out.hold.len, hl]) (fun hn => ?_) (by have := HR1.out.few.1; have := HR1.out.hold.len; omega)
    obtain ⟨g, cur, e1, _⟩ := at_cust HR1.out.hold.row (k := 0) (by omega)
    exact ⟨g, e1⟩
  go_wp2_with fail
  refine HCU.out.mono ?_
  rintro e w9 ⟨hw9, hcu⟩
  obtain rfl : W1 = w9 := hw9.symm
  clear HCU
  rcases hcu with ⟨k, g, hfa, rfl, rfl⟩ | ⟨hno, rfl⟩
  case inr =>
    exact ⟨rfl, HK1.out, .inr ⟨18, [], by decide, rfl, .inr (.inr (.inr (.inl ⟨HMA.out, HN1.out, hno, rfl⟩)))⟩⟩
  have HFA : Hid (FirstAt bk v.me k) := hfa
  have HKL : Hid (k < xs.length) := by show _ < _; rw [HR1.out.hold.len]; exact hfa.1
  clear hfa
  by_cases k5 : v.kd = 5
  case neg =>
    have q5 : (v.kd == 5) = false := by simpa using k5
    have HN5 : Hid (v.kd ≠ 5) := k5
    clear k5
    have HSE : Hid (Calls Try.prog 53 #[.pointer (some ⟨gW, 0, none⟩), .pointer (some ⟨g, k * 8, none⟩), .agg #[.int .i64 v.kd, .int .i64 v.me, .int .i64 v.mo, .int .i64 v.id, .int .i64 v.te, .int .i64 v.de, .int .i64 v.fe, .int .i64 v.pr, .int .i64 v.ch, .int .i64 v.un, .int .i64 v.tg, .int .i64 v.ow, .int .i64 v.bp]] W1 fun e w' => WPost w0 base gW B t pt lt ct (HapR t bk k v) W1 e w') := bsell w0 base gW B t pt lt ct g n cap xs bk k v W1 HR1.out HKL.out HT.out HMA.out (ev_kd HMA.out HN1.out HN5.out)
    generalize k * 8 = O at *
    go_wp2_with (first
      | (refine wp_whole rfl 27 _ rfl (w.heap.size) rfl 27 #[.int .i64 v.kd, .int .i64 v.me, .int .i64 v.mo, .int .i64 v.id, .int .i64 v.te, .int .i64 v.de, .int .i64 v.fe, .int .i64 v.pr, .int .i64 v.ch, .int .i64 v.un, .int .i64 v.tg, .int .i64 v.ow, .int .i64 v.bp] _ H1v.out Try.underlying27 rfl (by kernel_rfl) ?_)
      | fail)
    refine HSE.out.mono ?_
    intro e w9 hp
    have hq := hp.back (R' := StepIs t bk v) HK1.out (fun b f hr => by obtain ⟨c', h1, h2⟩ := hr; exact .inr (.inr (.inr (.inr ⟨HMA.out, HN1.out, k, c', HFA.out, h1, h2⟩))))
    have HQ : Hid (WPost w0 base gW B t pt lt ct (StepIs t bk v) w e w9) := hq
    clear hp hq
    rcases HQ.out.2 with ⟨V3, xs3, bk3, rfl, _⟩ | ⟨f, bk3, _, rfl, _⟩
    · go_wp2_with fail
      go_end0
      exact HQ.out
    · exact ⟨rfl, HQ.out⟩
  have q5 : (v.kd == 5) = true := by simpa using k5
  have HK5 : Hid (v.kd = 5) := k5
  clear k5
  have hx0 := HR1.out.hold.has k HKL.out
  have hwf0 : wf6 (bk.getD k cm0).a := HR1.out.wf _ (getD_in (by rw [← HR1.out.hold.len]; exact HKL.out))
  obtain ⟨c, hc⟩ : ∃ c, bk.getD k cm0 = c := ⟨_, rfl⟩
  obtain ⟨x, hx⟩ : ∃ x, xs.getD k cu0 = x := ⟨_, rfl⟩
  obtain ⟨g', cur, e1, hgb, hcb, hcs, hcc⟩ := at_cust HR1.out.hold.row HKL.out
  obtain rfl : g = g' := by injection e1 with e1; injection e1
  clear e1
  rw [hc] at hx0 hwf0
  rw [hx] at hx0 hcc
  obtain ⟨y, sol⟩ := c
  obtain ⟨dp, dn, dc, sp, sn, sc, rfl⟩ := cuA_of hx0.num
  have HX : Hid (xs.getD k cu0 = (⟨y.me, y.rv, y.nx, y.mo, y.bo, y.fr, dp, dn, dc, sp, sn, sc⟩ : Cu)) := hx
  have HC : Hid (bk.getD k cm0 = ⟨y, sol⟩) := hc
  have HCB : Hid (Blk W1 g cur 58) := hcb
  have HCS : Hid (k * 8 + 8 ≤ cur.size) := hcs
  have hgl : g < W1.heap.size := hcb.lt
  have hgv2 : g ≠ w.heap.size := fun q => HGN.out cur (by rw [← q]; exact hcb)
  have HOW : Hid (Calls Try.prog 52 #[.agg #[.int .i64 y.me, .int .i64 y.rv, .int .i64 y.nx, .int .i64 y.mo, .int .i64 y.bo, .int .i64 y.fr, .slice dp dn dc], .agg #[.int .i64 v.ow, .int .i64 v.bp]] W1.drew fun e w' => OwPost W1.drew y ⟨v.ow, v.bp⟩ e w') := bowing y dp dn dc ⟨v.ow, v.bp⟩ W1.drew ⟨hx0.ds.came.below (Below.refl _ _).drew, hwf0⟩ (ev_ow HMA.out)
  have HC0 : Hid (cur[k * 8 + 0]? = some (.int .i64 y.me)) := hcc 0 (by decide)
  have HC1 : Hid (cur[k * 8 + 1]? = some (.int .i64 y.rv)) := hcc 1 (by decide)
  have HC2 : Hid (cur[k * 8 + 2]? = some (.int .i64 y.nx)) := hcc 2 (by decide)
  have HC3 : Hid (cur[k * 8 + 3]? = some (.int .i64 y.mo)) := hcc 3 (by decide)
  have HC4 : Hid (cur[k * 8 + 4]? = some (.int .i64 y.bo)) := hcc 4 (by decide)
  have HC5 : Hid (cur[k * 8 + 5]? = some (.int .i64 y.fr)) := hcc 5 (by decide)
  have HC6 : Hid (cur[k * 8 + 6]? = some (.slice dp dn dc)) := hcc 6 (by decide)
  have HC7 : Hid (cur[k * 8 + 7]? = some (.slice sp sn sc)) := hcc 7 (by decide)
  clear hcc hx hc hx0 hwf0 hgb hcs
  obtain ⟨O, hO⟩ : ∃ O, k * 8 = O := ⟨_, rfl⟩
  have HO : Hid (k * 8 = O) := hO
  rw [hO] at HCS HC0 HC1 HC2 HC3 HC4 HC5 HC6 HC7
  rw [hO]
  clear hO
  go_wp2_with fail
  clear q1 q5 c0 c1
  refine wp_region_held_drew (S := fun u => Blk u w.heap.size #[.int .i64 v.kd, .int .i64 v.me, .int .i64 v.mo, .int .i64 v.id, .int .i64 v.te, .int .i64 v.de, .int .i64 v.fe, .int .i64 v.pr, .int .i64 v.ch, .int .i64 v.un, .int .i64 v.tg, .int .i64 v.ow, .int .i64 v.bp] 27) (by kernel_rfl) (show _ from Blk.drew H1v.out 1) (fun hHeld => ?_)
  have z0 : W1.drew.cell? ⟨g, O, none⟩ = some (.int .i64 y.me) := (HCB.out.cell (O + 0)).trans HC0.out
  have z1 : W1.drew.cell? ⟨g, O + 1, none⟩ = some (.int .i64 y.rv) := (HCB.out.cell (O + 1)).trans HC1.out
  have z2 : W1.drew.cell? ⟨g, O + 2, none⟩ = some (.int .i64 y.nx) := (HCB.out.cell (O + 2)).trans HC2.out
  have z3 : W1.drew.cell? ⟨g, O + 3, none⟩ = some (.int .i64 y.mo) := (HCB.out.cell (O + 3)).trans HC3.out
  have z4 : W1.drew.cell? ⟨g, O + 4, none⟩ = some (.int .i64 y.bo) := (HCB.out.cell (O + 4)).trans HC4.out
  have z5 : W1.drew.cell? ⟨g, O + 5, none⟩ = some (.int .i64 y.fr) := (HCB.out.cell (O + 5)).trans HC5.out
  have z6 : W1.drew.cell? ⟨g, O + 6, none⟩ = some (.slice dp dn dc) := (HCB.out.cell (O + 6)).trans HC6.out
  refine take_at 0 21 (.pointer (some ⟨g, O, none⟩)) _ rfl rfl (by kernel_rfl) (by kernel_rfl) (by kernel_rfl) (fun _ _ _ h => h) (Or.inl ⟨by rfl, fun v hv => by skip; clear hv; go_simp⟩) hHeld ?_
  simp only [Act.put, List.setIfInBounds_toArray, List.set_cons_zero, List.set_cons_succ]
  refine take_at 1 22 (.pointer (some ⟨g, O, none⟩)) _ rfl rfl (by kernel_rfl) (by kernel_rfl) (by kernel_rfl) (fun _ _ _ h => h) (Or.inl ⟨by rfl, fun v hv => by skip; clear hv; go_simp⟩) hHeld ?_
  simp only [Act.put, List.setIfInBounds_toArray, List.set_cons_zero, List.set_cons_succ]
  refine take_at 2 23 (.pointer (some ⟨g, O, none⟩)) _ rfl rfl (by kernel_rfl) (by kernel_rfl) (by kernel_rfl) (fun _ _ _ h => h) (Or.inl ⟨by rfl, fun v hv => by skip; clear hv; go_simp⟩) hHeld ?_
  simp only [Act.put, List.setIfInBounds_toArray, List.set_cons_zero, List.set_cons_succ]
  refine take_at 3 24 (.pointer (some ⟨g, O, none⟩)) _ rfl rfl (by kernel_rfl) (by kernel_rfl) (by kernel_rfl) (fun _ _ _ h => h) (Or.inl ⟨by rfl, fun v hv => by skip; clear hv; go_simp⟩) hHeld ?_
  simp only [Act.put, List.setIfInBounds_toArray, List.set_cons_zero, List.set_cons_succ]
  refine take_at 5 26 (.pointer (some ⟨w.heap.size, 11, none⟩)) _ rfl rfl (by kernel_rfl) (by kernel_rfl) (by kernel_rfl) (fun _ _ _ h => h) (Or.inl ⟨by rfl, fun v hv => by skip; clear hv; go_simp⟩) hHeld ?_
  simp only [Act.put, List.setIfInBounds_toArray, List.set_cons_zero, List.set_cons_succ]
  refine take_at 6 27 (.agg #[.int .i64 v.ow, .int .i64 v.bp]) _ rfl rfl (by kernel_rfl) (by kernel_rfl) (by kernel_rfl) (fun _ _ _ h => h) (Or.inl ⟨by rfl, fun v hv => by have g0 := hv.cell 11; have g1 := hv.cell 12; clear hv; go_simp⟩) hHeld ?_
  simp only [Act.put, List.setIfInBounds_toArray, List.set_cons_zero, List.set_cons_succ]
  refine wpAnyH_ready (rs := [4]) (by kernel_rfl) (by simp) (AllReadyH.cons rfl (fun K hK => ?_) AllReadyH.nil)
  rw [if_pos (by rfl)]
  refine wp_runOp (v := .agg #[.int .i64 y.me, .int .i64 y.rv, .int .i64 y.nx, .int .i64 y.mo, .int .i64 y.bo, .int .i64 y.fr, .slice dp dn dc]) (w' := W1.drew) 25 rfl (by clear hK; go_simp) ?_
  refine hK.out _ _ (Blk.drew H1v.out 1) (fun hHeld => ?_)
  clear hK K z0 z1 z2 z3 z4 z5 z6
  simp only [Act.put, List.setIfInBounds_toArray, List.set_cons_zero, List.set_cons_succ]
  refine wpAnyH_ready (rs := [7]) (by kernel_rfl) (by simp) (AllReadyH.cons rfl (fun K hK => ?_) AllReadyH.nil)
  rw [if_pos (by rfl)]
  refine wp_callOpP 28 rfl (by clear hK; go_simp) HOW.out ?_
  rintro e w2 ⟨hb, hp⟩
  rcases hp with ⟨b, pb, lb, cb, rfl, hi, hf⟩ | ⟨b, f, hf, rfl, hi⟩
  case inr =>
    exact .inr ⟨_, rfl, rfl, HK1.out.trans (.of ((Below.refl W1.heap.size W1).drew.trans hb) HR1.out.sz), .inr ⟨f, [], hf, rfl, .inr (.inr (.inr (.inr ⟨HMA.out, HN1.out, k, ⟨y, sol⟩, HFA.out, by rw [HC.out]; exact .inl ⟨HK5.out, b, hi, fun q => absurd q hf⟩, fun q => absurd q hf⟩)))⟩⟩
  refine .inl ⟨_, rfl, ?_⟩
  have hb2 : Below W1.heap.size W1 w2 := (Below.refl W1.heap.size W1).drew.trans hb
  have HV2 : Hid (Blk w2 w.heap.size #[.int .i64 v.kd, .int .i64 v.me, .int .i64 v.mo, .int .i64 v.id, .int .i64 v.te, .int .i64 v.de, .int .i64 v.fe, .int .i64 v.pr, .int .i64 v.ch, .int .i64 v.un, .int .i64 v.tg, .int .i64 v.ow, .int .i64 v.bp] 27) := H1v.out.next hb2
  have HC2 : Hid (Blk w2 g cur 58) := HCB.out.next hb2
  have HB2 : Hid (Below W1.heap.size W1 w2) := hb2
  have HI : Hid (OweIs y ⟨v.ow, v.bp⟩ b 0) := hi
  have HF : Hid (deb.Fresh w2 W1.heap.size pb lb cb b.ds) := hf
  refine hK.out _ _ HV2.out (fun hHeld => ?_)
  clear hK K hi hf hb hb2 HOW
  unfold acc.Ac.v acc.Ac.cs
  simp only [Act.put, List.setIfInBounds_toArray, List.set_cons_zero, List.set_cons_succ]
  refine take_at 8 29 (.pointer (some ⟨g, O, none⟩)) _ rfl rfl (by kernel_rfl) (by kernel_rfl) (by kernel_rfl) (fun _ _ _ h => h) (Or.inl ⟨by rfl, fun v hv => by skip; clear hv; go_simp⟩) hHeld ?_
  simp only [Act.put, List.setIfInBounds_toArray, List.set_cons_zero, List.set_cons_succ]
  refine take_at 9 30 (.pointer (some ⟨g, O, none⟩)) _ rfl rfl (by kernel_rfl) (by kernel_rfl) (by kernel_rfl) (fun _ _ _ h => h) (Or.inl ⟨by rfl, fun v hv => by skip; clear hv; go_simp⟩) hHeld ?_
  simp only [Act.put, List.setIfInBounds_toArray, List.set_cons_zero, List.set_cons_succ]
  refine wpAnyH_ready (rs := [10]) (by kernel_rfl) (by simp) (AllReadyH.cons rfl (fun K hK => ?_) AllReadyH.nil)
  rw [if_pos (by rfl)]
  refine wp_letOpN 55 _ _ rfl g O rfl (.agg #[.int .i64 b.me, .int .i64 b.rv, .int .i64 b.nx, .int .i64 b.mo, .int .i64 b.bo, .int .i64 b.fr, .slice pb lb cb]) rfl #[.int .i64 b.me, .int .i64 b.rv, .int .i64 b.nx, .int .i64 b.mo, .int .i64 b.bo, .int .i64 b.fr, .slice pb lb cb] rfl (by kernel_rfl) (by simp [Value.oneCell']) cur 58 HC2.out (by have := HCS.out; simp; omega) (putAll cur O [.int .i64 b.me, .int .i64 b.rv, .int .i64 b.nx, .int .i64 b.mo, .int .i64 b.bo, .int .i64 b.fr, .slice pb lb cb]) rfl rfl ?_
  intro WF hU
  have M1 : Hid (Blk WF w.heap.size #[.int .i64 v.kd, .int .i64 v.me, .int .i64 v.mo, .int .i64 v.id, .int .i64 v.te, .int .i64 v.de, .int .i64 v.fe, .int .i64 v.pr, .int .i64 v.ch, .int .i64 v.un, .int .i64 v.tg, .int .i64 v.ow, .int .i64 v.bp] 27) := hU.keep HV2.out (Ne.symm hgv2)
  have MF : Hid (WPost w0 base gW B t pt lt ct (StepIs t bk v) w (.returned (.tuple #[])) WF) := by
    have hh : HapIs t ⟨y, sol⟩ v ⟨b, sol⟩ 0 := .inl ⟨HK5.out, b, HI.out, fun _ => rfl⟩
    refine (charge_wr HR1.out HKL.out HX.out HC.out HCB.out (by rw [HO.out]; exact HCS.out) (by rw [HO.out]; exact HC7.out) HMA.out hh HB2.out HF.out (by rw [HO.out]; exact hU)).back HK1.out (fun bb f hr => ?_)
    obtain ⟨c', h1, h2⟩ := hr
    exact .inr (.inr (.inr (.inr ⟨HMA.out, HN1.out, k, c', HFA.out, h1, h2⟩)))
  refine hK.out _ _ M1.out (fun hHeld => ?_)
  clear hK K hU
  refine wpAnyH_done (by kernel_rfl) ?_ _
  clear hHeld
  go_wp2_with fail
  go_end0
  exact MF.out

end Go.Proofs.Ytfhlokjpdkmdjaa.book

/- What is thrown in book.Of, and what is made of it. -/
namespace Go.Proofs.Ytfhlokjpdkmdjaa.book
open Go.RowKit
set_option maxRecDepth 100000
set_option linter.unusedVariables false
set_option linter.unusedSimpArgs false

set_option maxHeartbeats 1000000 in
theorem of_caught (ge gn ga : Nat) (f0 m0 a0 f : Int) (hf : f ≠ 0) (w : World) (he : Blk w ge #[.int .i64 f0] 29) (hn : Blk w gn #[.int .i64 m0] 3) (ha : Blk w ga #[.int .i64 a0] 3) (h1 : gn ≠ ge) (h2 : ga ≠ ge) :
    CallsD Try.prog 33 #[.pointer (some ⟨ge, 0, none⟩), .pointer (some ⟨gn, 0, none⟩), .pointer (some ⟨ga, 0, none⟩)] (.panicking (thrown f)) w fun e u' w' => e = .returned (.tuple #[]) ∧ settle u' = .returning ∧ ∃ W W2, Below w.heap.size w W ∧ Upd W W2 ge #[.int .i64 f] 29 ∧ Upd W2 w' ga #[.int .i64 m0] 3 := by
  refine callsD_of_wpS Try.func33 rfl fun c₀ cs hu => ?_
  apply wpS_seq
  apply wpS_region
  simp only [thrown] at hu
  simp [wpOpsS, go_sem, recoverD, hu, Try.ntmps33, Exit.thenS]
  refine (reason_is f w).mono ?_
  rintro e w1 ⟨rfl, hb1⟩
  have hE := he.next hb1
  have hN := hn.next hb1
  have hA := ha.next hb1
  have hc : w1.cell? ⟨ge, 0, none⟩ = some (.int .i64 f0) := hE.cell 0
  have hz : w1.frozen? ⟨ge, 0, none⟩ = false := hE.free 0
  have hU : Upd w1 (w1.setCell ⟨ge, 0, none⟩ (.int .i64 f)) ge #[.int .i64 f] 29 := upd_cells ge _ [.int .i64 f] 0 w1 _ hE
  simp [go_sem, hc, hz, Exit.thenS]
  generalize w1.setCell ⟨ge, 0, none⟩ (.int .i64 f) = W2 at *
  have hE2 := hU.blk
  have hN2 := hU.keep hN h1
  have hA2 := hU.keep hA h2
  have q0 : W2.cell? ⟨ge, 0, none⟩ = some (.int .i64 f) := hE2.cell 0
  have q1 : W2.cell? ⟨gn, 0, none⟩ = some (.int .i64 m0) := hN2.cell 0
  have nf : (f != 0) = true := by simpa using hf
  change Code.wpS _ _ _ { tmps := #[.pointer (some ⟨ge, 0, none⟩), .pointer (some ⟨gn, 0, none⟩), .pointer (some ⟨ga, 0, none⟩), refV f, .int .i64 f, undef, undef, undef], defers := [] } _ _
  apply wpS_of_wp
  have HA2 : Hid (Blk W2 ga #[.int .i64 a0] 3) := hA2
  have HU : Hid (Upd w1 W2 ge #[.int .i64 f] 29) := hU
  have HB : Hid (Below w.heap.size w w1) := hb1
  clear hf he hn ha hE hN hA hc hz hU hE2 hN2 hA2 hb1 hu
  go_wp2_with (first | (refine wp_let1 rfl 3 _ _ rfl ga 0 rfl .i64 m0 rfl (by kernel_rfl) #[.int .i64 a0] 3 HA2.out (by simp) ?_) | fail)
  intro W3 hU3
  have HU3 : Hid (Upd W2 W3 ga #[.int .i64 m0] 3) := hU3
  clear hU3
  go_wp2_with fail
  simp [bodyPostS, results, Try.results33, settle]
  exact ⟨w1, HB.out, W2, HU.out, HU3.out⟩
set_option maxHeartbeats 1000000 in
theorem of_idle (ge gn ga : Nat) (f0 : Int) (w : World) (he : Blk w ge #[.int .i64 f0] 29) :
    CallsD Try.prog 33 #[.pointer (some ⟨ge, 0, none⟩), .pointer (some ⟨gn, 0, none⟩), .pointer (some ⟨ga, 0, none⟩)] .returning w fun e u' w' => e = .returned (.tuple #[]) ∧ settle u' = .returning ∧ ∃ W, Below w.heap.size w W ∧ Upd W w' ge #[.int .i64 0] 29 := by
  refine callsD_of_wpS Try.func33 rfl fun c₀ cs hu => ?_
  apply wpS_seq
  apply wpS_region
  simp [wpOpsS, go_sem, recoverD, hu, Try.ntmps33, Exit.thenS]
  refine (reason_nil w).mono ?_
  rintro e w1 ⟨rfl, rfl⟩
  have hc : w1.cell? ⟨ge, 0, none⟩ = some (.int .i64 f0) := he.cell 0
  have hz : w1.frozen? ⟨ge, 0, none⟩ = false := he.free 0
  have hU : Upd w1 (w1.setCell ⟨ge, 0, none⟩ (.int .i64 0)) ge #[.int .i64 0] 29 := upd_cells ge _ [.int .i64 0] 0 w1 _ he
  simp [go_sem, hc, hz, Exit.thenS]
  generalize w1.setCell ⟨ge, 0, none⟩ (.int .i64 0) = W2 at *
  have q0 : W2.cell? ⟨ge, 0, none⟩ = some (.int .i64 0) := hU.blk.cell 0
  change Code.wpS _ _ _ { tmps := #[.pointer (some ⟨ge, 0, none⟩), .pointer (some ⟨gn, 0, none⟩), .pointer (some ⟨ga, 0, none⟩), .nilIface, .int .i64 0, undef, undef, undef], defers := [] } _ _
  apply wpS_of_wp
  have HU : Hid (Upd w1 W2 ge #[.int .i64 0] 29) := hU
  have HH : Hid (c₀.mode = .returning) := hu
  clear he hc hz hU hu
  go_wp2_with fail
  have hu := HH.out
  have hU := HU.out
  simp [bodyPostS, results, Try.results33, hu, settle]
  exact ⟨.returning, (by cases c₀; simp_all), rfl, w1, Below.refl _ _, hU⟩

end Go.Proofs.Ytfhlokjpdkmdjaa.book

/- book.Of. -/
namespace Go.Proofs.Ytfhlokjpdkmdjaa.book
open Go.RowKit
open Go.Proofs.Ytfhlokjpdkmdjaa.acc (Ac Tm Bi APost BPost TFault TRight OpenIs OweIs SellIs GrantIs RekeyIs wf6 ACame TCame fresh_updN fresh_drew came_lt)
set_option maxRecDepth 100000
set_option linter.unusedVariables false
set_option linter.unusedSimpArgs false

theorem Wr.upd {w0 : World} {base gW B g : Nat} {t : Tm} {pt : Option Addr} {lt ct : Nat} {V : Value} {xs : List Cu} {bk : List Cm} {w W : World} {cs : Array Value} {ty : TypeId} (h : Wr w0 base gW B t pt lt ct V xs bk w) (hU : Upd w W g cs ty) (h0 : g < base) (h1 : g ≠ gW) (h2 : g ≠ B) (h3 : w0.heap.size ≤ g) : Wr w0 base gW B t pt lt ct V xs bk W :=
  ⟨hU.keep h.blk (Ne.symm h1), h.mp.upd hU (Ne.symm h2), h.hold.upd hU h0, h.gw, h.gb, h.ne, h.n0, h.n1, by rw [hU.size]; exact h.sz, hU.bel _ _ h3 h.bel, h.few, h.wf⟩
theorem Small.more {bk : List Cm} {k m : Nat} (h : Small bk k) (hk : k ≤ m) : Small bk m := ⟨Nat.le_trans h.1 hk, fun c hc => ⟨Nat.le_trans (h.2 c hc).1 hk, (h.2 c hc).2⟩⟩
/-- Where it stands behind k events. -/
structure Mid2 (w : World) (t : Tm) (pt : Option Addr) (lt ct : Nat) (l : List Ev) (gn base gW B k : Nat) (st : Nat → List Cm) (wr : World) : Prop where
  s0 : st 0 = []
  steps : ∀ i, i < k → StepIs t (st i) (l.getD i ev0) (st (i + 1)) 0
  small : Small (st k) k
  bb : Blk wr (w.heap.size + 1) #[.slice none 0 0] 45
  ba : Blk wr (w.heap.size + 1 + 1) #[.int .i64 0] 3
  be : Blk wr (w.heap.size + 1 + 1 + 1) #[.int .i64 0] 29
  bn : Blk wr gn #[.int .i64 (k : Int)] 3
  wr : ∃ V xs, Wr w base gW B t pt lt ct V xs (st k) wr
structure Pl (w : World) (gn base gW B : Nat) : Prop where
  h1 : w.heap.size + 1 + 1 + 1 < gn
  h2 : gn < B
  h3 : B < gW
  h4 : gW < base
set_option maxHeartbeats 16000000 in
theorem kof : KOf := by
  intro w t pt lt ct pl n cap l ht hl
  unfold acc.Tm.v
  have HT : Hid (TCame w t pt lt ct) := ht
  have HL : Hid (RowE w pl n l) := hl.row
  have HLN : Hid (l.length = n) := hl.row.1
  have hnm : n ≤ 9223372036854775807 := by have := hl.bytes; omega
  have hmf : ∀ (fn : Fn) (first cap : Array Value) (w : World), (Instr.makeFunc fn first cap).run Try.prog w = .ok (.func fn first cap) w := fun _ _ _ _ => rfl
  have hmm : ∀ w : World, (Instr.makeMap 70 none).run Try.prog w = .ok (.map (some w.heap.size)) (w.alloc (.map #[] 0)) := mkMapI
  have HCK : Hid (∀ W, Below w.heap.size w W → Calls Try.prog 32 #[.agg #[.slice pt lt ct, .int .i64 t.ff, .int .i64 t.fb, .int .i64 t.db, .int .i64 t.al]] W fun e w' => tar.ErrPost W (TFault t) e w') := fun W hB => acc.kcheck W t pt lt ct (ht.below hB)
  clear ht hl
  have H0t : Hid (Blk ((((w.alloc (.cells #[.slice pt lt ct, .int .i64 t.ff, .int .i64 t.fb, .int .i64 t.db, .int .i64 t.al] 40)).alloc (.cells #[.slice none 0 0] 45)).alloc (.cells #[.int .i64 0] 3)).alloc (.cells #[.int .i64 0] 29)) (w.heap.size) #[.slice pt lt ct, .int .i64 t.ff, .int .i64 t.fb, .int .i64 t.db, .int .i64 t.al] 40) := (((Blk.new w _ _).alloc _).alloc _).alloc _
  have H0b : Hid (Blk ((((w.alloc (.cells #[.slice pt lt ct, .int .i64 t.ff, .int .i64 t.fb, .int .i64 t.db, .int .i64 t.al] 40)).alloc (.cells #[.slice none 0 0] 45)).alloc (.cells #[.int .i64 0] 3)).alloc (.cells #[.int .i64 0] 29)) (w.heap.size + 1) #[.slice none 0 0] 45) := ((Blk.new1 w _ _ _).alloc _).alloc _
  have H0at : Hid (Blk ((((w.alloc (.cells #[.slice pt lt ct, .int .i64 t.ff, .int .i64 t.fb, .int .i64 t.db, .int .i64 t.al] 40)).alloc (.cells #[.slice none 0 0] 45)).alloc (.cells #[.int .i64 0] 3)).alloc (.cells #[.int .i64 0] 29)) (w.heap.size + 1 + 1) #[.int .i64 0] 3) := (Blk.new2 w _ _ _ _).alloc _
  have H0er : Hid (Blk ((((w.alloc (.cells #[.slice pt lt ct, .int .i64 t.ff, .int .i64 t.fb, .int .i64 t.db, .int .i64 t.al] 40)).alloc (.cells #[.slice none 0 0] 45)).alloc (.cells #[.int .i64 0] 3)).alloc (.cells #[.int .i64 0] 29)) (w.heap.size + 1 + 1 + 1) #[.int .i64 0] 29) := Blk.new3 w _ _ _ _ _
  have H0B : Hid (Below w.heap.size w ((((w.alloc (.cells #[.slice pt lt ct, .int .i64 t.ff, .int .i64 t.fb, .int .i64 t.db, .int .i64 t.al] 40)).alloc (.cells #[.slice none 0 0] 45)).alloc (.cells #[.int .i64 0] 3)).alloc (.cells #[.int .i64 0] 29))) := ((((Below.refl w.heap.size w).alloc (by simp) _).alloc (by simp) _).alloc (by simp; omega) _).alloc (by simp; omega) _
  go_enter_defers Try.func16, Try.ntmps16
  go_upto_region 1 with fail
  generalize ((((w.alloc (.cells #[.slice pt lt ct, .int .i64 t.ff, .int .i64 t.fb, .int .i64 t.db, .int .i64 t.al] 40)).alloc (.cells #[.slice none 0 0] 45)).alloc (.cells #[.int .i64 0] 3)).alloc (.cells #[.int .i64 0] 29)) = W0 at *
  have HC1 : Hid (Calls Try.prog 32 #[.agg #[.slice pt lt ct, .int .i64 t.ff, .int .i64 t.fb, .int .i64 t.db, .int .i64 t.al]] W0 fun e w' => tar.ErrPost W0 (TFault t) e w') := HCK.out W0 H0B.out
  clear HCK
  go_wp2_with (first
    | (refine wp_whole rfl 40 _ rfl (w.heap.size) rfl 40 #[.slice pt lt ct, .int .i64 t.ff, .int .i64 t.fb, .int .i64 t.db, .int .i64 t.al] _ H0t.out Try.underlying40 rfl (by kernel_rfl) ?_)
    | (refine wp_whole rfl 45 _ rfl (w.heap.size + 1) rfl 45 #[.slice none 0 0] _ H0b.out Try.underlying45 rfl (by kernel_rfl) ?_)
    | (refine wp_whole rfl 3 _ rfl (w.heap.size + 1 + 1) rfl 3 #[.int .i64 0] _ H0at.out Try.underlying3 rfl (by kernel_rfl) ?_)
    | (refine wp_whole rfl 29 _ rfl (w.heap.size + 1 + 1 + 1) rfl 29 #[.int .i64 0] _ H0er.out Try.underlying29 rfl (by kernel_rfl) ?_)
    | fail)
  refine HC1.out.mono ?_
  rintro e w1 ⟨f, rfl, hf, hb1⟩
  have H1t : Hid (Blk w1 (w.heap.size) #[.slice pt lt ct, .int .i64 t.ff, .int .i64 t.fb, .int .i64 t.db, .int .i64 t.al] 40) := H0t.out.next hb1
  have H1b : Hid (Blk w1 (w.heap.size + 1) #[.slice none 0 0] 45) := H0b.out.next hb1
  have H1at : Hid (Blk w1 (w.heap.size + 1 + 1) #[.int .i64 0] 3) := H0at.out.next hb1
  have H1er : Hid (Blk w1 (w.heap.size + 1 + 1 + 1) #[.int .i64 0] 29) := H0er.out.next hb1
  have H1B : Hid (Below w.heap.size w w1) := H0B.out.trans (hb1.mono H0B.out.size)
  clear H0t H0b H0at H0er H0B
  clear hb1 HC1
  by_cases h0 : f = 0
  case neg =>
    have nf : (f != 0) = true := by simpa using h0
    have HF : Hid (TFault t f) := hf
    have HNE : Hid (f ≠ 0) := h0
    clear hf h0
    go_wp2_with (first
      | (refine wp_letAll rfl 45 _ _ rfl (w.heap.size + 1) rfl #[.slice none 0 0] rfl (by kernel_rfl) (by simp [Value.oneCell']) #[.slice none 0 0] 45 H1b.out rfl ?_)
      | (refine wp_whole rfl 40 _ rfl (w.heap.size) rfl 40 #[.slice pt lt ct, .int .i64 t.ff, .int .i64 t.fb, .int .i64 t.db, .int .i64 t.al] _ H1t.out Try.underlying40 rfl (by kernel_rfl) ?_)
      | (refine wp_whole rfl 45 _ rfl (w.heap.size + 1) rfl 45 #[.slice none 0 0] _ H1b.out Try.underlying45 rfl (by kernel_rfl) ?_)
      | (refine wp_whole rfl 3 _ rfl (w.heap.size + 1 + 1) rfl 3 #[.int .i64 0] _ H1at.out Try.underlying3 rfl (by kernel_rfl) ?_)
      | (refine wp_whole rfl 29 _ rfl (w.heap.size + 1 + 1 + 1) rfl 29 #[.int .i64 0] _ H1er.out Try.underlying29 rfl (by kernel_rfl) ?_)
      | fail)
    intro w1a hU
    have H2t : Hid (Blk w1a (w.heap.size) #[.slice pt lt ct, .int .i64 t.ff, .int .i64 t.fb, .int .i64 t.db, .int .i64 t.al] 40) := hU.keep H1t.out (by omega)
    have H2b : Hid (Blk w1a (w.heap.size + 1) #[.slice none 0 0] 45) := hU.blk
    have H2at : Hid (Blk w1a (w.heap.size + 1 + 1) #[.int .i64 0] 3) := hU.keep H1at.out (by omega)
    have H2er : Hid (Blk w1a (w.heap.size + 1 + 1 + 1) #[.int .i64 0] 29) := hU.keep H1er.out (by omega)
    have H2B : Hid (Below w.heap.size w w1a) := hU.bel _ _ (by omega) H1B.out
    clear H1t H1b H1at H1er H1B
    clear hU
    go_wp2_with (first
      | (refine wp_let1 rfl 3 _ _ rfl (w.heap.size + 1 + 1) 0 rfl .i64 0 rfl (by kernel_rfl) #[.int .i64 0] 3 H2at.out (by simp) ?_)
      | (refine wp_whole rfl 40 _ rfl (w.heap.size) rfl 40 #[.slice pt lt ct, .int .i64 t.ff, .int .i64 t.fb, .int .i64 t.db, .int .i64 t.al] _ H2t.out Try.underlying40 rfl (by kernel_rfl) ?_)
      | (refine wp_whole rfl 45 _ rfl (w.heap.size + 1) rfl 45 #[.slice none 0 0] _ H2b.out Try.underlying45 rfl (by kernel_rfl) ?_)
      | (refine wp_whole rfl 3 _ rfl (w.heap.size + 1 + 1) rfl 3 #[.int .i64 0] _ H2at.out Try.underlying3 rfl (by kernel_rfl) ?_)
      | (refine wp_whole rfl 29 _ rfl (w.heap.size + 1 + 1 + 1) rfl 29 #[.int .i64 0] _ H2er.out Try.underlying29 rfl (by kernel_rfl) ?_)
      | fail)
    intro w1aa hU
    have H3t : Hid (Blk w1aa (w.heap.size) #[.slice pt lt ct, .int .i64 t.ff, .int .i64 t.fb, .int .i64 t.db, .int .i64 t.al] 40) := hU.keep H2t.out (by omega)
    have H3b : Hid (Blk w1aa (w.heap.size + 1) #[.slice none 0 0] 45) := hU.keep H2b.out (by omega)
    have H3at : Hid (Blk w1aa (w.heap.size + 1 + 1) #[.int .i64 0] 3) := hU.blk
    have H3er : Hid (Blk w1aa (w.heap.size + 1 + 1 + 1) #[.int .i64 0] 29) := hU.keep H2er.out (by omega)
    have H3B : Hid (Below w.heap.size w w1aa) := hU.bel _ _ (by omega) H2B.out
    clear H2t H2b H2at H2er H2B
    clear hU
    go_wp2_with (first
      | (refine wp_let1 rfl 29 _ _ rfl (w.heap.size + 1 + 1 + 1) 0 rfl .i64 f rfl (by kernel_rfl) #[.int .i64 0] 29 H3er.out (by simp) ?_)
      | (refine wp_whole rfl 40 _ rfl (w.heap.size) rfl 40 #[.slice pt lt ct, .int .i64 t.ff, .int .i64 t.fb, .int .i64 t.db, .int .i64 t.al] _ H3t.out Try.underlying40 rfl (by kernel_rfl) ?_)
      | (refine wp_whole rfl 45 _ rfl (w.heap.size + 1) rfl 45 #[.slice none 0 0] _ H3b.out Try.underlying45 rfl (by kernel_rfl) ?_)
      | (refine wp_whole rfl 3 _ rfl (w.heap.size + 1 + 1) rfl 3 #[.int .i64 0] _ H3at.out Try.underlying3 rfl (by kernel_rfl) ?_)
      | (refine wp_whole rfl 29 _ rfl (w.heap.size + 1 + 1 + 1) rfl 29 #[.int .i64 0] _ H3er.out Try.underlying29 rfl (by kernel_rfl) ?_)
      | fail)
    intro w1aaa hU
    have H4t : Hid (Blk w1aaa (w.heap.size) #[.slice pt lt ct, .int .i64 t.ff, .int .i64 t.fb, .int .i64 t.db, .int .i64 t.al] 40) := hU.keep H3t.out (by omega)
    have H4b : Hid (Blk w1aaa (w.heap.size + 1) #[.slice none 0 0] 45) := hU.keep H3b.out (by omega)
    have H4at : Hid (Blk w1aaa (w.heap.size + 1 + 1) #[.int .i64 0] 3) := hU.keep H3at.out (by omega)
    have H4er : Hid (Blk w1aaa (w.heap.size + 1 + 1 + 1) #[.int .i64 f] 29) := hU.blk
    have H4B : Hid (Below w.heap.size w w1aaa) := hU.bel _ _ (by omega) H3B.out
    clear H3t H3b H3at H3er H3B
    clear hU
    go_wp2_with fail
    have rb : w1aaa.cell? ⟨w.heap.size + 1, 0, none⟩ = some (.slice none 0 0) := H4b.out.cell 0
    have rat : w1aaa.cell? ⟨w.heap.size + 1 + 1, 0, none⟩ = some (.int .i64 0) := H4at.out.cell 0
    have rer : w1aaa.cell? ⟨w.heap.size + 1 + 1 + 1, 0, none⟩ = some (.int .i64 f) := H4er.out.cell 0
    show Leaves _ _ _ _ [] .returning w1aaa
    refine ⟨.tuple #[.agg #[.slice none 0 0], .int .i64 0, .int .i64 f], by simp [results, Try.results16, rb, rat, rer, go_sem], ?_⟩
    exact ⟨none, 0, 0, [], [], 0, f, rfl, .inl ⟨HF.out, HNE.out, rfl, rfl⟩, sees_nil _, Nat.zero_le _, H4B.out⟩
  subst h0
  have HTR : Hid (TRight t) := hf.ok.1 rfl
  clear hf
  by_cases hbig : 120 < n
  case pos =>
    have hd1 : decide ((120 : Int) < (n : Int)) = true := decide_eq_true (by omega)
    have HBG : Hid (120 < l.length) := by show _ < _; rw [HLN.out]; exact hbig
    clear hbig
    go_wp2_with (first
      | (refine wp_letAll rfl 45 _ _ rfl (w.heap.size + 1) rfl #[.slice none 0 0] rfl (by kernel_rfl) (by simp [Value.oneCell']) #[.slice none 0 0] 45 H1b.out rfl ?_)
      | (refine wp_whole rfl 40 _ rfl (w.heap.size) rfl 40 #[.slice pt lt ct, .int .i64 t.ff, .int .i64 t.fb, .int .i64 t.db, .int .i64 t.al] _ H1t.out Try.underlying40 rfl (by kernel_rfl) ?_)
      | (refine wp_whole rfl 45 _ rfl (w.heap.size + 1) rfl 45 #[.slice none 0 0] _ H1b.out Try.underlying45 rfl (by kernel_rfl) ?_)
      | (refine wp_whole rfl 3 _ rfl (w.heap.size + 1 + 1) rfl 3 #[.int .i64 0] _ H1at.out Try.underlying3 rfl (by kernel_rfl) ?_)
      | (refine wp_whole rfl 29 _ rfl (w.heap.size + 1 + 1 + 1) rfl 29 #[.int .i64 0] _ H1er.out Try.underlying29 rfl (by kernel_rfl) ?_)
      | fail)
    intro w1a hU
    have H2t : Hid (Blk w1a (w.heap.size) #[.slice pt lt ct, .int .i64 t.ff, .int .i64 t.fb, .int .i64 t.db, .int .i64 t.al] 40) := hU.keep H1t.out (by omega)
    have H2b : Hid (Blk w1a (w.heap.size + 1) #[.slice none 0 0] 45) := hU.blk
    have H2at : Hid (Blk w1a (w.heap.size + 1 + 1) #[.int .i64 0] 3) := hU.keep H1at.out (by omega)
    have H2er : Hid (Blk w1a (w.heap.size + 1 + 1 + 1) #[.int .i64 0] 29) := hU.keep H1er.out (by omega)
    have H2B : Hid (Below w.heap.size w w1a) := hU.bel _ _ (by omega) H1B.out
    clear H1t H1b H1at H1er H1B
    clear hU
    go_wp2_with (first
      | (refine wp_let1 rfl 3 _ _ rfl (w.heap.size + 1 + 1) 0 rfl .i64 0 rfl (by kernel_rfl) #[.int .i64 0] 3 H2at.out (by simp) ?_)
      | (refine wp_whole rfl 40 _ rfl (w.heap.size) rfl 40 #[.slice pt lt ct, .int .i64 t.ff, .int .i64 t.fb, .int .i64 t.db, .int .i64 t.al] _ H2t.out Try.underlying40 rfl (by kernel_rfl) ?_)
      | (refine wp_whole rfl 45 _ rfl (w.heap.size + 1) rfl 45 #[.slice none 0 0] _ H2b.out Try.underlying45 rfl (by kernel_rfl) ?_)
      | (refine wp_whole rfl 3 _ rfl (w.heap.size + 1 + 1) rfl 3 #[.int .i64 0] _ H2at.out Try.underlying3 rfl (by kernel_rfl) ?_)
      | (refine wp_whole rfl 29 _ rfl (w.heap.size + 1 + 1 + 1) rfl 29 #[.int .i64 0] _ H2er.out Try.underlying29 rfl (by kernel_rfl) ?_)
      | fail)
    intro w1aa hU
    have H3t : Hid (Blk w1aa (w.heap.size) #[.slice pt lt ct, .int .i64 t.ff, .int .i64 t.fb, .int .i64 t.db, .int .i64 t.al] 40) := hU.keep H2t.out (by omega)
    have H3b : Hid (Blk w1aa (w.heap.size + 1) #[.slice none 0 0] 45) := hU.keep H2b.out (by omega)
    have H3at : Hid (Blk w1aa (w.heap.size + 1 + 1) #[.int .i64 0] 3) := hU.blk
    have H3er : Hid (Blk w1aa (w.heap.size + 1 + 1 + 1) #[.int .i64 0] 29) := hU.keep H2er.out (by omega)
    have H3B : Hid (Below w.heap.size w w1aa) := hU.bel _ _ (by omega) H2B.out
    clear H2t H2b H2at H2er H2B
    clear hU
    go_wp2_with (first
      | (refine wp_let1 rfl 29 _ _ rfl (w.heap.size + 1 + 1 + 1) 0 rfl .i64 1 rfl (by kernel_rfl) #[.int .i64 0] 29 H3er.out (by simp) ?_)
      | (refine wp_whole rfl 40 _ rfl (w.heap.size) rfl 40 #[.slice pt lt ct, .int .i64 t.ff, .int .i64 t.fb, .int .i64 t.db, .int .i64 t.al] _ H3t.out Try.underlying40 rfl (by kernel_rfl) ?_)
      | (refine wp_whole rfl 45 _ rfl (w.heap.size + 1) rfl 45 #[.slice none 0 0] _ H3b.out Try.underlying45 rfl (by kernel_rfl) ?_)
      | (refine wp_whole rfl 3 _ rfl (w.heap.size + 1 + 1) rfl 3 #[.int .i64 0] _ H3at.out Try.underlying3 rfl (by kernel_rfl) ?_)
      | (refine wp_whole rfl 29 _ rfl (w.heap.size + 1 + 1 + 1) rfl 29 #[.int .i64 0] _ H3er.out Try.underlying29 rfl (by kernel_rfl) ?_)
      | fail)
    intro w1aaa hU
    have H4t : Hid (Blk w1aaa (w.heap.size) #[.slice pt lt ct, .int .i64 t.ff, .int .i64 t.fb, .int .i64 t.db, .int .i64 t.al] 40) := hU.keep H3t.out (by omega)
    have H4b : Hid (Blk w1aaa (w.heap.size + 1) #[.slice none 0 0] 45) := hU.keep H3b.out (by omega)
    have H4at : Hid (Blk w1aaa (w.heap.size + 1 + 1) #[.int .i64 0] 3) := hU.keep H3at.out (by omega)
    have H4er : Hid (Blk w1aaa (w.heap.size + 1 + 1 + 1) #[.int .i64 1] 29) := hU.blk
    have H4B : Hid (Below w.heap.size w w1aaa) := hU.bel _ _ (by omega) H3B.out
    clear H3t H3b H3at H3er H3B
    clear hU
    go_wp2_with fail
    have rb : w1aaa.cell? ⟨w.heap.size + 1, 0, none⟩ = some (.slice none 0 0) := H4b.out.cell 0
    have rat : w1aaa.cell? ⟨w.heap.size + 1 + 1, 0, none⟩ = some (.int .i64 0) := H4at.out.cell 0
    have rer : w1aaa.cell? ⟨w.heap.size + 1 + 1 + 1, 0, none⟩ = some (.int .i64 1) := H4er.out.cell 0
    show Leaves _ _ _ _ [] .returning w1aaa
    refine ⟨.tuple #[.agg #[.slice none 0 0], .int .i64 0, .int .i64 1], by simp [results, Try.results16, rb, rat, rer, go_sem], ?_⟩
    exact ⟨none, 0, 0, [], [], 0, 1, rfl, .inr (.inl ⟨HTR.out, HBG.out, rfl, rfl, rfl⟩), sees_nil _, Nat.zero_le _, H4B.out⟩
  have hd1 : decide ((120 : Int) < (n : Int)) = false := decide_eq_false (by omega)
  have hn120 : n ≤ 120 := by omega
  have HFEW : Hid (l.length ≤ 120) := by show _ ≤ _; rw [HLN.out]; exact hn120
  clear hbig
  have HN2 : Hid (Blk (((w1.alloc (.cells #[.int .i64 0] 3)).alloc (.map #[] 0)).alloc (.cells #[.slice none 0 0, .slice pt lt ct, .int .i64 t.ff, .int .i64 t.fb, .int .i64 t.db, .int .i64 t.al, .map (some (w1.heap.size + 1))] 72)) w1.heap.size #[.int .i64 0] 3) := ((Blk.new _ _ _).alloc _).alloc _
  have HM2 : Hid (MpI (((w1.alloc (.cells #[.int .i64 0] 3)).alloc (.map #[] 0)).alloc (.cells #[.slice none 0 0, .slice pt lt ct, .int .i64 t.ff, .int .i64 t.fb, .int .i64 t.db, .int .i64 t.al, .map (some (w1.heap.size + 1))] 72)) (w1.heap.size + 1) []) := by
    have h1 := MpI.new (w1.alloc (.cells #[.int .i64 0] 3))
    rw [show (w1.alloc (.cells #[.int .i64 0] 3)).heap.size = w1.heap.size + 1 by simp] at h1
    exact h1.below ((Below.refl _ _).alloc (Nat.le_refl _) _)
  have HW2 : Hid (Blk (((w1.alloc (.cells #[.int .i64 0] 3)).alloc (.map #[] 0)).alloc (.cells #[.slice none 0 0, .slice pt lt ct, .int .i64 t.ff, .int .i64 t.fb, .int .i64 t.db, .int .i64 t.al, .map (some (w1.heap.size + 1))] 72)) (w1.heap.size + 1 + 1) #[.slice none 0 0, .slice pt lt ct, .int .i64 t.ff, .int .i64 t.fb, .int .i64 t.db, .int .i64 t.al, .map (some (w1.heap.size + 1))] 72) := by
    have h1 := Blk.new ((w1.alloc (.cells #[.int .i64 0] 3)).alloc (.map #[] 0)) #[.slice none 0 0, .slice pt lt ct, .int .i64 t.ff, .int .i64 t.fb, .int .i64 t.db, .int .i64 t.al, .map (some (w1.heap.size + 1))] 72
    rwa [show ((w1.alloc (.cells #[.int .i64 0] 3)).alloc (.map #[] 0)).heap.size = w1.heap.size + 1 + 1 by simp] at h1
  have HZt : Hid (Blk (((w1.alloc (.cells #[.int .i64 0] 3)).alloc (.map #[] 0)).alloc (.cells #[.slice none 0 0, .slice pt lt ct, .int .i64 t.ff, .int .i64 t.fb, .int .i64 t.db, .int .i64 t.al, .map (some (w1.heap.size + 1))] 72)) (w.heap.size) #[.slice pt lt ct, .int .i64 t.ff, .int .i64 t.fb, .int .i64 t.db, .int .i64 t.al] 40) := ((H1t.out.alloc _).alloc _).alloc _
  have HZb : Hid (Blk (((w1.alloc (.cells #[.int .i64 0] 3)).alloc (.map #[] 0)).alloc (.cells #[.slice none 0 0, .slice pt lt ct, .int .i64 t.ff, .int .i64 t.fb, .int .i64 t.db, .int .i64 t.al, .map (some (w1.heap.size + 1))] 72)) (w.heap.size + 1) #[.slice none 0 0] 45) := ((H1b.out.alloc _).alloc _).alloc _
  have HZat : Hid (Blk (((w1.alloc (.cells #[.int .i64 0] 3)).alloc (.map #[] 0)).alloc (.cells #[.slice none 0 0, .slice pt lt ct, .int .i64 t.ff, .int .i64 t.fb, .int .i64 t.db, .int .i64 t.al, .map (some (w1.heap.size + 1))] 72)) (w.heap.size + 1 + 1) #[.int .i64 0] 3) := ((H1at.out.alloc _).alloc _).alloc _
  have HZer : Hid (Blk (((w1.alloc (.cells #[.int .i64 0] 3)).alloc (.map #[] 0)).alloc (.cells #[.slice none 0 0, .slice pt lt ct, .int .i64 t.ff, .int .i64 t.fb, .int .i64 t.db, .int .i64 t.al, .map (some (w1.heap.size + 1))] 72)) (w.heap.size + 1 + 1 + 1) #[.int .i64 0] 29) := ((H1er.out.alloc _).alloc _).alloc _
  have HZB : Hid (Below w.heap.size w (((w1.alloc (.cells #[.int .i64 0] 3)).alloc (.map #[] 0)).alloc (.cells #[.slice none 0 0, .slice pt lt ct, .int .i64 t.ff, .int .i64 t.fb, .int .i64 t.db, .int .i64 t.al, .map (some (w1.heap.size + 1))] 72))) := ((H1B.out.alloc H1B.out.size _).alloc (Nat.le_trans H1B.out.size (by simp)) _).alloc (Nat.le_trans H1B.out.size (by simp; omega)) _
  have HPL0 : Hid (w.heap.size + 1 + 1 + 1 < w1.heap.size) := H1er.out.lt
  have HSB : Hid ((((w1.alloc (.cells #[.int .i64 0] 3)).alloc (.map #[] 0)).alloc (.cells #[.slice none 0 0, .slice pt lt ct, .int .i64 t.ff, .int .i64 t.fb, .int .i64 t.db, .int .i64 t.al, .map (some (w1.heap.size + 1))] 72)).heap.size = w1.heap.size + 1 + 1 + 1) := by show _ = _; simp
  go_upto_region 9 with (first
    | (refine wp_whole rfl 40 _ rfl w.heap.size rfl 40 #[.slice pt lt ct, .int .i64 t.ff, .int .i64 t.fb, .int .i64 t.db, .int .i64 t.al] _ (H1t.out.alloc _) Try.underlying40 rfl (by kernel_rfl) ?_)
    | fail)
  generalize (((w1.alloc (.cells #[.int .i64 0] 3)).alloc (.map #[] 0)).alloc (.cells #[.slice none 0 0, .slice pt lt ct, .int .i64 t.ff, .int .i64 t.fb, .int .i64 t.db, .int .i64 t.al, .map (some (w1.heap.size + 1))] 72)) = W2 at *
  generalize w1.heap.size = gn at *
  have HPL : Hid (Pl w gn (gn + 1 + 1 + 1) (gn + 1 + 1) (gn + 1)) := ⟨HPL0.out, Nat.lt_succ_self _, Nat.lt_succ_self _, Nat.lt_succ_self _⟩
  have HMID : Hid (Mid2 w t pt lt ct l gn (gn + 1 + 1 + 1) (gn + 1 + 1) (gn + 1) 0 (fun _ => []) W2) := ⟨rfl, (fun i hi => absurd hi (Nat.not_lt_zero _)), Small.zero, HZb.out, HZat.out, HZer.out, HN2.out, .slice none 0 0, [], HW2.out, HM2.out, Holds.zero _ _, by omega, by omega, by omega, by have := HPL0.out; omega, by have := HPL0.out; omega, by rw [HSB.out]; exact Nat.le_refl _, HZB.out, Small.more Small.zero (by omega), fun c hc => by cases hc⟩
  clear HZt HZb HZat HZer HN2 HM2 HW2 HZB HPL0 HSB H1t H1b H1at H1er H1B
  generalize gn + 1 + 1 + 1 = base at *
  generalize hgW : gn + 1 + 1 = gW at *
  generalize gn + 1 = B at *
  clear hgW
  clear hmf hmm hd1
  go_wp2_with fail
  go_loopg [] n (fun gk wr => ∃ (k : Nat) (st : Nat → List Cm), k + gk = n ∧ Mid2 w t pt lt ct l gn base gW B k st wr)
  case atStart => exact ⟨0, _, by omega, HMID.out⟩
  case round =>
    obtain ⟨k, st, hk, hmid⟩ := hrel
    clear HMID
    have HM : Hid (Mid2 w t pt lt ct l gn base gW B k st wr) := hmid
    have q8 : wr.cell? ⟨gn, 0, none⟩ = some (.int .i64 (k : Int)) := hmid.bn.cell 0
    obtain ⟨V, xs, hwr⟩ := hmid.wr
    obtain ⟨a, ca, hV, _⟩ := hwr.hold.row.row
    subst hV
    have HWR : Hid (Wr w base gW B t pt lt ct (.slice a xs.length ca) xs (st k) wr) := hwr
    clear hmid hwr
    by_cases hlt : k < n
    case neg =>
      have hkn : k = n := by omega
      have HKN : Hid (k = n) := hkn
      have hdl : decide ((k : Int) < (n : Int)) = false := decide_eq_false (by omega)
      clear hkn
      have q0 : wr.cell? ⟨gW, 0, none⟩ = some (.slice a xs.length ca) := HWR.out.blk.cell 0
      have hp1 := HPL.out.h1
      have hp2 := HPL.out.h2
      have hp3 := HPL.out.h3
      have hp4 := HPL.out.h4
      have HXL : Hid (xs.length ≤ 120) := by show _ ≤ _; rw [HWR.out.hold.len]; exact HWR.out.few.1
      have HW0 : Hid (Wr w base gW B t pt lt ct (.slice a xs.length ca) xs (st k) wr ∧ Blk wr (w.heap.size + 1) #[.slice none 0 0] 45 ∧ Blk wr (w.heap.size + 1 + 1) #[.int .i64 0] 3 ∧ Blk wr (w.heap.size + 1 + 1 + 1) #[.int .i64 0] 29) := ⟨HWR.out, HM.out.bb, HM.out.ba, HM.out.be⟩
      clear HWR
      generalize hxl : xs.length = m at *
      have HXN : Hid (xs.length = m) := hxl
      clear hxl
      go_wp2_with (first | (refine wp_letAll rfl 45 _ _ rfl (w.heap.size + 1) rfl #[.slice a m ca] rfl (by kernel_rfl) (by simp [Value.oneCell']) #[.slice none 0 0] 45 HW0.out.2.1 rfl ?_) | fail)
      intro V1 hU
      clear q0
      have HW1 : Hid (Wr w base gW B t pt lt ct (.slice a m ca) xs (st k) V1 ∧ Blk V1 (w.heap.size + 1) #[.slice a m ca] 45 ∧ Blk V1 (w.heap.size + 1 + 1) #[.int .i64 0] 3 ∧ Blk V1 (w.heap.size + 1 + 1 + 1) #[.int .i64 0] 29) := ⟨HW0.out.1.upd hU (by omega) (by omega) (by omega) (by omega), hU.blk, hU.keep HW0.out.2.2.1 (by omega), hU.keep HW0.out.2.2.2 (by omega)⟩
      clear hU HW0
      go_wp2_with (first | (refine wp_let1 rfl 3 _ _ rfl (w.heap.size + 1 + 1) 0 rfl .i64 0 rfl (by kernel_rfl) #[.int .i64 0] 3 HW1.out.2.2.1 (by simp) ?_) | fail)
      intro V2 hU
      have HW2 : Hid (Wr w base gW B t pt lt ct (.slice a m ca) xs (st k) V2 ∧ Blk V2 (w.heap.size + 1) #[.slice a m ca] 45 ∧ Blk V2 (w.heap.size + 1 + 1) #[.int .i64 0] 3 ∧ Blk V2 (w.heap.size + 1 + 1 + 1) #[.int .i64 0] 29) := ⟨HW1.out.1.upd hU (by omega) (by omega) (by omega) (by omega), hU.keep HW1.out.2.1 (by omega), hU.blk, hU.keep HW1.out.2.2.2 (by omega)⟩
      clear hU HW1
      go_wp2_with (first | (refine wp_let1 rfl 29 _ _ rfl (w.heap.size + 1 + 1 + 1) 0 rfl .i64 0 rfl (by kernel_rfl) #[.int .i64 0] 29 HW2.out.2.2.2 (by simp) ?_) | fail)
      intro V3 hU
      have HW3 : Hid (Wr w base gW B t pt lt ct (.slice a m ca) xs (st k) V3 ∧ Blk V3 (w.heap.size + 1) #[.slice a m ca] 45 ∧ Blk V3 (w.heap.size + 1 + 1) #[.int .i64 0] 3 ∧ Blk V3 (w.heap.size + 1 + 1 + 1) #[.int .i64 0] 29) := ⟨HW2.out.1.upd hU (by omega) (by omega) (by omega) (by omega), hU.keep HW2.out.2.1 (by omega), hU.keep HW2.out.2.2.1 (by omega), hU.blk⟩
      clear hU HW2
      go_wp2_with fail
      refine leaves_cons (f := 33) (args := #[.pointer (some ⟨w.heap.size + 1 + 1 + 1, 0, none⟩), .pointer (some ⟨gn, 0, none⟩), .pointer (some ⟨w.heap.size + 1 + 1, 0, none⟩)]) (by simp) (by simp [go_sem]) ?_
      refine (of_idle (w.heap.size + 1 + 1 + 1) gn (w.heap.size + 1 + 1) 0 _ HW3.out.2.2.2).mono ?_
      rintro e u' w5 ⟨rfl, hs, W, hb, hU⟩
      have hwr5 : Wr w base gW B t pt lt ct (.slice a m ca) xs (st k) w5 := (HW3.out.1.next hb).upd hU (by omega) (by omega) (by omega) (by omega)
      have r0 : w5.cell? ⟨w.heap.size + 1, 0, none⟩ = some (.slice a m ca) := (hU.keep (HW3.out.2.1.next hb) (by omega)).cell 0
      have r1 : w5.cell? ⟨w.heap.size + 1 + 1, 0, none⟩ = some (.int .i64 0) := (hU.keep (HW3.out.2.2.1.next hb) (by omega)).cell 0
      have r2 : w5.cell? ⟨w.heap.size + 1 + 1 + 1, 0, none⟩ = some (.int .i64 0) := hU.blk.cell 0
      show Leaves _ _ _ _ [] (settle u') w5
      rw [hs]
      refine ⟨.tuple #[.agg #[.slice a m ca], .int .i64 0, .int .i64 0], by simp [results, Try.results16, r0, r1, r2, go_sem], ?_⟩
      obtain ⟨p9, c9, hv9, hsee⟩ := hwr5.hold.sees
      injection hv9 with e1 e2 e3
      subst e1
      rw [← e2] at hsee
      exact ⟨a, m, ca, xs, st k, 0, 0, rfl, .inr (.inr ⟨HTR.out, HFEW.out, k, st, HM.out.s0, HM.out.steps, .inl ⟨by rw [HLN.out]; exact HKN.out, rfl, rfl, rfl⟩⟩), hsee, HXL.out, hwr5.bel⟩
    have hdl : decide ((k : Int) < (n : Int)) = true := decide_eq_true (by omega)
    obtain ⟨bl, off, rfl, lb, hc⟩ := HL.out.2.resolve_left (by omega)
    have hce : ∀ j, j < 13 → wr.cell? ⟨bl, off + k * 13 + j, none⟩ = (l.getD k ev0).cl[j]? := fun j hj => (HWR.out.bel.cell (p := ⟨bl, off + k * 13 + j, none⟩) lb).trans (hc k j hlt hj)
    obtain ⟨v, hv⟩ : ∃ v, v = l.getD k ev0 := ⟨_, rfl⟩
    have HV : Hid (v = l.getD k ev0) := hv
    rw [← hv] at hce
    clear hv hc
    have c0 : wr.cell? ⟨bl, off + k * 13, none⟩ = some (.int .i64 v.kd) := hce 0 (by decide)
    have c1 : wr.cell? ⟨bl, off + k * 13 + 1, none⟩ = some (.int .i64 v.me) := hce 1 (by decide)
    have c2 : wr.cell? ⟨bl, off + k * 13 + 2, none⟩ = some (.int .i64 v.mo) := hce 2 (by decide)
    have c3 : wr.cell? ⟨bl, off + k * 13 + 3, none⟩ = some (.int .i64 v.id) := hce 3 (by decide)
    have c4 : wr.cell? ⟨bl, off + k * 13 + 4, none⟩ = some (.int .i64 v.te) := hce 4 (by decide)
    have c5 : wr.cell? ⟨bl, off + k * 13 + 5, none⟩ = some (.int .i64 v.de) := hce 5 (by decide)
    have c6 : wr.cell? ⟨bl, off + k * 13 + 6, none⟩ = some (.int .i64 v.fe) := hce 6 (by decide)
    have c7 : wr.cell? ⟨bl, off + k * 13 + 7, none⟩ = some (.int .i64 v.pr) := hce 7 (by decide)
    have c8 : wr.cell? ⟨bl, off + k * 13 + 8, none⟩ = some (.int .i64 v.ch) := hce 8 (by decide)
    have c9 : wr.cell? ⟨bl, off + k * 13 + 9, none⟩ = some (.int .i64 v.un) := hce 9 (by decide)
    have c10 : wr.cell? ⟨bl, off + k * 13 + 10, none⟩ = some (.int .i64 v.tg) := hce 10 (by decide)
    have c11 : wr.cell? ⟨bl, off + k * 13 + 11, none⟩ = some (.int .i64 v.ow) := hce 11 (by decide)
    have c12 : wr.cell? ⟨bl, off + k * 13 + 12, none⟩ = some (.int .i64 v.bp) := hce 12 (by decide)
    have HHP : Hid (Calls Try.prog 34 #[.pointer (some ⟨gW, 0, none⟩), .agg #[.int .i64 v.kd, .int .i64 v.me, .int .i64 v.mo, .int .i64 v.id, .int .i64 v.te, .int .i64 v.de, .int .i64 v.fe, .int .i64 v.pr, .int .i64 v.ch, .int .i64 v.un, .int .i64 v.tg, .int .i64 v.ow, .int .i64 v.bp]] wr fun e w' => WPost w base gW B t pt lt ct (StepIs t (st k) v) wr e w') := bhappen w base gW B t pt lt ct a xs.length ca xs (st k) v wr HWR.out HT.out
    clear hce lb
    have HKL : Hid (k < l.length) := by show _ < _; rw [HLN.out]; exact hlt
    go_wp2_with fail
    refine HHP.out.mono ?_
    rintro e w2 ⟨hkp, hpo⟩
    clear HHP q8 hdl c0 c1 c2 c3 c4 c5 c6 c7 c8 c9 c10 c11 c12
    have hp1 := HPL.out.h1
    have hp2 := HPL.out.h2
    have hp3 := HPL.out.h3
    have hp4 := HPL.out.h4
    have Hb2 : Hid (Blk w2 (w.heap.size + 1) #[.slice none 0 0] 45) := hkp.keep HM.out.bb (by omega) (by omega) (by omega)
    have Ha2 : Hid (Blk w2 (w.heap.size + 1 + 1) #[.int .i64 0] 3) := hkp.keep HM.out.ba (by omega) (by omega) (by omega)
    have He2 : Hid (Blk w2 (w.heap.size + 1 + 1 + 1) #[.int .i64 0] 29) := hkp.keep HM.out.be (by omega) (by omega) (by omega)
    have Hn2 : Hid (Blk w2 gn #[.int .i64 (k : Int)] 3) := hkp.keep HM.out.bn (by omega) (by omega) (by omega)
    have HB2 : Hid (Below w.heap.size w w2) := hkp.bel HWR.out.bel (by omega) (by omega) (by omega)
    rcases hpo with ⟨V', xs', bk', rfl, hst, hwr2⟩ | ⟨f, bk', hf, rfl, hst⟩
    case inr =>
      have HST : Hid (StepIs t (st k) (l.getD k ev0) bk' f) := by show StepIs _ _ _ _ _; rw [← HV.out]; exact hst
      have HF : Hid (f ≠ 0) := hf
      clear hst hkp
      refine leaves_cons (f := 33) (args := #[.pointer (some ⟨w.heap.size + 1 + 1 + 1, 0, none⟩), .pointer (some ⟨gn, 0, none⟩), .pointer (some ⟨w.heap.size + 1 + 1, 0, none⟩)]) (by simp) (by simp [go_sem]) ?_
      refine (of_caught (w.heap.size + 1 + 1 + 1) gn (w.heap.size + 1 + 1) 0 (k : Int) 0 f hf _ He2.out Hn2.out Ha2.out (by omega) (by omega)).mono ?_
      rintro e u' w5 ⟨rfl, hs, W, W3, hb, hU, hU2⟩
      have r0 : w5.cell? ⟨w.heap.size + 1, 0, none⟩ = some (.slice none 0 0) := (hU2.keep (hU.keep (Hb2.out.next hb) (by omega)) (by omega)).cell 0
      have r1 : w5.cell? ⟨w.heap.size + 1 + 1, 0, none⟩ = some (.int .i64 (k : Int)) := hU2.blk.cell 0
      have r2 : w5.cell? ⟨w.heap.size + 1 + 1 + 1, 0, none⟩ = some (.int .i64 f) := (hU2.keep hU.blk (by omega)).cell 0
      have HB5 : Below w.heap.size w w5 := hU2.bel _ _ (by omega) (hU.bel _ _ (by omega) (bel_step HB2.out hb))
      show Leaves _ _ _ _ [] (settle u') w5
      rw [hs]
      refine ⟨.tuple #[.agg #[.slice none 0 0], .int .i64 (k : Int), .int .i64 f], by simp [results, Try.results16, r0, r1, r2, go_sem], ?_⟩
      exact ⟨none, 0, 0, [], [], (k : Int), f, rfl, .inr (.inr ⟨HTR.out, HFEW.out, k, st, HM.out.s0, HM.out.steps, .inr ⟨HKL.out, ⟨bk', HST.out⟩, HF.out, rfl, rfl⟩⟩), sees_nil _, Nat.zero_le _, HB5⟩
    have HST : Hid (StepIs t (st k) (l.getD k ev0) bk' 0) := by show StepIs _ _ _ _ _; rw [← HV.out]; exact hst
    have HS2 : Hid (Small bk' (k + 1)) := step_small hst HM.out.small
    have HWR2 : Hid (Wr w base gW B t pt lt ct V' xs' bk' w2) := hwr2 (HS2.out.more (by omega))
    have q8 : w2.cell? ⟨gn, 0, none⟩ = some (.int .i64 (k : Int)) := Hn2.out.cell 0
    have hwk : IntKind.i64.wrap ((k : Int) + 1) = (k : Int) + 1 := by rw [IntKind.wrap_i64]; omega
    clear hst hkp hwr2 HWR
    go_wp2_with (first | (refine wp_let1 rfl 3 _ _ rfl gn 0 rfl .i64 ((k : Int) + 1) rfl (by kernel_rfl) #[.int .i64 (k : Int)] 3 Hn2.out (by simp) ?_) | fail)
    intro W3 hU
    have HWR3 : Hid (Wr w base gW B t pt lt ct V' xs' bk' W3) := HWR2.out.upd hU (by omega) (by omega) (by omega) (by omega)
    have HX3 : Hid (Blk W3 (w.heap.size + 1) #[.slice none 0 0] 45 ∧ Blk W3 (w.heap.size + 1 + 1) #[.int .i64 0] 3 ∧ Blk W3 (w.heap.size + 1 + 1 + 1) #[.int .i64 0] 29 ∧ Blk W3 gn #[.int .i64 ((k : Int) + 1)] 3) := ⟨hU.keep Hb2.out (by omega), hU.keep Ha2.out (by omega), hU.keep He2.out (by omega), hU.blk⟩
    clear hU q8 HWR2
    obtain ⟨st2, s1, s2, s3⟩ := run_more HM.out.steps HST.out
    have HM3 : Hid (Mid2 w t pt lt ct l gn base gW B (k + 1) st2 W3) := ⟨s1.trans HM.out.s0, s3, by rw [s2]; exact HS2.out, HX3.out.1, HX3.out.2.1, HX3.out.2.2.1, by have h1 := HX3.out.2.2.2; rw [show ((k : Int) + 1) = ((k + 1 : Nat) : Int) by omega] at h1; exact h1, V', xs', by rw [s2]; exact HWR3.out⟩
    clear s1 s2 s3
    go_wp2_with fail
    go_roundg (n - (k + 1))
    case rel => exact ⟨k + 1, st2, by omega, HM3.out⟩
    case measure => omega

end Go.Proofs.Ytfhlokjpdkmdjaa.book

/- Terms that came in. -/
namespace Go.Proofs.Ytfhlokjpdkmdjaa.acc
open Go.ChangeShapes Go.WideShapes Go.ChangeAt Go.RowKit Go.Deep
set_option maxRecDepth 100000
set_option linter.unusedVariables false

theorem open_terms {H : Type} {enc : TypeId × Value → H} {W : World} {r : Reach} {b0 b1 : Nat} {held : Bool} {v : Value} {d : DataW H} {ps : List MemPlace}
    (hval : Value.okWide Try.prog W r b0 40 v) (h : DataW.Trod enc Try.prog W b1 (fun _ => true) held 40 v d ps) (hs : ∀ n ∈ d.weights Try.prog 40, n ≤ reachBytes) :
    ∃ (x : Tm) (p : Option Addr) (len cap : Nat), v = x.v p len cap ∧ TCame W x p len cap := by
  have hu := Try.underlying40
  have hc : Try.prog.cellsOf 40 = 5 := by kernel_rfl
  have ci : Try.prog.cellsOf 3 = 1 := by kernel_rfl
  have csl : Try.prog.cellsOf 38 = 1 := by kernel_rfl
  obtain ⟨cs, rfl, hsz⟩ := okWide_struct hu hval
  rw [hc] at hsz
  obtain ⟨c0, c1, c2, c3, c4, rfl⟩ : ∃ c0 c1 c2 c3 c4, cs = #[c0, c1, c2, c3, c4] := by
    cases cs with
    | mk l => match l, hsz with
      | [c0, c1, c2, c3, c4], _ => exact ⟨c0, c1, c2, c3, c4, rfl⟩
  obtain ⟨fuel, hf⟩ := h
  obtain ⟨xs, n, hx, hd, _, hlen, hg⟩ := DataW.trod_struct hu hf
  match xs, hlen with
  | [y0, y1, y2, y3, y4], _ =>
    have g0 := hg 0 _ rfl
    have g1 := hg 1 _ rfl
    have g2 := hg 2 _ rfl
    have g3 := hg 3 _ rfl
    have g4 := hg 4 _ rfl
    simp [Value.cells, ci, csl] at g0 g1 g2 g3 g4
    obtain ⟨x1, e1, -, w1⟩ := DataW.trod_int Try.underlying3 g1
    obtain ⟨x2, e2, -, w2⟩ := DataW.trod_int Try.underlying3 g2
    obtain ⟨x3, e3, -, w3⟩ := DataW.trod_int Try.underlying3 g3
    obtain ⟨x4, e4, -, w4⟩ := DataW.trod_int Try.underlying3 g4
    simp at e1 e2 e3 e4
    subst e1 e2 e3 e4
    rcases Deep.open_slice_pairs Try.underlying38 Try.underlying111 (by kernel_rfl) rfl rfl (by kernel_rfl) (by kernel_rfl) g0 with ⟨hcs, _⟩ | ⟨x, l, c, mm, fu, V0, V1, D0, D1, P0, P1, hcs, _, hl, hm, hmm, hy, hall⟩
    · simp at hcs
      subst hcs
      exact ⟨⟨[], x1, x2, x3, x4⟩, none, 0, 0, rfl, ⟨tar.RowD.nil _ _, (fun _ => rfl), Nat.le_refl _, by omega, (fun x hx => by cases hx)⟩, ⟨w1, w2, w3, w4⟩⟩
    · simp at hcs
      subst hcs
      simp only [if_true] at hmm
      subst hmm
      have hr := tar.rowD_of (len := l) (w := W) (a := x) (m := mm) (by omega) (fun j hj => by
        obtain ⟨k0, k1, t0, t1⟩ := hall j hj
        obtain ⟨z0, hv0, _, hw0⟩ := DataW.trod_int Try.underlying3 t0
        obtain ⟨z1, hv1, _, hw1⟩ := DataW.trod_int Try.underlying3 t1
        simp only [List.cons.injEq, and_true] at hv0 hv1
        rw [hv0] at k0
        rw [hv1] at k1
        exact ⟨z0, z1, k0, k1, hw0, hw1⟩)
      obtain ⟨zs, r1, r2⟩ := hr
      subst hy
      obtain ⟨hd1, _⟩ := Prod.mk.inj hd
      subst hd1
      have h1 := hs ((l + (mm - l)) * Try.prog.bytesOf 111) (by simp [DataW.weights, hu, DataW.weightsEach, Try.underlying38])
      rw [show Try.prog.bytesOf 111 = 16 from by kernel_rfl] at h1
      simp only [reachBytes] at h1
      exact ⟨⟨zs, x1, x2, x3, x4⟩, some x, l, mm, rfl, ⟨r1, (fun h => by cases h), hl, by omega, r2⟩, ⟨w1, w2, w3, w4⟩⟩

end Go.Proofs.Ytfhlokjpdkmdjaa.acc

/- Events that came in. -/
namespace Go.Proofs.Ytfhlokjpdkmdjaa.book
open Go.ChangeShapes Go.WideShapes Go.ChangeAt Go.RowKit Go.Deep
set_option maxRecDepth 100000

theorem ev_cells {H : Type} {enc : TypeId × Value → H} {W : World} {b1 : Nat} {spare : Nat → Bool} {held : Bool} {fuel : Nat} {cs : List Value} {x : DataW H × List MemPlace}
    (hsz : cs.length = 13) (hf : DataW.trod enc Try.prog W b1 spare held fuel 27 cs = some x) :
    ∃ x : Ev, cs = x.cl ∧ wf13 x := by
  have hu := Try.underlying27
  have ci : Try.prog.cellsOf 3 = 1 := by kernel_rfl
  have cb : Try.prog.cellsOf 23 = 7 := by kernel_rfl
  have cd : Try.prog.cellsOf 25 = 2 := by kernel_rfl
  obtain ⟨c0, c1, c2, c3, c4, c5, c6, c7, c8, c9, c10, c11, c12, rfl⟩ : ∃ c0 c1 c2 c3 c4 c5 c6 c7 c8 c9 c10 c11 c12, cs = [c0, c1, c2, c3, c4, c5, c6, c7, c8, c9, c10, c11, c12] := by
    match cs, hsz with
    | [c0, c1, c2, c3, c4, c5, c6, c7, c8, c9, c10, c11, c12], _ => exact ⟨c0, c1, c2, c3, c4, c5, c6, c7, c8, c9, c10, c11, c12, rfl⟩
  obtain ⟨xs, n, _, _, _, hlen, hg⟩ := DataW.trod_struct hu hf
  match xs, hlen with
  | [y0, y1, y2, y3, y4, y5], _ =>
    have g0 := hg 0 _ rfl
    have g1 := hg 1 _ rfl
    have g2 := hg 2 _ rfl
    have g3 := hg 3 _ rfl
    have g4 := hg 4 _ rfl
    have g5 := hg 5 _ rfl
    simp [ci, cb, cd] at g0 g1 g2 g3 g4 g5
    obtain ⟨x0, e0, -, w0⟩ := DataW.trod_int Try.underlying3 g0
    obtain ⟨x1, e1, -, w1⟩ := DataW.trod_int Try.underlying3 g1
    obtain ⟨x2, e2, -, w2⟩ := DataW.trod_int Try.underlying3 g2
    obtain ⟨x10, e10, -, w10⟩ := DataW.trod_int Try.underlying3 g4
    obtain ⟨ys, k, _, _, _, hlen2, hq⟩ := DataW.trod_struct Try.underlying23 g3
    obtain ⟨us, k2, _, _, _, hlen3, hp⟩ := DataW.trod_struct Try.underlying25 g5
    match ys, hlen2, us, hlen3 with
    | [z0, z1, z2, z3, z4, z5, z6], _, [u0, u1], _ =>
      have q0 := hq 0 _ rfl
      have q1 := hq 1 _ rfl
      have q2 := hq 2 _ rfl
      have q3 := hq 3 _ rfl
      have q4 := hq 4 _ rfl
      have q5 := hq 5 _ rfl
      have q6 := hq 6 _ rfl
      have p0 := hp 0 _ rfl
      have p1 := hp 1 _ rfl
      simp [ci] at q0 q1 q2 q3 q4 q5 q6 p0 p1
      obtain ⟨x3, e3, -, w3⟩ := DataW.trod_int Try.underlying3 q0
      obtain ⟨x4, e4, -, w4⟩ := DataW.trod_int Try.underlying3 q1
      obtain ⟨x5, e5, -, w5⟩ := DataW.trod_int Try.underlying3 q2
      obtain ⟨x6, e6, -, w6⟩ := DataW.trod_int Try.underlying3 q3
      obtain ⟨x7, e7, -, w7⟩ := DataW.trod_int Try.underlying3 q4
      obtain ⟨x8, e8, -, w8⟩ := DataW.trod_int Try.underlying3 q5
      obtain ⟨x9, e9, -, w9⟩ := DataW.trod_int Try.underlying3 q6
      obtain ⟨x11, e11, -, w11⟩ := DataW.trod_int Try.underlying3 p0
      obtain ⟨x12, e12, -, w12⟩ := DataW.trod_int Try.underlying3 p1
      simp at e0 e1 e2 e3 e4 e5 e6 e7 e8 e9 e10 e11 e12
      subst e0 e1 e2 e3 e4 e5 e6 e7 e8 e9 e10 e11 e12
      exact ⟨⟨x0, x1, x2, x3, x4, x5, x6, x7, x8, x9, x10, x11, x12⟩, rfl, w0, w1, w2, w3, w4, w5, w6, w7, w8, w9, w10, w11, w12⟩

theorem rowE_of {w : World} {a : Addr} {m len : Nat} (hl : len ≤ m)
    (h : ∀ i, i < m → ∃ y : Ev, (∀ j, j < 13 → w.cell? (a.add (i * 13 + j)) = y.cl[j]?) ∧ wf13 y) :
    ∃ zs : List Ev, RowE w (some a) len zs ∧ ∀ x ∈ zs, wf13 x := by
  haveI : Inhabited Ev := ⟨ev0⟩
  obtain ⟨f, hf⟩ := Deep.choose_lt h
  refine ⟨(List.range len).map f, ⟨by simp, ?_⟩, fun x hx => ?_⟩
  · by_cases h0 : len = 0
    · exact .inl h0
    · obtain ⟨b, off, spot⟩ := a
      have e0 : w.cell? ((⟨b, off, spot⟩ : Addr).add (0 * 13 + 0)) = some (.int .i64 (f 0).kd) := (hf 0 (by omega)).1 0 (by omega)
      have hs : spot = none := by simpa [Addr.add] using World.cell?_spot e0
      subst hs
      refine .inr ⟨b, off, rfl, ?_, fun i j hi hj => ?_⟩
      · rw [Addr.add_lit] at e0
        exact World.block_lt_of_cell? w _ e0
      · have h1 := (hf i (by omega)).1 j hj
        rw [Addr.add_lit, ← Nat.add_assoc] at h1
        have e : ((List.range len).map f).getD i ev0 = f i := by simp [List.getD, hi]
        rw [e]
        exact h1
  · obtain ⟨j, hj, rfl⟩ := List.mem_map.1 hx
    exact (hf j (by have := List.mem_range.1 hj; omega)).2
theorem open_evs {H : Type} {enc : TypeId × Value → H} {W : World} {r : Reach} {b0 b1 : Nat} {held : Bool} {v : Value} {d : DataW H} {ps : List MemPlace}
    (hval : Value.okWide Try.prog W r b0 41 v) (h : DataW.Trod enc Try.prog W b1 (fun _ => true) held 41 v d ps) (hs : ∀ n ∈ d.weights Try.prog 41, n ≤ reachBytes) :
    ∃ (p : Option Addr) (len cap : Nat) (l : List Ev), v = .slice p len cap ∧ ECame W p len cap l := by
  have hu := Try.underlying41
  have hc : Try.prog.cellsOf 27 = 13 := by kernel_rfl
  obtain ⟨p, len, cap, rfl⟩ := okWide_slice hu hval
  obtain ⟨fuel, hf⟩ := h
  rcases Deep.open_slice hu hf with ⟨hcs, _⟩ | ⟨a, l, c, m, n, D, Pl, hcs, _, hl, hm, hmm, hy, hall⟩
  · simp [Value.cells] at hcs
    obtain ⟨rfl, rfl, rfl⟩ := hcs
    exact ⟨none, 0, 0, [], rfl, ⟨rfl, .inl rfl⟩, (fun _ => rfl), Nat.le_refl _, by omega, (fun x hx => by cases hx)⟩
  · simp [Value.cells] at hcs
    obtain ⟨rfl, rfl, rfl⟩ := hcs
    simp only [if_true] at hmm
    subst hmm
    rw [hc] at hall
    obtain ⟨zs, r1, r2⟩ := rowE_of (w := W) (a := a) (m := m) hl (fun i hi => by
      obtain ⟨cs', h1, h2⟩ := hall i hi
      obtain ⟨_, hlen, hcell⟩ := World.cells?_some h1
      obtain ⟨y, rfl, hw⟩ := ev_cells hlen h2
      exact ⟨y, fun j hj => by have := hcell j hj; rwa [Deep.add_add] at this, hw⟩)
    obtain ⟨hd1, _⟩ := Prod.mk.inj hy
    subst hd1
    have h1 := hs ((len + (m - len)) * Try.prog.bytesOf 27) (by simp [DataW.weights, hu])
    rw [show Try.prog.bytesOf 27 = 104 from by kernel_rfl] at h1
    simp only [reachBytes] at h1
    exact ⟨some a, len, m, zs, rfl, r1, (fun h => by cases h), hl, by omega, r2⟩

end Go.Proofs.Ytfhlokjpdkmdjaa.book
