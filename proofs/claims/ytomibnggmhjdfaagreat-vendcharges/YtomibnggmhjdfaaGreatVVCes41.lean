import Derived.Test.YtomibnggmhjdfaaGreatVVCes40
set_option linter.unusedVariables false
set_option linter.unusedSimpArgs false
namespace Go.Proofs.YtomibnggmhjdfaaGreat
namespace book
open Go.RowKit
open acc (Ac Tm Bi APost BPost TFault TRight OpenIs OweIs SellIs GrantIs RekeyIs wf6 ACame TCame fresh_updN fresh_drew came_lt)
set_option maxRecDepth 100000
def HapR (t : Tm) (bk : List Cm) (k : Nat) (v : Ev) (bk' : List Cm) (f : Int) : Prop := ∃ c', HapIs t (bk.getD k cm0) v c' f ∧ (f = 0 → bk' = bk.set k c')
theorem ev_wf {v : Ev} (h : EMay v) : (Lit.int .i64 v.te).wf = true ∧ (Lit.int .i64 v.mo).wf = true := by
 have : (0 ≤ v.te ∧ v.te ≤ 100000000) ∧ 0 ≤ v.mo ∧ v.mo ≤ 2399 := by unfold EMay at h; omega
 exact ⟨wf_i (by omega) (by omega), wf_i (by omega) (by omega)⟩
theorem bill_eq {l : Bi} {v : Ev} (h : l.id = v.id ∧ l.te = v.te ∧ l.de = v.de ∧ l.fe = v.fe ∧ l.pr = v.pr ∧ l.ch = v.ch ∧ l.un = v.un) : l = billOf v := by
 obtain ⟨h1, h2, h3, h4, h5, h6, h7⟩ := h
 cases l
 unfold billOf
 simp only at h1 h2 h3 h4 h5 h6 h7
 rw [h1, h2, h3, h4, h5, h6, h7]
theorem rekey_rv {a b : Ac} {l : Bi} (h : RekeyIs a b l 0) : b.rv = a.rv + 1 := by
 rcases h with ⟨_, _, _, e⟩ | ⟨_, _, _, _, e⟩ | ⟨_, _, _, _, _, e⟩ | ⟨_, _, _, rfl, _, _⟩
 ·cases e
 ·cases e
 ·cases e
 ·rfl
theorem put_wr {w0 : World} {base gW B : Nat} {t : Tm} {pt : Option Addr} {lt ct g n cap : Nat} {xs : List Cu} {bk : List Cm} {k : Nat} {x x' : Cu} {c' : Cm} {cur : Array Value} {w WF : World} (h : Wr w0 base gW B t pt lt ct (.slice (some ⟨g, 0, none⟩) n cap) xs bk w) (hk : k < xs.length) (hx : xs.getD k cu0 = x) (hcb : Blk w g cur 62)
  (hO : ∀ i, i < w.heap.size → i ≠ g → x.sold.ownBlock ≠ some i → WF.heap[i]? = w.heap[i]?) (hs : w.heap.size ≤ WF.heap.size) (hos : WF.os = w.os ∧ WF.tape = w.tape ∧ WF.output = w.output) (has : Has WF base x' c') (hwf : wf6 c'.a) (hme : c'.a.me = (bk.getD k cm0).a.me)
  (own : ∀ i, x'.sold.ownBlock = some i → x.sold.ownBlock = some i ∨ w.heap.size ≤ i) (new : 0 < x'.dn → ∀ p, x'.dp = some p → w.heap.size ≤ p.block) (self : ∀ i, x'.sold.ownBlock = some i → 0 < x'.dn → ∀ p, x'.dp = some p → p.block ≠ i)
  (hW : Blk WF g (putAll cur (k * 8) x'.cs) 62) (hsm : Small (bk.set k c') 120) : Wr w0 base gW B t pt lt ct (.slice (some ⟨g, 0, none⟩) n cap) (xs.set k x') (bk.set k c') WF := by
 have hgo : base ≤ g := (World.ownsRow.lt h.hold.row g rfl).1
 have hxo : ∀ i, x.sold.ownBlock = some i → base ≤ i := fun i hi => (World.ownsRow.lt (h.hold.has k hk).so i (by rw [hx]; exact hi)).1
 have hlow : ∀ i, i < base → WF.heap[i]? = w.heap[i]? := fun i hi => hO i (by have := h.sz; omega) (by omega) (fun e => by have := hxo i e; omega)
 refine ⟨?_, ?_, ?_, h.gw, h.gb, h.ne, h.n0, h.n1, Nat.le_trans h.sz hs, ?_, hsm, h.wf.set hwf⟩
 ·show WF.heap[gW]? = _
  rw [hlow gW h.gw]; exact h.blk
 ·rw [mes_set hme]
  show WF.heap[B]? = _
  rw [hlow B h.gb]; exact h.mp
 ·exact h.hold.put2 hk (fun i hi h1 h2 => hO i hi (fun e => h1 (by rw [e]; rfl)) (by rw [← hx]; exact h2)) has (by rw [hx]; exact own) new self (lc_put2 h.hold.row hcb hk hW)
 ·exact ⟨hos.1.trans h.bel.os, hos.2.1.trans h.bel.tape, hos.2.2.trans h.bel.output, Nat.le_trans h.bel.size hs, fun i hi => (hlow i (by have := h.n0; have := h.gw; omega)).trans (h.bel.block i hi)⟩
set_option maxHeartbeats 16000000 in
theorem bsell (w0 : World) (base gW B : Nat) (t : Tm) (pt : Option Addr) (lt ct g n cap : Nat) (xs : List Cu) (bk : List Cm) (k : Nat) (v : Ev) (w : World) (h : Wr w0 base gW B t pt lt ct (.slice (some ⟨g, 0, none⟩) n cap) xs bk w) (hk : k < xs.length) (ht : TCame w0 t pt lt ct) (hm : EMay v) (hkd : v.kd = 2 ∨ v.kd = 3 ∨ v.kd = 4) :
  Calls Tryz.prog 79 #[.pointer (some ⟨gW, 0, none⟩), .pointer (some ⟨g, k * 8, none⟩), .agg #[.int .i64 v.kd, .int .i64 v.me, .int .i64 v.mo, .int .i64 v.id, .int .i64 v.te, .int .i64 v.de, .int .i64 v.fe, .int .i64 v.pr, .int .i64 v.ch, .int .i64 v.un, .int .i64 v.tg, .int .i64 v.ow, .int .i64 v.bp]] w fun e w' => WPost w0 base gW B t pt lt ct (HapR t bk k v) w e w' := by
 have HNO : Hid (∀ (f : Int) (hf : f ≠ 0) W, Calls Tryz.prog 87 #[.int .i64 f] W fun e w' => e = .panicked (thrown f) ∧ w' = W) := fun f hf W => insist_no f hf W
 have HOK : Hid (∀ W, Calls Tryz.prog 87 #[.int .i64 0] W fun e w' => e = .returned (.tuple #[]) ∧ w' = W) := fun W => insist_ok W
 have hx0 := h.hold.has k hk
 have hoff := h.hold.off k hk
 have hself := h.hold.self k hk
 have hwf0 : wf6 (bk.getD k cm0).a := h.wf _ (getD_in (by rw [← h.hold.len]; exact hk))
 have hsm0 := (h.few.2 _ (getD_in (by rw [← h.hold.len]; exact hk))).1
 obtain ⟨c, hc⟩ : ∃ c, bk.getD k cm0 = c := ⟨_, rfl⟩
 obtain ⟨x, hx⟩ : ∃ x, xs.getD k cu0 = x := ⟨_, rfl⟩
 obtain ⟨g', cur, e1, hgb, hcb, hcs, hcc⟩ := at_cust h.hold.row hk
 obtain rfl : g = g' := by injection e1 with e1; injection e1
 clear e1
 rw [hc] at hx0 hwf0 hsm0
 rw [hx] at hx0 hcc hoff hself
 obtain ⟨y, sol⟩ := c
 obtain ⟨dp, dn, dc, sp, sn, sc, rfl⟩ := cuA_of hx0.num
 have HR : Hid (Wr w0 base gW B t pt lt ct (.slice (some ⟨g, 0, none⟩) n cap) xs bk w) := h
 have HKL : Hid (k < xs.length) := hk
 have HX : Hid (xs.getD k cu0 = (⟨y.me, y.rv, y.nx, y.mo, y.bo, y.fr, dp, dn, dc, sp, sn, sc⟩ : Cu)) := hx
 have HC : Hid (bk.getD k cm0 = ⟨y, sol⟩) := hc
 have HH : Hid (Has w base (⟨y.me, y.rv, y.nx, y.mo, y.bo, y.fr, dp, dn, dc, sp, sn, sc⟩ : Cu) ⟨y, sol⟩) := hx0
 have HOF : Hid (Off (⟨y.me, y.rv, y.nx, y.mo, y.bo, y.fr, dp, dn, dc, sp, sn, sc⟩ : Cu) (some g)) := hoff
 have HSE : Hid (∀ i, (Value.slice sp sn sc).ownBlock = some i → 0 < dn → ∀ p, dp = some p → p.block ≠ i) := hself
 have HMA : Hid (EMay v) := hm
 have HKD : Hid (v.kd = 2 ∨ v.kd = 3 ∨ v.kd = 4) := hkd
 have HCS : Hid (k * 8 + 8 ≤ cur.size) := hcs
 have HWK : Hid (∀ W, Below w.heap.size w W → Calls Tryz.prog 92 #[.pointer (some ⟨gW, 0, none⟩), .agg #[.int .i64 y.me, .int .i64 y.rv, .int .i64 y.nx, .int .i64 y.mo, .int .i64 y.bo, .int .i64 y.fr, .slice dp dn dc], .agg #[.int .i64 v.kd, .int .i64 v.me, .int .i64 v.mo, .int .i64 v.id, .int .i64 v.te, .int .i64 v.de, .int .i64 v.fe, .int .i64 v.pr, .int .i64 v.ch, .int .i64 v.un, .int .i64 v.tg, .int .i64 v.ow, .int .i64 v.bp]] W fun e w' => BPost W (Tells t ⟨y, sol⟩ v) e w') := fun W hB => bwork gW _ B t pt lt ct y sol dp dn dc v W (HR.out.next hB).blk (ht.below (HR.out.next hB).bel) ⟨hx0.ds.came.below hB, hwf0⟩ (ev_wf hm) hkd
 have HSZ : Hid (base ≤ w.heap.size) := h.sz
 have hgl : g < w.heap.size := hcb.lt
 have HSL : Hid (sol.length ≤ 120) := hsm0
 have HBG : Hid (base ≤ g) := hgb
 have HCB : Hid (Blk w g cur 62) := hcb
 have hn5 : v.kd ≠ 5 := by omega
 have HN5 : Hid (v.kd ≠ 5) := hn5
 have HOI : Hid (∀ i, (Value.slice sp sn sc).ownBlock = some i → i < w.heap.size ∧ base ≤ i ∧ i ≠ g) := fun i hi => ⟨(World.ownsRow.lt hx0.so i hi).2, (World.ownsRow.lt hx0.so i hi).1, fun e => hoff.1 i hi (by rw [e]; rfl)⟩
 clear h hk hx hc hx0 hoff hself hm hkd ht hwf0 hsm0 hgb hn5
 obtain ⟨O, hO⟩ : ∃ O, k * 8 = O := ⟨_, rfl⟩
 have HO : Hid (k * 8 = O) := hO
 rw [hO] at HCS hcs hcc
 rw [hO]
 clear hO
 have HC0 : Hid (cur[O + 0]? = some (.int .i64 y.me)) := hcc 0 (by decide)
 have HC1 : Hid (cur[O + 1]? = some (.int .i64 y.rv)) := hcc 1 (by decide)
 have HC2 : Hid (cur[O + 2]? = some (.int .i64 y.nx)) := hcc 2 (by decide)
 have HC3 : Hid (cur[O + 3]? = some (.int .i64 y.mo)) := hcc 3 (by decide)
 have HC4 : Hid (cur[O + 4]? = some (.int .i64 y.bo)) := hcc 4 (by decide)
 have HC5 : Hid (cur[O + 5]? = some (.int .i64 y.fr)) := hcc 5 (by decide)
 have HC6 : Hid (cur[O + 6]? = some (.slice dp dn dc)) := hcc 6 (by decide)
 have HC7 : Hid (cur[O + 7]? = some (.slice sp sn sc)) := hcc 7 (by decide)
 clear hcc
 have H0v : Hid (Blk (w.alloc (.cells #[.int .i64 v.kd, .int .i64 v.me, .int .i64 v.mo, .int .i64 v.id, .int .i64 v.te, .int .i64 v.de, .int .i64 v.fe, .int .i64 v.pr, .int .i64 v.ch, .int .i64 v.un, .int .i64 v.tg, .int .i64 v.ow, .int .i64 v.bp] 71)) w.heap.size #[.int .i64 v.kd, .int .i64 v.me, .int .i64 v.mo, .int .i64 v.id, .int .i64 v.te, .int .i64 v.de, .int .i64 v.fe, .int .i64 v.pr, .int .i64 v.ch, .int .i64 v.un, .int .i64 v.tg, .int .i64 v.ow, .int .i64 v.bp] 71) := Blk.new _ _ _
 have H0c : Hid (Blk (w.alloc (.cells #[.int .i64 v.kd, .int .i64 v.me, .int .i64 v.mo, .int .i64 v.id, .int .i64 v.te, .int .i64 v.de, .int .i64 v.fe, .int .i64 v.pr, .int .i64 v.ch, .int .i64 v.un, .int .i64 v.tg, .int .i64 v.ow, .int .i64 v.bp] 71)) g cur 62) := hcb.alloc _
 have H0B : Hid (Below w.heap.size w (w.alloc (.cells #[.int .i64 v.kd, .int .i64 v.me, .int .i64 v.mo, .int .i64 v.id, .int .i64 v.te, .int .i64 v.de, .int .i64 v.fe, .int .i64 v.pr, .int .i64 v.ch, .int .i64 v.un, .int .i64 v.tg, .int .i64 v.ow, .int .i64 v.bp] 71))) := (Below.refl _ _).alloc (Nat.le_refl _) _
 have hl0 : w.heap.size < (w.alloc (.cells #[.int .i64 v.kd, .int .i64 v.me, .int .i64 v.mo, .int .i64 v.id, .int .i64 v.te, .int .i64 v.de, .int .i64 v.fe, .int .i64 v.pr, .int .i64 v.ch, .int .i64 v.un, .int .i64 v.tg, .int .i64 v.ow, .int .i64 v.bp] 71)).heap.size := H0v.out.lt
 clear hcb hcs
 go_enter Tryz.func79, Tryz.ntmps79
 go_upto_region 1 with fail
 generalize (w.alloc (.cells #[.int .i64 v.kd, .int .i64 v.me, .int .i64 v.mo, .int .i64 v.id, .int .i64 v.te, .int .i64 v.de, .int .i64 v.fe, .int .i64 v.pr, .int .i64 v.ch, .int .i64 v.un, .int .i64 v.tg, .int .i64 v.ow, .int .i64 v.bp] 71)) = W0 at *
 have z0 : W0.cell? ⟨g, O, none⟩ = some (.int .i64 y.me) := (H0c.out.cell (O + 0)).trans HC0.out
 have z1 : W0.cell? ⟨g, O + 1, none⟩ = some (.int .i64 y.rv) := (H0c.out.cell (O + 1)).trans HC1.out
 have z2 : W0.cell? ⟨g, O + 2, none⟩ = some (.int .i64 y.nx) := (H0c.out.cell (O + 2)).trans HC2.out
 have z3 : W0.cell? ⟨g, O + 3, none⟩ = some (.int .i64 y.mo) := (H0c.out.cell (O + 3)).trans HC3.out
 have z4 : W0.cell? ⟨g, O + 4, none⟩ = some (.int .i64 y.bo) := (H0c.out.cell (O + 4)).trans HC4.out
 have z5 : W0.cell? ⟨g, O + 5, none⟩ = some (.int .i64 y.fr) := (H0c.out.cell (O + 5)).trans HC5.out
 have z6 : W0.cell? ⟨g, O + 6, none⟩ = some (.slice dp dn dc) := (H0c.out.cell (O + 6)).trans HC6.out
 obtain ⟨W1, HWW, H2a, HBB, hlW1⟩ := sh1 W0 #[.int .i64 y.me, .int .i64 y.rv, .int .i64 y.nx, .int .i64 y.mo, .int .i64 y.bo, .int .i64 y.fr, .slice dp dn dc] 59
 have H2v := shN H0v HBB.out
 have H2c := shN H0c HBB.out
 have H2B := shB H0B HBB.out
 go_upto_region 2 with fail
 clear H0v H0c H0B
 rw [HWW.out]
 clear HWW HBB
 clear z0 z1 z2 z3 z4 z5 z6
 generalize W0.heap.size = ga at *
 have HW1 : Hid (Calls Tryz.prog 92 #[.pointer (some ⟨gW, 0, none⟩), .agg #[.int .i64 y.me, .int .i64 y.rv, .int .i64 y.nx, .int .i64 y.mo, .int .i64 y.bo, .int .i64 y.fr, .slice dp dn dc], .agg #[.int .i64 v.kd, .int .i64 v.me, .int .i64 v.mo, .int .i64 v.id, .int .i64 v.te, .int .i64 v.de, .int .i64 v.fe, .int .i64 v.pr, .int .i64 v.ch, .int .i64 v.un, .int .i64 v.tg, .int .i64 v.ow, .int .i64 v.bp]] W1 fun e w' => BPost W1 (Tells t ⟨y, sol⟩ v) e w') := HWK.out W1 H2B.out
 clear HWK
 go_wp2_with (first
  | (refine zqw rfl rfl rfl H2v zqu71 ?_)
  | (refine wp_whole rfl 62 _ rfl (g) rfl 62 cur _ H2c.out Tryz.underlying62 rfl (by kernel_rfl) ?_)
  | (refine zqw rfl rfl rfl H2a zqu59 ?_)
  | fail)
 refine HW1.out.mono ?_
 rintro e w2 ⟨b, l, pb, lb, cb, f, rfl, hi, hf, hb1⟩
 have hW2 : W1.heap.size ≤ w2.heap.size := hb1.size
 have HI : Hid (Tells t ⟨y, sol⟩ v b l f) := hi
 have HF2 : Hid (deb.Fresh w2 W1.heap.size pb lb cb b.ds) := hf
 have H3v := shN H2v hb1
 have H3c := shN H2c hb1
 have H3a := shN H2a hb1
 have H3B := shB H2B hb1
 clear H2v H2c H2a H2B
 clear hi hf hb1 HW1
 unfold acc.Ac.v acc.Ac.cs acc.Bi.v
 obtain ⟨W3, HWW, H4be, H4bi, HBB, hlW3⟩ := sh2 w2 #[.int .i64 b.me, .int .i64 b.rv, .int .i64 b.nx, .int .i64 b.mo, .int .i64 b.bo, .int .i64 b.fr, .slice pb lb cb] 59 #[.int .i64 l.id, .int .i64 l.te, .int .i64 l.de, .int .i64 l.fe, .int .i64 l.pr, .int .i64 l.ch, .int .i64 l.un] 69
 have HF3 : Hid (deb.Fresh W3 W1.heap.size pb lb cb b.ds) := HF2.out.below HBB.out
 have HFU : Hid (0 < lb → ∀ p, pb = some p → p.block < w2.heap.size) := came_lt HF2.out.came
 have H4v := shN H3v HBB.out
 have H4c := shN H3c HBB.out
 have H4a := shN H3a HBB.out
 have H4B := shB H3B HBB.out
 go_upto_region 3 with fail
 clear H3v H3c H3a H3B
 rw [HWW.out]
 clear HWW HBB
 clear HF2
 generalize w2.heap.size = gb at *
 by_cases h0 : f = 0
 case neg =>
  have HN1 := HNO.out f h0
  have HN2 : Hid (∀ W, Calls Tryz.prog 87 #[.int .i64 f] W fun e w' => e = .panicked (thrown f) ∧ w' = W) := HN1
  have HNE : Hid (f ≠ 0) := h0
  clear HN1 HNO h0
  go_wp2_with (first
   | (refine zqw rfl rfl rfl H4v zqu71 ?_)
   | (refine wp_whole rfl 62 _ rfl (g) rfl 62 cur _ H4c.out Tryz.underlying62 rfl (by kernel_rfl) ?_)
   | (refine zqw rfl rfl rfl H4a zqu59 ?_)
   | (refine zqw rfl rfl rfl H4be zqu59 ?_)
   | (refine zqw rfl rfl rfl H4bi zqu69 ?_)
   | fail)
  refine (HN2.out _).mono ?_
  rintro e W9 ⟨rfl, rfl⟩
  exact ⟨rfl, .of H4B.out HSZ.out, .inr ⟨f, [], HNE.out, rfl, ⟨⟨y, sol⟩, by rw [HC.out]; exact .inr ⟨HN5.out, b, l, f, HI.out, .inl ⟨HNE.out, rfl⟩⟩, fun q => absurd q HNE.out⟩⟩⟩
 subst h0
 go_wp2_with (first
  | (refine zqw rfl rfl rfl H4v zqu71 ?_)
  | (refine wp_whole rfl 62 _ rfl (g) rfl 62 cur _ H4c.out Tryz.underlying62 rfl (by kernel_rfl) ?_)
  | (refine zqw rfl rfl rfl H4a zqu59 ?_)
  | (refine zqw rfl rfl rfl H4be zqu59 ?_)
  | (refine zqw rfl rfl rfl H4bi zqu69 ?_)
  | fail)
 refine (HOK.out _).mono ?_
 rintro e W9 ⟨rfl, hw9⟩
 obtain rfl : W3 = W9 := hw9.symm
 have HEQ : Hid ((Op.equalIn 10000 69 (.agg #[.int .i64 l.id, .int .i64 l.te, .int .i64 l.de, .int .i64 l.fe, .int .i64 l.pr, .int .i64 l.ch, .int .i64 l.un]) (.agg #[.int .i64 v.id, .int .i64 v.te, .int .i64 v.de, .int .i64 v.fe, .int .i64 v.pr, .int .i64 v.ch, .int .i64 v.un])).run Tryz.prog W3 = .ok (decide (l.id = v.id ∧ l.te = v.te ∧ l.de = v.de ∧ l.fe = v.fe ∧ l.pr = v.pr ∧ l.ch = v.ch ∧ l.un = v.un)) W3) := eqBi 9998 l.id l.te l.de l.fe l.pr l.ch l.un v.id v.te v.de v.fe v.pr v.ch v.un W3
 by_cases hq : l = billOf v
 case neg =>
  rw [decide_eq_false (fun q => hq (bill_eq q))] at HEQ
  have HNE : Hid (l ≠ billOf v) := hq
  have HN2 : Hid (∀ W, Calls Tryz.prog 87 #[.int .i64 8] W fun e w' => e = .panicked (thrown 8) ∧ w' = W) := fun W => insist_no 8 (by decide) W
  clear HNO hq
  obtain ⟨cv0, cv1, cv2, cv3, cv4, cv5, cv6, cv7, cv8, cv9, cv10, cv11, cv12⟩ := scl13 H4v
  obtain ⟨cb0, cb1, cb2, cb3, cb4, cb5, cb6⟩ := scl7 H4bi
  go_wp2_with (first | (refine wp_neE (by rfl) 69 _ _ _ rfl #[.int .i64 l.id, .int .i64 l.te, .int .i64 l.de, .int .i64 l.fe, .int .i64 l.pr, .int .i64 l.ch, .int .i64 l.un] #[.int .i64 v.id, .int .i64 v.te, .int .i64 v.de, .int .i64 v.fe, .int .i64 v.pr, .int .i64 v.ch, .int .i64 v.un] rfl rfl (by kernel_rfl) false HEQ.out _ rfl ?_) | fail)
  refine (HN2.out _).mono ?_
  rintro e W9 ⟨rfl, rfl⟩
  exact ⟨rfl, .of H4B.out HSZ.out, .inr ⟨8, [], by decide, rfl, ⟨⟨y, sol⟩, by rw [HC.out]; exact .inr ⟨HN5.out, b, l, 0, HI.out, .inr (.inl ⟨rfl, HNE.out, rfl⟩)⟩, fun q => absurd q (by decide)⟩⟩⟩
 rw [decide_eq_true (show l.id = v.id ∧ l.te = v.te ∧ l.de = v.de ∧ l.fe = v.fe ∧ l.pr = v.pr ∧ l.ch = v.ch ∧ l.un = v.un by subst hq; exact ⟨rfl, rfl, rfl, rfl, rfl, rfl, rfl⟩)] at HEQ
 have HLB : Hid (l = billOf v) := hq
 clear hq HNO HOK
 obtain ⟨cv0, cv1, cv2, cv3, cv4, cv5, cv6, cv7, cv8, cv9, cv10, cv11, cv12⟩ := scl13 H4v
 obtain ⟨cb0, cb1, cb2, cb3, cb4, cb5, cb6⟩ := scl7 H4bi
 obtain ⟨ca0, ca1, ca2, ca3, ca4, ca5, ca6⟩ := scl7 H4a
 have HSI : Hid (l.id = v.id ∧ l.un = v.un) := by show _ ∧ _; rw [HLB.out]; exact ⟨rfl, rfl⟩
 go_upto_region 6 with (first | (refine wp_neE (by rfl) 69 _ _ _ rfl #[.int .i64 l.id, .int .i64 l.te, .int .i64 l.de, .int .i64 l.fe, .int .i64 l.pr, .int .i64 l.ch, .int .i64 l.un] #[.int .i64 v.id, .int .i64 v.te, .int .i64 v.de, .int .i64 v.fe, .int .i64 v.pr, .int .i64 v.ch, .int .i64 v.un] rfl rfl (by kernel_rfl) true HEQ.out _ rfl ?_) | fail)
 clear HEQ
 obtain ⟨W4, HWW, H5so, HBB, hlW4⟩ := sh1 W3 #[.int .i64 l.id, .int .i64 0, .int .i64 l.un, .int .i64 v.tg, .int .i64 y.rv] 90
 have HF4 : Hid (deb.Fresh W4 W1.heap.size pb lb cb b.ds) := HF3.out.below HBB.out
 have H5v := shN H4v HBB.out
 have H5c := shN H4c HBB.out
 have H5a := shN H4a HBB.out
 have H5be := shN H4be HBB.out
 have H5bi := shN H4bi HBB.out
 have H5B := shB H4B HBB.out
 go_upto_region 7 with fail
 clear H4v H4c H4a H4be H4bi H4B
 rw [HWW.out]
 clear HWW HBB
 clear HF3 cv0 cv1 cv2 cv3 cv4 cv5 cv6 cv7 cv8 cv9 cv10 cv11 cv12 cb0 cb1 cb2 cb3 cb4 cb5 cb6 ca0 ca1 ca2 ca3 ca4 ca5 ca6
 generalize W3.heap.size = gs at *
 have c0 : W4.cell? ⟨w.heap.size, 0, none⟩ = some (.int .i64 v.kd) := H5v.out.cell 0
 by_cases k4 : v.kd = 4
 case neg =>
  have q4 : (v.kd == 4) = false := by simpa using k4
  have HK4 : Hid (¬ v.kd = 4) := k4
  clear k4
  have HF4x : Hid (deb.Fresh W4 W1.heap.size pb lb cb b.ds) := HF4.out
  clear HF4
  go_wp2_with (first
   | (refine wp_let rfl 59 _ _ rfl g O rfl (.agg #[.int .i64 b.me, .int .i64 b.rv, .int .i64 b.nx, .int .i64 b.mo, .int .i64 b.bo, .int .i64 b.fr, .slice pb lb cb]) rfl #[.int .i64 b.me, .int .i64 b.rv, .int .i64 b.nx, .int .i64 b.mo, .int .i64 b.bo, .int .i64 b.fr, .slice pb lb cb] rfl (by kernel_rfl) (by simp [Value.oneCell']) cur 62 H5c.out (by have := HCS.out; simp; omega) (putAll cur O [.int .i64 b.me, .int .i64 b.rv, .int .i64 b.nx, .int .i64 b.mo, .int .i64 b.bo, .int .i64 b.fr, .slice pb lb cb]) rfl ?_)
   | (refine zqw rfl rfl rfl H5v zqu71 ?_)
   | (refine wp_whole rfl 62 _ rfl (g) rfl 62 cur _ H5c.out Tryz.underlying62 rfl (by kernel_rfl) ?_)
   | (refine zqw rfl rfl rfl H5a zqu59 ?_)
   | (refine zqw rfl rfl rfl H5be zqu59 ?_)
   | (refine zqw rfl rfl rfl H5bi zqu69 ?_)
   | (refine zqw rfl rfl rfl H5so zqu90 ?_)
   | fail)
  intro W5 hU
  have HU5 : Hid (Upd W4 W5 g (putAll cur O [.int .i64 b.me, .int .i64 b.rv, .int .i64 b.nx, .int .i64 b.mo, .int .i64 b.bo, .int .i64 b.fr, .slice pb lb cb]) 62) := hU
  have H5c : Hid (Blk W5 g (putAll cur O [.int .i64 b.me, .int .i64 b.rv, .int .i64 b.nx, .int .i64 b.mo, .int .i64 b.bo, .int .i64 b.fr, .slice pb lb cb]) 62) := hU.blk
  have H5so := shK hU H5so (by omega)
  have hs5 : W5.heap.size = W4.heap.size := hU.size
  have HX5 : Hid (Below w.heap.size w W4) := H5B.out
  have H5l : Hid (Lo W5 base (.slice sp sn sc) sol) := lo_upd (HH.out.so.next HX5.out) hU (fun i hi => (HOI.out i hi).2.2)
  have H5f : Hid (tar.Came W5 pb lb cb b.ds) := acc_upd HF4x.out.came hU (fun hn p hp => by have := HF4x.out.new hn p hp; omega)
  have HFN : Hid (0 < lb → ∀ p, pb = some p → W1.heap.size ≤ p.block ∧ p.block < gb) := fun hn p hp => ⟨HF4x.out.new hn p hp, HFU.out hn p hp⟩
  have HS5 : Hid (base ≤ W5.heap.size) := by show _ ≤ _; rw [hs5]; exact Nat.le_trans HSZ.out HX5.out.size
  have HSS : Hid (W4.heap.size = W5.heap.size) := hs5.symm
  clear hU
  go_wp2_with fail
  refine wp_region_held_drew (S := fun u => Blk u gs #[.int .i64 l.id, .int .i64 0, .int .i64 l.un, .int .i64 v.tg, .int .i64 y.rv] 90) (by kernel_rfl) (show _ from Blk.drew H5so.out 1) (fun hHeld => ?_)
  have q7 : W5.drew.cell? ⟨g, O + 7, none⟩ = some (.slice sp sn sc) := by
   rw [show W5.drew.cell? ⟨g, O + 7, none⟩ = W5.cell? ⟨g, O + 7, none⟩ from rfl, H5c.out.cell (O + 7), putAll_get _ _ _ _ (by have := HCS.out; simp; omega), if_neg (by simp only [List.length_cons, List.length_nil]; omega)]
   exact HC7.out
  have G0 : Hid (Blk W5.drew g (putAll cur O [.int .i64 b.me, .int .i64 b.rv, .int .i64 b.nx, .int .i64 b.mo, .int .i64 b.bo, .int .i64 b.fr, .slice pb lb cb]) 62) := H5c.out
  have G1 : Hid (Blk W5.drew gs #[.int .i64 l.id, .int .i64 0, .int .i64 l.un, .int .i64 v.tg, .int .i64 y.rv] 90) := H5so.out
  have G2 : Hid (Lo W5.drew base (.slice sp sn sc) sol) := H5l.out.next (Below.refl _ _).drew
  have G3 : Hid (tar.Came W5.drew pb lb cb b.ds) := H5f.out.below (Below.refl _ _).drew
  have G4 : Hid (∀ i, i ≠ g → W5.drew.heap[i]? = W4.heap[i]?) := fun i hi => HU5.out.oth i hi
  have G5 : Hid (W5.drew.os = w.os ∧ W5.drew.tape = w.tape ∧ W5.drew.output = w.output) := by have hb := (HU5.out.bel 0 w (Nat.zero_le _) (HX5.out.mono (Nat.zero_le _))); exact ⟨hb.os, hb.tape, hb.output⟩
  have G6 : Hid (base ≤ W5.drew.heap.size) := HS5.out
  have G7 : Hid (W4.heap.size = W5.drew.heap.size) := HSS.out
  clear H5c H5so H5l H5f HU5 HS5 HSS hs5
  generalize W5.drew = U at *
  refine zqs 0 50 (.pointer (some ⟨g, O, none⟩)) rfl rfl (by kernel_rfl) (fun _ _ _ h => h) rfl (fun v hv => by clear hv; go_simp) hHeld ?_
  simp only [Act.put, zqa, zqb, zqc]
  refine zqs 1 51 (.pointer (some ⟨g, O, none⟩)) rfl rfl (by kernel_rfl) (fun _ _ _ h => h) rfl (fun v hv => by clear hv; go_simp) hHeld ?_
  simp only [Act.put, zqa, zqb, zqc]
  refine zqs 2 52 (.pointer (some ⟨g, O, none⟩)) rfl rfl (by kernel_rfl) (fun _ _ _ h => h) rfl (fun v hv => by clear hv; go_simp) hHeld ?_
  simp only [Act.put, zqa, zqb, zqc]
  refine zqs 3 53 (.pointer (some ⟨g, O + 7, none⟩)) rfl rfl (by kernel_rfl) (fun _ _ _ h => h) rfl (fun v hv => by clear hv; go_simp) hHeld ?_
  simp only [Act.put, zqa, zqb, zqc]
  refine zqt 5 55 (.agg #[.int .i64 l.id, .int .i64 0, .int .i64 l.un, .int .i64 v.tg, .int .i64 y.rv]) rfl rfl (by kernel_rfl) (fun _ _ _ h => h) (Or.inl ⟨by rfl, fun v hv => by have g0 := hv.cell 0; have g1 := hv.cell 1; have g2 := hv.cell 2; have g3 := hv.cell 3; have g4 := hv.cell 4; clear hv; go_simp⟩) hHeld ?_
  simp only [Act.put, zqa, zqb, zqc]
  refine wpAnyH_ready (rs := [4, 6]) (by kernel_rfl) (by simp) (AllReadyH.cons rfl (fun K hK => ?_) (AllReadyH.cons rfl (fun K hK => ?_) AllReadyH.nil))
  ·rw [if_pos (by rfl)]
   refine wp_runOp (v := .slice sp sn sc) (w' := U) 54 rfl (by clear hK; go_simp) ?_
   refine hK.out _ _ G1.out (fun hHeld => ?_)
   clear hK K
   simp only [Act.put, zqa, zqb, zqc]
   refine zqo 6 (by kernel_rfl) rfl (fun K hK => ?_)
   rw [if_pos (by rfl)]
   refine wp_runOp (v := .slice (some ⟨U.heap.size, 0, none⟩) 1 1) (w' := (U.alloc (.cells #[.int .i64 l.id, .int .i64 0, .int .i64 l.un, .int .i64 v.tg, .int .i64 y.rv] 90))) 56 rfl (by clear hK; go_simp) ?_
   refine hK.out _ _ (G1.out.alloc _) (fun hHeld => ?_)
   clear hK K q7
   simp only [Act.put, zqa, zqb, zqc]
   have J0 : Hid (Blk (U.alloc (.cells #[.int .i64 l.id, .int .i64 0, .int .i64 l.un, .int .i64 v.tg, .int .i64 y.rv] 90)) g (putAll cur O [.int .i64 b.me, .int .i64 b.rv, .int .i64 b.nx, .int .i64 b.mo, .int .i64 b.bo, .int .i64 b.fr, .slice pb lb cb]) 62) := G0.out.alloc _
   have J1 : Hid (Blk (U.alloc (.cells #[.int .i64 l.id, .int .i64 0, .int .i64 l.un, .int .i64 v.tg, .int .i64 y.rv] 90)) gs #[.int .i64 l.id, .int .i64 0, .int .i64 l.un, .int .i64 v.tg, .int .i64 y.rv] 90) := G1.out.alloc _
   have J2 : Hid (Lo (U.alloc (.cells #[.int .i64 l.id, .int .i64 0, .int .i64 l.un, .int .i64 v.tg, .int .i64 y.rv] 90)) base (.slice sp sn sc) sol) := G2.out.alloc _
   have J3 : Hid (tar.Came (U.alloc (.cells #[.int .i64 l.id, .int .i64 0, .int .i64 l.un, .int .i64 v.tg, .int .i64 y.rv] 90)) pb lb cb b.ds) := G3.out.below ((Below.refl _ _).alloc (Nat.le_refl _) _)
   have J4 : Hid (∀ i, i ≠ g → i < W4.heap.size → (U.alloc (.cells #[.int .i64 l.id, .int .i64 0, .int .i64 l.un, .int .i64 v.tg, .int .i64 y.rv] 90)).heap[i]? = W4.heap[i]?) := fun i hi hl => by rw [← G4.out i hi]; exact ((Below.refl U.heap.size U).alloc (Nat.le_refl _) _).block i (by rw [← G7.out]; exact hl)
   have J5 : Hid ((U.alloc (.cells #[.int .i64 l.id, .int .i64 0, .int .i64 l.un, .int .i64 v.tg, .int .i64 y.rv] 90)).os = w.os ∧ (U.alloc (.cells #[.int .i64 l.id, .int .i64 0, .int .i64 l.un, .int .i64 v.tg, .int .i64 y.rv] 90)).tape = w.tape ∧ (U.alloc (.cells #[.int .i64 l.id, .int .i64 0, .int .i64 l.un, .int .i64 v.tg, .int .i64 y.rv] 90)).output = w.output) := G5.out
   have J6 : Hid (base ≤ (U.alloc (.cells #[.int .i64 l.id, .int .i64 0, .int .i64 l.un, .int .i64 v.tg, .int .i64 y.rv] 90)).heap.size ∧ W4.heap.size ≤ (U.alloc (.cells #[.int .i64 l.id, .int .i64 0, .int .i64 l.un, .int .i64 v.tg, .int .i64 y.rv] 90)).heap.size) := by show _ ∧ _; have h1 := G6.out; have h2 := G7.out; simp; omega
   have J8 : Hid (Blk (U.alloc (.cells #[.int .i64 l.id, .int .i64 0, .int .i64 l.un, .int .i64 v.tg, .int .i64 y.rv] 90)) U.heap.size #[.int .i64 l.id, .int .i64 0, .int .i64 l.un, .int .i64 v.tg, .int .i64 y.rv] 90) := Blk.new _ _ _
   clear G0 G1 G2 G3 G4 G5 G6 G7
   generalize U.heap.size = gn at *
   generalize (U.alloc (.cells #[.int .i64 l.id, .int .i64 0, .int .i64 l.un, .int .i64 v.tg, .int .i64 y.rv] 90)) = U2 at *
   refine zqo 7 (by kernel_rfl) rfl (fun K hK => ?_)
   rw [if_pos (by rfl)]
   refine step_sold 57 rfl _ _ rfl base gn _ sol (⟨l.id, 0, l.un, v.tg, y.rv⟩ : So) rfl rfl J2.out J8.out (by have := HSL.out; omega) J6.out.1 ?_
   intro v3 w9 h3 hg3 ho3
   obtain ⟨p3, c3, rfl, _, _, _⟩ := h3.row
   have L0 : Hid (Blk w9 g (putAll cur O [.int .i64 b.me, .int .i64 b.rv, .int .i64 b.nx, .int .i64 b.mo, .int .i64 b.bo, .int .i64 b.fr, .slice pb lb cb]) 62) := blk_kept J0.out hg3 (fun q => (HOI.out g q.symm).2.2 rfl)
   have L1 : Hid (Blk w9 gs #[.int .i64 l.id, .int .i64 0, .int .i64 l.un, .int .i64 v.tg, .int .i64 y.rv] 90) := blk_kept J1.out hg3 (fun q => by have := (HOI.out gs q.symm).1; omega)
   have L2 : Hid (Lo w9 base (.slice p3 (sol ++ [(⟨l.id, 0, l.un, v.tg, y.rv⟩ : So)]).length c3) (sol ++ [(⟨l.id, 0, l.un, v.tg, y.rv⟩ : So)])) := h3
   have L3 : Hid (tar.Came w9 pb lb cb b.ds) := came_grown J3.out hg3 (fun hn p hp q => by have h1 := (HFN.out hn p hp).1; have h2 := (HOI.out _ q.symm).1; omega)
   have L4 : Hid (∀ i, i ≠ g → (Value.slice sp sn sc).ownBlock ≠ some i → i < w.heap.size → w9.heap[i]? = w.heap[i]?) := fun i h1 h2 h3 => by rw [hg3.block i (by have := J6.out; have := HX5.out.size; omega) (fun q => h2 q.symm), J4.out i h1 (by have := HX5.out.size; omega), HX5.out.block i h3]
   have L5 : Hid (w9.os = w.os ∧ w9.tape = w.tape ∧ w9.output = w.output) := ⟨hg3.os.trans J5.out.1, hg3.tape.trans J5.out.2.1, hg3.output.trans J5.out.2.2⟩
   have L6 : Hid (w.heap.size ≤ U2.heap.size ∧ U2.heap.size ≤ w9.heap.size) := ⟨by have := J6.out; have := HX5.out.size; omega, hg3.size⟩
   have L7 : Hid ((Value.slice p3 (sol ++ [(⟨l.id, 0, l.un, v.tg, y.rv⟩ : So)]).length c3).ownBlock = (Value.slice sp sn sc).ownBlock ∨ (Value.slice p3 (sol ++ [(⟨l.id, 0, l.un, v.tg, y.rv⟩ : So)]).length c3).ownBlock = some U2.heap.size) := ho3
   have LFU : Hid (0 < lb → ∀ p, pb = some p → p.block < U2.heap.size) := came_lt J3.out
   refine hK.out _ _ L1.out (fun hHeld => ?_)
   clear hK K h3 hg3 ho3 J0 J1 J2 J3 J4 J5 J6 J8
   simp only [Act.put, zqa, zqb, zqc]
   generalize (sol ++ [(⟨l.id, 0, l.un, v.tg, y.rv⟩ : So)]).length = n3 at *
   refine zqs 8 58 (.pointer (some ⟨g, O, none⟩)) rfl rfl (by kernel_rfl) (fun _ _ _ h => h) rfl (fun v hv => by clear hv; go_simp) hHeld ?_
   simp only [Act.put, zqa, zqb, zqc]
   refine zqs 9 59 (.pointer (some ⟨g, O + 7, none⟩)) rfl rfl (by kernel_rfl) (fun _ _ _ h => h) rfl (fun v hv => by clear hv; go_simp) hHeld ?_
   simp only [Act.put, zqa, zqb, zqc]
   refine zqo 10 (by kernel_rfl) rfl (fun K hK => ?_)
   rw [if_pos (by rfl)]
   refine acc.wp_letOp1 60 _ _ rfl g (O + 7) rfl (.slice p3 n3 c3) rfl rfl (by kernel_rfl) rfl (putAll cur O [.int .i64 b.me, .int .i64 b.rv, .int .i64 b.nx, .int .i64 b.mo, .int .i64 b.bo, .int .i64 b.fr, .slice pb lb cb]) 62 L0.out (by rw [putAll_size]; have := HCS.out; omega) rfl ?_
   intro WF hU
   have M1 := shK hU L1 (by omega)
   have MF : Hid (WPost w0 base gW B t pt lt ct (HapR t bk k v) w (.returned (.tuple #[])) WF) := by
    have hb := hU.bel 0 w9 (Nat.zero_le _) (Below.refl _ _)
    have hO : ∀ i, i < w.heap.size → i ≠ g → (Value.slice sp sn sc).ownBlock ≠ some i → WF.heap[i]? = w.heap[i]? := fun i h1 h2 h3 => by rw [hU.oth i h2]; exact L4.out i h2 h3 h1
    have hos : WF.os = w.os ∧ WF.tape = w.tape ∧ WF.output = w.output := ⟨hb.os.trans L5.out.1, hb.tape.trans L5.out.2.1, hb.output.trans L5.out.2.2⟩
    have hsz : w.heap.size ≤ WF.heap.size := by rw [hU.size]; exact Nat.le_trans L6.out.1 L6.out.2
    have hso : (⟨l.id, 0, l.un, v.tg, y.rv⟩ : So) = soldOf ⟨y, sol⟩ v := by unfold soldOf; rw [if_neg HK4.out]; simp only; rw [HSI.out.1, HSI.out.2]
    have hh : HapIs t ⟨y, sol⟩ v ⟨b, sol ++ [soldOf ⟨y, sol⟩ v]⟩ 0 := .inr ⟨HN5.out, b, l, 0, HI.out, .inr (.inr ⟨rfl, HLB.out, rfl, rfl⟩)⟩
    have hw := hap_wf hh HMA.out
    refine ⟨⟨hos.1, hos.2.1, hos.2.2, hsz, fun i h1 _ _ => hO i (by have := HSZ.out; omega) (by have := HBG.out; omega) (fun q => by have := (HOI.out i q).2.1; omega)⟩, .inl ⟨.slice (some ⟨g, 0, none⟩) n cap, xs.set k ⟨b.me, b.rv, b.nx, b.mo, b.bo, b.fr, pb, lb, cb, p3, n3, c3⟩, bk.set k ⟨b, sol ++ [soldOf ⟨y, sol⟩ v]⟩, rfl, ⟨⟨b, sol ++ [soldOf ⟨y, sol⟩ v]⟩, by rw [HC.out]; exact hh, fun _ => rfl⟩, fun hsm => ?_⟩⟩
    refine put_wr HR.out HKL.out HX.out HCB.out hO hsz hos (x' := ⟨b.me, b.rv, b.nx, b.mo, b.bo, b.fr, pb, lb, cb, p3, n3, c3⟩) ⟨⟨rfl, rfl, rfl, rfl, rfl, rfl⟩, ⟨acc_upd L3.out hU (fun hn p hp q => by have := (HFN.out hn p hp).1; omega), fun hn p hp => by have := (HFN.out hn p hp).1; have := HSZ.out; omega⟩, ?_⟩ hw.1 (by rw [HC.out]; exact hw.2) ?_ ?_ ?_ ?_ hsm
    ·refine lo_upd (by rw [← hso]; exact L2.out) hU (fun i hi q => ?_)
     rcases L7.out with e1 | e1
     ·exact (HOI.out i (e1 ▸ hi)).2.2 q
     ·have e2 : some i = some U2.heap.size := hi.symm.trans e1
      injection e2 with e2; have := L6.out; omega
    ·intro i hi
     rcases L7.out with e1 | e1
     ·exact .inl (e1 ▸ hi)
     ·right; have e2 : some i = some U2.heap.size := hi.symm.trans e1; injection e2 with e2; have := L6.out; omega
    ·intro hn p hp; have := (HFN.out hn p hp).1; omega
    ·intro i hi hn p hp q
     rcases L7.out with e1 | e1
     ·have h1 := (HOI.out i (e1 ▸ hi)).1; have h2 := (HFN.out hn p hp).1; omega
     ·have e2 : some i = some U2.heap.size := hi.symm.trans e1
      injection e2 with e2; have := LFU.out hn p hp; omega
    ·have := hU.blk
     rw [show O + 7 = O + ([.int .i64 b.me, .int .i64 b.rv, .int .i64 b.nx, .int .i64 b.mo, .int .i64 b.bo, .int .i64 b.fr, .slice pb lb cb] : List Value).length from rfl, putAll_more, ← HO.out] at this
     exact this
   refine hK.out _ _ M1.out (fun hHeld => ?_)
   clear hK K hU
   refine wpAnyH_done (by kernel_rfl) ?_ _
   clear hHeld
   go_wp2_with fail
   go_end0
   exact MF.out
  ·rw [if_pos (by rfl)]
   refine wp_runOp (v := .slice (some ⟨U.heap.size, 0, none⟩) 1 1) (w' := (U.alloc (.cells #[.int .i64 l.id, .int .i64 0, .int .i64 l.un, .int .i64 v.tg, .int .i64 y.rv] 90))) 56 rfl (by clear hK; go_simp) ?_
   refine hK.out _ _ (G1.out.alloc _) (fun hHeld => ?_)
   clear hK K
   simp only [Act.put, zqa, zqb, zqc]
   have q8 : (U.alloc (.cells #[.int .i64 l.id, .int .i64 0, .int .i64 l.un, .int .i64 v.tg, .int .i64 y.rv] 90)).cell? ⟨g, O + 7, none⟩ = some (.slice sp sn sc) := (((Below.refl U.heap.size U).alloc (Nat.le_refl _) _).cell (p := ⟨g, O + 7, none⟩) G0.out.lt).trans q7
   clear q7
   refine zqo 4 (by kernel_rfl) rfl (fun K hK => ?_)
   rw [if_pos (by rfl)]
   refine wp_runOp (v := .slice sp sn sc) (w' := (U.alloc (.cells #[.int .i64 l.id, .int .i64 0, .int .i64 l.un, .int .i64 v.tg, .int .i64 y.rv] 90))) 54 rfl (by clear hK; go_simp) ?_
   refine hK.out _ _ (G1.out.alloc _) (fun hHeld => ?_)
   clear hK K q8
   simp only [Act.put, zqa, zqb, zqc]
   have J0 : Hid (Blk (U.alloc (.cells #[.int .i64 l.id, .int .i64 0, .int .i64 l.un, .int .i64 v.tg, .int .i64 y.rv] 90)) g (putAll cur O [.int .i64 b.me, .int .i64 b.rv, .int .i64 b.nx, .int .i64 b.mo, .int .i64 b.bo, .int .i64 b.fr, .slice pb lb cb]) 62) := G0.out.alloc _
   have J1 : Hid (Blk (U.alloc (.cells #[.int .i64 l.id, .int .i64 0, .int .i64 l.un, .int .i64 v.tg, .int .i64 y.rv] 90)) gs #[.int .i64 l.id, .int .i64 0, .int .i64 l.un, .int .i64 v.tg, .int .i64 y.rv] 90) := G1.out.alloc _
   have J2 : Hid (Lo (U.alloc (.cells #[.int .i64 l.id, .int .i64 0, .int .i64 l.un, .int .i64 v.tg, .int .i64 y.rv] 90)) base (.slice sp sn sc) sol) := G2.out.alloc _
   have J3 : Hid (tar.Came (U.alloc (.cells #[.int .i64 l.id, .int .i64 0, .int .i64 l.un, .int .i64 v.tg, .int .i64 y.rv] 90)) pb lb cb b.ds) := G3.out.below ((Below.refl _ _).alloc (Nat.le_refl _) _)
   have J4 : Hid (∀ i, i ≠ g → i < W4.heap.size → (U.alloc (.cells #[.int .i64 l.id, .int .i64 0, .int .i64 l.un, .int .i64 v.tg, .int .i64 y.rv] 90)).heap[i]? = W4.heap[i]?) := fun i hi hl => by rw [← G4.out i hi]; exact ((Below.refl U.heap.size U).alloc (Nat.le_refl _) _).block i (by rw [← G7.out]; exact hl)
   have J5 : Hid ((U.alloc (.cells #[.int .i64 l.id, .int .i64 0, .int .i64 l.un, .int .i64 v.tg, .int .i64 y.rv] 90)).os = w.os ∧ (U.alloc (.cells #[.int .i64 l.id, .int .i64 0, .int .i64 l.un, .int .i64 v.tg, .int .i64 y.rv] 90)).tape = w.tape ∧ (U.alloc (.cells #[.int .i64 l.id, .int .i64 0, .int .i64 l.un, .int .i64 v.tg, .int .i64 y.rv] 90)).output = w.output) := G5.out
   have J6 : Hid (base ≤ (U.alloc (.cells #[.int .i64 l.id, .int .i64 0, .int .i64 l.un, .int .i64 v.tg, .int .i64 y.rv] 90)).heap.size ∧ W4.heap.size ≤ (U.alloc (.cells #[.int .i64 l.id, .int .i64 0, .int .i64 l.un, .int .i64 v.tg, .int .i64 y.rv] 90)).heap.size) := by show _ ∧ _; have h1 := G6.out; have h2 := G7.out; simp; omega
   have J8 : Hid (Blk (U.alloc (.cells #[.int .i64 l.id, .int .i64 0, .int .i64 l.un, .int .i64 v.tg, .int .i64 y.rv] 90)) U.heap.size #[.int .i64 l.id, .int .i64 0, .int .i64 l.un, .int .i64 v.tg, .int .i64 y.rv] 90) := Blk.new _ _ _
   clear G0 G1 G2 G3 G4 G5 G6 G7
   generalize U.heap.size = gn at *
   generalize (U.alloc (.cells #[.int .i64 l.id, .int .i64 0, .int .i64 l.un, .int .i64 v.tg, .int .i64 y.rv] 90)) = U2 at *
   refine zqo 7 (by kernel_rfl) rfl (fun K hK => ?_)
   rw [if_pos (by rfl)]
   refine step_sold 57 rfl _ _ rfl base gn _ sol (⟨l.id, 0, l.un, v.tg, y.rv⟩ : So) rfl rfl J2.out J8.out (by have := HSL.out; omega) J6.out.1 ?_
   intro v3 w9 h3 hg3 ho3
   obtain ⟨p3, c3, rfl, _, _, _⟩ := h3.row
   have L0 : Hid (Blk w9 g (putAll cur O [.int .i64 b.me, .int .i64 b.rv, .int .i64 b.nx, .int .i64 b.mo, .int .i64 b.bo, .int .i64 b.fr, .slice pb lb cb]) 62) := blk_kept J0.out hg3 (fun q => (HOI.out g q.symm).2.2 rfl)
   have L1 : Hid (Blk w9 gs #[.int .i64 l.id, .int .i64 0, .int .i64 l.un, .int .i64 v.tg, .int .i64 y.rv] 90) := blk_kept J1.out hg3 (fun q => by have := (HOI.out gs q.symm).1; omega)
   have L2 : Hid (Lo w9 base (.slice p3 (sol ++ [(⟨l.id, 0, l.un, v.tg, y.rv⟩ : So)]).length c3) (sol ++ [(⟨l.id, 0, l.un, v.tg, y.rv⟩ : So)])) := h3
   have L3 : Hid (tar.Came w9 pb lb cb b.ds) := came_grown J3.out hg3 (fun hn p hp q => by have h1 := (HFN.out hn p hp).1; have h2 := (HOI.out _ q.symm).1; omega)
   have L4 : Hid (∀ i, i ≠ g → (Value.slice sp sn sc).ownBlock ≠ some i → i < w.heap.size → w9.heap[i]? = w.heap[i]?) := fun i h1 h2 h3 => by rw [hg3.block i (by have := J6.out; have := HX5.out.size; omega) (fun q => h2 q.symm), J4.out i h1 (by have := HX5.out.size; omega), HX5.out.block i h3]
   have L5 : Hid (w9.os = w.os ∧ w9.tape = w.tape ∧ w9.output = w.output) := ⟨hg3.os.trans J5.out.1, hg3.tape.trans J5.out.2.1, hg3.output.trans J5.out.2.2⟩
   have L6 : Hid (w.heap.size ≤ U2.heap.size ∧ U2.heap.size ≤ w9.heap.size) := ⟨by have := J6.out; have := HX5.out.size; omega, hg3.size⟩
   have L7 : Hid ((Value.slice p3 (sol ++ [(⟨l.id, 0, l.un, v.tg, y.rv⟩ : So)]).length c3).ownBlock = (Value.slice sp sn sc).ownBlock ∨ (Value.slice p3 (sol ++ [(⟨l.id, 0, l.un, v.tg, y.rv⟩ : So)]).length c3).ownBlock = some U2.heap.size) := ho3
   have LFU : Hid (0 < lb → ∀ p, pb = some p → p.block < U2.heap.size) := came_lt J3.out
   refine hK.out _ _ L1.out (fun hHeld => ?_)
   clear hK K h3 hg3 ho3 J0 J1 J2 J3 J4 J5 J6 J8
   simp only [Act.put, zqa, zqb, zqc]
   generalize (sol ++ [(⟨l.id, 0, l.un, v.tg, y.rv⟩ : So)]).length = n3 at *
   refine zqs 8 58 (.pointer (some ⟨g, O, none⟩)) rfl rfl (by kernel_rfl) (fun _ _ _ h => h) rfl (fun v hv => by clear hv; go_simp) hHeld ?_
   simp only [Act.put, zqa, zqb, zqc]
   refine zqs 9 59 (.pointer (some ⟨g, O + 7, none⟩)) rfl rfl (by kernel_rfl) (fun _ _ _ h => h) rfl (fun v hv => by clear hv; go_simp) hHeld ?_
   simp only [Act.put, zqa, zqb, zqc]
   refine zqo 10 (by kernel_rfl) rfl (fun K hK => ?_)
   rw [if_pos (by rfl)]
   refine acc.wp_letOp1 60 _ _ rfl g (O + 7) rfl (.slice p3 n3 c3) rfl rfl (by kernel_rfl) rfl (putAll cur O [.int .i64 b.me, .int .i64 b.rv, .int .i64 b.nx, .int .i64 b.mo, .int .i64 b.bo, .int .i64 b.fr, .slice pb lb cb]) 62 L0.out (by rw [putAll_size]; have := HCS.out; omega) rfl ?_
   intro WF hU
   have M1 := shK hU L1 (by omega)
   have MF : Hid (WPost w0 base gW B t pt lt ct (HapR t bk k v) w (.returned (.tuple #[])) WF) := by
    have hb := hU.bel 0 w9 (Nat.zero_le _) (Below.refl _ _)
    have hO : ∀ i, i < w.heap.size → i ≠ g → (Value.slice sp sn sc).ownBlock ≠ some i → WF.heap[i]? = w.heap[i]? := fun i h1 h2 h3 => by rw [hU.oth i h2]; exact L4.out i h2 h3 h1
    have hos : WF.os = w.os ∧ WF.tape = w.tape ∧ WF.output = w.output := ⟨hb.os.trans L5.out.1, hb.tape.trans L5.out.2.1, hb.output.trans L5.out.2.2⟩
    have hsz : w.heap.size ≤ WF.heap.size := by rw [hU.size]; exact Nat.le_trans L6.out.1 L6.out.2
    have hso : (⟨l.id, 0, l.un, v.tg, y.rv⟩ : So) = soldOf ⟨y, sol⟩ v := by unfold soldOf; rw [if_neg HK4.out]; simp only; rw [HSI.out.1, HSI.out.2]
    have hh : HapIs t ⟨y, sol⟩ v ⟨b, sol ++ [soldOf ⟨y, sol⟩ v]⟩ 0 := .inr ⟨HN5.out, b, l, 0, HI.out, .inr (.inr ⟨rfl, HLB.out, rfl, rfl⟩)⟩
    have hw := hap_wf hh HMA.out
    refine ⟨⟨hos.1, hos.2.1, hos.2.2, hsz, fun i h1 _ _ => hO i (by have := HSZ.out; omega) (by have := HBG.out; omega) (fun q => by have := (HOI.out i q).2.1; omega)⟩, .inl ⟨.slice (some ⟨g, 0, none⟩) n cap, xs.set k ⟨b.me, b.rv, b.nx, b.mo, b.bo, b.fr, pb, lb, cb, p3, n3, c3⟩, bk.set k ⟨b, sol ++ [soldOf ⟨y, sol⟩ v]⟩, rfl, ⟨⟨b, sol ++ [soldOf ⟨y, sol⟩ v]⟩, by rw [HC.out]; exact hh, fun _ => rfl⟩, fun hsm => ?_⟩⟩
    refine put_wr HR.out HKL.out HX.out HCB.out hO hsz hos (x' := ⟨b.me, b.rv, b.nx, b.mo, b.bo, b.fr, pb, lb, cb, p3, n3, c3⟩) ⟨⟨rfl, rfl, rfl, rfl, rfl, rfl⟩, ⟨acc_upd L3.out hU (fun hn p hp q => by have := (HFN.out hn p hp).1; omega), fun hn p hp => by have := (HFN.out hn p hp).1; have := HSZ.out; omega⟩, ?_⟩ hw.1 (by rw [HC.out]; exact hw.2) ?_ ?_ ?_ ?_ hsm
    ·refine lo_upd (by rw [← hso]; exact L2.out) hU (fun i hi q => ?_)
     rcases L7.out with e1 | e1
     ·exact (HOI.out i (e1 ▸ hi)).2.2 q
     ·have e2 : some i = some U2.heap.size := hi.symm.trans e1
      injection e2 with e2; have := L6.out; omega
    ·intro i hi
     rcases L7.out with e1 | e1
     ·exact .inl (e1 ▸ hi)
     ·right; have e2 : some i = some U2.heap.size := hi.symm.trans e1; injection e2 with e2; have := L6.out; omega
    ·intro hn p hp; have := (HFN.out hn p hp).1; omega
    ·intro i hi hn p hp q
     rcases L7.out with e1 | e1
     ·have h1 := (HOI.out i (e1 ▸ hi)).1; have h2 := (HFN.out hn p hp).1; omega
     ·have e2 : some i = some U2.heap.size := hi.symm.trans e1
      injection e2 with e2; have := LFU.out hn p hp; omega
    ·have := hU.blk
     rw [show O + 7 = O + ([.int .i64 b.me, .int .i64 b.rv, .int .i64 b.nx, .int .i64 b.mo, .int .i64 b.bo, .int .i64 b.fr, .slice pb lb cb] : List Value).length from rfl, putAll_more, ← HO.out] at this
     exact this
   refine hK.out _ _ M1.out (fun hHeld => ?_)
   clear hK K hU
   refine wpAnyH_done (by kernel_rfl) ?_ _
   clear hHeld
   go_wp2_with fail
   go_end0
   exact MF.out
 have q4 : (v.kd == 4) = true := by simpa using k4
 have HK4 : Hid (v.kd = 4) := k4
 clear k4
 go_wp2_with fail
 clear c0 q4
 refine wp_region_held_drew (S := fun u => Blk u gb #[.int .i64 b.me, .int .i64 b.rv, .int .i64 b.nx, .int .i64 b.mo, .int .i64 b.bo, .int .i64 b.fr, .slice pb lb cb] 59) (by kernel_rfl) (show _ from Blk.drew H5be.out 1) (fun hHeld => ?_)
 have H6v : Hid (Blk W4.drew (w.heap.size) #[.int .i64 v.kd, .int .i64 v.me, .int .i64 v.mo, .int .i64 v.id, .int .i64 v.te, .int .i64 v.de, .int .i64 v.fe, .int .i64 v.pr, .int .i64 v.ch, .int .i64 v.un, .int .i64 v.tg, .int .i64 v.ow, .int .i64 v.bp] 71) := H5v.out
 have H6c : Hid (Blk W4.drew (g) cur 62) := H5c.out
 have H6a : Hid (Blk W4.drew (ga) #[.int .i64 y.me, .int .i64 y.rv, .int .i64 y.nx, .int .i64 y.mo, .int .i64 y.bo, .int .i64 y.fr, .slice dp dn dc] 59) := H5a.out
 have H6be : Hid (Blk W4.drew (gb) #[.int .i64 b.me, .int .i64 b.rv, .int .i64 b.nx, .int .i64 b.mo, .int .i64 b.bo, .int .i64 b.fr, .slice pb lb cb] 59) := H5be.out
 have H6bi : Hid (Blk W4.drew (gb + 1) #[.int .i64 l.id, .int .i64 l.te, .int .i64 l.de, .int .i64 l.fe, .int .i64 l.pr, .int .i64 l.ch, .int .i64 l.un] 69) := H5bi.out
 have H6so : Hid (Blk W4.drew (gs) #[.int .i64 l.id, .int .i64 0, .int .i64 l.un, .int .i64 v.tg, .int .i64 y.rv] 90) := H5so.out
 have H6B : Hid (Below w.heap.size w W4.drew) := H5B.out.drew
 have HF5 : Hid (deb.Fresh W4.drew W1.heap.size pb lb cb b.ds) := fresh_drew HF4.out
 have hl5 : gs < W4.drew.heap.size := hlW4
 clear HF4 H5v H5c H5a H5be H5bi H5so H5B
 generalize W4.drew = U8 at *
 refine zqs 0 42 (.pointer (some ⟨gb, 1, none⟩)) rfl rfl (by kernel_rfl) (fun _ _ _ h => h) rfl (fun v hv => by clear hv; go_simp) hHeld ?_
 simp only [Act.put, zqa, zqb, zqc]
 refine zqt 1 43 (.int .i64 b.rv) rfl rfl (by kernel_rfl) (fun _ _ _ h => h) (Or.inl ⟨by rfl, fun v hv => by have g0 := hv.cell 1; clear hv; go_simp⟩) hHeld ?_
 simp only [Act.put, zqa, zqb, zqc]
 refine zqs 2 44 (.pointer (some ⟨gs, 1, none⟩)) rfl rfl (by kernel_rfl) (fun _ _ _ h => h) rfl (fun v hv => by clear hv; go_simp) hHeld ?_
 simp only [Act.put, zqa, zqb, zqc]
 refine zqo 3 (by kernel_rfl) rfl (fun K hK => ?_)
 rw [if_pos (by rfl)]
 refine acc.wp_letOp1 3 _ _ rfl gs 1 rfl (.int .i64 2) rfl rfl (by kernel_rfl) rfl #[.int .i64 l.id, .int .i64 0, .int .i64 l.un, .int .i64 v.tg, .int .i64 y.rv] 90 H6so.out (by simp) rfl ?_
 intro V3 hU
 have H7v := shK hU H6v (by omega)
 have H7c := shK hU H6c (by omega)
 have H7a := shK hU H6a (by omega)
 have H7be := shK hU H6be (by omega)
 have H7bi := shK hU H6bi (by omega)
 have H7so : Hid (Blk V3 (gs) #[.int .i64 l.id, .int .i64 2, .int .i64 l.un, .int .i64 v.tg, .int .i64 y.rv] 90) := hU.blk
 have H7B := shV hU H6B (by omega)
 clear H6v H6c H6a H6be H6bi H6so H6B
 have HF6 : Hid (deb.Fresh V3 W1.heap.size pb lb cb b.ds) := fresh_updN HF5.out hU (fun hn p hp => by have := HFU.out hn p hp; omega)
 have hl6 : gs < V3.heap.size := by rw [hU.size]; exact hl5
 clear hU
 refine hK.out _ _ H7be.out (fun hHeld => ?_)
 clear hK K
 refine zqs 4 45 (.pointer (some ⟨gs, 2, none⟩)) rfl rfl (by kernel_rfl) (fun _ _ _ h => h) rfl (fun v hv => by clear hv; go_simp) hHeld ?_
 simp only [Act.put, zqa, zqb, zqc]
 refine zqo 5 (by kernel_rfl) rfl (fun K hK => ?_)
 rw [if_pos (by rfl)]
 refine acc.wp_letOp1 3 _ _ rfl gs 2 rfl (.int .i64 b.rv) rfl rfl (by kernel_rfl) rfl #[.int .i64 l.id, .int .i64 2, .int .i64 l.un, .int .i64 v.tg, .int .i64 y.rv] 90 H7so.out (by simp) rfl ?_
 intro V5 hU
 have H8v := shK hU H7v (by omega)
 have H8c := shK hU H7c (by omega)
 have H8a := shK hU H7a (by omega)
 have H8be := shK hU H7be (by omega)
 have H8bi := shK hU H7bi (by omega)
 have H8so : Hid (Blk V5 (gs) #[.int .i64 l.id, .int .i64 2, .int .i64 b.rv, .int .i64 v.tg, .int .i64 y.rv] 90) := hU.blk
 have H8B := shV hU H7B (by omega)
 clear H7v H7c H7a H7be H7bi H7so H7B
 have HF8 : Hid (deb.Fresh V5 W1.heap.size pb lb cb b.ds) := fresh_updN HF6.out hU (fun hn p hp => by have := HFU.out hn p hp; omega)
 have hl8 : gs < V5.heap.size := by rw [hU.size]; exact hl6
 clear hU
 refine hK.out _ _ H8be.out (fun hHeld => ?_)
 clear hK K
 refine wpAnyH_done (by kernel_rfl) ?_ _
 clear hHeld
 have HF4x : Hid (deb.Fresh V5 W1.heap.size pb lb cb b.ds) := HF8.out
 clear HF5 HF6 HF8
 have HRV : Hid (b.rv = y.rv + 1) := rekey_rv (by rcases HI.out with ⟨q, _⟩ | ⟨q, _⟩ | ⟨_, q⟩; exact absurd (q.symm.trans HK4.out) (by decide); exact absurd (q.symm.trans HK4.out) (by decide); exact q)
 go_wp2_with (first
  | (refine wp_let rfl 59 _ _ rfl g O rfl (.agg #[.int .i64 b.me, .int .i64 b.rv, .int .i64 b.nx, .int .i64 b.mo, .int .i64 b.bo, .int .i64 b.fr, .slice pb lb cb]) rfl #[.int .i64 b.me, .int .i64 b.rv, .int .i64 b.nx, .int .i64 b.mo, .int .i64 b.bo, .int .i64 b.fr, .slice pb lb cb] rfl (by kernel_rfl) (by simp [Value.oneCell']) cur 62 H8c.out (by have := HCS.out; simp; omega) (putAll cur O [.int .i64 b.me, .int .i64 b.rv, .int .i64 b.nx, .int .i64 b.mo, .int .i64 b.bo, .int .i64 b.fr, .slice pb lb cb]) rfl ?_)
  | (refine zqw rfl rfl rfl H8v zqu71 ?_)
  | (refine wp_whole rfl 62 _ rfl (g) rfl 62 cur _ H8c.out Tryz.underlying62 rfl (by kernel_rfl) ?_)
  | (refine zqw rfl rfl rfl H8a zqu59 ?_)
  | (refine zqw rfl rfl rfl H8be zqu59 ?_)
  | (refine zqw rfl rfl rfl H8bi zqu69 ?_)
  | (refine zqw rfl rfl rfl H8so zqu90 ?_)
  | fail)
 intro W5 hU
 have HU5 : Hid (Upd V5 W5 g (putAll cur O [.int .i64 b.me, .int .i64 b.rv, .int .i64 b.nx, .int .i64 b.mo, .int .i64 b.bo, .int .i64 b.fr, .slice pb lb cb]) 62) := hU
 have H5c : Hid (Blk W5 g (putAll cur O [.int .i64 b.me, .int .i64 b.rv, .int .i64 b.nx, .int .i64 b.mo, .int .i64 b.bo, .int .i64 b.fr, .slice pb lb cb]) 62) := hU.blk
 have H5so := shK hU H8so (by omega)
 have hs5 : W5.heap.size = V5.heap.size := hU.size
 have HX5 : Hid (Below w.heap.size w V5) := H8B.out
 have H5l : Hid (Lo W5 base (.slice sp sn sc) sol) := lo_upd (HH.out.so.next HX5.out) hU (fun i hi => (HOI.out i hi).2.2)
 have H5f : Hid (tar.Came W5 pb lb cb b.ds) := acc_upd HF4x.out.came hU (fun hn p hp => by have := HF4x.out.new hn p hp; omega)
 have HFN : Hid (0 < lb → ∀ p, pb = some p → W1.heap.size ≤ p.block ∧ p.block < gb) := fun hn p hp => ⟨HF4x.out.new hn p hp, HFU.out hn p hp⟩
 have HS5 : Hid (base ≤ W5.heap.size) := by show _ ≤ _; rw [hs5]; exact Nat.le_trans HSZ.out HX5.out.size
 have HSS : Hid (V5.heap.size = W5.heap.size) := hs5.symm
 clear hU
 go_wp2_with fail
 refine wp_region_held_drew (S := fun u => Blk u gs #[.int .i64 l.id, .int .i64 2, .int .i64 b.rv, .int .i64 v.tg, .int .i64 y.rv] 90) (by kernel_rfl) (show _ from Blk.drew H5so.out 1) (fun hHeld => ?_)
 have q7 : W5.drew.cell? ⟨g, O + 7, none⟩ = some (.slice sp sn sc) := by
  rw [show W5.drew.cell? ⟨g, O + 7, none⟩ = W5.cell? ⟨g, O + 7, none⟩ from rfl, H5c.out.cell (O + 7), putAll_get _ _ _ _ (by have := HCS.out; simp; omega), if_neg (by simp only [List.length_cons, List.length_nil]; omega)]
  exact HC7.out
 have G0 : Hid (Blk W5.drew g (putAll cur O [.int .i64 b.me, .int .i64 b.rv, .int .i64 b.nx, .int .i64 b.mo, .int .i64 b.bo, .int .i64 b.fr, .slice pb lb cb]) 62) := H5c.out
 have G1 : Hid (Blk W5.drew gs #[.int .i64 l.id, .int .i64 2, .int .i64 b.rv, .int .i64 v.tg, .int .i64 y.rv] 90) := H5so.out
 have G2 : Hid (Lo W5.drew base (.slice sp sn sc) sol) := H5l.out.next (Below.refl _ _).drew
 have G3 : Hid (tar.Came W5.drew pb lb cb b.ds) := H5f.out.below (Below.refl _ _).drew
 have G4 : Hid (∀ i, i ≠ g → W5.drew.heap[i]? = V5.heap[i]?) := fun i hi => HU5.out.oth i hi
 have G5 : Hid (W5.drew.os = w.os ∧ W5.drew.tape = w.tape ∧ W5.drew.output = w.output) := by have hb := (HU5.out.bel 0 w (Nat.zero_le _) (HX5.out.mono (Nat.zero_le _))); exact ⟨hb.os, hb.tape, hb.output⟩
 have G6 : Hid (base ≤ W5.drew.heap.size) := HS5.out
 have G7 : Hid (V5.heap.size = W5.drew.heap.size) := HSS.out
 clear H5c H5so H5l H5f HU5 HS5 HSS hs5
 generalize W5.drew = U at *
 refine zqs 0 50 (.pointer (some ⟨g, O, none⟩)) rfl rfl (by kernel_rfl) (fun _ _ _ h => h) rfl (fun v hv => by clear hv; go_simp) hHeld ?_
 simp only [Act.put, zqa, zqb, zqc]
 refine zqs 1 51 (.pointer (some ⟨g, O, none⟩)) rfl rfl (by kernel_rfl) (fun _ _ _ h => h) rfl (fun v hv => by clear hv; go_simp) hHeld ?_
 simp only [Act.put, zqa, zqb, zqc]
 refine zqs 2 52 (.pointer (some ⟨g, O, none⟩)) rfl rfl (by kernel_rfl) (fun _ _ _ h => h) rfl (fun v hv => by clear hv; go_simp) hHeld ?_
 simp only [Act.put, zqa, zqb, zqc]
 refine zqs 3 53 (.pointer (some ⟨g, O + 7, none⟩)) rfl rfl (by kernel_rfl) (fun _ _ _ h => h) rfl (fun v hv => by clear hv; go_simp) hHeld ?_
 simp only [Act.put, zqa, zqb, zqc]
 refine zqt 5 55 (.agg #[.int .i64 l.id, .int .i64 2, .int .i64 b.rv, .int .i64 v.tg, .int .i64 y.rv]) rfl rfl (by kernel_rfl) (fun _ _ _ h => h) (Or.inl ⟨by rfl, fun v hv => by have g0 := hv.cell 0; have g1 := hv.cell 1; have g2 := hv.cell 2; have g3 := hv.cell 3; have g4 := hv.cell 4; clear hv; go_simp⟩) hHeld ?_
 simp only [Act.put, zqa, zqb, zqc]
 refine wpAnyH_ready (rs := [4, 6]) (by kernel_rfl) (by simp) (AllReadyH.cons rfl (fun K hK => ?_) (AllReadyH.cons rfl (fun K hK => ?_) AllReadyH.nil))
 ·rw [if_pos (by rfl)]
  refine wp_runOp (v := .slice sp sn sc) (w' := U) 54 rfl (by clear hK; go_simp) ?_
  refine hK.out _ _ G1.out (fun hHeld => ?_)
  clear hK K
  simp only [Act.put, zqa, zqb, zqc]
  refine zqo 6 (by kernel_rfl) rfl (fun K hK => ?_)
  rw [if_pos (by rfl)]
  refine wp_runOp (v := .slice (some ⟨U.heap.size, 0, none⟩) 1 1) (w' := (U.alloc (.cells #[.int .i64 l.id, .int .i64 2, .int .i64 b.rv, .int .i64 v.tg, .int .i64 y.rv] 90))) 56 rfl (by clear hK; go_simp) ?_
  refine hK.out _ _ (G1.out.alloc _) (fun hHeld => ?_)
  clear hK K q7
  simp only [Act.put, zqa, zqb, zqc]
  have J0 : Hid (Blk (U.alloc (.cells #[.int .i64 l.id, .int .i64 2, .int .i64 b.rv, .int .i64 v.tg, .int .i64 y.rv] 90)) g (putAll cur O [.int .i64 b.me, .int .i64 b.rv, .int .i64 b.nx, .int .i64 b.mo, .int .i64 b.bo, .int .i64 b.fr, .slice pb lb cb]) 62) := G0.out.alloc _
  have J1 : Hid (Blk (U.alloc (.cells #[.int .i64 l.id, .int .i64 2, .int .i64 b.rv, .int .i64 v.tg, .int .i64 y.rv] 90)) gs #[.int .i64 l.id, .int .i64 2, .int .i64 b.rv, .int .i64 v.tg, .int .i64 y.rv] 90) := G1.out.alloc _
  have J2 : Hid (Lo (U.alloc (.cells #[.int .i64 l.id, .int .i64 2, .int .i64 b.rv, .int .i64 v.tg, .int .i64 y.rv] 90)) base (.slice sp sn sc) sol) := G2.out.alloc _
  have J3 : Hid (tar.Came (U.alloc (.cells #[.int .i64 l.id, .int .i64 2, .int .i64 b.rv, .int .i64 v.tg, .int .i64 y.rv] 90)) pb lb cb b.ds) := G3.out.below ((Below.refl _ _).alloc (Nat.le_refl _) _)
  have J4 : Hid (∀ i, i ≠ g → i < V5.heap.size → (U.alloc (.cells #[.int .i64 l.id, .int .i64 2, .int .i64 b.rv, .int .i64 v.tg, .int .i64 y.rv] 90)).heap[i]? = V5.heap[i]?) := fun i hi hl => by rw [← G4.out i hi]; exact ((Below.refl U.heap.size U).alloc (Nat.le_refl _) _).block i (by rw [← G7.out]; exact hl)
  have J5 : Hid ((U.alloc (.cells #[.int .i64 l.id, .int .i64 2, .int .i64 b.rv, .int .i64 v.tg, .int .i64 y.rv] 90)).os = w.os ∧ (U.alloc (.cells #[.int .i64 l.id, .int .i64 2, .int .i64 b.rv, .int .i64 v.tg, .int .i64 y.rv] 90)).tape = w.tape ∧ (U.alloc (.cells #[.int .i64 l.id, .int .i64 2, .int .i64 b.rv, .int .i64 v.tg, .int .i64 y.rv] 90)).output = w.output) := G5.out
  have J6 : Hid (base ≤ (U.alloc (.cells #[.int .i64 l.id, .int .i64 2, .int .i64 b.rv, .int .i64 v.tg, .int .i64 y.rv] 90)).heap.size ∧ V5.heap.size ≤ (U.alloc (.cells #[.int .i64 l.id, .int .i64 2, .int .i64 b.rv, .int .i64 v.tg, .int .i64 y.rv] 90)).heap.size) := by show _ ∧ _; have h1 := G6.out; have h2 := G7.out; simp; omega
  have J8 : Hid (Blk (U.alloc (.cells #[.int .i64 l.id, .int .i64 2, .int .i64 b.rv, .int .i64 v.tg, .int .i64 y.rv] 90)) U.heap.size #[.int .i64 l.id, .int .i64 2, .int .i64 b.rv, .int .i64 v.tg, .int .i64 y.rv] 90) := Blk.new _ _ _
  clear G0 G1 G2 G3 G4 G5 G6 G7
  generalize U.heap.size = gn at *
  generalize (U.alloc (.cells #[.int .i64 l.id, .int .i64 2, .int .i64 b.rv, .int .i64 v.tg, .int .i64 y.rv] 90)) = U2 at *
  refine zqo 7 (by kernel_rfl) rfl (fun K hK => ?_)
  rw [if_pos (by rfl)]
  refine step_sold 57 rfl _ _ rfl base gn _ sol (⟨l.id, 2, b.rv, v.tg, y.rv⟩ : So) rfl rfl J2.out J8.out (by have := HSL.out; omega) J6.out.1 ?_
  intro v3 w9 h3 hg3 ho3
  obtain ⟨p3, c3, rfl, _, _, _⟩ := h3.row
  have L0 : Hid (Blk w9 g (putAll cur O [.int .i64 b.me, .int .i64 b.rv, .int .i64 b.nx, .int .i64 b.mo, .int .i64 b.bo, .int .i64 b.fr, .slice pb lb cb]) 62) := blk_kept J0.out hg3 (fun q => (HOI.out g q.symm).2.2 rfl)
  have L1 : Hid (Blk w9 gs #[.int .i64 l.id, .int .i64 2, .int .i64 b.rv, .int .i64 v.tg, .int .i64 y.rv] 90) := blk_kept J1.out hg3 (fun q => by have := (HOI.out gs q.symm).1; omega)
  have L2 : Hid (Lo w9 base (.slice p3 (sol ++ [(⟨l.id, 2, b.rv, v.tg, y.rv⟩ : So)]).length c3) (sol ++ [(⟨l.id, 2, b.rv, v.tg, y.rv⟩ : So)])) := h3
  have L3 : Hid (tar.Came w9 pb lb cb b.ds) := came_grown J3.out hg3 (fun hn p hp q => by have h1 := (HFN.out hn p hp).1; have h2 := (HOI.out _ q.symm).1; omega)
  have L4 : Hid (∀ i, i ≠ g → (Value.slice sp sn sc).ownBlock ≠ some i → i < w.heap.size → w9.heap[i]? = w.heap[i]?) := fun i h1 h2 h3 => by rw [hg3.block i (by have := J6.out; have := HX5.out.size; omega) (fun q => h2 q.symm), J4.out i h1 (by have := HX5.out.size; omega), HX5.out.block i h3]
  have L5 : Hid (w9.os = w.os ∧ w9.tape = w.tape ∧ w9.output = w.output) := ⟨hg3.os.trans J5.out.1, hg3.tape.trans J5.out.2.1, hg3.output.trans J5.out.2.2⟩
  have L6 : Hid (w.heap.size ≤ U2.heap.size ∧ U2.heap.size ≤ w9.heap.size) := ⟨by have := J6.out; have := HX5.out.size; omega, hg3.size⟩
  have L7 : Hid ((Value.slice p3 (sol ++ [(⟨l.id, 2, b.rv, v.tg, y.rv⟩ : So)]).length c3).ownBlock = (Value.slice sp sn sc).ownBlock ∨ (Value.slice p3 (sol ++ [(⟨l.id, 2, b.rv, v.tg, y.rv⟩ : So)]).length c3).ownBlock = some U2.heap.size) := ho3
  have LFU : Hid (0 < lb → ∀ p, pb = some p → p.block < U2.heap.size) := came_lt J3.out
  refine hK.out _ _ L1.out (fun hHeld => ?_)
  clear hK K h3 hg3 ho3 J0 J1 J2 J3 J4 J5 J6 J8
  simp only [Act.put, zqa, zqb, zqc]
  generalize (sol ++ [(⟨l.id, 2, b.rv, v.tg, y.rv⟩ : So)]).length = n3 at *
  refine zqs 8 58 (.pointer (some ⟨g, O, none⟩)) rfl rfl (by kernel_rfl) (fun _ _ _ h => h) rfl (fun v hv => by clear hv; go_simp) hHeld ?_
  simp only [Act.put, zqa, zqb, zqc]
  refine zqs 9 59 (.pointer (some ⟨g, O + 7, none⟩)) rfl rfl (by kernel_rfl) (fun _ _ _ h => h) rfl (fun v hv => by clear hv; go_simp) hHeld ?_
  simp only [Act.put, zqa, zqb, zqc]
  refine zqo 10 (by kernel_rfl) rfl (fun K hK => ?_)
  rw [if_pos (by rfl)]
  refine acc.wp_letOp1 60 _ _ rfl g (O + 7) rfl (.slice p3 n3 c3) rfl rfl (by kernel_rfl) rfl (putAll cur O [.int .i64 b.me, .int .i64 b.rv, .int .i64 b.nx, .int .i64 b.mo, .int .i64 b.bo, .int .i64 b.fr, .slice pb lb cb]) 62 L0.out (by rw [putAll_size]; have := HCS.out; omega) rfl ?_
  intro WF hU
  have M1 := shK hU L1 (by omega)
  have MF : Hid (WPost w0 base gW B t pt lt ct (HapR t bk k v) w (.returned (.tuple #[])) WF) := by
   have hb := hU.bel 0 w9 (Nat.zero_le _) (Below.refl _ _)
   have hO : ∀ i, i < w.heap.size → i ≠ g → (Value.slice sp sn sc).ownBlock ≠ some i → WF.heap[i]? = w.heap[i]? := fun i h1 h2 h3 => by rw [hU.oth i h2]; exact L4.out i h2 h3 h1
   have hos : WF.os = w.os ∧ WF.tape = w.tape ∧ WF.output = w.output := ⟨hb.os.trans L5.out.1, hb.tape.trans L5.out.2.1, hb.output.trans L5.out.2.2⟩
   have hsz : w.heap.size ≤ WF.heap.size := by rw [hU.size]; exact Nat.le_trans L6.out.1 L6.out.2
   have hso : (⟨l.id, 2, b.rv, v.tg, y.rv⟩ : So) = soldOf ⟨y, sol⟩ v := by unfold soldOf; rw [if_pos HK4.out, HSI.out.1, HRV.out]
   have hh : HapIs t ⟨y, sol⟩ v ⟨b, sol ++ [soldOf ⟨y, sol⟩ v]⟩ 0 := .inr ⟨HN5.out, b, l, 0, HI.out, .inr (.inr ⟨rfl, HLB.out, rfl, rfl⟩)⟩
   have hw := hap_wf hh HMA.out
   refine ⟨⟨hos.1, hos.2.1, hos.2.2, hsz, fun i h1 _ _ => hO i (by have := HSZ.out; omega) (by have := HBG.out; omega) (fun q => by have := (HOI.out i q).2.1; omega)⟩, .inl ⟨.slice (some ⟨g, 0, none⟩) n cap, xs.set k ⟨b.me, b.rv, b.nx, b.mo, b.bo, b.fr, pb, lb, cb, p3, n3, c3⟩, bk.set k ⟨b, sol ++ [soldOf ⟨y, sol⟩ v]⟩, rfl, ⟨⟨b, sol ++ [soldOf ⟨y, sol⟩ v]⟩, by rw [HC.out]; exact hh, fun _ => rfl⟩, fun hsm => ?_⟩⟩
   refine put_wr HR.out HKL.out HX.out HCB.out hO hsz hos (x' := ⟨b.me, b.rv, b.nx, b.mo, b.bo, b.fr, pb, lb, cb, p3, n3, c3⟩) ⟨⟨rfl, rfl, rfl, rfl, rfl, rfl⟩, ⟨acc_upd L3.out hU (fun hn p hp q => by have := (HFN.out hn p hp).1; omega), fun hn p hp => by have := (HFN.out hn p hp).1; have := HSZ.out; omega⟩, ?_⟩ hw.1 (by rw [HC.out]; exact hw.2) ?_ ?_ ?_ ?_ hsm
   ·refine lo_upd (by rw [← hso]; exact L2.out) hU (fun i hi q => ?_)
    rcases L7.out with e1 | e1
    ·exact (HOI.out i (e1 ▸ hi)).2.2 q
    ·have e2 : some i = some U2.heap.size := hi.symm.trans e1
     injection e2 with e2; have := L6.out; omega
   ·intro i hi
    rcases L7.out with e1 | e1
    ·exact .inl (e1 ▸ hi)
    ·right; have e2 : some i = some U2.heap.size := hi.symm.trans e1; injection e2 with e2; have := L6.out; omega
   ·intro hn p hp; have := (HFN.out hn p hp).1; omega
   ·intro i hi hn p hp q
    rcases L7.out with e1 | e1
    ·have h1 := (HOI.out i (e1 ▸ hi)).1; have h2 := (HFN.out hn p hp).1; omega
    ·have e2 : some i = some U2.heap.size := hi.symm.trans e1
     injection e2 with e2; have := LFU.out hn p hp; omega
   ·have := hU.blk
    rw [show O + 7 = O + ([.int .i64 b.me, .int .i64 b.rv, .int .i64 b.nx, .int .i64 b.mo, .int .i64 b.bo, .int .i64 b.fr, .slice pb lb cb] : List Value).length from rfl, putAll_more, ← HO.out] at this
    exact this
  refine hK.out _ _ M1.out (fun hHeld => ?_)
  clear hK K hU
  refine wpAnyH_done (by kernel_rfl) ?_ _
  clear hHeld
  go_wp2_with fail
  go_end0
  exact MF.out
 ·rw [if_pos (by rfl)]
  refine wp_runOp (v := .slice (some ⟨U.heap.size, 0, none⟩) 1 1) (w' := (U.alloc (.cells #[.int .i64 l.id, .int .i64 2, .int .i64 b.rv, .int .i64 v.tg, .int .i64 y.rv] 90))) 56 rfl (by clear hK; go_simp) ?_
  refine hK.out _ _ (G1.out.alloc _) (fun hHeld => ?_)
  clear hK K
  simp only [Act.put, zqa, zqb, zqc]
  have q8 : (U.alloc (.cells #[.int .i64 l.id, .int .i64 2, .int .i64 b.rv, .int .i64 v.tg, .int .i64 y.rv] 90)).cell? ⟨g, O + 7, none⟩ = some (.slice sp sn sc) := (((Below.refl U.heap.size U).alloc (Nat.le_refl _) _).cell (p := ⟨g, O + 7, none⟩) G0.out.lt).trans q7
  clear q7
  refine zqo 4 (by kernel_rfl) rfl (fun K hK => ?_)
  rw [if_pos (by rfl)]
  refine wp_runOp (v := .slice sp sn sc) (w' := (U.alloc (.cells #[.int .i64 l.id, .int .i64 2, .int .i64 b.rv, .int .i64 v.tg, .int .i64 y.rv] 90))) 54 rfl (by clear hK; go_simp) ?_
  refine hK.out _ _ (G1.out.alloc _) (fun hHeld => ?_)
  clear hK K q8
  simp only [Act.put, zqa, zqb, zqc]
  have J0 : Hid (Blk (U.alloc (.cells #[.int .i64 l.id, .int .i64 2, .int .i64 b.rv, .int .i64 v.tg, .int .i64 y.rv] 90)) g (putAll cur O [.int .i64 b.me, .int .i64 b.rv, .int .i64 b.nx, .int .i64 b.mo, .int .i64 b.bo, .int .i64 b.fr, .slice pb lb cb]) 62) := G0.out.alloc _
  have J1 : Hid (Blk (U.alloc (.cells #[.int .i64 l.id, .int .i64 2, .int .i64 b.rv, .int .i64 v.tg, .int .i64 y.rv] 90)) gs #[.int .i64 l.id, .int .i64 2, .int .i64 b.rv, .int .i64 v.tg, .int .i64 y.rv] 90) := G1.out.alloc _
  have J2 : Hid (Lo (U.alloc (.cells #[.int .i64 l.id, .int .i64 2, .int .i64 b.rv, .int .i64 v.tg, .int .i64 y.rv] 90)) base (.slice sp sn sc) sol) := G2.out.alloc _
  have J3 : Hid (tar.Came (U.alloc (.cells #[.int .i64 l.id, .int .i64 2, .int .i64 b.rv, .int .i64 v.tg, .int .i64 y.rv] 90)) pb lb cb b.ds) := G3.out.below ((Below.refl _ _).alloc (Nat.le_refl _) _)
  have J4 : Hid (∀ i, i ≠ g → i < V5.heap.size → (U.alloc (.cells #[.int .i64 l.id, .int .i64 2, .int .i64 b.rv, .int .i64 v.tg, .int .i64 y.rv] 90)).heap[i]? = V5.heap[i]?) := fun i hi hl => by rw [← G4.out i hi]; exact ((Below.refl U.heap.size U).alloc (Nat.le_refl _) _).block i (by rw [← G7.out]; exact hl)
  have J5 : Hid ((U.alloc (.cells #[.int .i64 l.id, .int .i64 2, .int .i64 b.rv, .int .i64 v.tg, .int .i64 y.rv] 90)).os = w.os ∧ (U.alloc (.cells #[.int .i64 l.id, .int .i64 2, .int .i64 b.rv, .int .i64 v.tg, .int .i64 y.rv] 90)).tape = w.tape ∧ (U.alloc (.cells #[.int .i64 l.id, .int .i64 2, .int .i64 b.rv, .int .i64 v.tg, .int .i64 y.rv] 90)).output = w.output) := G5.out
  have J6 : Hid (base ≤ (U.alloc (.cells #[.int .i64 l.id, .int .i64 2, .int .i64 b.rv, .int .i64 v.tg, .int .i64 y.rv] 90)).heap.size ∧ V5.heap.size ≤ (U.alloc (.cells #[.int .i64 l.id, .int .i64 2, .int .i64 b.rv, .int .i64 v.tg, .int .i64 y.rv] 90)).heap.size) := by show _ ∧ _; have h1 := G6.out; have h2 := G7.out; simp; omega
  have J8 : Hid (Blk (U.alloc (.cells #[.int .i64 l.id, .int .i64 2, .int .i64 b.rv, .int .i64 v.tg, .int .i64 y.rv] 90)) U.heap.size #[.int .i64 l.id, .int .i64 2, .int .i64 b.rv, .int .i64 v.tg, .int .i64 y.rv] 90) := Blk.new _ _ _
  clear G0 G1 G2 G3 G4 G5 G6 G7
  generalize U.heap.size = gn at *
  generalize (U.alloc (.cells #[.int .i64 l.id, .int .i64 2, .int .i64 b.rv, .int .i64 v.tg, .int .i64 y.rv] 90)) = U2 at *
  refine zqo 7 (by kernel_rfl) rfl (fun K hK => ?_)
  rw [if_pos (by rfl)]
  refine step_sold 57 rfl _ _ rfl base gn _ sol (⟨l.id, 2, b.rv, v.tg, y.rv⟩ : So) rfl rfl J2.out J8.out (by have := HSL.out; omega) J6.out.1 ?_
  intro v3 w9 h3 hg3 ho3
  obtain ⟨p3, c3, rfl, _, _, _⟩ := h3.row
  have L0 : Hid (Blk w9 g (putAll cur O [.int .i64 b.me, .int .i64 b.rv, .int .i64 b.nx, .int .i64 b.mo, .int .i64 b.bo, .int .i64 b.fr, .slice pb lb cb]) 62) := blk_kept J0.out hg3 (fun q => (HOI.out g q.symm).2.2 rfl)
  have L1 : Hid (Blk w9 gs #[.int .i64 l.id, .int .i64 2, .int .i64 b.rv, .int .i64 v.tg, .int .i64 y.rv] 90) := blk_kept J1.out hg3 (fun q => by have := (HOI.out gs q.symm).1; omega)
  have L2 : Hid (Lo w9 base (.slice p3 (sol ++ [(⟨l.id, 2, b.rv, v.tg, y.rv⟩ : So)]).length c3) (sol ++ [(⟨l.id, 2, b.rv, v.tg, y.rv⟩ : So)])) := h3
  have L3 : Hid (tar.Came w9 pb lb cb b.ds) := came_grown J3.out hg3 (fun hn p hp q => by have h1 := (HFN.out hn p hp).1; have h2 := (HOI.out _ q.symm).1; omega)
  have L4 : Hid (∀ i, i ≠ g → (Value.slice sp sn sc).ownBlock ≠ some i → i < w.heap.size → w9.heap[i]? = w.heap[i]?) := fun i h1 h2 h3 => by rw [hg3.block i (by have := J6.out; have := HX5.out.size; omega) (fun q => h2 q.symm), J4.out i h1 (by have := HX5.out.size; omega), HX5.out.block i h3]
  have L5 : Hid (w9.os = w.os ∧ w9.tape = w.tape ∧ w9.output = w.output) := ⟨hg3.os.trans J5.out.1, hg3.tape.trans J5.out.2.1, hg3.output.trans J5.out.2.2⟩
  have L6 : Hid (w.heap.size ≤ U2.heap.size ∧ U2.heap.size ≤ w9.heap.size) := ⟨by have := J6.out; have := HX5.out.size; omega, hg3.size⟩
  have L7 : Hid ((Value.slice p3 (sol ++ [(⟨l.id, 2, b.rv, v.tg, y.rv⟩ : So)]).length c3).ownBlock = (Value.slice sp sn sc).ownBlock ∨ (Value.slice p3 (sol ++ [(⟨l.id, 2, b.rv, v.tg, y.rv⟩ : So)]).length c3).ownBlock = some U2.heap.size) := ho3
  have LFU : Hid (0 < lb → ∀ p, pb = some p → p.block < U2.heap.size) := came_lt J3.out
  refine hK.out _ _ L1.out (fun hHeld => ?_)
  clear hK K h3 hg3 ho3 J0 J1 J2 J3 J4 J5 J6 J8
  simp only [Act.put, zqa, zqb, zqc]
  generalize (sol ++ [(⟨l.id, 2, b.rv, v.tg, y.rv⟩ : So)]).length = n3 at *
  refine zqs 8 58 (.pointer (some ⟨g, O, none⟩)) rfl rfl (by kernel_rfl) (fun _ _ _ h => h) rfl (fun v hv => by clear hv; go_simp) hHeld ?_
  simp only [Act.put, zqa, zqb, zqc]
  refine zqs 9 59 (.pointer (some ⟨g, O + 7, none⟩)) rfl rfl (by kernel_rfl) (fun _ _ _ h => h) rfl (fun v hv => by clear hv; go_simp) hHeld ?_
  simp only [Act.put, zqa, zqb, zqc]
  refine zqo 10 (by kernel_rfl) rfl (fun K hK => ?_)
  rw [if_pos (by rfl)]
  refine acc.wp_letOp1 60 _ _ rfl g (O + 7) rfl (.slice p3 n3 c3) rfl rfl (by kernel_rfl) rfl (putAll cur O [.int .i64 b.me, .int .i64 b.rv, .int .i64 b.nx, .int .i64 b.mo, .int .i64 b.bo, .int .i64 b.fr, .slice pb lb cb]) 62 L0.out (by rw [putAll_size]; have := HCS.out; omega) rfl ?_
  intro WF hU
  have M1 := shK hU L1 (by omega)
  have MF : Hid (WPost w0 base gW B t pt lt ct (HapR t bk k v) w (.returned (.tuple #[])) WF) := by
   have hb := hU.bel 0 w9 (Nat.zero_le _) (Below.refl _ _)
   have hO : ∀ i, i < w.heap.size → i ≠ g → (Value.slice sp sn sc).ownBlock ≠ some i → WF.heap[i]? = w.heap[i]? := fun i h1 h2 h3 => by rw [hU.oth i h2]; exact L4.out i h2 h3 h1
   have hos : WF.os = w.os ∧ WF.tape = w.tape ∧ WF.output = w.output := ⟨hb.os.trans L5.out.1, hb.tape.trans L5.out.2.1, hb.output.trans L5.out.2.2⟩
   have hsz : w.heap.size ≤ WF.heap.size := by rw [hU.size]; exact Nat.le_trans L6.out.1 L6.out.2
   have hso : (⟨l.id, 2, b.rv, v.tg, y.rv⟩ : So) = soldOf ⟨y, sol⟩ v := by unfold soldOf; rw [if_pos HK4.out, HSI.out.1, HRV.out]
   have hh : HapIs t ⟨y, sol⟩ v ⟨b, sol ++ [soldOf ⟨y, sol⟩ v]⟩ 0 := .inr ⟨HN5.out, b, l, 0, HI.out, .inr (.inr ⟨rfl, HLB.out, rfl, rfl⟩)⟩
   have hw := hap_wf hh HMA.out
   refine ⟨⟨hos.1, hos.2.1, hos.2.2, hsz, fun i h1 _ _ => hO i (by have := HSZ.out; omega) (by have := HBG.out; omega) (fun q => by have := (HOI.out i q).2.1; omega)⟩, .inl ⟨.slice (some ⟨g, 0, none⟩) n cap, xs.set k ⟨b.me, b.rv, b.nx, b.mo, b.bo, b.fr, pb, lb, cb, p3, n3, c3⟩, bk.set k ⟨b, sol ++ [soldOf ⟨y, sol⟩ v]⟩, rfl, ⟨⟨b, sol ++ [soldOf ⟨y, sol⟩ v]⟩, by rw [HC.out]; exact hh, fun _ => rfl⟩, fun hsm => ?_⟩⟩
   refine put_wr HR.out HKL.out HX.out HCB.out hO hsz hos (x' := ⟨b.me, b.rv, b.nx, b.mo, b.bo, b.fr, pb, lb, cb, p3, n3, c3⟩) ⟨⟨rfl, rfl, rfl, rfl, rfl, rfl⟩, ⟨acc_upd L3.out hU (fun hn p hp q => by have := (HFN.out hn p hp).1; omega), fun hn p hp => by have := (HFN.out hn p hp).1; have := HSZ.out; omega⟩, ?_⟩ hw.1 (by rw [HC.out]; exact hw.2) ?_ ?_ ?_ ?_ hsm
   ·refine lo_upd (by rw [← hso]; exact L2.out) hU (fun i hi q => ?_)
    rcases L7.out with e1 | e1
    ·exact (HOI.out i (e1 ▸ hi)).2.2 q
    ·have e2 : some i = some U2.heap.size := hi.symm.trans e1
     injection e2 with e2; have := L6.out; omega
   ·intro i hi
    rcases L7.out with e1 | e1
    ·exact .inl (e1 ▸ hi)
    ·right; have e2 : some i = some U2.heap.size := hi.symm.trans e1; injection e2 with e2; have := L6.out; omega
   ·intro hn p hp; have := (HFN.out hn p hp).1; omega
   ·intro i hi hn p hp q
    rcases L7.out with e1 | e1
    ·have h1 := (HOI.out i (e1 ▸ hi)).1; have h2 := (HFN.out hn p hp).1; omega
    ·have e2 : some i = some U2.heap.size := hi.symm.trans e1
     injection e2 with e2; have := LFU.out hn p hp; omega
   ·have := hU.blk
    rw [show O + 7 = O + ([.int .i64 b.me, .int .i64 b.rv, .int .i64 b.nx, .int .i64 b.mo, .int .i64 b.bo, .int .i64 b.fr, .slice pb lb cb] : List Value).length from rfl, putAll_more, ← HO.out] at this
    exact this
  refine hK.out _ _ M1.out (fun hHeld => ?_)
  clear hK K hU
  refine wpAnyH_done (by kernel_rfl) ?_ _
  clear hHeld
  go_wp2_with fail
  go_end0
  exact MF.out
end book
end Go.Proofs.YtomibnggmhjdfaaGreat
