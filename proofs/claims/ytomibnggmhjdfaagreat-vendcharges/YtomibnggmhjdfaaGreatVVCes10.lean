import Derived.Test.YtomibnggmhjdfaaGreatVVCes7
import Derived.Test.YtomibnggmhjdfaaGreatVVCes8
import Derived.Test.YtomibnggmhjdfaaGreatVVCes9
set_option linter.unusedVariables false
set_option linter.unusedSimpArgs false
namespace Go.Proofs.YtomibnggmhjdfaaGreat
namespace book
open Go.RowKit
open acc (Ac Tm Bi APost BPost OweIs SellIs GrantIs RekeyIs)
set_option maxRecDepth 100000
def Small (bk : List Cm) (k : Nat) : Prop := bk.length ≤ k ∧ ∀ c ∈ bk, c.so.length ≤ k ∧ 0 ≤ c.a.rv ∧ c.a.rv ≤ 15
theorem Small.zero : Small [] 0 := ⟨Nat.le_refl _, fun c hc => by cases hc⟩
theorem owe_rv {a b : Ac} {d : tar.Du} (h : OweIs a d b 0) (hr : 0 ≤ a.rv ∧ a.rv ≤ 15) : 0 ≤ b.rv ∧ b.rv ≤ 15 := by
 rcases h with ⟨_, _, e⟩ | ⟨_, _, _, e⟩ | ⟨_, _, _, _, e⟩ | ⟨_, _, _, rfl, _⟩
 ·cases e
 ·cases e
 ·cases e
 ·exact hr
theorem tells_rv {t : Tm} {c : Cm} {v : Ev} {b : Ac} {l : Bi} (h : Tells t c v b l 0) (hr : 0 ≤ c.a.rv ∧ c.a.rv ≤ 15) : 0 ≤ b.rv ∧ b.rv ≤ 15 := by
 rcases h with ⟨_, h⟩ | ⟨_, h⟩ | ⟨_, h⟩
 ·rcases h with ⟨p, rfl, _⟩ | ⟨_, _, e, _⟩ | ⟨_, _, _, e, _⟩ | ⟨_, _, _, _, u, _, rfl, _⟩
  ·exact ⟨Int.le_refl _, by show (0 : Int) ≤ 15; decide⟩
  ·cases e
  ·cases e
  ·exact hr
 ·rcases h with ⟨p, rfl, _⟩ | ⟨_, _, e, _⟩ | ⟨_, _, _, e, _⟩ | ⟨_, _, _, _, e, _⟩ | ⟨_, _, _, _, _, rfl, _⟩
  ·exact ⟨Int.le_refl _, by show (0 : Int) ≤ 15; decide⟩
  ·cases e
  ·cases e
  ·cases e
  ·exact hr
 ·rcases h with ⟨_, _, _, e⟩ | ⟨_, _, _, _, e⟩ | ⟨_, _, _, _, _, e⟩ | ⟨_, q, _, rfl, _, _⟩
  ·cases e
  ·cases e
  ·cases e
  ·exact ⟨by show 0 ≤ c.a.rv + 1; omega, by show c.a.rv + 1 ≤ 15; omega⟩
theorem hap_small {t : Tm} {c c' : Cm} {v : Ev} {k : Nat} (h : HapIs t c v c' 0) (hs : c.so.length ≤ k ∧ 0 ≤ c.a.rv ∧ c.a.rv ≤ 15) : c'.so.length ≤ k + 1 ∧ 0 ≤ c'.a.rv ∧ c'.a.rv ≤ 15 := by
 rcases h with ⟨_, b, q, r⟩ | ⟨_, b, l, e, q, r⟩
 ·rw [r rfl]
  exact ⟨by show c.so.length ≤ k + 1; omega, owe_rv q hs.2⟩
 ·rcases r with ⟨x, y⟩ | ⟨_, _, y⟩ | ⟨x, _, _, rfl⟩
  ·exact absurd y.symm x
  ·cases y
  ·subst x
   refine ⟨?_, tells_rv q hs.2⟩
   show (c.so ++ [_]).length ≤ k + 1
   rw [List.length_append]; exact Nat.succ_le_succ hs.1
theorem step_small {t : Tm} {bk bk' : List Cm} {v : Ev} {k : Nat} (h : StepIs t bk v bk' 0) (hs : Small bk k) : Small bk' (k + 1) := by
 rcases h with ⟨_, e⟩ | ⟨_, _, _, e⟩ | ⟨_, _, _, _, rfl⟩ | ⟨_, _, _, e⟩ | ⟨_, _, j, c', hj, hh, he⟩
 ·cases e
 ·cases e
 ·refine ⟨by rw [List.length_append]; exact Nat.succ_le_succ hs.1, fun c hc => ?_⟩
  rcases List.mem_append.1 hc with h | h
  ·have := hs.2 c h; omega
  ·rw [List.mem_singleton.1 h]; exact ⟨Nat.zero_le _, Int.le_refl _, by show (0 : Int) ≤ 15; decide⟩
 ·cases e
 ·rw [he rfl]
  have hm : bk.getD j cm0 ∈ bk := by
   have : bk.getD j cm0 = bk[j]'hj.1 := by simp [List.getD, List.getElem?_eq_getElem hj.1]
   rw [this]; exact List.getElem_mem _
  refine ⟨by rw [List.length_set]; have := hs.1; omega, fun c hc => ?_⟩
  rcases List.mem_or_eq_of_mem_set hc with h | rfl
  ·have := hs.2 c h; omega
  ·exact hap_small hh (hs.2 _ hm)
end book
namespace vnd
open disk (RepIs AppIs May repD lenAt)
open book (Ev ev0 EMay evL evOf EncIs DecIs Cm cm0 So so0 BookIs FirstAt NoneAt Tells billOf soldOf)
open acc (Ac Tm Bi SellIs GrantIs RekeyIs OweIs)
open cell (Wr)
open token (Tok)
def DecOk (z : List Int) : Prop := z.length = 13 ∧ EMay (evOf z)
theorem DecOk.zero {z : List Int} {v : Ev} {e : Int} (h : DecOk z) (hd : DecIs z v e) : e = 0 ∧ v = evOf z := by
 rcases hd with ⟨p, _⟩ | ⟨_, q, _⟩ | ⟨_, _, r, s⟩
 ·exact absurd h.1 p
 ·exact absurd h.2 q
 ·exact ⟨s, r⟩
theorem dec_ok {z : List Int} {v : Ev} (hd : DecIs z v 0) : DecOk z ∧ v = evOf z := by
 rcases hd with ⟨_, _, r⟩ | ⟨_, _, _, r⟩ | ⟨p, q, r, _⟩
 ·cases r
 ·cases r
 ·exact ⟨⟨p, q⟩, r⟩
theorem dec_no {z : List Int} {v : Ev} {e : Int} (hd : DecIs z v e) (h : e ≠ 0) : v = ev0 := by
 rcases hd with ⟨_, r, _⟩ | ⟨_, _, r, _⟩ | ⟨_, _, _, r⟩
 ·exact r
 ·exact r
 ·exact absurd r h
def KeptIs (c : List Int) (l : List Ev) (e : Int) : Prop :=
 ∃ o x f, RepIs c o x f ∧ ((f ≠ 0 ∧ l = [] ∧ e = f) ∨ (f = 0 ∧ (∀ j, j < o.length → DecOk (o.getD j [])) ∧ l = o.map evOf ∧ e = 0) ∨
  (f = 0 ∧ e ≠ 0 ∧ l = [] ∧ ∃ k, k < o.length ∧ (∀ j, j < k → DecOk (o.getD j [])) ∧ DecIs (o.getD k []) ev0 e))
theorem KeptIs.one {c : List Int} {l l' : List Ev} {e e' : Int} (h : KeptIs c l e) (h' : KeptIs c l' e') : l = l' ∧ e = e' := by
 obtain ⟨o, x, f, hr, h⟩ := h
 obtain ⟨o', x', f', hr', h'⟩ := h'
 obtain ⟨rfl, rfl, rfl⟩ := hr.one hr'
 rcases h with ⟨p, rfl, rfl⟩ | ⟨p, q, rfl, rfl⟩ | ⟨p, q, rfl, k, k1, k2, k3⟩ <;> rcases h' with ⟨p', rfl, rfl⟩ | ⟨p', q', rfl, rfl⟩ | ⟨p', q', rfl, k', k1', k2', k3'⟩ <;> first | exact ⟨rfl, rfl⟩ | contradiction | skip
 ·exact absurd ((q k' k1').zero k3').1 q'
 ·exact absurd ((q' k k1).zero k3).1 q
 ·rcases Nat.lt_trichotomy k k' with c | c | c
  ·exact absurd ((k2' k c).zero k3).1 q
  ·subst c; exact ⟨rfl, (k3.one k3').2⟩
  ·exact absurd ((k2 k' c).zero k3').1 q'
def LoadIs (t : Tm) (c : List Int) (bk : List Cm) (f : Int) : Prop := ∃ l e, KeptIs c l e ∧ ((e ≠ 0 ∧ bk = [] ∧ f = e) ∨ (e = 0 ∧ ∃ a, BookIs t l bk a f))
theorem LoadIs.one {t : Tm} {c : List Int} {b b' : List Cm} {f f' : Int} (h : LoadIs t c b f) (h' : LoadIs t c b' f') : b = b' ∧ f = f' := by
 obtain ⟨l, e, hk, h⟩ := h
 obtain ⟨l', e', hk', h'⟩ := h'
 obtain ⟨rfl, rfl⟩ := hk.one hk'
 rcases h with ⟨p, rfl, rfl⟩ | ⟨p, a, q⟩ <;> rcases h' with ⟨p', rfl, rfl⟩ | ⟨p', a', q'⟩ <;> first | exact ⟨rfl, rfl⟩ | contradiction | exact ⟨(q.one q').1, (q.one q').2.2⟩
def KeepIs (c : List Int) (v : Ev) (ls : List Wr) (f : Int) : Prop :=
 ∃ l e, KeptIs c l e ∧ ((¬ l.length < 120 ∧ ls = [] ∧ f = 16) ∨ (l.length < 120 ∧ ∃ ws g, EncIs v ws g ∧ ((g ≠ 0 ∧ ls = [] ∧ f = g) ∨ (g = 0 ∧ AppIs c ws ls f))))
theorem KeepIs.one {c : List Int} {v : Ev} {l l' : List Wr} {f f' : Int} (h : KeepIs c v l f) (h' : KeepIs c v l' f') : l = l' ∧ f = f' := by
 obtain ⟨k, e, hk, h⟩ := h
 obtain ⟨k', e', hk', h'⟩ := h'
 obtain ⟨rfl, rfl⟩ := hk.one hk'
 rcases h with ⟨p, rfl, rfl⟩ | ⟨p, ws, g, q, r⟩ <;> rcases h' with ⟨p', rfl, rfl⟩ | ⟨p', ws', g', q', r'⟩ <;> first | exact ⟨rfl, rfl⟩ | contradiction | skip
 obtain ⟨rfl, rfl⟩ := q.one q'
 rcases r with ⟨x, rfl, rfl⟩ | ⟨x, y⟩ <;> rcases r' with ⟨x', rfl, rfl⟩ | ⟨x', y'⟩ <;> first | exact ⟨rfl, rfl⟩ | contradiction | exact y.one y'
def chaE (me ow bp : Int) : Ev := ⟨5, me, 0, 0, 0, 0, 0, 0, 0, 0, 0, ow, bp⟩
def ChaIs (t : Tm) (c : List Int) (me ow bp : Int) (ls : List Wr) (f : Int) : Prop :=
 ∃ bk g, LoadIs t c bk g ∧ ((g ≠ 0 ∧ ls = [] ∧ f = g) ∨ (g = 0 ∧ NoneAt bk me ∧ ls = [] ∧ f = 18) ∨ (g = 0 ∧ ∃ k b h, FirstAt bk me k ∧ OweIs (bk.getD k cm0).a ⟨ow, bp⟩ b h ∧ ((h ≠ 0 ∧ ls = [] ∧ f = h) ∨ (h = 0 ∧ KeepIs c (chaE me ow bp) ls f))))
theorem ChaIs.one {t : Tm} {c : List Int} {me ow bp : Int} {l l' : List Wr} {f f' : Int} (h : ChaIs t c me ow bp l f) (h' : ChaIs t c me ow bp l' f') : l = l' ∧ f = f' := by
 obtain ⟨bk, g, hk, h⟩ := h
 obtain ⟨bk', g', hk', h'⟩ := h'
 obtain ⟨rfl, rfl⟩ := hk.one hk'
 rcases h with ⟨p, rfl, rfl⟩ | ⟨p, q, rfl, rfl⟩ | ⟨p, k, b, x, q, r, s⟩ <;> rcases h' with ⟨p', rfl, rfl⟩ | ⟨p', q', rfl, rfl⟩ | ⟨p', k', b', x', q', r', s'⟩ <;> first | exact ⟨rfl, rfl⟩ | contradiction | exact absurd q q'.some | exact absurd q' q.some | skip
 obtain rfl := q.one q'
 obtain ⟨rfl, rfl⟩ := r.one r'
 rcases s with ⟨a, rfl, rfl⟩ | ⟨a, d⟩ <;> rcases s' with ⟨a', rfl, rfl⟩ | ⟨a', d'⟩ <;> first | exact ⟨rfl, rfl⟩ | contradiction | exact d.one d'
end vnd
namespace acc
open tar (Du du0 Came RowD Ld PairT)
open Go.RowKit
set_option maxRecDepth 100000
set_option maxHeartbeats 2000000 in
theorem tfa0 (t : Tm) (p : Option Addr) (len cap : Nat) (w : World) (h : RowD w p len t.ts) (hl : len ≤ maxLen) (hr : ¬ tar.Right t.ts) : Calls Tryz.prog 34 #[.agg #[.slice p len cap, .int .i64 t.ff, .int .i64 t.fb, .int .i64 t.db, .int .i64 t.al]] w fun e w' => tar.ErrPost w (TFault t) e w' := by
 obtain ⟨WW, HWW, HBK, HBA, hsz⟩ := sh1 w #[.slice p len cap, .int .i64 t.ff, .int .i64 t.fb, .int .i64 t.db, .int .i64 t.al] 24
 have HRA : Hid (RowD WW p len t.ts) := h.below HBA.out
 have c0 : WW.cell? ⟨w.heap.size, 0, none⟩ = some (.slice p len cap) := HBK.out.cell 0
 have HFA : Hid (Calls Tryz.prog 56 #[.slice p len cap] WW fun e w' => tar.ErrPost WW (tar.FaultIs t.ts) e w') := tar.rfault p len cap t.ts _ HRA.out hl
 have HN : Hid (¬ tar.Right t.ts) := hr
 clear h hl hr HRA
 go_enter Tryz.func34, Tryz.ntmps34
 go_upto_region 1 with fail
 rw [HWW.out]
 clear HWW
 go_wp2_with fail
 refine HFA.out.mono ?_
 rintro e w1 ⟨f, rfl, hf, hb1⟩
 have HB1 : Hid (Below w.heap.size w w1) := HBA.out.trans (hb1.mono (Nat.le_of_lt hsz))
 have HK1 : Hid (Blk w1 w.heap.size #[.slice p len cap, .int .i64 t.ff, .int .i64 t.fb, .int .i64 t.db, .int .i64 t.al] 24) := HBK.out.below hb1 hsz
 have d1 : w1.cell? ⟨w.heap.size, 1, none⟩ = some (.int .i64 t.ff) := HK1.out.cell 1
 have d2 : w1.cell? ⟨w.heap.size, 2, none⟩ = some (.int .i64 t.fb) := HK1.out.cell 2
 have d3 : w1.cell? ⟨w.heap.size, 3, none⟩ = some (.int .i64 t.db) := HK1.out.cell 3
 have d4 : w1.cell? ⟨w.heap.size, 4, none⟩ = some (.int .i64 t.al) := HK1.out.cell 4
 have HF : Hid (tar.FaultIs t.ts f) := hf
 have hne : (f != 0) = true := by simpa using fun e => HN.out (hf.ok.1 e)
 clear hf HFA hb1 c0 HBK HK1 hsz
 go_wp2_with fail
 all_goals first
  | (rename_i q1 q2; exact absurd q1 (by simp [undef]))
  | (go_ret; exact ⟨_, rfl, .inl ⟨HN.out, HF.out⟩, HB1.out⟩)
set_option maxHeartbeats 2000000 in
theorem tfa1 (t : Tm) (p : Option Addr) (len cap : Nat) (w : World) (h : RowD w p len t.ts) (hl : len ≤ maxLen) (hr : tar.Right t.ts) (h1 : ¬ (0 ≤ t.ff ∧ t.ff ≤ 100000)) : Calls Tryz.prog 34 #[.agg #[.slice p len cap, .int .i64 t.ff, .int .i64 t.fb, .int .i64 t.db, .int .i64 t.al]] w fun e w' => tar.ErrPost w (TFault t) e w' := by
 obtain ⟨WW, HWW, HBK, HBA, hsz⟩ := sh1 w #[.slice p len cap, .int .i64 t.ff, .int .i64 t.fb, .int .i64 t.db, .int .i64 t.al] 24
 have HRA : Hid (RowD WW p len t.ts) := h.below HBA.out
 have c0 : WW.cell? ⟨w.heap.size, 0, none⟩ = some (.slice p len cap) := HBK.out.cell 0
 have HFA : Hid (Calls Tryz.prog 56 #[.slice p len cap] WW fun e w' => tar.ErrPost WW (tar.FaultIs t.ts) e w') := tar.rfault p len cap t.ts _ HRA.out hl
 have HI1 : Hid (∀ W, Calls Tryz.prog 25 #[.int .i64 t.ff, .int .i64 0, .int .i64 100000] W fun e w' => e = .returned (.bool (decide (0 ≤ t.ff ∧ t.ff ≤ 100000))) ∧ w' = W) := fun W => cal.cin t.ff 0 100000 W
 rw [decide_eq_false h1] at HI1
 have HX : Hid (¬ TOk t) := fun hh => h1 hh.1
 have HN : Hid (tar.Right t.ts) := hr
 clear h hl hr HRA h1
 go_enter Tryz.func34, Tryz.ntmps34
 go_upto_region 1 with fail
 rw [HWW.out]
 clear HWW
 go_wp2_with fail
 refine HFA.out.mono ?_
 rintro e w1 ⟨f, rfl, hf, hb1⟩
 have HB1 : Hid (Below w.heap.size w w1) := HBA.out.trans (hb1.mono (Nat.le_of_lt hsz))
 have HK1 : Hid (Blk w1 w.heap.size #[.slice p len cap, .int .i64 t.ff, .int .i64 t.fb, .int .i64 t.db, .int .i64 t.al] 24) := HBK.out.below hb1 hsz
 have d1 : w1.cell? ⟨w.heap.size, 1, none⟩ = some (.int .i64 t.ff) := HK1.out.cell 1
 have d2 : w1.cell? ⟨w.heap.size, 2, none⟩ = some (.int .i64 t.fb) := HK1.out.cell 2
 have d3 : w1.cell? ⟨w.heap.size, 3, none⟩ = some (.int .i64 t.db) := HK1.out.cell 3
 have d4 : w1.cell? ⟨w.heap.size, 4, none⟩ = some (.int .i64 t.al) := HK1.out.cell 4
 obtain rfl : f = 0 := hf.ok.2 HN.out
 clear hf HFA hb1 c0 HBK HK1 hsz
 go_wp2_with fail
 refine (HI1.out _).mono ?_
 rintro e w2 ⟨rfl, hw2⟩
 subst hw2
 go_wp2_with fail
 all_goals first
  | (rename_i q1 q2; exact absurd q1 (by simp [undef]))
  | (go_ret; exact ⟨_, rfl, .inr (.inl ⟨HN.out, HX.out, rfl⟩), HB1.out⟩)
set_option maxHeartbeats 2000000 in
theorem tfa2 (t : Tm) (p : Option Addr) (len cap : Nat) (w : World) (h : RowD w p len t.ts) (hl : len ≤ maxLen) (hr : tar.Right t.ts) (h1 : 0 ≤ t.ff ∧ t.ff ≤ 100000) (h2 : ¬ (0 ≤ t.fb ∧ t.fb ≤ 10000)) : Calls Tryz.prog 34 #[.agg #[.slice p len cap, .int .i64 t.ff, .int .i64 t.fb, .int .i64 t.db, .int .i64 t.al]] w fun e w' => tar.ErrPost w (TFault t) e w' := by
 obtain ⟨WW, HWW, HBK, HBA, hsz⟩ := sh1 w #[.slice p len cap, .int .i64 t.ff, .int .i64 t.fb, .int .i64 t.db, .int .i64 t.al] 24
 have HRA : Hid (RowD WW p len t.ts) := h.below HBA.out
 have c0 : WW.cell? ⟨w.heap.size, 0, none⟩ = some (.slice p len cap) := HBK.out.cell 0
 have HFA : Hid (Calls Tryz.prog 56 #[.slice p len cap] WW fun e w' => tar.ErrPost WW (tar.FaultIs t.ts) e w') := tar.rfault p len cap t.ts _ HRA.out hl
 have HI1 : Hid (∀ W, Calls Tryz.prog 25 #[.int .i64 t.ff, .int .i64 0, .int .i64 100000] W fun e w' => e = .returned (.bool (decide (0 ≤ t.ff ∧ t.ff ≤ 100000))) ∧ w' = W) := fun W => cal.cin t.ff 0 100000 W
 rw [decide_eq_true h1] at HI1
 have HI2 : Hid (∀ W, Calls Tryz.prog 25 #[.int .i64 t.fb, .int .i64 0, .int .i64 10000] W fun e w' => e = .returned (.bool (decide (0 ≤ t.fb ∧ t.fb ≤ 10000))) ∧ w' = W) := fun W => cal.cin t.fb 0 10000 W
 rw [decide_eq_false h2] at HI2
 have HX : Hid (¬ TOk t) := fun hh => h2 hh.2.1
 have HN : Hid (tar.Right t.ts) := hr
 clear h hl hr HRA h1 h2
 go_enter Tryz.func34, Tryz.ntmps34
 go_upto_region 1 with fail
 rw [HWW.out]
 clear HWW
 go_wp2_with fail
 refine HFA.out.mono ?_
 rintro e w1 ⟨f, rfl, hf, hb1⟩
 have HB1 : Hid (Below w.heap.size w w1) := HBA.out.trans (hb1.mono (Nat.le_of_lt hsz))
 have HK1 : Hid (Blk w1 w.heap.size #[.slice p len cap, .int .i64 t.ff, .int .i64 t.fb, .int .i64 t.db, .int .i64 t.al] 24) := HBK.out.below hb1 hsz
 have d1 : w1.cell? ⟨w.heap.size, 1, none⟩ = some (.int .i64 t.ff) := HK1.out.cell 1
 have d2 : w1.cell? ⟨w.heap.size, 2, none⟩ = some (.int .i64 t.fb) := HK1.out.cell 2
 have d3 : w1.cell? ⟨w.heap.size, 3, none⟩ = some (.int .i64 t.db) := HK1.out.cell 3
 have d4 : w1.cell? ⟨w.heap.size, 4, none⟩ = some (.int .i64 t.al) := HK1.out.cell 4
 obtain rfl : f = 0 := hf.ok.2 HN.out
 clear hf HFA hb1 c0 HBK HK1 hsz
 go_wp2_with fail
 refine (HI1.out _).mono ?_
 rintro e w2 ⟨rfl, hw2⟩
 subst hw2
 go_wp2_with fail
 refine (HI2.out _).mono ?_
 rintro e w2 ⟨rfl, hw2⟩
 subst hw2
 go_wp2_with fail
 all_goals first
  | (rename_i q1 q2; exact absurd q1 (by simp [undef]))
  | (go_ret; exact ⟨_, rfl, .inr (.inl ⟨HN.out, HX.out, rfl⟩), HB1.out⟩)
set_option maxHeartbeats 2000000 in
theorem tfa3 (t : Tm) (p : Option Addr) (len cap : Nat) (w : World) (h : RowD w p len t.ts) (hl : len ≤ maxLen) (hr : tar.Right t.ts) (h1 : 0 ≤ t.ff ∧ t.ff ≤ 100000) (h2 : 0 ≤ t.fb ∧ t.fb ≤ 10000) (h3 : ¬ (0 ≤ t.db ∧ t.db ≤ 10000)) : Calls Tryz.prog 34 #[.agg #[.slice p len cap, .int .i64 t.ff, .int .i64 t.fb, .int .i64 t.db, .int .i64 t.al]] w fun e w' => tar.ErrPost w (TFault t) e w' := by
 obtain ⟨WW, HWW, HBK, HBA, hsz⟩ := sh1 w #[.slice p len cap, .int .i64 t.ff, .int .i64 t.fb, .int .i64 t.db, .int .i64 t.al] 24
 have HRA : Hid (RowD WW p len t.ts) := h.below HBA.out
 have c0 : WW.cell? ⟨w.heap.size, 0, none⟩ = some (.slice p len cap) := HBK.out.cell 0
 have HFA : Hid (Calls Tryz.prog 56 #[.slice p len cap] WW fun e w' => tar.ErrPost WW (tar.FaultIs t.ts) e w') := tar.rfault p len cap t.ts _ HRA.out hl
 have HI1 : Hid (∀ W, Calls Tryz.prog 25 #[.int .i64 t.ff, .int .i64 0, .int .i64 100000] W fun e w' => e = .returned (.bool (decide (0 ≤ t.ff ∧ t.ff ≤ 100000))) ∧ w' = W) := fun W => cal.cin t.ff 0 100000 W
 rw [decide_eq_true h1] at HI1
 have HI2 : Hid (∀ W, Calls Tryz.prog 25 #[.int .i64 t.fb, .int .i64 0, .int .i64 10000] W fun e w' => e = .returned (.bool (decide (0 ≤ t.fb ∧ t.fb ≤ 10000))) ∧ w' = W) := fun W => cal.cin t.fb 0 10000 W
 rw [decide_eq_true h2] at HI2
 have HI3 : Hid (∀ W, Calls Tryz.prog 25 #[.int .i64 t.db, .int .i64 0, .int .i64 10000] W fun e w' => e = .returned (.bool (decide (0 ≤ t.db ∧ t.db ≤ 10000))) ∧ w' = W) := fun W => cal.cin t.db 0 10000 W
 rw [decide_eq_false h3] at HI3
 have HX : Hid (¬ TOk t) := fun hh => h3 hh.2.2.1
 have HN : Hid (tar.Right t.ts) := hr
 clear h hl hr HRA h1 h2 h3
 go_enter Tryz.func34, Tryz.ntmps34
 go_upto_region 1 with fail
 rw [HWW.out]
 clear HWW
 go_wp2_with fail
 refine HFA.out.mono ?_
 rintro e w1 ⟨f, rfl, hf, hb1⟩
 have HB1 : Hid (Below w.heap.size w w1) := HBA.out.trans (hb1.mono (Nat.le_of_lt hsz))
 have HK1 : Hid (Blk w1 w.heap.size #[.slice p len cap, .int .i64 t.ff, .int .i64 t.fb, .int .i64 t.db, .int .i64 t.al] 24) := HBK.out.below hb1 hsz
 have d1 : w1.cell? ⟨w.heap.size, 1, none⟩ = some (.int .i64 t.ff) := HK1.out.cell 1
 have d2 : w1.cell? ⟨w.heap.size, 2, none⟩ = some (.int .i64 t.fb) := HK1.out.cell 2
 have d3 : w1.cell? ⟨w.heap.size, 3, none⟩ = some (.int .i64 t.db) := HK1.out.cell 3
 have d4 : w1.cell? ⟨w.heap.size, 4, none⟩ = some (.int .i64 t.al) := HK1.out.cell 4
 obtain rfl : f = 0 := hf.ok.2 HN.out
 clear hf HFA hb1 c0 HBK HK1 hsz
 go_wp2_with fail
 refine (HI1.out _).mono ?_
 rintro e w2 ⟨rfl, hw2⟩
 subst hw2
 go_wp2_with fail
 refine (HI2.out _).mono ?_
 rintro e w2 ⟨rfl, hw2⟩
 subst hw2
 go_wp2_with fail
 refine (HI3.out _).mono ?_
 rintro e w2 ⟨rfl, hw2⟩
 subst hw2
 go_wp2_with fail
 all_goals first
  | (rename_i q1 q2; exact absurd q1 (by simp [undef]))
  | (go_ret; exact ⟨_, rfl, .inr (.inl ⟨HN.out, HX.out, rfl⟩), HB1.out⟩)
set_option maxHeartbeats 2000000 in
theorem tfa4 (t : Tm) (p : Option Addr) (len cap : Nat) (w : World) (h : RowD w p len t.ts) (hl : len ≤ maxLen) (hr : tar.Right t.ts) (h1 : 0 ≤ t.ff ∧ t.ff ≤ 100000) (h2 : 0 ≤ t.fb ∧ t.fb ≤ 10000) (h3 : 0 ≤ t.db ∧ t.db ≤ 10000) (h4 : ¬ (0 ≤ t.al ∧ t.al ≤ 2097151)) : Calls Tryz.prog 34 #[.agg #[.slice p len cap, .int .i64 t.ff, .int .i64 t.fb, .int .i64 t.db, .int .i64 t.al]] w fun e w' => tar.ErrPost w (TFault t) e w' := by
 obtain ⟨WW, HWW, HBK, HBA, hsz⟩ := sh1 w #[.slice p len cap, .int .i64 t.ff, .int .i64 t.fb, .int .i64 t.db, .int .i64 t.al] 24
 have HRA : Hid (RowD WW p len t.ts) := h.below HBA.out
 have c0 : WW.cell? ⟨w.heap.size, 0, none⟩ = some (.slice p len cap) := HBK.out.cell 0
 have HFA : Hid (Calls Tryz.prog 56 #[.slice p len cap] WW fun e w' => tar.ErrPost WW (tar.FaultIs t.ts) e w') := tar.rfault p len cap t.ts _ HRA.out hl
 have HI1 : Hid (∀ W, Calls Tryz.prog 25 #[.int .i64 t.ff, .int .i64 0, .int .i64 100000] W fun e w' => e = .returned (.bool (decide (0 ≤ t.ff ∧ t.ff ≤ 100000))) ∧ w' = W) := fun W => cal.cin t.ff 0 100000 W
 rw [decide_eq_true h1] at HI1
 have HI2 : Hid (∀ W, Calls Tryz.prog 25 #[.int .i64 t.fb, .int .i64 0, .int .i64 10000] W fun e w' => e = .returned (.bool (decide (0 ≤ t.fb ∧ t.fb ≤ 10000))) ∧ w' = W) := fun W => cal.cin t.fb 0 10000 W
 rw [decide_eq_true h2] at HI2
 have HI3 : Hid (∀ W, Calls Tryz.prog 25 #[.int .i64 t.db, .int .i64 0, .int .i64 10000] W fun e w' => e = .returned (.bool (decide (0 ≤ t.db ∧ t.db ≤ 10000))) ∧ w' = W) := fun W => cal.cin t.db 0 10000 W
 rw [decide_eq_true h3] at HI3
 have HI4 : Hid (∀ W, Calls Tryz.prog 25 #[.int .i64 t.al, .int .i64 0, .int .i64 2097151] W fun e w' => e = .returned (.bool (decide (0 ≤ t.al ∧ t.al ≤ 2097151))) ∧ w' = W) := fun W => cal.cin t.al 0 2097151 W
 rw [decide_eq_false h4] at HI4
 have HX : Hid (¬ TOk t) := fun hh => h4 hh.2.2.2
 have HN : Hid (tar.Right t.ts) := hr
 clear h hl hr HRA h1 h2 h3 h4
 go_enter Tryz.func34, Tryz.ntmps34
 go_upto_region 1 with fail
 rw [HWW.out]
 clear HWW
 go_wp2_with fail
 refine HFA.out.mono ?_
 rintro e w1 ⟨f, rfl, hf, hb1⟩
 have HB1 : Hid (Below w.heap.size w w1) := HBA.out.trans (hb1.mono (Nat.le_of_lt hsz))
 have HK1 : Hid (Blk w1 w.heap.size #[.slice p len cap, .int .i64 t.ff, .int .i64 t.fb, .int .i64 t.db, .int .i64 t.al] 24) := HBK.out.below hb1 hsz
 have d1 : w1.cell? ⟨w.heap.size, 1, none⟩ = some (.int .i64 t.ff) := HK1.out.cell 1
 have d2 : w1.cell? ⟨w.heap.size, 2, none⟩ = some (.int .i64 t.fb) := HK1.out.cell 2
 have d3 : w1.cell? ⟨w.heap.size, 3, none⟩ = some (.int .i64 t.db) := HK1.out.cell 3
 have d4 : w1.cell? ⟨w.heap.size, 4, none⟩ = some (.int .i64 t.al) := HK1.out.cell 4
 obtain rfl : f = 0 := hf.ok.2 HN.out
 clear hf HFA hb1 c0 HBK HK1 hsz
 go_wp2_with fail
 refine (HI1.out _).mono ?_
 rintro e w2 ⟨rfl, hw2⟩
 subst hw2
 go_wp2_with fail
 refine (HI2.out _).mono ?_
 rintro e w2 ⟨rfl, hw2⟩
 subst hw2
 go_wp2_with fail
 refine (HI3.out _).mono ?_
 rintro e w2 ⟨rfl, hw2⟩
 subst hw2
 go_wp2_with fail
 refine (HI4.out _).mono ?_
 rintro e w2 ⟨rfl, hw2⟩
 subst hw2
 go_wp2_with fail
 all_goals first
  | (rename_i q1 q2; exact absurd q1 (by simp [undef]))
  | (go_ret; exact ⟨_, rfl, .inr (.inl ⟨HN.out, HX.out, rfl⟩), HB1.out⟩)
set_option maxHeartbeats 2000000 in
theorem tfa5 (t : Tm) (p : Option Addr) (len cap : Nat) (w : World) (h : RowD w p len t.ts) (hl : len ≤ maxLen) (hr : tar.Right t.ts) (h1 : 0 ≤ t.ff ∧ t.ff ≤ 100000) (h2 : 0 ≤ t.fb ∧ t.fb ≤ 10000) (h3 : 0 ≤ t.db ∧ t.db ≤ 10000) (h4 : 0 ≤ t.al ∧ t.al ≤ 2097151) : Calls Tryz.prog 34 #[.agg #[.slice p len cap, .int .i64 t.ff, .int .i64 t.fb, .int .i64 t.db, .int .i64 t.al]] w fun e w' => tar.ErrPost w (TFault t) e w' := by
 obtain ⟨WW, HWW, HBK, HBA, hsz⟩ := sh1 w #[.slice p len cap, .int .i64 t.ff, .int .i64 t.fb, .int .i64 t.db, .int .i64 t.al] 24
 have HRA : Hid (RowD WW p len t.ts) := h.below HBA.out
 have c0 : WW.cell? ⟨w.heap.size, 0, none⟩ = some (.slice p len cap) := HBK.out.cell 0
 have HFA : Hid (Calls Tryz.prog 56 #[.slice p len cap] WW fun e w' => tar.ErrPost WW (tar.FaultIs t.ts) e w') := tar.rfault p len cap t.ts _ HRA.out hl
 have HI1 : Hid (∀ W, Calls Tryz.prog 25 #[.int .i64 t.ff, .int .i64 0, .int .i64 100000] W fun e w' => e = .returned (.bool (decide (0 ≤ t.ff ∧ t.ff ≤ 100000))) ∧ w' = W) := fun W => cal.cin t.ff 0 100000 W
 rw [decide_eq_true h1] at HI1
 have HI2 : Hid (∀ W, Calls Tryz.prog 25 #[.int .i64 t.fb, .int .i64 0, .int .i64 10000] W fun e w' => e = .returned (.bool (decide (0 ≤ t.fb ∧ t.fb ≤ 10000))) ∧ w' = W) := fun W => cal.cin t.fb 0 10000 W
 rw [decide_eq_true h2] at HI2
 have HI3 : Hid (∀ W, Calls Tryz.prog 25 #[.int .i64 t.db, .int .i64 0, .int .i64 10000] W fun e w' => e = .returned (.bool (decide (0 ≤ t.db ∧ t.db ≤ 10000))) ∧ w' = W) := fun W => cal.cin t.db 0 10000 W
 rw [decide_eq_true h3] at HI3
 have HI4 : Hid (∀ W, Calls Tryz.prog 25 #[.int .i64 t.al, .int .i64 0, .int .i64 2097151] W fun e w' => e = .returned (.bool (decide (0 ≤ t.al ∧ t.al ≤ 2097151))) ∧ w' = W) := fun W => cal.cin t.al 0 2097151 W
 rw [decide_eq_true h4] at HI4
 have HX : Hid (TOk t) := ⟨h1, h2, h3, h4⟩
 have HN : Hid (tar.Right t.ts) := hr
 clear h hl hr HRA h1 h2 h3 h4
 go_enter Tryz.func34, Tryz.ntmps34
 go_upto_region 1 with fail
 rw [HWW.out]
 clear HWW
 go_wp2_with fail
 refine HFA.out.mono ?_
 rintro e w1 ⟨f, rfl, hf, hb1⟩
 have HB1 : Hid (Below w.heap.size w w1) := HBA.out.trans (hb1.mono (Nat.le_of_lt hsz))
 have HK1 : Hid (Blk w1 w.heap.size #[.slice p len cap, .int .i64 t.ff, .int .i64 t.fb, .int .i64 t.db, .int .i64 t.al] 24) := HBK.out.below hb1 hsz
 have d1 : w1.cell? ⟨w.heap.size, 1, none⟩ = some (.int .i64 t.ff) := HK1.out.cell 1
 have d2 : w1.cell? ⟨w.heap.size, 2, none⟩ = some (.int .i64 t.fb) := HK1.out.cell 2
 have d3 : w1.cell? ⟨w.heap.size, 3, none⟩ = some (.int .i64 t.db) := HK1.out.cell 3
 have d4 : w1.cell? ⟨w.heap.size, 4, none⟩ = some (.int .i64 t.al) := HK1.out.cell 4
 obtain rfl : f = 0 := hf.ok.2 HN.out
 clear hf HFA hb1 c0 HBK HK1 hsz
 go_wp2_with fail
 refine (HI1.out _).mono ?_
 rintro e w2 ⟨rfl, hw2⟩
 subst hw2
 go_wp2_with fail
 refine (HI2.out _).mono ?_
 rintro e w2 ⟨rfl, hw2⟩
 subst hw2
 go_wp2_with fail
 refine (HI3.out _).mono ?_
 rintro e w2 ⟨rfl, hw2⟩
 subst hw2
 go_wp2_with fail
 refine (HI4.out _).mono ?_
 rintro e w2 ⟨rfl, hw2⟩
 subst hw2
 go_wp2_with fail
 all_goals first
  | (rename_i q1 q2; exact absurd q1 (by simp [undef]))
  | (go_ret; exact ⟨_, rfl, .inr (.inr ⟨⟨HN.out, HX.out⟩, rfl⟩), HB1.out⟩)
theorem rterms (t : Tm) (p : Option Addr) (len cap : Nat) (w : World) (h : RowD w p len t.ts) (hl : len ≤ maxLen) : Calls Tryz.prog 34 #[.agg #[.slice p len cap, .int .i64 t.ff, .int .i64 t.fb, .int .i64 t.db, .int .i64 t.al]] w fun e w' => tar.ErrPost w (TFault t) e w' := by
 by_cases hr : tar.Right t.ts
 ·by_cases h1 : 0 ≤ t.ff ∧ t.ff ≤ 100000
  ·by_cases h2 : 0 ≤ t.fb ∧ t.fb ≤ 10000
   ·by_cases h3 : 0 ≤ t.db ∧ t.db ≤ 10000
    ·by_cases h4 : 0 ≤ t.al ∧ t.al ≤ 2097151
     ·exact tfa5 t p len cap w h hl hr h1 h2 h3 h4
     ·exact tfa4 t p len cap w h hl hr h1 h2 h3 h4
    ·exact tfa3 t p len cap w h hl hr h1 h2 h3
   ·exact tfa2 t p len cap w h hl hr h1 h2
  ·exact tfa1 t p len cap w h hl hr h1
 ·exact tfa0 t p len cap w h hl hr
end acc
namespace deb
open tar (Du du0 Came RowD Ld ErrPost TwoPost PairT GaveD)
open Go.RowKit
set_option maxRecDepth 100000
set_option maxHeartbeats 4000000 in
theorem krec : KdRec := by
 intro w a len cap ls t bp hcame ht0 hb0
 have hr := hcame.row
 have HSH : Hid (Calls Tryz.prog 119 #[.slice a len cap, .int .i64 t, .int .i64 bp] w fun e w' => SharePost ls t bp w e w') := pshare a len cap ls t bp w hr hcame.most
 have HROW0 : Hid (RowD w a len ls) := hr
 clear hcame hr ht0 hb0
 go_enter Tryz.func114, Tryz.ntmps114
 go_wp2_with fail
 refine HSH.out.mono ?_
 rintro e w1 ⟨s, f, rfl, hf, hb1⟩
 have HB1 : Hid (Below w.heap.size w w1) := hb1
 clear hb1 HSH
 rcases hf with ⟨hm, hf, rfl⟩ | ⟨hm, ⟨ht, hse, hg⟩ | ⟨ht, rfl, rfl⟩⟩
 ·have hne : (f != 0) = true := by simpa using fun h => hm (hf.ok.1 h)
  have HN : Hid (¬ Mays ls) := hm
  have HF : Hid (FaultIs ls f) := hf
  clear hf hm
  go_wp2_with fail
  go_ret3
  exact ⟨none, 0, 0, [], 0, f, rfl, .inl ⟨HN.out, HF.out, rfl, rfl⟩, fresh_nil _ _, HB1.out⟩
 ·subst hg
  have HT : Hid (TMay t bp) := ht
  have hsb := share_bd ht
  rw [← hse] at hsb
  have HSE : Hid (s = t * bp / 10000) := hse
  have HM : Hid (Mays ls) := hm
  have HROW : Hid (RowD w1 a len ls) := HROW0.out.below HB1.out
  have HLEN : Hid (ls.length = len) := HROW.out.1
  have hl8 : len ≤ 8 := by have := hm.1; have := HLEN.out; omega
  clear ht hse hm HROW0
  go_wp2_with fail
  go_loopw [11, 12, 29] (fun u v x wr => ∃ (k : Nat) (V : Value), k ≤ len ∧ x = .int .i64 (k : Int) ∧ v = .int .i64 (max 0 (s - sumK ls k)) ∧ V = u ∧ Ld 43 wr w1.heap.size V (recK ls s k) ∧ Below w1.heap.size w1 wr) (fun _ _ x _ => len - (intOf x).toNat)
  case atStart => exact ⟨0, _, Nat.zero_le _, rfl, by show _ = Value.int .i64 (max 0 (s - 0)); rw [show max 0 (s - 0) = s by omega], rfl, tar.Ld.zero _ _ _, Below.refl _ _⟩
  case round =>
   obtain ⟨k, V, hk, rfl, rfl, hV, hu, hb⟩ := hrel
   subst hV
   have HBW : Hid (Below w1.heap.size w1 wr) := hb
   have HU : Hid (Ld 43 wr w1.heap.size V (recK ls s k)) := hu
   have hsk := sumK_bd HM.out k (by rw [HLEN.out]; exact hk)
   by_cases hlt : k < len
   ·have hdl : decide ((k : Int) < (len : Int)) = true := by simp; omega
    obtain ⟨b, off, rfl, hbl, hc⟩ := HROW.out.at (by omega)
    have c0 : wr.cell? ⟨b, off + k * 2, none⟩ = some (.int .i64 (ls.getD k du0).a) := (hb.cell (p := ⟨b, off + k * 2, none⟩) hbl).trans (hc k hlt).1
    have c1 : wr.cell? ⟨b, off + k * 2 + 1, none⟩ = some (.int .i64 (ls.getD k du0).b) := (hb.cell (p := ⟨b, off + k * 2 + 1, none⟩) hbl).trans (hc k hlt).2
    have ho := HM.out.2 k (by rw [HLEN.out]; exact hlt)
    have ho1 := ho.1.1
    have ho2 := ho.1.2
    have HN : Hid (sumK ls k + (ls.getD k du0).a = sumK ls (k + 1)) := (sumK_next ls k).symm
    have HY : Hid (0 < left (ls.getD k du0).a (sumK ls k + (ls.getD k du0).a) s → recK ls s (k + 1) = recK ls s k ++ [⟨left (ls.getD k du0).a (sumK ls k + (ls.getD k du0).a) s, (ls.getD k du0).b⟩]) := recK_yes ls s k
    have HZ : Hid (¬ 0 < left (ls.getD k du0).a (sumK ls k + (ls.getD k du0).a) s → recK ls s (k + 1) = recK ls s k) := recK_no ls s k
    have hzl : (recK ls s k).length ≤ 1000000 := by have := recK_len ls s k; omega
    clear hc hb hu ho
    generalize recK ls s k = Z at *
    generalize hq1 : sumK ls k = q at *
    generalize (ls.getD k du0).a = x at *
    generalize (ls.getD k du0).b = y at *
    have HBX : Hid (Blk (wr.alloc (.cells #[.int .i64 x, .int .i64 y] 43)) wr.heap.size #[.int .i64 x, .int .i64 y] 43) := Blk.new wr _ _
    generalize hR : max 0 (s - q) = R at *
    have hR0 : 0 ≤ R := by omega
    have hR1 : R ≤ 100000000 := by omega
    have hmin := tar.run_min R x _ rfl
    generalize hp : min R x = p at *
    have hp0 : 0 ≤ p := by omega
    have hp1 : p ≤ x := by omega
    have hp2 : p ≤ R := by omega
    by_cases hpos : 0 < x - p
    ·
     have HRN : Hid (R - p = max 0 (s - sumK ls (k + 1))) := by show _ = _; rw [← HN.out]; omega
     have hd2 : decide (0 < x - p) = true := decide_eq_true hpos
     have hle : left x (q + x) s = x - p := by unfold left; omega
     rw [hle] at HY
     have HZ2 : Hid (recK ls s (k + 1) = Z ++ [⟨x - p, y⟩]) := HY.out hpos
     clear HY HZ hle
     clear hq1 hR hp hsk HN
     go_wp2_with (first
      | (refine wp_let1 rfl 3 _ _ rfl (wr.heap.size) 0 rfl .i64 (x - p) rfl (by kernel_rfl) #[.int .i64 x, .int .i64 y] 43 HBX.out (by simp) ?_)
      | fail)
     intro W1 hU1
     have HX1 : Hid (Blk W1 wr.heap.size #[.int .i64 (x - p), .int .i64 y] 43) := hU1.blk
     have hbw : Below wr.heap.size wr W1 := hU1.bel _ _ (Nat.le_refl _) ((Below.refl _ _).alloc (Nat.le_refl _) _)
     have HBW1 := shB HBW hbw
     have HU1 : Hid (Ld 43 W1 w1.heap.size V Z) := HU.out.next hbw
     have d0 : W1.cell? ⟨wr.heap.size, 0, none⟩ = some (.int .i64 (x - p)) := HX1.out.cell 0
     have d1 : W1.cell? ⟨wr.heap.size, 1, none⟩ = some (.int .i64 y) := HX1.out.cell 1
     clear hU1 hbw HBX HBW HU c0 c1
     have HBA : Hid (Below w1.heap.size w1 (W1.alloc (.cells #[.int .i64 (x - p), .int .i64 y] 43))) := HBW1.out.alloc HBW1.out.size _
     have HZA : Hid (Ld 43 (W1.alloc (.cells #[.int .i64 (x - p), .int .i64 y] 43)) w1.heap.size V Z) := HU1.out.alloc _
     have HCA : Hid ((W1.alloc (.cells #[.int .i64 (x - p), .int .i64 y] 43)).cell? ⟨W1.heap.size, 0, none⟩ = some (.int .i64 (x - p)) ∧ (W1.alloc (.cells #[.int .i64 (x - p), .int .i64 y] 43)).cell? ⟨W1.heap.size, 1, none⟩ = some (.int .i64 y)) := ⟨(Blk.new W1 _ _).cell 0, (Blk.new W1 _ _).cell 1⟩
     go_wp2_with (first
      | (at_builtin; refine tar.wp_pair debtT rfl _ _ rfl w1.heap.size (W1.heap.size) V Z ⟨x - p, y⟩ rfl rfl HZA.out HCA.out hzl HBA.out.size ?_)
      | fail)
     intro v3 w3 h3 hg3
     have HB3 : Hid (Below w1.heap.size w1 w3) := tar.own_bel HZA.out hg3 HBA.out (Nat.le_refl _) HBA.out.size
     have H3 : Hid (Ld 43 w3 w1.heap.size v3 (Z ++ [⟨x - p, y⟩])) := h3
     clear h3 hg3 HZA HCA HBA HU1 d0 d1
     go_wp2_with fail
     go_roundw
     case rel => exact ⟨k + 1, v3, by omega, by go_num, by rw [← HRN.out], by first | rfl | trivial, by rw [HZ2.out]; exact H3.out, HB3.out⟩
     case measure => simp [intOf]; omega
    ·
     have HRN : Hid (R - p = max 0 (s - sumK ls (k + 1))) := by show _ = _; rw [← HN.out]; omega
     have hd2 : decide (0 < x - p) = false := decide_eq_false hpos
     have hle : ¬ 0 < left x (q + x) s := by unfold left; omega
     have HZ2 : Hid (recK ls s (k + 1) = Z) := HZ.out hle
     clear HY HZ hle
     clear hq1 hR hp hsk HN
     go_wp2_with (first
      | (refine wp_let1 rfl 3 _ _ rfl (wr.heap.size) 0 rfl .i64 (x - p) rfl (by kernel_rfl) #[.int .i64 x, .int .i64 y] 43 HBX.out (by simp) ?_)
      | fail)
     intro W1 hU1
     have HX1 : Hid (Blk W1 wr.heap.size #[.int .i64 (x - p), .int .i64 y] 43) := hU1.blk
     have hbw : Below wr.heap.size wr W1 := hU1.bel _ _ (Nat.le_refl _) ((Below.refl _ _).alloc (Nat.le_refl _) _)
     have HBW1 := shB HBW hbw
     have HU1 : Hid (Ld 43 W1 w1.heap.size V Z) := HU.out.next hbw
     have d0 : W1.cell? ⟨wr.heap.size, 0, none⟩ = some (.int .i64 (x - p)) := HX1.out.cell 0
     have d1 : W1.cell? ⟨wr.heap.size, 1, none⟩ = some (.int .i64 y) := HX1.out.cell 1
     clear hU1 hbw HBX HBW HU c0 c1
     go_wp2_with fail
     go_roundw
     case rel => exact ⟨k + 1, V, by omega, by go_num, by rw [← HRN.out], by first | rfl | trivial, by rw [HZ2.out]; exact HU1.out, HBW1.out⟩
     case measure => simp [intOf]; omega
   ·obtain rfl : k = len := by omega
    have hdl : decide ((k : Int) < (k : Int)) = false := by simp
    have HV : Hid (sumK ls k = sumD ls) := by have := sumK_all ls; rw [HLEN.out] at this; exact this
    have HRE : Hid (recK ls s k = recK ls (t * bp / 10000) ls.length) := by show _ = _; rw [HLEN.out, HSE.out]
    have hmz : Mays (recK ls s k) := ⟨Nat.le_trans (recK_len ls s k) hl8, fits_mem fun d hd => (recK_ok HM.out s k (by rw [HLEN.out]; exact Nat.le_refl _) d hd).1⟩
    obtain ⟨a3, cap3, hv3, hcm⟩ := ld_fresh hu hmz
    subst hv3
    have HCM : Hid (Fresh wr w.heap.size a3 (recK ls s k).length cap3 (recK ls s k)) := hcm.low HB1.out.size
    have HB9 : Hid (Below w.heap.size w wr) := HB1.out.trans (HBW.out.mono HB1.out.size)
    have HP : Hid (s - max 0 (s - sumK ls k) = min (t * bp / 10000) (sumD ls)) := by show _ = _; rw [← HSE.out, ← HV.out]; omega
    clear hb hu hmz hcm HU
    generalize (recK ls s k).length = len3 at *
    generalize recK ls s k = Z at *
    generalize hq : max 0 (s - sumK ls k) = q at *
    have hq0 : 0 ≤ q := by omega
    have hq1 : q ≤ s := by omega
    clear hq hsk
    go_wp2_with fail
    go_ret3
    exact ⟨a3, len3, cap3, Z, s - q, 0, rfl, .inr (.inr ⟨HM.out, HT.out, rfl, HRE.out, HP.out⟩), HCM.out, HB9.out⟩
 ·have HM : Hid (Mays ls) := hm
  have HT : Hid (¬ TMay t bp) := ht
  clear ht hm
  go_wp2_with fail
  go_ret3
  exact ⟨none, 0, 0, [], 0, 2, rfl, .inr (.inl ⟨HM.out, HT.out, rfl, rfl, rfl⟩), fresh_nil _ _, HB1.out⟩
end deb
end Go.Proofs.YtomibnggmhjdfaaGreat
