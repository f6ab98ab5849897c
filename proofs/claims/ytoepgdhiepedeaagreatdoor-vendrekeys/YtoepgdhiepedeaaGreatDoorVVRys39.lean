import Derived.Test.YtoepgdhiepedeaaGreatDoorVVRys24
import Derived.Test.YtoepgdhiepedeaaGreatDoorVVRys28
set_option linter.unusedVariables false
set_option linter.unusedSimpArgs false
set_option maxHeartbeats 4000000
set_option maxRecDepth 100000
namespace Go.Proofs.YtoepgdhiepedeaaGreatDoor
namespace book
open Go.RowKit
open acc (Ac Tm Bi APost BPost TFault TRight OpenIs OweIs SellIs GrantIs RekeyIs wf6 ACame TCame fresh_updN fresh_drew came_lt)
set_option maxRecDepth 100000
def RegR(bk : List Cm)(me : Int)(bk' : List Cm)(f : Int): Prop := (¬ NoneAt bk me ∧ f = 21) ∨ (NoneAt bk me ∧ f = 0 ∧ bk' = bk ++ [⟨⟨me, 0, 1, 0, 0, -1, []⟩, []⟩])
theorem step_cust2{w : World}{o : Oper}{a : Act}{K : Act → World → Prop}{Q : Exit → Act → World → Prop}(d : Nat)(hd : o.dst = some d)(s x : Operand)
  (ho : o.op=.call { callee :=.builtin .append, args := #[s, x], argTypes := #[63, 63] })
  (base G : Nat) (v : Value) (l : List Cu) (r : Cu) (hs : a.eval s = v) (hx : a.eval x=.slice (some ⟨G, 0, none⟩) 1 1) (hv : Lc w base v l) (hu : Blk w G r.cs.toArray 71) (hn : l.length ≤ 2000000) (hbase : base ≤ w.heap.size)
  (h : ∀v' w', Lc w' base v' (l ++ [r]) → w.grownBy w' v.ownBlock → (v'.ownBlock = v.ownBlock ∨ v'.ownBlock = some w.heap.size) → K (a.put (some d) v') w') : Oper.wp Tryz.prog o a w K Q := by
 rw[← hd] at h
 exact step_cust s x ho base G v l r hs hx hv hu hn hbase h
theorem lc_same{w w' : World}{base : Nat}{v : Value}{l : List Cu}(h : Lc w base v l)(he : ∀g, v.ownBlock = some g → w'.heap[g]? = w.heap[g]?): Lc w' base v l := by
 refine⟨h.1, ?_⟩
 rcases h.2 with i|⟨c, a, b, d, e, f, rest⟩
 ·exact .inl i
 ·exact .inr ⟨c, a, b, d, e, by rw[he c (by rw[d]; rfl)]; exact f, rest⟩
theorem Holds.same{w w' : World}{base : Nat}{V : Value}{xs : List Cu}{bk : List Cm}(h : Holds w base V xs bk)(he : ∀g, base ≤ g → w'.heap[g]? = w.heap[g]?): Holds w' base V xs bk :=
 ⟨lc_same h.row (λg a => he g (World.ownsRow.lt h.row g a).1), h.len, λi b => (h.has i b).same (λg a => he g (World.ownsRow.lt (h.has i b).so g a).1) (λc p d => he _ ((h.has i b).ds.new c p d)), h.off, h.self, h.apart⟩
set_option maxHeartbeats 8000000 in
theorem breg(w0 : World)(base gW B : Nat)(t : Tm)(pt : Option Addr)(lt ct : Nat)(a : Option Addr)(n cap : Nat)(xs : List Cu)(bk : List Cm)(me : Int)(w : World)(h : Wr w0 base gW B t pt lt ct (.slice a n cap) xs bk w)(hme : 0 ≤ me ∧ me ≤ 49): Calls Tryz.prog 152 #[.pointer (some ⟨gW, 0, none⟩), .int .i64 me] w λe w' => WPost w0 base gW B t pt lt ct (RegR bk me) w e w' := by
 have HNO : Hid (∀W, zC 164 #[.int .i64 21] W λe w' => e=.panicked (thrown 21) ∧ w' = W) := λW => insist_no 21 (by decide) W
 have HOK : Hid (∀W, zC 164 #[.int .i64 0] W λe w' => e=.returned (.tuple #[]) ∧ w' = W) := λW => insist_ok W
 have HOP := zh (acc.kopen w me (wf_i (by omega) (by omega)))
 have HR : Hid (Wr w0 base gW B t pt lt ct (.slice a n cap) xs bk w) := h
 have HME : Hid (0 ≤ me ∧ me ≤ 49) := hme
 have q6 : w.cell? ⟨gW, 6, none⟩ = some (.map (some B)) := h.blk.cell 6
 have hlk := lookI_run h.mp me
 clear h hme
 cases hf : firstI (mes bk) me with
 |some k =>
  rw[hf] at hlk
  simp only[Option.getD_some, Option.isSome_some] at hlk
  have HN : Hid (¬ NoneAt bk me) := (first_some hf).some
  clear hf
  go_enter Tryz.func152, Tryz.ntmps152
  go_wp2_with fail
  refine(HNO.out _).mono ?_
  rintro e W9 ⟨rfl, rfl⟩
  exact⟨rfl, Kp.refl _ _ _ _, .inr ⟨21, [], by decide, rfl, .inl ⟨HN.out, rfl⟩⟩⟩
 |none =>
  rw[hf] at hlk
  simp only[Option.getD_none, Option.isSome_none] at hlk
  have HN := zh (first_none hf)
  have HFI := zh hf
  clear hf
  go_enter Tryz.func152, Tryz.ntmps152
  go_wp2_with fail
  refine HOP.out.mono ?_
  rintro e w1 ⟨b, pb, lb, cb, f, rfl, hi, hf, hb1⟩
  obtain⟨rfl, rfl⟩ : b = ⟨me, 0, 1, 0, 0, -1, []⟩ ∧ f = 0 := hi.one (.inl ⟨HME.out, rfl, rfl⟩)
  have HLB := zh hf.came.row.1.symm
  have HK1 := zh (HR.out.kp hb1)
  have HF1 := zh (hf.low HR.out.sz)
  have HR1 := zh (HR.out.next hb1)
  have HBW := zh HR.out.bel
  have HGO0 : Hid ((Value.slice a n cap).ownBlock = some w1.heap.size → False) := λq => by have := (World.ownsRow.lt HR1.out.hold.row _ q).2; omega
  clear hb1 hf hi q6 hlk
  unfold acc.Ac.v acc.Ac.cs
  obtain⟨W2, HWW, HA2, HBB, -⟩ := sh1 w1 #[.int .i64 me, .int .i64 0, .int .i64 1, .int .i64 0, .int .i64 0, .int .i64 (-1), .slice pb lb cb] 55
  have HR2 := zh (HR1.out.next HBB.out)
  have HK2 := zh (HK1.out.trans (HR1.out.kp HBB.out))
  have HF2 := zh (HF1.out.below HBB.out)
  have HGA : Hid (base ≤ w1.heap.size) := HR1.out.sz
  go_upto_region 4 with fail
  rw[HWW.out]
  generalize w1.heap.size = ga at *
  go_wp2_with fail
  refine(HOK.out _).mono ?_
  rintro e W9 ⟨rfl, hw9⟩
  obtain rfl : W2 = W9 := hw9.symm
  go_wp2_with fail
  refine wp_region_held_drew (S := λu => Blk u gW #[.slice a n cap, .slice pt lt ct, .int .i64 t.ff, .int .i64 t.fb, .int .i64 t.db, .int .i64 t.al, .map (some B)] 170) (by kernel_rfl) (show _ from Blk.drew HR2.out.blk 1) (λhHeld => ?_)
  have HR3 : Hid (Wr w0 base gW B t pt lt ct (.slice a n cap) xs bk W2.drew) := HR2.out.next zb.drew
  have HK3 : Hid (Kp base gW B w W2.drew) := HK2.out.trans (HR2.out.kp zb.drew)
  have HF3 := zh (fresh_drew HF2.out)
  have HA3 : Hid (Blk W2.drew ga #[.int .i64 me, .int .i64 0, .int .i64 1, .int .i64 0, .int .i64 0, .int .i64 (-1), .slice pb lb cb] 55) := Blk.drew HA2.out 1
  generalize W2.drew = U5 at *
  refine zt' 0 (.pointer (some ⟨gW, 0, none⟩)) ?_
  refine zt' 1 (.pointer (some ⟨gW, 0, none⟩)) ?_
  refine zt' 2 (.pointer (some ⟨gW, 6, none⟩)) ?_
  refine zu' 3 (.map (some B)) rfl rfl (Or.inl ⟨by rfl, λv hv => by have g0 := hv.cell 6; clear hv; go_simp⟩) ?_
  refine zt' 4 (.int .i64 me) ?_
  refine zt' 5 (.pointer (some ⟨gW, 0, none⟩)) ?_
  refine zt' 6 (.pointer (some ⟨gW, 0, none⟩)) ?_
  refine zt' 7 (.pointer (some ⟨gW, 0, none⟩)) ?_
  refine zt' 8 (.pointer (some ⟨gW, 0, none⟩)) ?_
  refine zu' 9 (.slice a n cap) rfl rfl (Or.inl ⟨by rfl, λv hv => by have g0 := hv.cell 0; clear hv; go_simp⟩) ?_
  refine zt' 10 (.int .i64 (n : Int)) ?_
  obtain⟨W3, hup, hmp, hoth, hbel, hsz, hgr⟩ := updI_run HR3.out.mp me HFI.out
  rw[show (mes bk).length = n by rw[mes_len, ← HR3.out.hold.len]; exact(by obtain⟨_, _, hv, _⟩ := HR3.out.hold.row.row; injection hv with _ e1 _; exact e1.symm)] at hup
  refine zo 11 λK hK => ?_
  rw[if_pos (by rfl)]
  refine wp_mapOp 168 _ _ _ rfl (.map (some B)) (.int .i64 me) (.int .i64 (n : Int)) rfl rfl rfl hup rfl ?_
  have HW3 : Hid (Blk W3 gW #[.slice a n cap, .slice pt lt ct, .int .i64 t.ff, .int .i64 t.fb, .int .i64 t.db, .int .i64 t.al, .map (some B)] 170) := by show W3.heap[gW]? = _; rw[hoth gW HR3.out.ne]; exact HR3.out.blk
  have HA6 : Hid (Blk W3 ga #[.int .i64 me, .int .i64 0, .int .i64 1, .int .i64 0, .int .i64 0, .int .i64 (-1), .slice pb lb cb] 55) := by show W3.heap[ga]? = _; rw[hoth ga (by have := HR3.out.gb; have := HGA.out; omega)]; exact HA3.out
  have HM6 : Hid (MpI W3 B (mes bk ++ [me])) := hmp
  have HH6 : Hid (Holds W3 base (.slice a n cap) xs bk) := HR3.out.hold.same (λg hg => hoth g (by have := HR3.out.gb; omega))
  have HF6 : Hid (deb.Fresh W3 base pb lb cb []) := ⟨came_same HF3.out.came (λhn p hp => hoth _ (by have := HF3.out.new hn p hp; have := HR3.out.gb; omega)), HF3.out.new⟩
  have HK6 : Hid (Kp base gW B w W3) := HK3.out.trans ⟨hgr.os, hgr.tape, hgr.output, hgr.size, λk _ _ h2 => hoth k h2⟩
  have HS6 : Hid (base ≤ W3.heap.size) := by show _ ≤ _; rw[hsz]; exact HR3.out.sz
  have HGE : Hid (gW<base ∧ B<base ∧ gW≠B ∧ w0.heap.size ≤ gW ∧ w0.heap.size ≤ B) := ⟨HR3.out.gw, HR3.out.gb, HR3.out.ne, HR3.out.n0, HR3.out.n1⟩
  have HB6 : Hid (zB w0 W3) := hbel _ _ HR3.out.n1 HR3.out.bel
  have HWF : Hid (AWf bk) := HR3.out.wf
  have HSM : Hid (xs.length ≤ 120) := by show _ ≤ _; rw[HR3.out.hold.len]; exact HR3.out.few.1
  clear hup hmp hoth hbel hsz hgr HF3 HA3 HK3
  refine hK.out _ _ HW3.out (λhHeld => ?_)
  clear hK K HR3
  refine wpAnyH_done (by kernel_rfl) ?_ _
  clear hHeld
  go_wp2_with fail
  refine wp_region_held_drew (S := λu => Blk u ga #[.int .i64 me, .int .i64 0, .int .i64 1, .int .i64 0, .int .i64 0, .int .i64 (-1), .slice pb lb cb] 55) (by kernel_rfl) (show _ from Blk.drew HA6.out 1) (λhHeld => ?_)
  have q0 : W3.drew.cell? ⟨gW, 0, none⟩ = some (.slice a n cap) := HW3.out.cell 0
  have G0 : Hid (Blk W3.drew gW #[.slice a n cap, .slice pt lt ct, .int .i64 t.ff, .int .i64 t.fb, .int .i64 t.db, .int .i64 t.al, .map (some B)] 170) := HW3.out
  have G1 : Hid (Blk W3.drew ga #[.int .i64 me, .int .i64 0, .int .i64 1, .int .i64 0, .int .i64 0, .int .i64 (-1), .slice pb lb cb] 55) := HA6.out
  have G2 : Hid (MpI W3.drew B (mes bk ++ [me])) := HM6.out
  have G3 : Hid (Holds W3.drew base (.slice a n cap) xs bk) := HH6.out.same (λg hg => rfl)
  have G4 : Hid (deb.Fresh W3.drew base pb lb cb []) := fresh_drew HF6.out
  have G5 : Hid (Kp base gW B w W3.drew) := HK6.out.trans (.of zb.drew (Nat.le_refl base))
  have G6 : Hid (base ≤ W3.drew.heap.size) := HS6.out
  have G7 : Hid (zB w0 W3.drew) := HB6.out.drew
  clear HW3 HA6 HM6 HH6 HF6 HK6 HS6 HB6
  generalize W3.drew = U at *
  refine zt' 0 (.pointer (some ⟨gW, 0, none⟩)) ?_
  refine zt' 1 (.pointer (some ⟨gW, 0, none⟩)) ?_
  refine zt' 2 (.pointer (some ⟨gW, 0, none⟩)) ?_
  refine zt' 3 (.pointer (some ⟨gW, 0, none⟩)) ?_
  refine zt' 4 (.pointer (some ⟨gW, 0, none⟩)) ?_
  refine zu' 6 (.agg #[.int .i64 me, .int .i64 0, .int .i64 1, .int .i64 0, .int .i64 0, .int .i64 (-1), .slice pb lb cb]) rfl rfl (Or.inl ⟨by rfl, λv hv => by have g0 := hv.cell 0; have g1 := hv.cell 1; have g2 := hv.cell 2; have g3 := hv.cell 3; have g4 := hv.cell 4; have g5 := hv.cell 5; have g6 := hv.cell 6; clear hv; go_simp⟩) ?_
  refine zt' 7 (.agg #[.int .i64 me, .int .i64 0, .int .i64 1, .int .i64 0, .int .i64 0, .int .i64 (-1), .slice pb lb cb, .slice none 0 0]) ?_
  have HB0 : Hid (zB w0 w) := HBW.out
  have HAO : Hid (∀g, (Value.slice a n cap).ownBlock = some g → ga = g → False) := λg hg e1 => by subst e1; exact HGO0.out hg
  refine wpAnyH_ready (rs := [5, 8]) (by kernel_rfl) (by simp) (AllReadyH.cons rfl (λK hK => ?_) (AllReadyH.cons rfl (λK hK => ?_) AllReadyH.nil))
  ·rw[if_pos (by rfl)]
   refine wp_runOp (v :=.slice a n cap) (w' := U) 42 rfl (by clear hK; go_simp) ?_
   refine hK.out _ _ G1.out (λhHeld => ?_)
   clear hK K
   simp only[Act.put, zqa, zqb, zqc]
   refine zo 8 λK hK => ?_
   rw[if_pos (by rfl)]
   refine wp_runOp (v :=.slice (some ⟨U.heap.size, 0, none⟩) 1 1) (w' := (U.alloc (.cells #[.int .i64 me, .int .i64 0, .int .i64 1, .int .i64 0, .int .i64 0, .int .i64 (-1), .slice pb lb cb, .slice none 0 0] 71))) 45 rfl (by clear hK; go_simp) ?_
   refine hK.out _ _ (G1.out.alloc _) (λhHeld => ?_)
   clear hK K q0
   simp only[Act.put, zqa, zqb, zqc]
   have J0 : Hid (Blk (U.alloc (.cells #[.int .i64 me, .int .i64 0, .int .i64 1, .int .i64 0, .int .i64 0, .int .i64 (-1), .slice pb lb cb, .slice none 0 0] 71)) gW #[.slice a n cap, .slice pt lt ct, .int .i64 t.ff, .int .i64 t.fb, .int .i64 t.db, .int .i64 t.al, .map (some B)] 170) := G0.out.alloc _
   have J1 : Hid (Blk (U.alloc (.cells #[.int .i64 me, .int .i64 0, .int .i64 1, .int .i64 0, .int .i64 0, .int .i64 (-1), .slice pb lb cb, .slice none 0 0] 71)) ga #[.int .i64 me, .int .i64 0, .int .i64 1, .int .i64 0, .int .i64 0, .int .i64 (-1), .slice pb lb cb] 55) := G1.out.alloc _
   have J2 : Hid (MpI (U.alloc (.cells #[.int .i64 me, .int .i64 0, .int .i64 1, .int .i64 0, .int .i64 0, .int .i64 (-1), .slice pb lb cb, .slice none 0 0] 71)) B (mes bk ++ [me])) := G2.out.below (zb.alloc zc _)
   have J3 : Hid (Holds (U.alloc (.cells #[.int .i64 me, .int .i64 0, .int .i64 1, .int .i64 0, .int .i64 0, .int .i64 (-1), .slice pb lb cb, .slice none 0 0] 71)) base (.slice a n cap) xs bk) := G3.out.next (zb.alloc zc _)
   have J4 : Hid (deb.Fresh (U.alloc (.cells #[.int .i64 me, .int .i64 0, .int .i64 1, .int .i64 0, .int .i64 0, .int .i64 (-1), .slice pb lb cb, .slice none 0 0] 71)) base pb lb cb []) := G4.out.below (zb.alloc zc _)
   have J5 : Hid (Kp base gW B w (U.alloc (.cells #[.int .i64 me, .int .i64 0, .int .i64 1, .int .i64 0, .int .i64 0, .int .i64 (-1), .slice pb lb cb, .slice none 0 0] 71))) := G5.out.trans (.of (zb.alloc zc _) G6.out)
   have J6 : Hid (base ≤ (U.alloc (.cells #[.int .i64 me, .int .i64 0, .int .i64 1, .int .i64 0, .int .i64 0, .int .i64 (-1), .slice pb lb cb, .slice none 0 0] 71)).heap.size) := by show _ ≤ _; have := G6.out; simp; omega
   have J7 : Hid (zB w0 (U.alloc (.cells #[.int .i64 me, .int .i64 0, .int .i64 1, .int .i64 0, .int .i64 0, .int .i64 (-1), .slice pb lb cb, .slice none 0 0] 71))) := G7.out.alloc G7.out.size _
   have J8 : Hid (Blk (U.alloc (.cells #[.int .i64 me, .int .i64 0, .int .i64 1, .int .i64 0, .int .i64 0, .int .i64 (-1), .slice pb lb cb, .slice none 0 0] 71)) U.heap.size #[.int .i64 me, .int .i64 0, .int .i64 1, .int .i64 0, .int .i64 0, .int .i64 (-1), .slice pb lb cb, .slice none 0 0] 71) := Blk.new _ _ _
   clear G0 G1 G2 G3 G4 G5 G6 G7
   generalize U.heap.size = gn at *
   generalize (U.alloc (.cells #[.int .i64 me, .int .i64 0, .int .i64 1, .int .i64 0, .int .i64 0, .int .i64 (-1), .slice pb lb cb, .slice none 0 0] 71)) = U2 at *
   refine zo 9 λK hK => ?_
   rw[if_pos (by rfl)]
   refine step_cust2 46 rfl _ _ rfl base gn _ xs ⟨me, 0, 1, 0, 0, -1, pb, lb, cb, none, 0, 0⟩ rfl rfl J3.out.row J8.out (by have := HSM.out; omega) J6.out ?_
   intro v3 w9 h3 hg3 ho3
   obtain⟨p3, c3, rfl, _, _, _⟩ := h3.row
   have hown : ∀g, (Value.slice a n cap).ownBlock = some g → base ≤ g := λg hg => (World.ownsRow.lt J3.out.row g hg).1
   have J9 : Hid (Holds w9 base (.slice p3 (xs ++ [(⟨me, 0, 1, 0, 0, -1, pb, lb, cb, none, 0, 0⟩ : Cu)]).length c3) (xs ++ [⟨me, 0, 1, 0, 0, -1, pb, lb, cb, none, 0, 0⟩]) (bk ++ [⟨⟨me, 0, 1, 0, 0, -1, []⟩, []⟩])) := J3.out.snoc ⟨⟨rfl, rfl, rfl, rfl, rfl, rfl⟩, J4.out, Lo.zero _ _⟩ rfl HLB.out h3 hg3 ho3
   have hlow : ∀g, g<base → w9.heap[g]? = U2.heap[g]? := λg hg => hg3.block g (by have := J6.out; omega) (λq => by have := hown g q.symm; omega)
   have L0 : Hid (Blk w9 gW #[.slice a n cap, .slice pt lt ct, .int .i64 t.ff, .int .i64 t.fb, .int .i64 t.db, .int .i64 t.al, .map (some B)] 170) := by show w9.heap[gW]? = _; rw[hlow gW HGE.out.1]; exact J0.out
   have L1 : Hid (Blk w9 ga #[.int .i64 me, .int .i64 0, .int .i64 1, .int .i64 0, .int .i64 0, .int .i64 (-1), .slice pb lb cb] 55) := by show w9.heap[ga]? = _; exact(blk_kept J1.out hg3 (λq => HAO.out _ q.symm rfl))
   have L2 : Hid (MpI w9 B (mes bk ++ [me])) := by show w9.heap[B]? = _; rw[hlow B HGE.out.2.1]; exact J2.out
   have L5 := zh (J5.out.trans (.grown hg3 J6.out hown))
   have L6 : Hid (base ≤ w9.heap.size) := Nat.le_trans J6.out hg3.size
   have L7 : Hid (zB w0 w9) := L5.out.bel (HB0.out) (by have := HGE.out; omega) HGE.out.2.2.2.1 HGE.out.2.2.2.2
   refine hK.out _ _ L1.out (λhHeld => ?_)
   clear hK K h3 hg3 ho3 hown hlow J0 J1 J2 J3 J4 J5 J6 J7 J8
   simp only[Act.put, zqa, zqb, zqc]
   generalize (xs ++ [(⟨me, 0, 1, 0, 0, -1, pb, lb, cb, none, 0, 0⟩ : Cu)]).length = n3 at *
   refine zt' 10 (.pointer (some ⟨gW, 0, none⟩)) ?_
   refine zt' 11 (.pointer (some ⟨gW, 0, none⟩)) ?_
   refine zt' 12 (.pointer (some ⟨gW, 0, none⟩)) ?_
   refine zo 13 λK hK => ?_
   rw[if_pos (by rfl)]
   refine acc.wp_letOp1 63 _ _ rfl gW 0 rfl (.slice p3 n3 c3) rfl rfl (by kernel_rfl) rfl #[.slice a n cap, .slice pt lt ct, .int .i64 t.ff, .int .i64 t.fb, .int .i64 t.db, .int .i64 t.al, .map (some B)] 170 L0.out (by simp) rfl ?_
   intro WF hU
   have M1 : Hid (Blk WF ga #[.int .i64 me, .int .i64 0, .int .i64 1, .int .i64 0, .int .i64 0, .int .i64 (-1), .slice pb lb cb] 55) := hU.keep L1.out (by have := HGE.out.1; have := HGA.out; omega)
   have MF : Hid (WPost w0 base gW B t pt lt ct (RegR bk me) w (.returned (.tuple #[])) WF) := by
    refine⟨L5.out.trans (.upd hU (.inr rfl)), .inl ⟨.slice p3 n3 c3, _, _, rfl, .inr ⟨HN.out, rfl, rfl⟩, λhsm => ⟨hU.blk, ?_, J9.out.same (λg hg => hU.oth g (by have := HGE.out.1; omega)), HGE.out.1, HGE.out.2.1, HGE.out.2.2.1, HGE.out.2.2.2.1, HGE.out.2.2.2.2, by rw[hU.size]; exact L6.out, hU.bel _ _ HGE.out.2.2.2.1 L7.out, hsm, ?_⟩⟩⟩
    ·have e1 : mes (bk ++ [(⟨⟨me, 0, 1, 0, 0, -1, []⟩, []⟩ : Cm)]) = mes bk ++ [me] := by simp[mes]
     rw[e1]
     show WF.heap[B]? = _
     rw[hU.oth B (Ne.symm HGE.out.2.2.1)]
     exact L2.out
    ·refine HWF.out.snoc ?_
     have hm := HME.out
     exact⟨wf_i (z := me) (by omega) (by omega), wf_i (z := 0) (by omega) (by omega), wf_i (z := 1) (by omega) (by omega), wf_i (z := 0) (by omega) (by omega), wf_i (z := 0) (by omega) (by omega), wf_i (z := -1) (by omega) (by omega)⟩
   refine hK.out _ _ M1.out (λhHeld => ?_)
   clear hK K hU
   refine wpAnyH_done (by kernel_rfl) ?_ _
   clear hHeld
   go_wp2_with fail
   go_end0
   exact MF.out
  ·rw[if_pos (by rfl)]
   refine wp_runOp (v :=.slice (some ⟨U.heap.size, 0, none⟩) 1 1) (w' := (U.alloc (.cells #[.int .i64 me, .int .i64 0, .int .i64 1, .int .i64 0, .int .i64 0, .int .i64 (-1), .slice pb lb cb, .slice none 0 0] 71))) 45 rfl (by clear hK; go_simp) ?_
   refine hK.out _ _ (G1.out.alloc _) (λhHeld => ?_)
   clear hK K q0
   simp only[Act.put, zqa, zqb, zqc]
   have q0 : (U.alloc (.cells #[.int .i64 me, .int .i64 0, .int .i64 1, .int .i64 0, .int .i64 0, .int .i64 (-1), .slice pb lb cb, .slice none 0 0] 71)).cell? ⟨gW, 0, none⟩ = some (.slice a n cap) := (G0.out.alloc _).cell 0
   refine zo 5 λK hK => ?_
   rw[if_pos (by rfl)]
   refine wp_runOp (v :=.slice a n cap) (w' := (U.alloc (.cells #[.int .i64 me, .int .i64 0, .int .i64 1, .int .i64 0, .int .i64 0, .int .i64 (-1), .slice pb lb cb, .slice none 0 0] 71))) 42 rfl (by clear hK; go_simp) ?_
   refine hK.out _ _ (G1.out.alloc _) (λhHeld => ?_)
   clear hK K q0
   simp only[Act.put, zqa, zqb, zqc]
   have J0 : Hid (Blk (U.alloc (.cells #[.int .i64 me, .int .i64 0, .int .i64 1, .int .i64 0, .int .i64 0, .int .i64 (-1), .slice pb lb cb, .slice none 0 0] 71)) gW #[.slice a n cap, .slice pt lt ct, .int .i64 t.ff, .int .i64 t.fb, .int .i64 t.db, .int .i64 t.al, .map (some B)] 170) := G0.out.alloc _
   have J1 : Hid (Blk (U.alloc (.cells #[.int .i64 me, .int .i64 0, .int .i64 1, .int .i64 0, .int .i64 0, .int .i64 (-1), .slice pb lb cb, .slice none 0 0] 71)) ga #[.int .i64 me, .int .i64 0, .int .i64 1, .int .i64 0, .int .i64 0, .int .i64 (-1), .slice pb lb cb] 55) := G1.out.alloc _
   have J2 : Hid (MpI (U.alloc (.cells #[.int .i64 me, .int .i64 0, .int .i64 1, .int .i64 0, .int .i64 0, .int .i64 (-1), .slice pb lb cb, .slice none 0 0] 71)) B (mes bk ++ [me])) := G2.out.below (zb.alloc zc _)
   have J3 : Hid (Holds (U.alloc (.cells #[.int .i64 me, .int .i64 0, .int .i64 1, .int .i64 0, .int .i64 0, .int .i64 (-1), .slice pb lb cb, .slice none 0 0] 71)) base (.slice a n cap) xs bk) := G3.out.next (zb.alloc zc _)
   have J4 : Hid (deb.Fresh (U.alloc (.cells #[.int .i64 me, .int .i64 0, .int .i64 1, .int .i64 0, .int .i64 0, .int .i64 (-1), .slice pb lb cb, .slice none 0 0] 71)) base pb lb cb []) := G4.out.below (zb.alloc zc _)
   have J5 : Hid (Kp base gW B w (U.alloc (.cells #[.int .i64 me, .int .i64 0, .int .i64 1, .int .i64 0, .int .i64 0, .int .i64 (-1), .slice pb lb cb, .slice none 0 0] 71))) := G5.out.trans (.of (zb.alloc zc _) G6.out)
   have J6 : Hid (base ≤ (U.alloc (.cells #[.int .i64 me, .int .i64 0, .int .i64 1, .int .i64 0, .int .i64 0, .int .i64 (-1), .slice pb lb cb, .slice none 0 0] 71)).heap.size) := by show _ ≤ _; have := G6.out; simp; omega
   have J7 : Hid (zB w0 (U.alloc (.cells #[.int .i64 me, .int .i64 0, .int .i64 1, .int .i64 0, .int .i64 0, .int .i64 (-1), .slice pb lb cb, .slice none 0 0] 71))) := G7.out.alloc G7.out.size _
   have J8 : Hid (Blk (U.alloc (.cells #[.int .i64 me, .int .i64 0, .int .i64 1, .int .i64 0, .int .i64 0, .int .i64 (-1), .slice pb lb cb, .slice none 0 0] 71)) U.heap.size #[.int .i64 me, .int .i64 0, .int .i64 1, .int .i64 0, .int .i64 0, .int .i64 (-1), .slice pb lb cb, .slice none 0 0] 71) := Blk.new _ _ _
   clear G0 G1 G2 G3 G4 G5 G6 G7
   generalize U.heap.size = gn at *
   generalize (U.alloc (.cells #[.int .i64 me, .int .i64 0, .int .i64 1, .int .i64 0, .int .i64 0, .int .i64 (-1), .slice pb lb cb, .slice none 0 0] 71)) = U2 at *
   refine zo 9 λK hK => ?_
   rw[if_pos (by rfl)]
   refine step_cust2 46 rfl _ _ rfl base gn _ xs ⟨me, 0, 1, 0, 0, -1, pb, lb, cb, none, 0, 0⟩ rfl rfl J3.out.row J8.out (by have := HSM.out; omega) J6.out ?_
   intro v3 w9 h3 hg3 ho3
   obtain⟨p3, c3, rfl, _, _, _⟩ := h3.row
   have hown : ∀g, (Value.slice a n cap).ownBlock = some g → base ≤ g := λg hg => (World.ownsRow.lt J3.out.row g hg).1
   have J9 : Hid (Holds w9 base (.slice p3 (xs ++ [(⟨me, 0, 1, 0, 0, -1, pb, lb, cb, none, 0, 0⟩ : Cu)]).length c3) (xs ++ [⟨me, 0, 1, 0, 0, -1, pb, lb, cb, none, 0, 0⟩]) (bk ++ [⟨⟨me, 0, 1, 0, 0, -1, []⟩, []⟩])) := J3.out.snoc ⟨⟨rfl, rfl, rfl, rfl, rfl, rfl⟩, J4.out, Lo.zero _ _⟩ rfl HLB.out h3 hg3 ho3
   have hlow : ∀g, g<base → w9.heap[g]? = U2.heap[g]? := λg hg => hg3.block g (by have := J6.out; omega) (λq => by have := hown g q.symm; omega)
   have L0 : Hid (Blk w9 gW #[.slice a n cap, .slice pt lt ct, .int .i64 t.ff, .int .i64 t.fb, .int .i64 t.db, .int .i64 t.al, .map (some B)] 170) := by show w9.heap[gW]? = _; rw[hlow gW HGE.out.1]; exact J0.out
   have L1 : Hid (Blk w9 ga #[.int .i64 me, .int .i64 0, .int .i64 1, .int .i64 0, .int .i64 0, .int .i64 (-1), .slice pb lb cb] 55) := by show w9.heap[ga]? = _; exact(blk_kept J1.out hg3 (λq => HAO.out _ q.symm rfl))
   have L2 : Hid (MpI w9 B (mes bk ++ [me])) := by show w9.heap[B]? = _; rw[hlow B HGE.out.2.1]; exact J2.out
   have L5 := zh (J5.out.trans (.grown hg3 J6.out hown))
   have L6 : Hid (base ≤ w9.heap.size) := Nat.le_trans J6.out hg3.size
   have L7 : Hid (zB w0 w9) := L5.out.bel (HB0.out) (by have := HGE.out; omega) HGE.out.2.2.2.1 HGE.out.2.2.2.2
   refine hK.out _ _ L1.out (λhHeld => ?_)
   clear hK K h3 hg3 ho3 hown hlow J0 J1 J2 J3 J4 J5 J6 J7 J8
   simp only[Act.put, zqa, zqb, zqc]
   generalize (xs ++ [(⟨me, 0, 1, 0, 0, -1, pb, lb, cb, none, 0, 0⟩ : Cu)]).length = n3 at *
   refine zt' 10 (.pointer (some ⟨gW, 0, none⟩)) ?_
   refine zt' 11 (.pointer (some ⟨gW, 0, none⟩)) ?_
   refine zt' 12 (.pointer (some ⟨gW, 0, none⟩)) ?_
   refine zo 13 λK hK => ?_
   rw[if_pos (by rfl)]
   refine acc.wp_letOp1 63 _ _ rfl gW 0 rfl (.slice p3 n3 c3) rfl rfl (by kernel_rfl) rfl #[.slice a n cap, .slice pt lt ct, .int .i64 t.ff, .int .i64 t.fb, .int .i64 t.db, .int .i64 t.al, .map (some B)] 170 L0.out (by simp) rfl ?_
   intro WF hU
   have M1 : Hid (Blk WF ga #[.int .i64 me, .int .i64 0, .int .i64 1, .int .i64 0, .int .i64 0, .int .i64 (-1), .slice pb lb cb] 55) := hU.keep L1.out (by have := HGE.out.1; have := HGA.out; omega)
   have MF : Hid (WPost w0 base gW B t pt lt ct (RegR bk me) w (.returned (.tuple #[])) WF) := by
    refine⟨L5.out.trans (.upd hU (.inr rfl)), .inl ⟨.slice p3 n3 c3, _, _, rfl, .inr ⟨HN.out, rfl, rfl⟩, λhsm => ⟨hU.blk, ?_, J9.out.same (λg hg => hU.oth g (by have := HGE.out.1; omega)), HGE.out.1, HGE.out.2.1, HGE.out.2.2.1, HGE.out.2.2.2.1, HGE.out.2.2.2.2, by rw[hU.size]; exact L6.out, hU.bel _ _ HGE.out.2.2.2.1 L7.out, hsm, ?_⟩⟩⟩
    ·have e1 : mes (bk ++ [(⟨⟨me, 0, 1, 0, 0, -1, []⟩, []⟩ : Cm)]) = mes bk ++ [me] := by simp[mes]
     rw[e1]
     show WF.heap[B]? = _
     rw[hU.oth B (Ne.symm HGE.out.2.2.1)]
     exact L2.out
    ·refine HWF.out.snoc ?_
     have hm := HME.out
     exact⟨wf_i (z := me) (by omega) (by omega), wf_i (z := 0) (by omega) (by omega), wf_i (z := 1) (by omega) (by omega), wf_i (z := 0) (by omega) (by omega), wf_i (z := 0) (by omega) (by omega), wf_i (z := -1) (by omega) (by omega)⟩
   refine hK.out _ _ M1.out (λhHeld => ?_)
   clear hK K hU
   refine wpAnyH_done (by kernel_rfl) ?_ _
   clear hHeld
   go_wp2_with fail
   go_end0
   exact MF.out
end book
end Go.Proofs.YtoepgdhiepedeaaGreatDoor
