import Derived.Test.YtfhlokjpdkmdjaaSh
import Derived.Test.YtfhlokjpdkmdjaaJBookOfs2
import Derived.Test.YtfhlokjpdkmdjaaJBookOfs3
import Derived.Test.YtfhlokjpdkmdjaaAcU
import Derived.Test.YtfhlokjpdkmdjaaJBookOfs1
import Derived.Deep.RegionHeld
import Derived.Deep.DeepCutAuto
import Derived.WalkKit
import Derived.Test.YtfhlokjpdkmdjaaBkE
import Derived.Test.YtfhlokjpdkmdjaaProg
import Derived.Below
import Derived.Test.YtfhlokjpdkmdjaaBkD
import Derived.Test.YtfhlokjpdkmdjaaBlk
import Derived.Test.YtfhlokjpdkmdjaaLet
import Derived.Test.YtfhlokjpdkmdjaaLetS
import Derived.Defers
import Derived.Recover
import Derived.Deep.LoopGhost
import Derived.Test.YtfhlokjpdkmdjaaRows
import Derived.Test.YtfhlokjpdkmdjaaAcD
import Derived.ProofKit
import Derived.OpenShut
import Derived.SizedLaws
import Derived.ChangeSame
import Derived.Lib.SmallJoins
import Derived.Deep.SlicePairs
import Derived.Deep.Slices

/- What an event asks of an account, in the program. -/
namespace Go.Proofs.Ytfhlokjpdkmdjaa.book
open Go.RowKit
open Go.Proofs.Ytfhlokjpdkmdjaa.acc (Ac Tm Bi APost BPost TFault TRight OpenIs OweIs SellIs GrantIs RekeyIs wf6 ACame TCame fresh_updN fresh_drew came_lt)
set_option maxRecDepth 100000
set_option linter.unusedVariables false
set_option linter.unusedSimpArgs false

set_option maxHeartbeats 8000000 in
theorem bwork (gW : Nat) (V : Value) (B : Nat) (t : Tm) (pt : Option Addr) (lt ct : Nat) (x : Ac) (so : List So) (p : Option Addr) (len cap : Nat) (v : Ev) (w : World) (hw : Blk w gW #[V, .slice pt lt ct, .int .i64 t.ff, .int .i64 t.fb, .int .i64 t.db, .int .i64 t.al, .map (some B)] 72) (ht : TCame w t pt lt ct) (ha : ACame w x p len cap) (hv : (Lit.int .i64 v.te).wf = true ∧ (Lit.int .i64 v.mo).wf = true) (hk : v.kd = 2 ∨ v.kd = 3 ∨ v.kd = 4) :
    Calls Try.prog 67 #[.pointer (some ⟨gW, 0, none⟩), .agg #[.int .i64 x.me, .int .i64 x.rv, .int .i64 x.nx, .int .i64 x.mo, .int .i64 x.bo, .int .i64 x.fr, .slice p len cap], .agg #[.int .i64 v.kd, .int .i64 v.me, .int .i64 v.mo, .int .i64 v.id, .int .i64 v.te, .int .i64 v.de, .int .i64 v.fe, .int .i64 v.pr, .int .i64 v.ch, .int .i64 v.un, .int .i64 v.tg, .int .i64 v.ow, .int .i64 v.bp]] w fun e w' => BPost w (Tells t ⟨x, so⟩ v) e w' := by
  have hgl := hw.lt
  have HWF : Hid ((Lit.int .i64 v.te).wf = true ∧ (Lit.int .i64 v.mo).wf = true) := hv
  obtain ⟨W0, HWW, H0a, H0v, H0r, H0l, H0B, hs0⟩ := sh4 w #[.int .i64 x.me, .int .i64 x.rv, .int .i64 x.nx, .int .i64 x.mo, .int .i64 x.bo, .int .i64 x.fr, .slice p len cap] 55 #[.int .i64 v.kd, .int .i64 v.me, .int .i64 v.mo, .int .i64 v.id, .int .i64 v.te, .int .i64 v.de, .int .i64 v.fe, .int .i64 v.pr, .int .i64 v.ch, .int .i64 v.un, .int .i64 v.tg, .int .i64 v.ow, .int .i64 v.bp] 27 #[.int .i64 0, .int .i64 0, .int .i64 0, .int .i64 0, .int .i64 0, .int .i64 0, .slice none 0 0] 55 #[.int .i64 0, .int .i64 0, .int .i64 0, .int .i64 0, .int .i64 0, .int .i64 0, .int .i64 0] 23
  have H0A : Hid (ACame W0 x p len cap) := ha.below H0B.out
  have H0T : Hid (TCame W0 t pt lt ct) := ht.below H0B.out
  have H0W : Hid (Blk W0 gW #[V, .slice pt lt ct, .int .i64 t.ff, .int .i64 t.fb, .int .i64 t.db, .int .i64 t.al, .map (some B)] 72) := hw.next H0B.out
  clear hw ha ht hv
  go_enter Try.func67, Try.ntmps67
  go_upto_region 1 with fail
  rw [HWW.out]
  clear HWW
  have HS0 : Hid (w.heap.size ≤ W0.heap.size) := H0B.out.size
  have qv0 : W0.cell? ⟨w.heap.size + 1, 0, none⟩ = some (.int .i64 v.kd) := H0v.out.cell 0
  by_cases k2 : v.kd = 2
  case pos =>
    have q2 : (v.kd == 2) = true := by simpa using k2
    have HK : Hid (v.kd = 2) := k2
    clear k2 hk
    go_wp2_with fail
    clear q2 qv0
    have HSL : Hid (Calls Try.prog 78 #[.agg #[.int .i64 x.me, .int .i64 x.rv, .int .i64 x.nx, .int .i64 x.mo, .int .i64 x.bo, .int .i64 x.fr, .slice p len cap], .agg #[.slice pt lt ct, .int .i64 t.ff, .int .i64 t.fb, .int .i64 t.db, .int .i64 t.al], .int .i64 v.te, .int .i64 v.mo] W0.drew fun e w' => BPost W0.drew (SellIs x t v.te v.mo) e w') := acc.ksell _ x p len cap t pt lt ct v.te v.mo (H0A.out.below (Below.refl _ _).drew) (H0T.out.below (Below.refl _ _).drew) HWF.out.1 HWF.out.2
    refine wp_region_held_drew (S := fun u => Blk u (gW) #[V, .slice pt lt ct, .int .i64 t.ff, .int .i64 t.fb, .int .i64 t.db, .int .i64 t.al, .map (some B)] 72 ∧ Blk u (w.heap.size) #[.int .i64 x.me, .int .i64 x.rv, .int .i64 x.nx, .int .i64 x.mo, .int .i64 x.bo, .int .i64 x.fr, .slice p len cap] 55 ∧ Blk u (w.heap.size + 1) #[.int .i64 v.kd, .int .i64 v.me, .int .i64 v.mo, .int .i64 v.id, .int .i64 v.te, .int .i64 v.de, .int .i64 v.fe, .int .i64 v.pr, .int .i64 v.ch, .int .i64 v.un, .int .i64 v.tg, .int .i64 v.ow, .int .i64 v.bp] 27) (by kernel_rfl) (show _ from ⟨Blk.drew H0W.out 1, Blk.drew H0a.out 1, Blk.drew H0v.out 1⟩) (fun hHeld => ?_)
    refine take_at 0 13 (.agg #[.int .i64 x.me, .int .i64 x.rv, .int .i64 x.nx, .int .i64 x.mo, .int .i64 x.bo, .int .i64 x.fr, .slice p len cap]) _ rfl rfl (by kernel_rfl) (by kernel_rfl) (by kernel_rfl) (fun _ _ _ h => h) (Or.inl ⟨by rfl, fun v hv => by have g0 := hv.2.1.cell 0; have g1 := hv.2.1.cell 1; have g2 := hv.2.1.cell 2; have g3 := hv.2.1.cell 3; have g4 := hv.2.1.cell 4; have g5 := hv.2.1.cell 5; have g6 := hv.2.1.cell 6; clear hv; go_simp⟩) hHeld ?_
    simp only [Act.put, List.setIfInBounds_toArray, List.set_cons_zero, List.set_cons_succ]
    refine take_at 1 14 (.pointer (some ⟨gW, 0, none⟩)) _ rfl rfl (by kernel_rfl) (by kernel_rfl) (by kernel_rfl) (fun _ _ _ h => h) (Or.inl ⟨by rfl, fun v hv => by clear hv; go_simp⟩) hHeld ?_
    simp only [Act.put, List.setIfInBounds_toArray, List.set_cons_zero, List.set_cons_succ]
    refine take_at 2 15 (.pointer (some ⟨gW, 0, none⟩)) _ rfl rfl (by kernel_rfl) (by kernel_rfl) (by kernel_rfl) (fun _ _ _ h => h) (Or.inl ⟨by rfl, fun v hv => by clear hv; go_simp⟩) hHeld ?_
    simp only [Act.put, List.setIfInBounds_toArray, List.set_cons_zero, List.set_cons_succ]
    refine take_at 3 16 (.pointer (some ⟨gW, 1, none⟩)) _ rfl rfl (by kernel_rfl) (by kernel_rfl) (by kernel_rfl) (fun _ _ _ h => h) (Or.inl ⟨by rfl, fun v hv => by clear hv; go_simp⟩) hHeld ?_
    simp only [Act.put, List.setIfInBounds_toArray, List.set_cons_zero, List.set_cons_succ]
    refine take_at 4 17 (.agg #[.slice pt lt ct, .int .i64 t.ff, .int .i64 t.fb, .int .i64 t.db, .int .i64 t.al]) _ rfl rfl (by kernel_rfl) (by kernel_rfl) (by kernel_rfl) (fun _ _ _ h => h) (Or.inl ⟨by rfl, fun v hv => by have g0 := hv.1.cell 1; have g1 := hv.1.cell 2; have g2 := hv.1.cell 3; have g3 := hv.1.cell 4; have g4 := hv.1.cell 5; clear hv; go_simp⟩) hHeld ?_
    simp only [Act.put, List.setIfInBounds_toArray, List.set_cons_zero, List.set_cons_succ]
    refine take_at 5 18 (.pointer (some ⟨w.heap.size + 1, 3, none⟩)) _ rfl rfl (by kernel_rfl) (by kernel_rfl) (by kernel_rfl) (fun _ _ _ h => h) (Or.inl ⟨by rfl, fun v hv => by clear hv; go_simp⟩) hHeld ?_
    simp only [Act.put, List.setIfInBounds_toArray, List.set_cons_zero, List.set_cons_succ]
    refine take_at 6 19 (.pointer (some ⟨w.heap.size + 1, 4, none⟩)) _ rfl rfl (by kernel_rfl) (by kernel_rfl) (by kernel_rfl) (fun _ _ _ h => h) (Or.inl ⟨by rfl, fun v hv => by clear hv; go_simp⟩) hHeld ?_
    simp only [Act.put, List.setIfInBounds_toArray, List.set_cons_zero, List.set_cons_succ]
    refine take_at 7 20 (.int .i64 v.te) _ rfl rfl (by kernel_rfl) (by kernel_rfl) (by kernel_rfl) (fun _ _ _ h => h) (Or.inl ⟨by rfl, fun v hv => by have g0 := hv.2.2.cell 4; clear hv; go_simp⟩) hHeld ?_
    simp only [Act.put, List.setIfInBounds_toArray, List.set_cons_zero, List.set_cons_succ]
    refine take_at 8 21 (.pointer (some ⟨w.heap.size + 1, 2, none⟩)) _ rfl rfl (by kernel_rfl) (by kernel_rfl) (by kernel_rfl) (fun _ _ _ h => h) (Or.inl ⟨by rfl, fun v hv => by clear hv; go_simp⟩) hHeld ?_
    simp only [Act.put, List.setIfInBounds_toArray, List.set_cons_zero, List.set_cons_succ]
    refine take_at 9 22 (.int .i64 v.mo) _ rfl rfl (by kernel_rfl) (by kernel_rfl) (by kernel_rfl) (fun _ _ _ h => h) (Or.inl ⟨by rfl, fun v hv => by have g0 := hv.2.2.cell 2; clear hv; go_simp⟩) hHeld ?_
    simp only [Act.put, List.setIfInBounds_toArray, List.set_cons_zero, List.set_cons_succ]
    refine wpAnyH_ready (rs := [10]) (by kernel_rfl) (by simp) (AllReadyH.cons rfl (fun K hK => ?_) AllReadyH.nil)
    rw [if_pos (by rfl)]
    refine wp_callOp 23 rfl (by clear hK; go_simp) HSL.out ?_
    rintro e w1 ⟨b, l, pb, lb, cb, f, rfl, hi, hf, hb1⟩
    have hW1 : W0.heap.size ≤ w1.heap.size := hb1.size
    have HI : Hid (SellIs x t v.te v.mo b l f) := hi
    have HF1 : Hid (deb.Fresh w1 W0.heap.size pb lb cb b.ds) := hf
    have H1a : Hid (Blk w1 (w.heap.size) #[.int .i64 x.me, .int .i64 x.rv, .int .i64 x.nx, .int .i64 x.mo, .int .i64 x.bo, .int .i64 x.fr, .slice p len cap] 55) := (Blk.drew H0a.out 1).next hb1
    have H1v : Hid (Blk w1 (w.heap.size + 1) #[.int .i64 v.kd, .int .i64 v.me, .int .i64 v.mo, .int .i64 v.id, .int .i64 v.te, .int .i64 v.de, .int .i64 v.fe, .int .i64 v.pr, .int .i64 v.ch, .int .i64 v.un, .int .i64 v.tg, .int .i64 v.ow, .int .i64 v.bp] 27) := (Blk.drew H0v.out 1).next hb1
    have H1r : Hid (Blk w1 (w.heap.size + 1 + 1) #[.int .i64 0, .int .i64 0, .int .i64 0, .int .i64 0, .int .i64 0, .int .i64 0, .slice none 0 0] 55) := (Blk.drew H0r.out 1).next hb1
    have H1l : Hid (Blk w1 (w.heap.size + 1 + 1 + 1) #[.int .i64 0, .int .i64 0, .int .i64 0, .int .i64 0, .int .i64 0, .int .i64 0, .int .i64 0] 23) := (Blk.drew H0l.out 1).next hb1
    have H1W : Hid (Blk w1 (gW) #[V, .slice pt lt ct, .int .i64 t.ff, .int .i64 t.fb, .int .i64 t.db, .int .i64 t.al, .map (some B)] 72) := (Blk.drew H0W.out 1).next hb1
    have H1B : Hid (Below w.heap.size w w1) := H0B.out.drew.trans (hb1.mono H0B.out.size)
    clear H0a H0v H0r H0l H0W H0B
    refine ⟨_, rfl, hK.out _ _ ⟨H1W.out, H1a.out, H1v.out⟩ (fun hHeld => ?_)⟩
    clear hK K hi hf hb1 HSL
    unfold acc.Ac.v acc.Ac.cs acc.Bi.v
    simp only [Act.put, List.setIfInBounds_toArray, List.set_cons_zero, List.set_cons_succ]
    refine take_at 11 24 (.agg #[.int .i64 b.me, .int .i64 b.rv, .int .i64 b.nx, .int .i64 b.mo, .int .i64 b.bo, .int .i64 b.fr, .slice pb lb cb]) _ rfl rfl (by kernel_rfl) (by kernel_rfl) (by kernel_rfl) (fun _ _ _ h => h) (Or.inl ⟨by rfl, fun v hv => by clear hv; go_simp⟩) hHeld ?_
    simp only [Act.put, List.setIfInBounds_toArray, List.set_cons_zero, List.set_cons_succ]
    refine take_at 12 25 (.agg #[.int .i64 l.id, .int .i64 l.te, .int .i64 l.de, .int .i64 l.fe, .int .i64 l.pr, .int .i64 l.ch, .int .i64 l.un]) _ rfl rfl (by kernel_rfl) (by kernel_rfl) (by kernel_rfl) (fun _ _ _ h => h) (Or.inl ⟨by rfl, fun v hv => by clear hv; go_simp⟩) hHeld ?_
    simp only [Act.put, List.setIfInBounds_toArray, List.set_cons_zero, List.set_cons_succ]
    refine take_at 13 26 (.int .i64 f) _ rfl rfl (by kernel_rfl) (by kernel_rfl) (by kernel_rfl) (fun _ _ _ h => h) (Or.inl ⟨by rfl, fun v hv => by clear hv; go_simp⟩) hHeld ?_
    simp only [Act.put, List.setIfInBounds_toArray, List.set_cons_zero, List.set_cons_succ]
    refine wpAnyH_ready (rs := [14]) (by kernel_rfl) (by simp) (AllReadyH.cons rfl (fun K hK => ?_) AllReadyH.nil)
    rw [if_pos (by rfl)]
    refine wp_letOp 55 _ _ rfl (w.heap.size + 1 + 1) rfl #[.int .i64 b.me, .int .i64 b.rv, .int .i64 b.nx, .int .i64 b.mo, .int .i64 b.bo, .int .i64 b.fr, .slice pb lb cb] rfl (by kernel_rfl) (by simp [Value.oneCell']) #[.int .i64 0, .int .i64 0, .int .i64 0, .int .i64 0, .int .i64 0, .int .i64 0, .slice none 0 0] 55 H1r.out rfl rfl ?_
    intro V1 hU
    have H2a := shK hU H1a (by omega)
    have H2v := shK hU H1v (by omega)
    have H2r : Hid (Blk V1 (w.heap.size + 1 + 1) #[.int .i64 b.me, .int .i64 b.rv, .int .i64 b.nx, .int .i64 b.mo, .int .i64 b.bo, .int .i64 b.fr, .slice pb lb cb] 55) := hU.blk
    have H2l := shK hU H1l (by omega)
    have H2W := shK hU H1W (by omega)
    have H2B := shV hU H1B (by omega)
    clear H1a H1v H1r H1l H1W H1B
    have HF2 : Hid (deb.Fresh V1 W0.heap.size pb lb cb b.ds) := fresh_updN HF1.out hU (fun hn y hy => by have f1 := HF1.out.new hn y hy; omega)
    clear hU HF1
    refine hK.out _ _ ⟨H2W.out, H2a.out, H2v.out⟩ (fun hHeld => ?_)
    clear hK K
    refine wpAnyH_ready (rs := [15]) (by kernel_rfl) (by simp) (AllReadyH.cons rfl (fun K hK => ?_) AllReadyH.nil)
    rw [if_pos (by rfl)]
    refine wp_letOp 23 _ _ rfl (w.heap.size + 1 + 1 + 1) rfl #[.int .i64 l.id, .int .i64 l.te, .int .i64 l.de, .int .i64 l.fe, .int .i64 l.pr, .int .i64 l.ch, .int .i64 l.un] rfl (by kernel_rfl) (by simp [Value.oneCell']) #[.int .i64 0, .int .i64 0, .int .i64 0, .int .i64 0, .int .i64 0, .int .i64 0, .int .i64 0] 23 H2l.out rfl rfl ?_
    intro V2 hU
    have H3a := shK hU H2a (by omega)
    have H3v := shK hU H2v (by omega)
    have H3r := shK hU H2r (by omega)
    have H3l : Hid (Blk V2 (w.heap.size + 1 + 1 + 1) #[.int .i64 l.id, .int .i64 l.te, .int .i64 l.de, .int .i64 l.fe, .int .i64 l.pr, .int .i64 l.ch, .int .i64 l.un] 23) := hU.blk
    have H3W := shK hU H2W (by omega)
    have H3B := shV hU H2B (by omega)
    clear H2a H2v H2r H2l H2W H2B
    have HF3 : Hid (deb.Fresh V2 W0.heap.size pb lb cb b.ds) := fresh_updN HF2.out hU (fun hn y hy => by have f1 := HF2.out.new hn y hy; omega)
    clear hU HF2
    refine hK.out _ _ ⟨H3W.out, H3a.out, H3v.out⟩ (fun hHeld => ?_)
    clear hK K
    refine take_at 16 8 (.int .i64 f) _ rfl rfl (by kernel_rfl) (by kernel_rfl) (by kernel_rfl) (fun _ _ _ h => h) (Or.inl ⟨by rfl, fun v hv => by clear hv; go_simp⟩) hHeld ?_
    simp only [Act.put, List.setIfInBounds_toArray, List.set_cons_zero, List.set_cons_succ]
    refine wpAnyH_done (by kernel_rfl) ?_ _
    clear hHeld
    obtain ⟨Rr0, Rr1, Rr2, Rr3, Rr4, Rr5, Rr6⟩ := shc7 H3r
    obtain ⟨Rl0, Rl1, Rl2, Rl3, Rl4, Rl5, Rl6⟩ := shc7 H3l
    go_wp2_with fail
    exact bodyPost_ret (v := .tuple #[.agg #[.int .i64 b.me, .int .i64 b.rv, .int .i64 b.nx, .int .i64 b.mo, .int .i64 b.bo, .int .i64 b.fr, .slice pb lb cb], .agg #[.int .i64 l.id, .int .i64 l.te, .int .i64 l.de, .int .i64 l.fe, .int .i64 l.pr, .int .i64 l.ch, .int .i64 l.un], .int .i64 f]) (by simp [results, Try.results67, Rr0.out, Rr1.out, Rr2.out, Rr3.out, Rr4.out, Rr5.out, Rr6.out, Rl0.out, Rl1.out, Rl2.out, Rl3.out, Rl4.out, Rl5.out, Rl6.out, go_sem]) rfl ⟨b, l, pb, lb, cb, f, rfl, .inl ⟨HK.out, HI.out⟩, HF3.out.low HS0.out, H3B.out⟩
  have q2 : (v.kd == 2) = false := by simpa using k2
  by_cases k3 : v.kd = 3
  case pos =>
    have q3 : (v.kd == 3) = true := by simpa using k3
    have HK : Hid (v.kd = 3) := k3
    clear k2 k3 hk
    go_wp2_with fail
    clear q2 q3 qv0
    have HSL : Hid (Calls Try.prog 79 #[.agg #[.int .i64 x.me, .int .i64 x.rv, .int .i64 x.nx, .int .i64 x.mo, .int .i64 x.bo, .int .i64 x.fr, .slice p len cap], .agg #[.slice pt lt ct, .int .i64 t.ff, .int .i64 t.fb, .int .i64 t.db, .int .i64 t.al], .int .i64 v.mo] W0.drew fun e w' => BPost W0.drew (GrantIs x t v.mo) e w') := acc.kgrant _ x p len cap t pt lt ct v.mo (H0A.out.below (Below.refl _ _).drew) (H0T.out.below (Below.refl _ _).drew) HWF.out.2
    refine wp_region_held_drew (S := fun u => Blk u (gW) #[V, .slice pt lt ct, .int .i64 t.ff, .int .i64 t.fb, .int .i64 t.db, .int .i64 t.al, .map (some B)] 72 ∧ Blk u (w.heap.size) #[.int .i64 x.me, .int .i64 x.rv, .int .i64 x.nx, .int .i64 x.mo, .int .i64 x.bo, .int .i64 x.fr, .slice p len cap] 55 ∧ Blk u (w.heap.size + 1) #[.int .i64 v.kd, .int .i64 v.me, .int .i64 v.mo, .int .i64 v.id, .int .i64 v.te, .int .i64 v.de, .int .i64 v.fe, .int .i64 v.pr, .int .i64 v.ch, .int .i64 v.un, .int .i64 v.tg, .int .i64 v.ow, .int .i64 v.bp] 27) (by kernel_rfl) (show _ from ⟨Blk.drew H0W.out 1, Blk.drew H0a.out 1, Blk.drew H0v.out 1⟩) (fun hHeld => ?_)
    refine take_at 0 29 (.agg #[.int .i64 x.me, .int .i64 x.rv, .int .i64 x.nx, .int .i64 x.mo, .int .i64 x.bo, .int .i64 x.fr, .slice p len cap]) _ rfl rfl (by kernel_rfl) (by kernel_rfl) (by kernel_rfl) (fun _ _ _ h => h) (Or.inl ⟨by rfl, fun v hv => by have g0 := hv.2.1.cell 0; have g1 := hv.2.1.cell 1; have g2 := hv.2.1.cell 2; have g3 := hv.2.1.cell 3; have g4 := hv.2.1.cell 4; have g5 := hv.2.1.cell 5; have g6 := hv.2.1.cell 6; clear hv; go_simp⟩) hHeld ?_
    simp only [Act.put, List.setIfInBounds_toArray, List.set_cons_zero, List.set_cons_succ]
    refine take_at 1 30 (.pointer (some ⟨gW, 0, none⟩)) _ rfl rfl (by kernel_rfl) (by kernel_rfl) (by kernel_rfl) (fun _ _ _ h => h) (Or.inl ⟨by rfl, fun v hv => by clear hv; go_simp⟩) hHeld ?_
    simp only [Act.put, List.setIfInBounds_toArray, List.set_cons_zero, List.set_cons_succ]
    refine take_at 2 31 (.pointer (some ⟨gW, 0, none⟩)) _ rfl rfl (by kernel_rfl) (by kernel_rfl) (by kernel_rfl) (fun _ _ _ h => h) (Or.inl ⟨by rfl, fun v hv => by clear hv; go_simp⟩) hHeld ?_
    simp only [Act.put, List.setIfInBounds_toArray, List.set_cons_zero, List.set_cons_succ]
    refine take_at 3 32 (.pointer (some ⟨gW, 1, none⟩)) _ rfl rfl (by kernel_rfl) (by kernel_rfl) (by kernel_rfl) (fun _ _ _ h => h) (Or.inl ⟨by rfl, fun v hv => by clear hv; go_simp⟩) hHeld ?_
    simp only [Act.put, List.setIfInBounds_toArray, List.set_cons_zero, List.set_cons_succ]
    refine take_at 4 33 (.agg #[.slice pt lt ct, .int .i64 t.ff, .int .i64 t.fb, .int .i64 t.db, .int .i64 t.al]) _ rfl rfl (by kernel_rfl) (by kernel_rfl) (by kernel_rfl) (fun _ _ _ h => h) (Or.inl ⟨by rfl, fun v hv => by have g0 := hv.1.cell 1; have g1 := hv.1.cell 2; have g2 := hv.1.cell 3; have g3 := hv.1.cell 4; have g4 := hv.1.cell 5; clear hv; go_simp⟩) hHeld ?_
    simp only [Act.put, List.setIfInBounds_toArray, List.set_cons_zero, List.set_cons_succ]
    refine take_at 5 34 (.pointer (some ⟨w.heap.size + 1, 2, none⟩)) _ rfl rfl (by kernel_rfl) (by kernel_rfl) (by kernel_rfl) (fun _ _ _ h => h) (Or.inl ⟨by rfl, fun v hv => by clear hv; go_simp⟩) hHeld ?_
    simp only [Act.put, List.setIfInBounds_toArray, List.set_cons_zero, List.set_cons_succ]
    refine take_at 6 35 (.int .i64 v.mo) _ rfl rfl (by kernel_rfl) (by kernel_rfl) (by kernel_rfl) (fun _ _ _ h => h) (Or.inl ⟨by rfl, fun v hv => by have g0 := hv.2.2.cell 2; clear hv; go_simp⟩) hHeld ?_
    simp only [Act.put, List.setIfInBounds_toArray, List.set_cons_zero, List.set_cons_succ]
    refine wpAnyH_ready (rs := [7]) (by kernel_rfl) (by simp) (AllReadyH.cons rfl (fun K hK => ?_) AllReadyH.nil)
    rw [if_pos (by rfl)]
    refine wp_callOp 36 rfl (by clear hK; go_simp) HSL.out ?_
    rintro e w1 ⟨b, l, pb, lb, cb, f, rfl, hi, hf, hb1⟩
    have hW1 : W0.heap.size ≤ w1.heap.size := hb1.size
    have HI : Hid (GrantIs x t v.mo b l f) := hi
    have HF1 : Hid (deb.Fresh w1 W0.heap.size pb lb cb b.ds) := hf
    have H1a : Hid (Blk w1 (w.heap.size) #[.int .i64 x.me, .int .i64 x.rv, .int .i64 x.nx, .int .i64 x.mo, .int .i64 x.bo, .int .i64 x.fr, .slice p len cap] 55) := (Blk.drew H0a.out 1).next hb1
    have H1v : Hid (Blk w1 (w.heap.size + 1) #[.int .i64 v.kd, .int .i64 v.me, .int .i64 v.mo, .int .i64 v.id, .int .i64 v.te, .int .i64 v.de, .int .i64 v.fe, .int .i64 v.pr, .int .i64 v.ch, .int .i64 v.un, .int .i64 v.tg, .int .i64 v.ow, .int .i64 v.bp] 27) := (Blk.drew H0v.out 1).next hb1
    have H1r : Hid (Blk w1 (w.heap.size + 1 + 1) #[.int .i64 0, .int .i64 0, .int .i64 0, .int .i64 0, .int .i64 0, .int .i64 0, .slice none 0 0] 55) := (Blk.drew H0r.out 1).next hb1
    have H1l : Hid (Blk w1 (w.heap.size + 1 + 1 + 1) #[.int .i64 0, .int .i64 0, .int .i64 0, .int .i64 0, .int .i64 0, .int .i64 0, .int .i64 0] 23) := (Blk.drew H0l.out 1).next hb1
    have H1W : Hid (Blk w1 (gW) #[V, .slice pt lt ct, .int .i64 t.ff, .int .i64 t.fb, .int .i64 t.db, .int .i64 t.al, .map (some B)] 72) := (Blk.drew H0W.out 1).next hb1
    have H1B : Hid (Below w.heap.size w w1) := H0B.out.drew.trans (hb1.mono H0B.out.size)
    clear H0a H0v H0r H0l H0W H0B
    refine ⟨_, rfl, hK.out _ _ ⟨H1W.out, H1a.out, H1v.out⟩ (fun hHeld => ?_)⟩
    clear hK K hi hf hb1 HSL
    unfold acc.Ac.v acc.Ac.cs acc.Bi.v
    simp only [Act.put, List.setIfInBounds_toArray, List.set_cons_zero, List.set_cons_succ]
    refine take_at 8 37 (.agg #[.int .i64 b.me, .int .i64 b.rv, .int .i64 b.nx, .int .i64 b.mo, .int .i64 b.bo, .int .i64 b.fr, .slice pb lb cb]) _ rfl rfl (by kernel_rfl) (by kernel_rfl) (by kernel_rfl) (fun _ _ _ h => h) (Or.inl ⟨by rfl, fun v hv => by clear hv; go_simp⟩) hHeld ?_
    simp only [Act.put, List.setIfInBounds_toArray, List.set_cons_zero, List.set_cons_succ]
    refine take_at 9 38 (.agg #[.int .i64 l.id, .int .i64 l.te, .int .i64 l.de, .int .i64 l.fe, .int .i64 l.pr, .int .i64 l.ch, .int .i64 l.un]) _ rfl rfl (by kernel_rfl) (by kernel_rfl) (by kernel_rfl) (fun _ _ _ h => h) (Or.inl ⟨by rfl, fun v hv => by clear hv; go_simp⟩) hHeld ?_
    simp only [Act.put, List.setIfInBounds_toArray, List.set_cons_zero, List.set_cons_succ]
    refine take_at 10 39 (.int .i64 f) _ rfl rfl (by kernel_rfl) (by kernel_rfl) (by kernel_rfl) (fun _ _ _ h => h) (Or.inl ⟨by rfl, fun v hv => by clear hv; go_simp⟩) hHeld ?_
    simp only [Act.put, List.setIfInBounds_toArray, List.set_cons_zero, List.set_cons_succ]
    refine wpAnyH_ready (rs := [11]) (by kernel_rfl) (by simp) (AllReadyH.cons rfl (fun K hK => ?_) AllReadyH.nil)
    rw [if_pos (by rfl)]
    refine wp_letOp 55 _ _ rfl (w.heap.size + 1 + 1) rfl #[.int .i64 b.me, .int .i64 b.rv, .int .i64 b.nx, .int .i64 b.mo, .int .i64 b.bo, .int .i64 b.fr, .slice pb lb cb] rfl (by kernel_rfl) (by simp [Value.oneCell']) #[.int .i64 0, .int .i64 0, .int .i64 0, .int .i64 0, .int .i64 0, .int .i64 0, .slice none 0 0] 55 H1r.out rfl rfl ?_
    intro V1 hU
    have H2a := shK hU H1a (by omega)
    have H2v := shK hU H1v (by omega)
    have H2r : Hid (Blk V1 (w.heap.size + 1 + 1) #[.int .i64 b.me, .int .i64 b.rv, .int .i64 b.nx, .int .i64 b.mo, .int .i64 b.bo, .int .i64 b.fr, .slice pb lb cb] 55) := hU.blk
    have H2l := shK hU H1l (by omega)
    have H2W := shK hU H1W (by omega)
    have H2B := shV hU H1B (by omega)
    clear H1a H1v H1r H1l H1W H1B
    have HF2 : Hid (deb.Fresh V1 W0.heap.size pb lb cb b.ds) := fresh_updN HF1.out hU (fun hn y hy => by have f1 := HF1.out.new hn y hy; omega)
    clear hU HF1
    refine hK.out _ _ ⟨H2W.out, H2a.out, H2v.out⟩ (fun hHeld => ?_)
    clear hK K
    refine wpAnyH_ready (rs := [12]) (by kernel_rfl) (by simp) (AllReadyH.cons rfl (fun K hK => ?_) AllReadyH.nil)
    rw [if_pos (by rfl)]
    refine wp_letOp 23 _ _ rfl (w.heap.size + 1 + 1 + 1) rfl #[.int .i64 l.id, .int .i64 l.te, .int .i64 l.de, .int .i64 l.fe, .int .i64 l.pr, .int .i64 l.ch, .int .i64 l.un] rfl (by kernel_rfl) (by simp [Value.oneCell']) #[.int .i64 0, .int .i64 0, .int .i64 0, .int .i64 0, .int .i64 0, .int .i64 0, .int .i64 0] 23 H2l.out rfl rfl ?_
    intro V2 hU
    have H3a := shK hU H2a (by omega)
    have H3v := shK hU H2v (by omega)
    have H3r := shK hU H2r (by omega)
    have H3l : Hid (Blk V2 (w.heap.size + 1 + 1 + 1) #[.int .i64 l.id, .int .i64 l.te, .int .i64 l.de, .int .i64 l.fe, .int .i64 l.pr, .int .i64 l.ch, .int .i64 l.un] 23) := hU.blk
    have H3W := shK hU H2W (by omega)
    have H3B := shV hU H2B (by omega)
    clear H2a H2v H2r H2l H2W H2B
    have HF3 : Hid (deb.Fresh V2 W0.heap.size pb lb cb b.ds) := fresh_updN HF2.out hU (fun hn y hy => by have f1 := HF2.out.new hn y hy; omega)
    clear hU HF2
    refine hK.out _ _ ⟨H3W.out, H3a.out, H3v.out⟩ (fun hHeld => ?_)
    clear hK K
    refine take_at 13 8 (.int .i64 f) _ rfl rfl (by kernel_rfl) (by kernel_rfl) (by kernel_rfl) (fun _ _ _ h => h) (Or.inl ⟨by rfl, fun v hv => by clear hv; go_simp⟩) hHeld ?_
    simp only [Act.put, List.setIfInBounds_toArray, List.set_cons_zero, List.set_cons_succ]
    refine wpAnyH_done (by kernel_rfl) ?_ _
    clear hHeld
    obtain ⟨Rr0, Rr1, Rr2, Rr3, Rr4, Rr5, Rr6⟩ := shc7 H3r
    obtain ⟨Rl0, Rl1, Rl2, Rl3, Rl4, Rl5, Rl6⟩ := shc7 H3l
    go_wp2_with fail
    exact bodyPost_ret (v := .tuple #[.agg #[.int .i64 b.me, .int .i64 b.rv, .int .i64 b.nx, .int .i64 b.mo, .int .i64 b.bo, .int .i64 b.fr, .slice pb lb cb], .agg #[.int .i64 l.id, .int .i64 l.te, .int .i64 l.de, .int .i64 l.fe, .int .i64 l.pr, .int .i64 l.ch, .int .i64 l.un], .int .i64 f]) (by simp [results, Try.results67, Rr0.out, Rr1.out, Rr2.out, Rr3.out, Rr4.out, Rr5.out, Rr6.out, Rl0.out, Rl1.out, Rl2.out, Rl3.out, Rl4.out, Rl5.out, Rl6.out, go_sem]) rfl ⟨b, l, pb, lb, cb, f, rfl, .inr (.inl ⟨HK.out, HI.out⟩), HF3.out.low HS0.out, H3B.out⟩
  have q3 : (v.kd == 3) = false := by simpa using k3
  have HK : Hid (v.kd = 4) := by show _ = _; omega
  clear k2 k3 hk
  have HSL : Hid (Calls Try.prog 80 #[.agg #[.int .i64 x.me, .int .i64 x.rv, .int .i64 x.nx, .int .i64 x.mo, .int .i64 x.bo, .int .i64 x.fr, .slice p len cap]] W0 fun e w' => BPost W0 (RekeyIs x) e w') := acc.krekey _ x p len cap H0A.out
  go_wp2_with (first
    | (refine wp_whole rfl 55 _ rfl _ rfl 55 _ _ H0a.out Try.underlying55 rfl (by kernel_rfl) ?_)
    | (refine wp_whole rfl 27 _ rfl _ rfl 27 _ _ H0v.out Try.underlying27 rfl (by kernel_rfl) ?_)
    | (refine wp_whole rfl 55 _ rfl _ rfl 55 _ _ H0r.out Try.underlying55 rfl (by kernel_rfl) ?_)
    | (refine wp_whole rfl 23 _ rfl _ rfl 23 _ _ H0l.out Try.underlying23 rfl (by kernel_rfl) ?_)
    | (refine wp_whole rfl 72 _ rfl _ rfl 72 _ _ H0W.out Try.underlying72 rfl (by kernel_rfl) ?_)
    | fail)
  clear qv0
  refine HSL.out.mono ?_
  rintro e w1 ⟨b, l, pb, lb, cb, f, rfl, hi, hf, hb1⟩
  have hW1 : W0.heap.size ≤ w1.heap.size := hb1.size
  have HI : Hid (RekeyIs x b l f) := hi
  have HF1 : Hid (deb.Fresh w1 W0.heap.size pb lb cb b.ds) := hf
  have H1a := shN H0a hb1
  have H1v := shN H0v hb1
  have H1r := shN H0r hb1
  have H1l := shN H0l hb1
  have H1W := shN H0W hb1
  have H1B := shB H0B hb1
  clear H0a H0v H0r H0l H0W H0B
  clear hi hf hb1 HSL q2 q3
  unfold acc.Ac.v acc.Ac.cs acc.Bi.v
  go_wp2_with (first
    | (refine wp_letAll rfl 55 _ _ rfl _ rfl _ rfl (by kernel_rfl) (by simp [Value.oneCell']) _ 55 H1r.out rfl ?_)
    | (refine wp_whole rfl 55 _ rfl _ rfl 55 _ _ H1a.out Try.underlying55 rfl (by kernel_rfl) ?_)
    | (refine wp_whole rfl 27 _ rfl _ rfl 27 _ _ H1v.out Try.underlying27 rfl (by kernel_rfl) ?_)
    | (refine wp_whole rfl 55 _ rfl _ rfl 55 _ _ H1r.out Try.underlying55 rfl (by kernel_rfl) ?_)
    | (refine wp_whole rfl 23 _ rfl _ rfl 23 _ _ H1l.out Try.underlying23 rfl (by kernel_rfl) ?_)
    | (refine wp_whole rfl 72 _ rfl _ rfl 72 _ _ H1W.out Try.underlying72 rfl (by kernel_rfl) ?_)
    | fail)
  intro V1 hU
  have H2a := shK hU H1a (by omega)
  have H2v := shK hU H1v (by omega)
  have H2r : Hid (Blk V1 (w.heap.size + 1 + 1) #[.int .i64 b.me, .int .i64 b.rv, .int .i64 b.nx, .int .i64 b.mo, .int .i64 b.bo, .int .i64 b.fr, .slice pb lb cb] 55) := hU.blk
  have H2l := shK hU H1l (by omega)
  have H2W := shK hU H1W (by omega)
  have H2B := shV hU H1B (by omega)
  clear H1a H1v H1r H1l H1W H1B
  have HF2 : Hid (deb.Fresh V1 W0.heap.size pb lb cb b.ds) := fresh_updN HF1.out hU (fun hn y hy => by have f1 := HF1.out.new hn y hy; omega)
  clear hU HF1
  go_wp2_with (first
    | (refine wp_letAll rfl 23 _ _ rfl _ rfl _ rfl (by kernel_rfl) (by simp [Value.oneCell']) _ 23 H2l.out rfl ?_)
    | (refine wp_whole rfl 55 _ rfl _ rfl 55 _ _ H2a.out Try.underlying55 rfl (by kernel_rfl) ?_)
    | (refine wp_whole rfl 27 _ rfl _ rfl 27 _ _ H2v.out Try.underlying27 rfl (by kernel_rfl) ?_)
    | (refine wp_whole rfl 55 _ rfl _ rfl 55 _ _ H2r.out Try.underlying55 rfl (by kernel_rfl) ?_)
    | (refine wp_whole rfl 23 _ rfl _ rfl 23 _ _ H2l.out Try.underlying23 rfl (by kernel_rfl) ?_)
    | (refine wp_whole rfl 72 _ rfl _ rfl 72 _ _ H2W.out Try.underlying72 rfl (by kernel_rfl) ?_)
    | fail)
  intro V2 hU
  have H3a := shK hU H2a (by omega)
  have H3v := shK hU H2v (by omega)
  have H3r := shK hU H2r (by omega)
  have H3l : Hid (Blk V2 (w.heap.size + 1 + 1 + 1) #[.int .i64 l.id, .int .i64 l.te, .int .i64 l.de, .int .i64 l.fe, .int .i64 l.pr, .int .i64 l.ch, .int .i64 l.un] 23) := hU.blk
  have H3W := shK hU H2W (by omega)
  have H3B := shV hU H2B (by omega)
  clear H2a H2v H2r H2l H2W H2B
  have HF3 : Hid (deb.Fresh V2 W0.heap.size pb lb cb b.ds) := fresh_updN HF2.out hU (fun hn y hy => by have f1 := HF2.out.new hn y hy; omega)
  clear hU HF2
  obtain ⟨Rr0, Rr1, Rr2, Rr3, Rr4, Rr5, Rr6⟩ := shc7 H3r
  obtain ⟨Rl0, Rl1, Rl2, Rl3, Rl4, Rl5, Rl6⟩ := shc7 H3l
  go_wp2_with fail
  exact bodyPost_ret (v := .tuple #[.agg #[.int .i64 b.me, .int .i64 b.rv, .int .i64 b.nx, .int .i64 b.mo, .int .i64 b.bo, .int .i64 b.fr, .slice pb lb cb], .agg #[.int .i64 l.id, .int .i64 l.te, .int .i64 l.de, .int .i64 l.fe, .int .i64 l.pr, .int .i64 l.ch, .int .i64 l.un], .int .i64 f]) (by simp [results, Try.results67, Rr0.out, Rr1.out, Rr2.out, Rr3.out, Rr4.out, Rr5.out, Rr6.out, Rl0.out, Rl1.out, Rl2.out, Rl3.out, Rl4.out, Rl5.out, Rl6.out, go_sem]) rfl ⟨b, l, pb, lb, cb, f, rfl, .inr (.inr ⟨HK.out, HI.out⟩), HF3.out.low HS0.out, H3B.out⟩

end Go.Proofs.Ytfhlokjpdkmdjaa.book

/- Two structs are compared, where what comes of it is known. -/
namespace Go.Proofs.Ytfhlokjpdkmdjaa
open Go.RowKit

theorem run_neOp {P : Program} {o : Oper} {a : Act} {w : World} (ty rt : TypeId) (x y : Operand) (ho : o.op = .binOp .neq ty x y rt) (ca cb : Array Value) (hx : a.eval x = .agg ca) (hy : a.eval y = .agg cb) (hg : P.eqGuardType P.depth ty = false) (b : Bool)
    (hr : (Op.equalIn 10000 ty (.agg ca) (.agg cb)).run P w = .ok b w) : (execOp a.eval o).run P w = .ok (.value (.bool (!b))) w := by
  have hr' : (Op.equal ty (.agg ca) (.agg cb)).run P w = .ok b w := hr
  unfold execOp
  simp only [ho, hx, hy]
  have hp : ∀ w' : World, (program : Sem Program).run P w' = .ok P w' := fun _ => rfl
  simp [eqGuard, hg, binOp, hr', hp, Sem.run_bind]
theorem wp_neE {P : Program} {ops : Array Oper} {rest : List Oper} {o : Oper} {a : Act} {w : World} {Q : Exit → Act → World → Prop} (hw : Region.wanted o (yielded ops a.tmps) = true) (ty rt : TypeId) (x y : Operand) (ho : o.op = .binOp .neq ty x y rt) (ca cb : Array Value) (hx : a.eval x = .agg ca) (hy : a.eval y = .agg cb) (hg : P.eqGuardType P.depth ty = false) (b : Bool)
    (hr : (Op.equalIn 10000 ty (.agg ca) (.agg cb)).run P w = .ok b w) (d : Nat) (hd : o.dst = some d) (h : wpList P ops Q rest (a.put (some d) (.bool (!b))) w) : wpList P ops Q (o :: rest) a w :=
  wpList_step fun K hK => by
    rw [if_pos hw]
    exact wp_runOp d hd (run_neOp ty rt x y ho ca cb hx hy hg b hr) (hK _ _ h)

end Go.Proofs.Ytfhlokjpdkmdjaa

/- A token is sold, in the program. -/
namespace Go.Proofs.Ytfhlokjpdkmdjaa.book
open Go.RowKit
open Go.Proofs.Ytfhlokjpdkmdjaa.acc (Ac Tm Bi APost BPost TFault TRight OpenIs OweIs SellIs GrantIs RekeyIs wf6 ACame TCame fresh_updN fresh_drew came_lt)
set_option maxRecDepth 100000
set_option linter.unusedVariables false
set_option linter.unusedSimpArgs false

/-- What an event that is no Register comes to. -/
def HapR (t : Tm) (bk : List Cm) (k : Nat) (v : Ev) (bk' : List Cm) (f : Int) : Prop := ∃ c', HapIs t (bk.getD k cm0) v c' f ∧ (f = 0 → bk' = bk.set k c')
theorem ev_wf {v : Ev} (h : EMay v) : (Lit.int .i64 v.te).wf = true ∧ (Lit.int .i64 v.mo).wf = true := by
  have : (0 ≤ v.te ∧ v.te ≤ 100000000) ∧ 0 ≤ v.mo ∧ v.mo ≤ 2399 := by unfold EMay at h; omega
  exact ⟨wf_i (by omega) (by omega), wf_i (by omega) (by omega)⟩
theorem bill_eq {l : Bi} {v : Ev} (h : l.id = v.id ∧ l.te = v.te ∧ l.de = v.de ∧ l.fe = v.fe ∧ l.pr = v.pr ∧ l.ch = v.ch ∧ l.un = v.un) : l = billOf v := by
  obtain ⟨h1, h2, h3, h4, h5, h6, h7⟩ := h
  cases l
  unfold billOf
  simp only at h1 h2 h3 h4 h5 h6 h7
  rw [h1, h2, h3, h4, h5, h6, h7]
theorem rekey_rv {a b : Ac} {l : Bi} (h : RekeyIs a b l 0) : b.rv = a.rv + 1 := by
  rcases h with ⟨_, _, _, e⟩ | ⟨_, _, _, _, e⟩ | ⟨_, _, _, _, _, e⟩ | ⟨_, _, _, rfl, _, _⟩
  · cases e
  · cases e
  · cases e
  · rfl
/-- What is put in the place of a customer, at the end. -/
theorem put_wr {w0 : World} {base gW B : Nat} {t : Tm} {pt : Option Addr} {lt ct g n cap : Nat} {xs : List Cu} {bk : List Cm} {k : Nat} {x x' : Cu} {c' : Cm} {cur : Array Value} {w WF : World} (h : Wr w0 base gW B t pt lt ct (.slice (some ⟨g, 0, none⟩) n cap) xs bk w) (hk : k < xs.length) (hx : xs.getD k cu0 = x) (hcb : Blk w g cur 58)
    (hO : ∀ i, i < w.heap.size → i ≠ g → x.sold.ownBlock ≠ some i → WF.heap[i]? = w.heap[i]?) (hs : w.heap.size ≤ WF.heap.size) (hos : WF.os = w.os ∧ WF.tape = w.tape ∧ WF.output = w.output) (has : Has WF base x' c') (hwf : wf6 c'.a) (hme : c'.a.me = (bk.getD k cm0).a.me)
    (own : ∀ i, x'.sold.ownBlock = some i → x.sold.ownBlock = some i ∨ w.heap.size ≤ i) (new : 0 < x'.dn → ∀ p, x'.dp = some p → w.heap.size ≤ p.block) (self : ∀ i, x'.sold.ownBlock = some i → 0 < x'.dn → ∀ p, x'.dp = some p → p.block ≠ i)
    (hW : Blk WF g (putAll cur (k * 8) x'.cs) 58) (hsm : Small (bk.set k c') 120) : Wr w0 base gW B t pt lt ct (.slice (some ⟨g, 0, none⟩) n cap) (xs.set k x') (bk.set k c') WF := by
  have hgo : base ≤ g := (World.ownsRow.lt h.hold.row g rfl).1
  have hxo : ∀ i, x.sold.ownBlock = some i → base ≤ i := fun i hi => (World.ownsRow.lt (h.hold.has k hk).so i (by rw [hx]; exact hi)).1
  have hlow : ∀ i, i < base → WF.heap[i]? = w.heap[i]? := fun i hi => hO i (by have := h.sz; omega) (by omega) (fun e => by have := hxo i e; omega)
  refine ⟨?_, ?_, ?_, h.gw, h.gb, h.ne, h.n0, h.n1, Nat.le_trans h.sz hs, ?_, hsm, h.wf.set hwf⟩
  · show WF.heap[gW]? = _
    rw [hlow gW h.gw]; exact h.blk
  · rw [mes_set hme]
    show WF.heap[B]? = _
    rw [hlow B h.gb]; exact h.mp
  · exact h.hold.put2 hk (fun i hi h1 h2 => hO i hi (fun e => h1 (by rw [e]; rfl)) (by rw [← hx]; exact h2)) has (by rw [hx]; exact own) new self (lc_put2 h.hold.row hcb hk hW)
  · exact ⟨hos.1.trans h.bel.os, hos.2.1.trans h.bel.tape, hos.2.2.trans h.bel.output, Nat.le_trans h.bel.size hs, fun i hi => (hlow i (by have := h.n0; have := h.gw; omega)).trans (h.bel.block i hi)⟩
set_option maxHeartbeats 16000000 in
theorem bsell (w0 : World) (base gW B : Nat) (t : Tm) (pt : Option Addr) (lt ct g n cap : Nat) (xs : List Cu) (bk : List Cm) (k : Nat) (v : Ev) (w : World) (h : Wr w0 base gW B t pt lt ct (.slice (some ⟨g, 0, none⟩) n cap) xs bk w) (hk : k < xs.length) (ht : TCame w0 t pt lt ct) (hm : EMay v) (hkd : v.kd = 2 ∨ v.kd = 3 ∨ v.kd = 4) :
    Calls Try.prog 53 #[.pointer (some ⟨gW, 0, none⟩), .pointer (some ⟨g, k * 8, none⟩), .agg #[.int .i64 v.kd, .int .i64 v.me, .int .i64 v.mo, .int .i64 v.id, .int .i64 v.te, .int .i64 v.de, .int .i64 v.fe, .int .i64 v.pr, .int .i64 v.ch, .int .i64 v.un, .int .i64 v.tg, .int .i64 v.ow, .int .i64 v.bp]] w fun e w' => WPost w0 base gW B t pt lt ct (HapR t bk k v) w e w' := by
  have HNO : Hid (∀ (f : Int) (hf : f ≠ 0) W, Calls Try.prog 46 #[.int .i64 f] W fun e w' => e = .panicked (thrown f) ∧ w' = W) := fun f hf W => insist_no f hf W
  have HOK : Hid (∀ W, Calls Try.prog 46 #[.int .i64 0] W fun e w' => e = .returned (.tuple #[]) ∧ w' = W) := fun W => insist_ok W
  have hx0 := h.hold.has k hk
  have hoff := h.hold.off k hk
  have hself := h.hold.self k hk
  have hwf0 : wf6 (bk.getD k cm0).a := h.wf _ (getD_in (by rw [← h.hold.len]; exact hk))
  have hsm0 := (h.few.2 _ (getD_in (by rw [← h.hold.len]; exact hk))).1
  obtain ⟨c, hc⟩ : ∃ c, bk.getD k cm0 = c := ⟨_, rfl⟩
  obtain ⟨x, hx⟩ : ∃ x, xs.getD k cu0 = x := ⟨_, rfl⟩
  obtain ⟨g', cur, e1, hgb, hcb, hcs, hcc⟩ := at_cust h.hold.row hk
  obtain rfl : g = g' := by injection e1 with e1; injection e1
  clear e1
  rw [hc] at hx0 hwf0 hsm0
  rw [hx] at hx0 hcc hoff hself
  obtain ⟨y, sol⟩ := c
  obtain ⟨dp, dn, dc, sp, sn, sc, rfl⟩ := cuA_of hx0.num
  have HR : Hid (Wr w0 base gW B t pt lt ct (.slice (some ⟨g, 0, none⟩) n cap) xs bk w) := h
  have HKL : Hid (k < xs.length) := hk
  have HX : Hid (xs.getD k cu0 = (⟨y.me, y.rv, y.nx, y.mo, y.bo, y.fr, dp, dn, dc, sp, sn, sc⟩ : Cu)) := hx
  have HC : Hid (bk.getD k cm0 = ⟨y, sol⟩) := hc
  have HH : Hid (Has w base (⟨y.me, y.rv, y.nx, y.mo, y.bo, y.fr, dp, dn, dc, sp, sn, sc⟩ : Cu) ⟨y, sol⟩) := hx0
  have HOF : Hid (Off (⟨y.me, y.rv, y.nx, y.mo, y.bo, y.fr, dp, dn, dc, sp, sn, sc⟩ : Cu) (some g)) := hoff
  have HSE : Hid (∀ i, (Value.slice sp sn sc).ownBlock = some i → 0 < dn → ∀ p, dp = some p → p.block ≠ i) := hself
  have HMA : Hid (EMay v) := hm
  have HKD : Hid (v.kd = 2 ∨ v.kd = 3 ∨ v.kd = 4) := hkd
  have HCS : Hid (k * 8 + 8 ≤ cur.size) := hcs
  have HWK : Hid (∀ W, Below w.heap.size w W → Calls Try.prog 67 #[.pointer (some ⟨gW, 0, none⟩), .agg #[.int .i64 y.me, .int .i64 y.rv, .int .i64 y.nx, .int .i64 y.mo, .int .i64 y.bo, .int .i64 y.fr, .slice dp dn dc], .agg #[.int .i64 v.kd, .int .i64 v.me, .int .i64 v.mo, .int .i64 v.id, .int .i64 v.te, .int .i64 v.de, .int .i64 v.fe, .int .i64 v.pr, .int .i64 v.ch, .int .i64 v.un, .int .i64 v.tg, .int .i64 v.ow, .int .i64 v.bp]] W fun e w' => BPost W (Tells t ⟨y, sol⟩ v) e w') := fun W hB => bwork gW _ B t pt lt ct y sol dp dn dc v W (HR.out.next hB).blk (ht.below (HR.out.next hB).bel) ⟨hx0.ds.came.below hB, hwf0⟩ (ev_wf hm) hkd
  have HSZ : Hid (base ≤ w.heap.size) := h.sz
  have hgl : g < w.heap.size := hcb.lt
  have HSL : Hid (sol.length ≤ 120) := hsm0
  have HBG : Hid (base ≤ g) := hgb
  have HCB : Hid (Blk w g cur 58) := hcb
  have hn5 : v.kd ≠ 5 := by omega
  have HN5 : Hid (v.kd ≠ 5) := hn5
  have HOI : Hid (∀ i, (Value.slice sp sn sc).ownBlock = some i → i < w.heap.size ∧ base ≤ i ∧ i ≠ g) := fun i hi => ⟨(World.ownsRow.lt hx0.so i hi).2, (World.ownsRow.lt hx0.so i hi).1, fun e => hoff.1 i hi (by rw [e]; rfl)⟩
  clear h hk hx hc hx0 hoff hself hm hkd ht hwf0 hsm0 hgb hn5
  obtain ⟨O, hO⟩ : ∃ O, k * 8 = O := ⟨_, rfl⟩
  have HO : Hid (k * 8 = O) := hO
  rw [hO] at HCS hcs hcc
  rw [hO]
  clear hO
  have HC0 : Hid (cur[O + 0]? = some (.int .i64 y.me)) := hcc 0 (by decide)
  have HC1 : Hid (cur[O + 1]? = some (.int .i64 y.rv)) := hcc 1 (by decide)
  have HC2 : Hid (cur[O + 2]? = some (.int .i64 y.nx)) := hcc 2 (by decide)
  have HC3 : Hid (cur[O + 3]? = some (.int .i64 y.mo)) := hcc 3 (by decide)
  have HC4 : Hid (cur[O + 4]? = some (.int .i64 y.bo)) := hcc 4 (by decide)
  have HC5 : Hid (cur[O + 5]? = some (.int .i64 y.fr)) := hcc 5 (by decide)
  have HC6 : Hid (cur[O + 6]? = some (.slice dp dn dc)) := hcc 6 (by decide)
  have HC7 : Hid (cur[O + 7]? = some (.slice sp sn sc)) := hcc 7 (by decide)
  clear hcc
  have H0v : Hid (Blk (w.alloc (.cells #[.int .i64 v.kd, .int .i64 v.me, .int .i64 v.mo, .int .i64 v.id, .int .i64 v.te, .int .i64 v.de, .int .i64 v.fe, .int .i64 v.pr, .int .i64 v.ch, .int .i64 v.un, .int .i64 v.tg, .int .i64 v.ow, .int .i64 v.bp] 27)) w.heap.size #[.int .i64 v.kd, .int .i64 v.me, .int .i64 v.mo, .int .i64 v.id, .int .i64 v.te, .int .i64 v.de, .int .i64 v.fe, .int .i64 v.pr, .int .i64 v.ch, .int .i64 v.un, .int .i64 v.tg, .int .i64 v.ow, .int .i64 v.bp] 27) := Blk.new _ _ _
  have H0c : Hid (Blk (w.alloc (.cells #[.int .i64 v.kd, .int .i64 v.me, .int .i64 v.mo, .int .i64 v.id, .int .i64 v.te, .int .i64 v.de, .int .i64 v.fe, .int .i64 v.pr, .int .i64 v.ch, .int .i64 v.un, .int .i64 v.tg, .int .i64 v.ow, .int .i64 v.bp] 27)) g cur 58) := hcb.alloc _
  have H0B : Hid (Below w.heap.size w (w.alloc (.cells #[.int .i64 v.kd, .int .i64 v.me, .int .i64 v.mo, .int .i64 v.id, .int .i64 v.te, .int .i64 v.de, .int .i64 v.fe, .int .i64 v.pr, .int .i64 v.ch, .int .i64 v.un, .int .i64 v.tg, .int .i64 v.ow, .int .i64 v.bp] 27))) := (Below.refl _ _).alloc (Nat.le_refl _) _
  have hl0 : w.heap.size < (w.alloc (.cells #[.int .i64 v.kd, .int .i64 v.me, .int .i64 v.mo, .int .i64 v.id, .int .i64 v.te, .int .i64 v.de, .int .i64 v.fe, .int .i64 v.pr, .int .i64 v.ch, .int .i64 v.un, .int .i64 v.tg, .int .i64 v.ow, .int .i64 v.bp] 27)).heap.size := H0v.out.lt
  clear hcb hcs
  go_enter Try.func53, Try.ntmps53
  go_upto_region 1 with fail
  generalize (w.alloc (.cells #[.int .i64 v.kd, .int .i64 v.me, .int .i64 v.mo, .int .i64 v.id, .int .i64 v.te, .int .i64 v.de, .int .i64 v.fe, .int .i64 v.pr, .int .i64 v.ch, .int .i64 v.un, .int .i64 v.tg, .int .i64 v.ow, .int .i64 v.bp] 27)) = W0 at *
  have z0 : W0.cell? ⟨g, O, none⟩ = some (.int .i64 y.me) := (H0c.out.cell (O + 0)).trans HC0.out
  have z1 : W0.cell? ⟨g, O + 1, none⟩ = some (.int .i64 y.rv) := (H0c.out.cell (O + 1)).trans HC1.out
  have z2 : W0.cell? ⟨g, O + 2, none⟩ = some (.int .i64 y.nx) := (H0c.out.cell (O + 2)).trans HC2.out
  have z3 : W0.cell? ⟨g, O + 3, none⟩ = some (.int .i64 y.mo) := (H0c.out.cell (O + 3)).trans HC3.out
  have z4 : W0.cell? ⟨g, O + 4, none⟩ = some (.int .i64 y.bo) := (H0c.out.cell (O + 4)).trans HC4.out
  have z5 : W0.cell? ⟨g, O + 5, none⟩ = some (.int .i64 y.fr) := (H0c.out.cell (O + 5)).trans HC5.out
  have z6 : W0.cell? ⟨g, O + 6, none⟩ = some (.slice dp dn dc) := (H0c.out.cell (O + 6)).trans HC6.out
  have H2v : Hid (Blk (W0.alloc (.cells #[.int .i64 y.me, .int .i64 y.rv, .int .i64 y.nx, .int .i64 y.mo, .int .i64 y.bo, .int .i64 y.fr, .slice dp dn dc] 55)) (w.heap.size) #[.int .i64 v.kd, .int .i64 v.me, .int .i64 v.mo, .int .i64 v.id, .int .i64 v.te, .int .i64 v.de, .int .i64 v.fe, .int .i64 v.pr, .int .i64 v.ch, .int .i64 v.un, .int .i64 v.tg, .int .i64 v.ow, .int .i64 v.bp] 27) := (H0v.out.alloc _)
  have H2c : Hid (Blk (W0.alloc (.cells #[.int .i64 y.me, .int .i64 y.rv, .int .i64 y.nx, .int .i64 y.mo, .int .i64 y.bo, .int .i64 y.fr, .slice dp dn dc] 55)) (g) cur 58) := (H0c.out.alloc _)
  have H2a : Hid (Blk (W0.alloc (.cells #[.int .i64 y.me, .int .i64 y.rv, .int .i64 y.nx, .int .i64 y.mo, .int .i64 y.bo, .int .i64 y.fr, .slice dp dn dc] 55)) (W0.heap.size) #[.int .i64 y.me, .int .i64 y.rv, .int .i64 y.nx, .int .i64 y.mo, .int .i64 y.bo, .int .i64 y.fr, .slice dp dn dc] 55) := Blk.new _ _ _
  have H2B : Hid (Below w.heap.size w (W0.alloc (.cells #[.int .i64 y.me, .int .i64 y.rv, .int .i64 y.nx, .int .i64 y.mo, .int .i64 y.bo, .int .i64 y.fr, .slice dp dn dc] 55))) := H0B.out.alloc H0B.out.size _
  have hlW1 : W0.heap.size < (W0.alloc (.cells #[.int .i64 y.me, .int .i64 y.rv, .int .i64 y.nx, .int .i64 y.mo, .int .i64 y.bo, .int .i64 y.fr, .slice dp dn dc] 55)).heap.size := H2a.out.lt
  go_upto_region 2 with fail
  clear H0v H0c H0B
  generalize (W0.alloc (.cells #[.int .i64 y.me, .int .i64 y.rv, .int .i64 y.nx, .int .i64 y.mo, .int .i64 y.bo, .int .i64 y.fr, .slice dp dn dc] 55)) = W1 at *
  clear z0 z1 z2 z3 z4 z5 z6
  generalize W0.heap.size = ga at *
  have HW1 : Hid (Calls Try.prog 67 #[.pointer (some ⟨gW, 0, none⟩), .agg #[.int .i64 y.me, .int .i64 y.rv, .int .i64 y.nx, .int .i64 y.mo, .int .i64 y.bo, .int .i64 y.fr, .slice dp dn dc], .agg #[.int .i64 v.kd, .int .i64 v.me, .int .i64 v.mo, .int .i64 v.id, .int .i64 v.te, .int .i64 v.de, .int .i64 v.fe, .int .i64 v.pr, .int .i64 v.ch, .int .i64 v.un, .int .i64 v.tg, .int .i64 v.ow, .int .i64 v.bp]] W1 fun e w' => BPost W1 (Tells t ⟨y, sol⟩ v) e w') := HWK.out W1 H2B.out
  clear HWK
  go_wp2_with (first
    | (refine wp_whole rfl 27 _ rfl _ rfl 27 _ _ H2v.out Try.underlying27 rfl (by kernel_rfl) ?_)
    | (refine wp_whole rfl 58 _ rfl (g) rfl 58 cur _ H2c.out Try.underlying58 rfl (by kernel_rfl) ?_)
    | (refine wp_whole rfl 55 _ rfl _ rfl 55 _ _ H2a.out Try.underlying55 rfl (by kernel_rfl) ?_)
    | fail)
  refine HW1.out.mono ?_
  rintro e w2 ⟨b, l, pb, lb, cb, f, rfl, hi, hf, hb1⟩
  have hW2 : W1.heap.size ≤ w2.heap.size := hb1.size
  have HI : Hid (Tells t ⟨y, sol⟩ v b l f) := hi
  have HF2 : Hid (deb.Fresh w2 W1.heap.size pb lb cb b.ds) := hf
  have H3v := shN H2v hb1
  have H3c := shN H2c hb1
  have H3a := shN H2a hb1
  have H3B := shB H2B hb1
  clear H2v H2c H2a H2B
  clear hi hf hb1 HW1
  unfold acc.Ac.v acc.Ac.cs acc.Bi.v
  have HF3 : Hid (deb.Fresh ((w2.alloc (.cells #[.int .i64 b.me, .int .i64 b.rv, .int .i64 b.nx, .int .i64 b.mo, .int .i64 b.bo, .int .i64 b.fr, .slice pb lb cb] 55)).alloc (.cells #[.int .i64 l.id, .int .i64 l.te, .int .i64 l.de, .int .i64 l.fe, .int .i64 l.pr, .int .i64 l.ch, .int .i64 l.un] 23)) W1.heap.size pb lb cb b.ds) := HF2.out.below (((Below.refl _ _).alloc (Nat.le_refl _) _).alloc (by simp) _)
  have HFU : Hid (0 < lb → ∀ p, pb = some p → p.block < w2.heap.size) := came_lt HF2.out.came
  have H4v : Hid (Blk ((w2.alloc (.cells #[.int .i64 b.me, .int .i64 b.rv, .int .i64 b.nx, .int .i64 b.mo, .int .i64 b.bo, .int .i64 b.fr, .slice pb lb cb] 55)).alloc (.cells #[.int .i64 l.id, .int .i64 l.te, .int .i64 l.de, .int .i64 l.fe, .int .i64 l.pr, .int .i64 l.ch, .int .i64 l.un] 23)) (w.heap.size) #[.int .i64 v.kd, .int .i64 v.me, .int .i64 v.mo, .int .i64 v.id, .int .i64 v.te, .int .i64 v.de, .int .i64 v.fe, .int .i64 v.pr, .int .i64 v.ch, .int .i64 v.un, .int .i64 v.tg, .int .i64 v.ow, .int .i64 v.bp] 27) := ((H3v.out.alloc _).alloc _)
  have H4c : Hid (Blk ((w2.alloc (.cells #[.int .i64 b.me, .int .i64 b.rv, .int .i64 b.nx, .int .i64 b.mo, .int .i64 b.bo, .int .i64 b.fr, .slice pb lb cb] 55)).alloc (.cells #[.int .i64 l.id, .int .i64 l.te, .int .i64 l.de, .int .i64 l.fe, .int .i64 l.pr, .int .i64 l.ch, .int .i64 l.un] 23)) (g) cur 58) := ((H3c.out.alloc _).alloc _)
  have H4a : Hid (Blk ((w2.alloc (.cells #[.int .i64 b.me, .int .i64 b.rv, .int .i64 b.nx, .int .i64 b.mo, .int .i64 b.bo, .int .i64 b.fr, .slice pb lb cb] 55)).alloc (.cells #[.int .i64 l.id, .int .i64 l.te, .int .i64 l.de, .int .i64 l.fe, .int .i64 l.pr, .int .i64 l.ch, .int .i64 l.un] 23)) (ga) #[.int .i64 y.me, .int .i64 y.rv, .int .i64 y.nx, .int .i64 y.mo, .int .i64 y.bo, .int .i64 y.fr, .slice dp dn dc] 55) := ((H3a.out.alloc _).alloc _)
  have H4be : Hid (Blk ((w2.alloc (.cells #[.int .i64 b.me, .int .i64 b.rv, .int .i64 b.nx, .int .i64 b.mo, .int .i64 b.bo, .int .i64 b.fr, .slice pb lb cb] 55)).alloc (.cells #[.int .i64 l.id, .int .i64 l.te, .int .i64 l.de, .int .i64 l.fe, .int .i64 l.pr, .int .i64 l.ch, .int .i64 l.un] 23)) (w2.heap.size) #[.int .i64 b.me, .int .i64 b.rv, .int .i64 b.nx, .int .i64 b.mo, .int .i64 b.bo, .int .i64 b.fr, .slice pb lb cb] 55) := (Blk.new _ _ _).alloc _
  have H4bi : Hid (Blk ((w2.alloc (.cells #[.int .i64 b.me, .int .i64 b.rv, .int .i64 b.nx, .int .i64 b.mo, .int .i64 b.bo, .int .i64 b.fr, .slice pb lb cb] 55)).alloc (.cells #[.int .i64 l.id, .int .i64 l.te, .int .i64 l.de, .int .i64 l.fe, .int .i64 l.pr, .int .i64 l.ch, .int .i64 l.un] 23)) (w2.heap.size + 1) #[.int .i64 l.id, .int .i64 l.te, .int .i64 l.de, .int .i64 l.fe, .int .i64 l.pr, .int .i64 l.ch, .int .i64 l.un] 23) := Blk.new1 _ _ _ _
  have H4B : Hid (Below w.heap.size w ((w2.alloc (.cells #[.int .i64 b.me, .int .i64 b.rv, .int .i64 b.nx, .int .i64 b.mo, .int .i64 b.bo, .int .i64 b.fr, .slice pb lb cb] 55)).alloc (.cells #[.int .i64 l.id, .int .i64 l.te, .int .i64 l.de, .int .i64 l.fe, .int .i64 l.pr, .int .i64 l.ch, .int .i64 l.un] 23))) := (H3B.out.alloc H3B.out.size _).alloc (Nat.le_trans H3B.out.size (by simp)) _
  have hlW3 : w2.heap.size + 1 < ((w2.alloc (.cells #[.int .i64 b.me, .int .i64 b.rv, .int .i64 b.nx, .int .i64 b.mo, .int .i64 b.bo, .int .i64 b.fr, .slice pb lb cb] 55)).alloc (.cells #[.int .i64 l.id, .int .i64 l.te, .int .i64 l.de, .int .i64 l.fe, .int .i64 l.pr, .int .i64 l.ch, .int .i64 l.un] 23)).heap.size := H4bi.out.lt
  go_upto_region 3 with fail
  clear H3v H3c H3a H3B
  generalize ((w2.alloc (.cells #[.int .i64 b.me, .int .i64 b.rv, .int .i64 b.nx, .int .i64 b.mo, .int .i64 b.bo, .int .i64 b.fr, .slice pb lb cb] 55)).alloc (.cells #[.int .i64 l.id, .int .i64 l.te, .int .i64 l.de, .int .i64 l.fe, .int .i64 l.pr, .int .i64 l.ch, .int .i64 l.un] 23)) = W3 at *
  clear HF2
  generalize w2.heap.size = gb at *
  by_cases h0 : f = 0
  case neg =>
    have HN1 := HNO.out f h0
    have HN2 : Hid (∀ W, Calls Try.prog 46 #[.int .i64 f] W fun e w' => e = .panicked (thrown f) ∧ w' = W) := HN1
    have HNE : Hid (f ≠ 0) := h0
    clear HN1 HNO h0
    go_wp2_with (first
      | (refine wp_whole rfl 27 _ rfl _ rfl 27 _ _ H4v.out Try.underlying27 rfl (by kernel_rfl) ?_)
      | (refine wp_whole rfl 58 _ rfl (g) rfl 58 cur _ H4c.out Try.underlying58 rfl (by kernel_rfl) ?_)
      | (refine wp_whole rfl 55 _ rfl _ rfl 55 _ _ H4a.out Try.underlying55 rfl (by kernel_rfl) ?_)
      | (refine wp_whole rfl 55 _ rfl _ rfl 55 _ _ H4be.out Try.underlying55 rfl (by kernel_rfl) ?_)
      | (refine wp_whole rfl 23 _ rfl _ rfl 23 _ _ H4bi.out Try.underlying23 rfl (by kernel_rfl) ?_)
      | fail)
    refine (HN2.out _).mono ?_
    rintro e W9 ⟨rfl, rfl⟩
    exact ⟨rfl, .of H4B.out HSZ.out, .inr ⟨f, [], HNE.out, rfl, ⟨⟨y, sol⟩, by rw [HC.out]; exact .inr ⟨HN5.out, b, l, f, HI.out, .inl ⟨HNE.out, rfl⟩⟩, fun q => absurd q HNE.out⟩⟩⟩
  subst h0
  go_wp2_with (first
    | (refine wp_whole rfl 27 _ rfl _ rfl 27 _ _ H4v.out Try.underlying27 rfl (by kernel_rfl) ?_)
    | (refine wp_whole rfl 58 _ rfl (g) rfl 58 cur _ H4c.out Try.underlying58 rfl (by kernel_rfl) ?_)
    | (refine wp_whole rfl 55 _ rfl _ rfl 55 _ _ H4a.out Try.underlying55 rfl (by kernel_rfl) ?_)
    | (refine wp_whole rfl 55 _ rfl _ rfl 55 _ _ H4be.out Try.underlying55 rfl (by kernel_rfl) ?_)
    | (refine wp_whole rfl 23 _ rfl _ rfl 23 _ _ H4bi.out Try.underlying23 rfl (by kernel_rfl) ?_)
    | fail)
  refine (HOK.out _).mono ?_
  rintro e W9 ⟨rfl, hw9⟩
  obtain rfl : W3 = W9 := hw9.symm
  have HEQ : Hid ((Op.equalIn 10000 23 (.agg #[.int .i64 l.id, .int .i64 l.te, .int .i64 l.de, .int .i64 l.fe, .int .i64 l.pr, .int .i64 l.ch, .int .i64 l.un]) (.agg #[.int .i64 v.id, .int .i64 v.te, .int .i64 v.de, .int .i64 v.fe, .int .i64 v.pr, .int .i64 v.ch, .int .i64 v.un])).run Try.prog W3 = .ok (decide (l.id = v.id ∧ l.te = v.te ∧ l.de = v.de ∧ l.fe = v.fe ∧ l.pr = v.pr ∧ l.ch = v.ch ∧ l.un = v.un)) W3) := eqBi 9998 l.id l.te l.de l.fe l.pr l.ch l.un v.id v.te v.de v.fe v.pr v.ch v.un W3
  by_cases hq : l = billOf v
  case neg =>
    rw [decide_eq_false (fun q => hq (bill_eq q))] at HEQ
    have HNE : Hid (l ≠ billOf v) := hq
    have HN2 : Hid (∀ W, Calls Try.prog 46 #[.int .i64 8] W fun e w' => e = .panicked (thrown 8) ∧ w' = W) := fun W => insist_no 8 (by decide) W
    clear HNO hq
    obtain ⟨cv0, cv1, cv2, cv3, cv4, cv5, cv6, cv7, cv8, cv9, cv10, cv11, cv12⟩ := scl13 H4v
    obtain ⟨cb0, cb1, cb2, cb3, cb4, cb5, cb6⟩ := scl7 H4bi
    go_wp2_with (first | (refine wp_neE (by rfl) 23 _ _ _ rfl #[.int .i64 l.id, .int .i64 l.te, .int .i64 l.de, .int .i64 l.fe, .int .i64 l.pr, .int .i64 l.ch, .int .i64 l.un] #[.int .i64 v.id, .int .i64 v.te, .int .i64 v.de, .int .i64 v.fe, .int .i64 v.pr, .int .i64 v.ch, .int .i64 v.un] rfl rfl (by kernel_rfl) false HEQ.out _ rfl ?_) | fail)
    refine (HN2.out _).mono ?_
    rintro e W9 ⟨rfl, rfl⟩
    exact ⟨rfl, .of H4B.out HSZ.out, .inr ⟨8, [], by decide, rfl, ⟨⟨y, sol⟩, by rw [HC.out]; exact .inr ⟨HN5.out, b, l, 0, HI.out, .inr (.inl ⟨rfl, HNE.out, rfl⟩)⟩, fun q => absurd q (by decide)⟩⟩⟩
  rw [decide_eq_true (show l.id = v.id ∧ l.te = v.te ∧ l.de = v.de ∧ l.fe = v.fe ∧ l.pr = v.pr ∧ l.ch = v.ch ∧ l.un = v.un by subst hq; exact ⟨rfl, rfl, rfl, rfl, rfl, rfl, rfl⟩)] at HEQ
  have HLB : Hid (l = billOf v) := hq
  clear hq HNO HOK
  obtain ⟨cv0, cv1, cv2, cv3, cv4, cv5, cv6, cv7, cv8, cv9, cv10, cv11, cv12⟩ := scl13 H4v
  obtain ⟨cb0, cb1, cb2, cb3, cb4, cb5, cb6⟩ := scl7 H4bi
  obtain ⟨ca0, ca1, ca2, ca3, ca4, ca5, ca6⟩ := scl7 H4a
  have HSI : Hid (l.id = v.id ∧ l.un = v.un) := by show _ ∧ _; rw [HLB.out]; exact ⟨rfl, rfl⟩
  go_upto_region 6 with (first | (refine wp_neE (by rfl) 23 _ _ _ rfl #[.int .i64 l.id, .int .i64 l.te, .int .i64 l.de, .int .i64 l.fe, .int .i64 l.pr, .int .i64 l.ch, .int .i64 l.un] #[.int .i64 v.id, .int .i64 v.te, .int .i64 v.de, .int .i64 v.fe, .int .i64 v.pr, .int .i64 v.ch, .int .i64 v.un] rfl rfl (by kernel_rfl) true HEQ.out _ rfl ?_) | fail)
  clear HEQ
  have HF4 : Hid (deb.Fresh (W3.alloc (.cells #[.int .i64 l.id, .int .i64 0, .int .i64 l.un, .int .i64 v.tg, .int .i64 y.rv] 103)) W1.heap.size pb lb cb b.ds) := HF3.out.below ((Below.refl _ _).alloc (Nat.le_refl _) _)
  have H5v : Hid (Blk (W3.alloc (.cells #[.int .i64 l.id, .int .i64 0, .int .i64 l.un, .int .i64 v.tg, .int .i64 y.rv] 103)) (w.heap.size) #[.int .i64 v.kd, .int .i64 v.me, .int .i64 v.mo, .int .i64 v.id, .int .i64 v.te, .int .i64 v.de, .int .i64 v.fe, .int .i64 v.pr, .int .i64 v.ch, .int .i64 v.un, .int .i64 v.tg, .int .i64 v.ow, .int .i64 v.bp] 27) := (H4v.out.alloc _)
  have H5c : Hid (Blk (W3.alloc (.cells #[.int .i64 l.id, .int .i64 0, .int .i64 l.un, .int .i64 v.tg, .int .i64 y.rv] 103)) (g) cur 58) := (H4c.out.alloc _)
  have H5a : Hid (Blk (W3.alloc (.cells #[.int .i64 l.id, .int .i64 0, .int .i64 l.un, .int .i64 v.tg, .int .i64 y.rv] 103)) (ga) #[.int .i64 y.me, .int .i64 y.rv, .int .i64 y.nx, .int .i64 y.mo, .int .i64 y.bo, .int .i64 y.fr, .slice dp dn dc] 55) := (H4a.out.alloc _)
  have H5be : Hid (Blk (W3.alloc (.cells #[.int .i64 l.id, .int .i64 0, .int .i64 l.un, .int .i64 v.tg, .int .i64 y.rv] 103)) (gb) #[.int .i64 b.me, .int .i64 b.rv, .int .i64 b.nx, .int .i64 b.mo, .int .i64 b.bo, .int .i64 b.fr, .slice pb lb cb] 55) := (H4be.out.alloc _)
  have H5bi : Hid (Blk (W3.alloc (.cells #[.int .i64 l.id, .int .i64 0, .int .i64 l.un, .int .i64 v.tg, .int .i64 y.rv] 103)) (gb + 1) #[.int .i64 l.id, .int .i64 l.te, .int .i64 l.de, .int .i64 l.fe, .int .i64 l.pr, .int .i64 l.ch, .int .i64 l.un] 23) := (H4bi.out.alloc _)
  have H5so : Hid (Blk (W3.alloc (.cells #[.int .i64 l.id, .int .i64 0, .int .i64 l.un, .int .i64 v.tg, .int .i64 y.rv] 103)) (W3.heap.size) #[.int .i64 l.id, .int .i64 0, .int .i64 l.un, .int .i64 v.tg, .int .i64 y.rv] 103) := Blk.new _ _ _
  have H5B : Hid (Below w.heap.size w (W3.alloc (.cells #[.int .i64 l.id, .int .i64 0, .int .i64 l.un, .int .i64 v.tg, .int .i64 y.rv] 103))) := H4B.out.alloc H4B.out.size _
  have hlW4 : W3.heap.size < (W3.alloc (.cells #[.int .i64 l.id, .int .i64 0, .int .i64 l.un, .int .i64 v.tg, .int .i64 y.rv] 103)).heap.size := H5so.out.lt
  go_upto_region 7 with fail
  clear H4v H4c H4a H4be H4bi H4B
  generalize (W3.alloc (.cells #[.int .i64 l.id, .int .i64 0, .int .i64 l.un, .int .i64 v.tg, .int .i64 y.rv] 103)) = W4 at *
  clear HF3 cv0 cv1 cv2 cv3 cv4 cv5 cv6 cv7 cv8 cv9 cv10 cv11 cv12 cb0 cb1 cb2 cb3 cb4 cb5 cb6 ca0 ca1 ca2 ca3 ca4 ca5 ca6
  generalize W3.heap.size = gs at *
  have c0 : W4.cell? ⟨w.heap.size, 0, none⟩ = some (.int .i64 v.kd) := H5v.out.cell 0
  by_cases k4 : v.kd = 4
  case neg =>
    have q4 : (v.kd == 4) = false := by simpa using k4
    have HK4 : Hid (¬ v.kd = 4) := k4
    clear k4
    have HF4x : Hid (deb.Fresh W4 W1.heap.size pb lb cb b.ds) := HF4.out
    clear HF4
    go_wp2_with (first
      | (refine wp_let rfl 55 _ _ rfl g O rfl (.agg #[.int .i64 b.me, .int .i64 b.rv, .int .i64 b.nx, .int .i64 b.mo, .int .i64 b.bo, .int .i64 b.fr, .slice pb lb cb]) rfl #[.int .i64 b.me, .int .i64 b.rv, .int .i64 b.nx, .int .i64 b.mo, .int .i64 b.bo, .int .i64 b.fr, .slice pb lb cb] rfl (by kernel_rfl) (by simp [Value.oneCell']) cur 58 H5c.out (by have := HCS.out; simp; omega) (putAll cur O [.int .i64 b.me, .int .i64 b.rv, .int .i64 b.nx, .int .i64 b.mo, .int .i64 b.bo, .int .i64 b.fr, .slice pb lb cb]) rfl ?_)
      | (refine wp_whole rfl 27 _ rfl _ rfl 27 _ _ H5v.out Try.underlying27 rfl (by kernel_rfl) ?_)
      | (refine wp_whole rfl 58 _ rfl (g) rfl 58 cur _ H5c.out Try.underlying58 rfl (by kernel_rfl) ?_)
      | (refine wp_whole rfl 55 _ rfl _ rfl 55 _ _ H5a.out Try.underlying55 rfl (by kernel_rfl) ?_)
      | (refine wp_whole rfl 55 _ rfl _ rfl 55 _ _ H5be.out Try.underlying55 rfl (by kernel_rfl) ?_)
      | (refine wp_whole rfl 23 _ rfl _ rfl 23 _ _ H5bi.out Try.underlying23 rfl (by kernel_rfl) ?_)
      | (refine wp_whole rfl 103 _ rfl _ rfl 103 _ _ H5so.out Try.underlying103 rfl (by kernel_rfl) ?_)
      | fail)
    intro W5 hU
    have HU5 : Hid (Upd W4 W5 g (putAll cur O [.int .i64 b.me, .int .i64 b.rv, .int .i64 b.nx, .int .i64 b.mo, .int .i64 b.bo, .int .i64 b.fr, .slice pb lb cb]) 58) := hU
    have H5c : Hid (Blk W5 g (putAll cur O [.int .i64 b.me, .int .i64 b.rv, .int .i64 b.nx, .int .i64 b.mo, .int .i64 b.bo, .int .i64 b.fr, .slice pb lb cb]) 58) := hU.blk
    have H5so := shK hU H5so (by omega)
    have hs5 : W5.heap.size = W4.heap.size := hU.size
    have HX5 : Hid (Below w.heap.size w W4) := H5B.out
    have H5l : Hid (Lo W5 base (.slice sp sn sc) sol) := lo_upd (HH.out.so.next HX5.out) hU (fun i hi => (HOI.out i hi).2.2)
    have H5f : Hid (tar.Came W5 pb lb cb b.ds) := acc_upd HF4x.out.came hU (fun hn p hp => by have := HF4x.out.new hn p hp; omega)
    have HFN : Hid (0 < lb → ∀ p, pb = some p → W1.heap.size ≤ p.block ∧ p.block < gb) := fun hn p hp => ⟨HF4x.out.new hn p hp, HFU.out hn p hp⟩
    have HS5 : Hid (base ≤ W5.heap.size) := by show _ ≤ _; rw [hs5]; exact Nat.le_trans HSZ.out HX5.out.size
    have HSS : Hid (W4.heap.size = W5.heap.size) := hs5.symm
    clear hU
    go_wp2_with fail
    refine wp_region_held_drew (S := fun u => Blk u gs #[.int .i64 l.id, .int .i64 0, .int .i64 l.un, .int .i64 v.tg, .int .i64 y.rv] 103) (by kernel_rfl) (show _ from Blk.drew H5so.out 1) (fun hHeld => ?_)
    have q7 : W5.drew.cell? ⟨g, O + 7, none⟩ = some (.slice sp sn sc) := by
      rw [show W5.drew.cell? ⟨g, O + 7, none⟩ = W5.cell? ⟨g, O + 7, none⟩ from rfl, H5c.out.cell (O + 7), putAll_get _ _ _ _ (by have := HCS.out; simp; omega), if_neg (by simp only [List.length_cons, List.length_nil]; omega)]
      exact HC7.out
    have G0 : Hid (Blk W5.drew g (putAll cur O [.int .i64 b.me, .int .i64 b.rv, .int .i64 b.nx, .int .i64 b.mo, .int .i64 b.bo, .int .i64 b.fr, .slice pb lb cb]) 58) := H5c.out
    have G1 : Hid (Blk W5.drew gs #[.int .i64 l.id, .int .i64 0, .int .i64 l.un, .int .i64 v.tg, .int .i64 y.rv] 103) := H5so.out
    have G2 : Hid (Lo W5.drew base (.slice sp sn sc) sol) := H5l.out.next (Below.refl _ _).drew
    have G3 : Hid (tar.Came W5.drew pb lb cb b.ds) := H5f.out.below (Below.refl _ _).drew
    have G4 : Hid (∀ i, i ≠ g → W5.drew.heap[i]? = W4.heap[i]?) := fun i hi => HU5.out.oth i hi
    have G5 : Hid (W5.drew.os = w.os ∧ W5.drew.tape = w.tape ∧ W5.drew.output = w.output) := by have hb := (HU5.out.bel 0 w (Nat.zero_le _) (HX5.out.mono (Nat.zero_le _))); exact ⟨hb.os, hb.tape, hb.output⟩
    have G6 : Hid (base ≤ W5.drew.heap.size) := HS5.out
    have G7 : Hid (W4.heap.size = W5.drew.heap.size) := HSS.out
    clear H5c H5so H5l H5f HU5 HS5 HSS hs5
    generalize W5.drew = U at *
    refine take_at 0 50 (.pointer (some ⟨g, O, none⟩)) _ rfl rfl (by kernel_rfl) (by kernel_rfl) (by kernel_rfl) (fun _ _ _ h => h) (Or.inl ⟨by rfl, fun v hv => by clear hv; go_simp⟩) hHeld ?_
    simp only [Act.put, List.setIfInBounds_toArray, List.set_cons_zero, List.set_cons_succ]
    refine take_at 1 51 (.pointer (some ⟨g, O, none⟩)) _ rfl rfl (by kernel_rfl) (by kernel_rfl) (by kernel_rfl) (fun _ _ _ h => h) (Or.inl ⟨by rfl, fun v hv => by clear hv; go_simp⟩) hHeld ?_
    simp only [Act.put, List.setIfInBounds_toArray, List.set_cons_zero, List.set_cons_succ]
    refine take_at 2 52 (.pointer (some ⟨g, O, none⟩)) _ rfl rfl (by kernel_rfl) (by kernel_rfl) (by kernel_rfl) (fun _ _ _ h => h) (Or.inl ⟨by rfl, fun v hv => by clear hv; go_simp⟩) hHeld ?_
    simp only [Act.put, List.setIfInBounds_toArray, List.set_cons_zero, List.set_cons_succ]
    refine take_at 3 53 (.pointer (some ⟨g, O + 7, none⟩)) _ rfl rfl (by kernel_rfl) (by kernel_rfl) (by kernel_rfl) (fun _ _ _ h => h) (Or.inl ⟨by rfl, fun v hv => by clear hv; go_simp⟩) hHeld ?_
    simp only [Act.put, List.setIfInBounds_toArray, List.set_cons_zero, List.set_cons_succ]
    refine take_at 5 55 (.agg #[.int .i64 l.id, .int .i64 0, .int .i64 l.un, .int .i64 v.tg, .int .i64 y.rv]) _ rfl rfl (by kernel_rfl) (by kernel_rfl) (by kernel_rfl) (fun _ _ _ h => h) (Or.inl ⟨by rfl, fun v hv => by have g0 := hv.cell 0; have g1 := hv.cell 1; have g2 := hv.cell 2; have g3 := hv.cell 3; have g4 := hv.cell 4; clear hv; go_simp⟩) hHeld ?_
    simp only [Act.put, List.setIfInBounds_toArray, List.set_cons_zero, List.set_cons_succ]
    refine wpAnyH_ready (rs := [4, 6]) (by kernel_rfl) (by simp) (AllReadyH.cons rfl (fun K hK => ?_) (AllReadyH.cons rfl (fun K hK => ?_) AllReadyH.nil))
    · rw [if_pos (by rfl)]
      refine wp_runOp (v := .slice sp sn sc) (w' := U) 54 rfl (by clear hK; go_simp) ?_
      refine hK.out _ _ G1.out (fun hHeld => ?_)
      clear hK K
      simp only [Act.put, List.setIfInBounds_toArray, List.set_cons_zero, List.set_cons_succ]
      refine wpAnyH_ready (rs := [6]) (by kernel_rfl) (by simp) (AllReadyH.cons rfl (fun K hK => ?_) AllReadyH.nil)
      rw [if_pos (by rfl)]
      refine wp_runOp (v := .slice (some ⟨U.heap.size, 0, none⟩) 1 1) (w' := (U.alloc (.cells #[.int .i64 l.id, .int .i64 0, .int .i64 l.un, .int .i64 v.tg, .int .i64 y.rv] 103))) 56 rfl (by clear hK; go_simp) ?_
      refine hK.out _ _ (G1.out.alloc _) (fun hHeld => ?_)
      clear hK K q7
      simp only [Act.put, List.setIfInBounds_toArray, List.set_cons_zero, List.set_cons_succ]
      have J0 : Hid (Blk (U.alloc (.cells #[.int .i64 l.id, .int .i64 0, .int .i64 l.un, .int .i64 v.tg, .int .i64 y.rv] 103)) g (putAll cur O [.int .i64 b.me, .int .i64 b.rv, .int .i64 b.nx, .int .i64 b.mo, .int .i64 b.bo, .int .i64 b.fr, .slice pb lb cb]) 58) := G0.out.alloc _
      have J1 : Hid (Blk (U.alloc (.cells #[.int .i64 l.id, .int .i64 0, .int .i64 l.un, .int .i64 v.tg, .int .i64 y.rv] 103)) gs #[.int .i64 l.id, .int .i64 0, .int .i64 l.un, .int .i64 v.tg, .int .i64 y.rv] 103) := G1.out.alloc _
      have J2 : Hid (Lo (U.alloc (.cells #[.int .i64 l.id, .int .i64 0, .int .i64 l.un, .int .i64 v.tg, .int .i64 y.rv] 103)) base (.slice sp sn sc) sol) := G2.out.alloc _
      have J3 : Hid (tar.Came (U.alloc (.cells #[.int .i64 l.id, .int .i64 0, .int .i64 l.un, .int .i64 v.tg, .int .i64 y.rv] 103)) pb lb cb b.ds) := G3.out.below ((Below.refl _ _).alloc (Nat.le_refl _) _)
      have J4 : Hid (∀ i, i ≠ g → i < W4.heap.size → (U.alloc (.cells #[.int .i64 l.id, .int .i64 0, .int .i64 l.un, .int .i64 v.tg, .int .i64 y.rv] 103)).heap[i]? = W4.heap[i]?) := fun i hi hl => by rw [← G4.out i hi]; exact ((Below.refl U.heap.size U).alloc (Nat.le_refl _) _).block i (by rw [← G7.out]; exact hl)
      have J5 : Hid ((U.alloc (.cells #[.int .i64 l.id, .int .i64 0, .int .i64 l.un, .int .i64 v.tg, .int .i64 y.rv] 103)).os = w.os ∧ (U.alloc (.cells #[.int .i64 l.id, .int .i64 0, .int .i64 l.un, .int .i64 v.tg, .int .i64 y.rv] 103)).tape = w.tape ∧ (U.alloc (.cells #[.int .i64 l.id, .int .i64 0, .int .i64 l.un, .int .i64 v.tg, .int .i64 y.rv] 103)).output = w.output) := G5.out
      have J6 : Hid (base ≤ (U.alloc (.cells #[.int .i64 l.id, .int .i64 0, .int .i64 l.un, .int .i64 v.tg, .int .i64 y.rv] 103)).heap.size ∧ W4.heap.size ≤ (U.alloc (.cells #[.int .i64 l.id, .int .i64 0, .int .i64 l.un, .int .i64 v.tg, .int .i64 y.rv] 103)).heap.size) := by show _ ∧ _; have h1 := G6.out; have h2 := G7.out; simp; omega
      have J8 : Hid (Blk (U.alloc (.cells #[.int .i64 l.id, .int .i64 0, .int .i64 l.un, .int .i64 v.tg, .int .i64 y.rv] 103)) U.heap.size #[.int .i64 l.id, .int .i64 0, .int .i64 l.un, .int .i64 v.tg, .int .i64 y.rv] 103) := Blk.new _ _ _
      clear G0 G1 G2 G3 G4 G5 G6 G7
      generalize U.heap.size = gn at *
      generalize (U.alloc (.cells #[.int .i64 l.id, .int .i64 0, .int .i64 l.un, .int .i64 v.tg, .int .i64 y.rv] 103)) = U2 at *
      refine wpAnyH_ready (rs := [7]) (by kernel_rfl) (by simp) (AllReadyH.cons rfl (fun K hK => ?_) AllReadyH.nil)
      rw [if_pos (by rfl)]
      refine step_sold 57 rfl _ _ rfl base gn _ sol (⟨l.id, 0, l.un, v.tg, y.rv⟩ : So) rfl rfl J2.out J8.out (by have := HSL.out; omega) J6.out.1 ?_
      intro v3 w9 h3 hg3 ho3
      obtain ⟨p3, c3, rfl, _, _, _⟩ := h3.row
      have L0 : Hid (Blk w9 g (putAll cur O [.int .i64 b.me, .int .i64 b.rv, .int .i64 b.nx, .int .i64 b.mo, .int .i64 b.bo, .int .i64 b.fr, .slice pb lb cb]) 58) := blk_kept J0.out hg3 (fun q => (HOI.out g q.symm).2.2 rfl)
      have L1 : Hid (Blk w9 gs #[.int .i64 l.id, .int .i64 0, .int .i64 l.un, .int .i64 v.tg, .int .i64 y.rv] 103) := blk_kept J1.out hg3 (fun q => by have := (HOI.out gs q.symm).1; omega)
      have L2 : Hid (Lo w9 base (.slice p3 (sol ++ [(⟨l.id, 0, l.un, v.tg, y.rv⟩ : So)]).length c3) (sol ++ [(⟨l.id, 0, l.un, v.tg, y.rv⟩ : So)])) := h3
      have L3 : Hid (tar.Came w9 pb lb cb b.ds) := came_grown J3.out hg3 (fun hn p hp q => by have h1 := (HFN.out hn p hp).1; have h2 := (HOI.out _ q.symm).1; omega)
      have L4 : Hid (∀ i, i ≠ g → (Value.slice sp sn sc).ownBlock ≠ some i → i < w.heap.size → w9.heap[i]? = w.heap[i]?) := fun i h1 h2 h3 => by rw [hg3.block i (by have := J6.out; have := HX5.out.size; omega) (fun q => h2 q.symm), J4.out i h1 (by have := HX5.out.size; omega), HX5.out.block i h3]
      have L5 : Hid (w9.os = w.os ∧ w9.tape = w.tape ∧ w9.output = w.output) := ⟨hg3.os.trans J5.out.1, hg3.tape.trans J5.out.2.1, hg3.output.trans J5.out.2.2⟩
      have L6 : Hid (w.heap.size ≤ U2.heap.size ∧ U2.heap.size ≤ w9.heap.size) := ⟨by have := J6.out; have := HX5.out.size; omega, hg3.size⟩
      have L7 : Hid ((Value.slice p3 (sol ++ [(⟨l.id, 0, l.un, v.tg, y.rv⟩ : So)]).length c3).ownBlock = (Value.slice sp sn sc).ownBlock ∨ (Value.slice p3 (sol ++ [(⟨l.id, 0, l.un, v.tg, y.rv⟩ : So)]).length c3).ownBlock = some U2.heap.size) := ho3
      have LFU : Hid (0 < lb → ∀ p, pb = some p → p.block < U2.heap.size) := came_lt J3.out
      refine hK.out _ _ L1.out (fun hHeld => ?_)
      clear hK K h3 hg3 ho3 J0 J1 J2 J3 J4 J5 J6 J8
      simp only [Act.put, List.setIfInBounds_toArray, List.set_cons_zero, List.set_cons_succ]
      generalize (sol ++ [(⟨l.id, 0, l.un, v.tg, y.rv⟩ : So)]).length = n3 at *
      refine take_at 8 58 (.pointer (some ⟨g, O, none⟩)) _ rfl rfl (by kernel_rfl) (by kernel_rfl) (by kernel_rfl) (fun _ _ _ h => h) (Or.inl ⟨by rfl, fun v hv => by clear hv; go_simp⟩) hHeld ?_
      simp only [Act.put, List.setIfInBounds_toArray, List.set_cons_zero, List.set_cons_succ]
      refine take_at 9 59 (.pointer (some ⟨g, O + 7, none⟩)) _ rfl rfl (by kernel_rfl) (by kernel_rfl) (by kernel_rfl) (fun _ _ _ h => h) (Or.inl ⟨by rfl, fun v hv => by clear hv; go_simp⟩) hHeld ?_
      simp only [Act.put, List.setIfInBounds_toArray, List.set_cons_zero, List.set_cons_succ]
      refine wpAnyH_ready (rs := [10]) (by kernel_rfl) (by simp) (AllReadyH.cons rfl (fun K hK => ?_) AllReadyH.nil)
      rw [if_pos (by rfl)]
      refine acc.wp_letOp1 56 _ _ rfl g (O + 7) rfl (.slice p3 n3 c3) rfl rfl (by kernel_rfl) rfl (putAll cur O [.int .i64 b.me, .int .i64 b.rv, .int .i64 b.nx, .int .i64 b.mo, .int .i64 b.bo, .int .i64 b.fr, .slice pb lb cb]) 58 L0.out (by rw [putAll_size]; have := HCS.out; omega) rfl ?_
      intro WF hU
      have M1 := shK hU L1 (by omega)
      have MF : Hid (WPost w0 base gW B t pt lt ct (HapR t bk k v) w (.returned (.tuple #[])) WF) := by
        have hb := hU.bel 0 w9 (Nat.zero_le _) (Below.refl _ _)
        have hO : ∀ i, i < w.heap.size → i ≠ g → (Value.slice sp sn sc).ownBlock ≠ some i → WF.heap[i]? = w.heap[i]? := fun i h1 h2 h3 => by rw [hU.oth i h2]; exact L4.out i h2 h3 h1
        have hos : WF.os = w.os ∧ WF.tape = w.tape ∧ WF.output = w.output := ⟨hb.os.trans L5.out.1, hb.tape.trans L5.out.2.1, hb.output.trans L5.out.2.2⟩
        have hsz : w.heap.size ≤ WF.heap.size := by rw [hU.size]; exact Nat.le_trans L6.out.1 L6.out.2
        have hso : (⟨l.id, 0, l.un, v.tg, y.rv⟩ : So) = soldOf ⟨y, sol⟩ v := by unfold soldOf; rw [if_neg HK4.out]; simp only; rw [HSI.out.1, HSI.out.2]
        have hh : HapIs t ⟨y, sol⟩ v ⟨b, sol ++ [soldOf ⟨y, sol⟩ v]⟩ 0 := .inr ⟨HN5.out, b, l, 0, HI.out, .inr (.inr ⟨rfl, HLB.out, rfl, rfl⟩)⟩
        have hw := hap_wf hh HMA.out
        refine ⟨⟨hos.1, hos.2.1, hos.2.2, hsz, fun i h1 _ _ => hO i (by have := HSZ.out; omega) (by have := HBG.out; omega) (fun q => by have := (HOI.out i q).2.1; omega)⟩, .inl ⟨.slice (some ⟨g, 0, none⟩) n cap, xs.set k ⟨b.me, b.rv, b.nx, b.mo, b.bo, b.fr, pb, lb, cb, p3, n3, c3⟩, bk.set k ⟨b, sol ++ [soldOf ⟨y, sol⟩ v]⟩, rfl, ⟨⟨b, sol ++ [soldOf ⟨y, sol⟩ v]⟩, by rw [HC.out]; exact hh, fun _ => rfl⟩, fun hsm => ?_⟩⟩
        refine put_wr HR.out HKL.out HX.out HCB.out hO hsz hos (x' := ⟨b.me, b.rv, b.nx, b.mo, b.bo, b.fr, pb, lb, cb, p3, n3, c3⟩) ⟨⟨rfl, rfl, rfl, rfl, rfl, rfl⟩, ⟨acc_upd L3.out hU (fun hn p hp q => by have := (HFN.out hn p hp).1; omega), fun hn p hp => by have := (HFN.out hn p hp).1; have := HSZ.out; omega⟩, ?_⟩ hw.1 (by rw [HC.out]; exact hw.2) ?_ ?_ ?_ ?_ hsm
        · refine lo_upd (by rw [← hso]; exact L2.out) hU (fun i hi q => ?_)
          rcases L7.out with e1 | e1
          · exact (HOI.out i (e1 ▸ hi)).2.2 q
          · have e2 : some i = some U2.heap.size := hi.symm.trans e1
            injection e2 with e2; have := L6.out; omega
        · intro i hi
          rcases L7.out with e1 | e1
          · exact .inl (e1 ▸ hi)
          · right; have e2 : some i = some U2.heap.size := hi.symm.trans e1; injection e2 with e2; have := L6.out; omega
        · intro hn p hp; have := (HFN.out hn p hp).1; omega
        · intro i hi hn p hp q
          rcases L7.out with e1 | e1
          · have h1 := (HOI.out i (e1 ▸ hi)).1; have h2 := (HFN.out hn p hp).1; omega
          · have e2 : some i = some U2.heap.size := hi.symm.trans e1
            injection e2 with e2; have := LFU.out hn p hp; omega
        · have := hU.blk
          rw [show O + 7 = O + ([.int .i64 b.me, .int .i64 b.rv, .int .i64 b.nx, .int .i64 b.mo, .int .i64 b.bo, .int .i64 b.fr, .slice pb lb cb] : List Value).length from rfl, putAll_more, ← HO.out] at this
          exact this
      refine hK.out _ _ M1.out (fun hHeld => ?_)
      clear hK K hU
      refine wpAnyH_done (by kernel_rfl) ?_ _
      clear hHeld
      go_wp2_with fail
      go_end0
      exact MF.out
    · rw [if_pos (by rfl)]
      refine wp_runOp (v := .slice (some ⟨U.heap.size, 0, none⟩) 1 1) (w' := (U.alloc (.cells #[.int .i64 l.id, .int .i64 0, .int .i64 l.un, .int .i64 v.tg, .int .i64 y.rv] 103))) 56 rfl (by clear hK; go_simp) ?_
      refine hK.out _ _ (G1.out.alloc _) (fun hHeld => ?_)
      clear hK K
      simp only [Act.put, List.setIfInBounds_toArray, List.set_cons_zero, List.set_cons_succ]
      have q8 : (U.alloc (.cells #[.int .i64 l.id, .int .i64 0, .int .i64 l.un, .int .i64 v.tg, .int .i64 y.rv] 103)).cell? ⟨g, O + 7, none⟩ = some (.slice sp sn sc) := (((Below.refl U.heap.size U).alloc (Nat.le_refl _) _).cell (p := ⟨g, O + 7, none⟩) G0.out.lt).trans q7
      clear q7
      refine wpAnyH_ready (rs := [4]) (by kernel_rfl) (by simp) (AllReadyH.cons rfl (fun K hK => ?_) AllReadyH.nil)
      rw [if_pos (by rfl)]
      refine wp_runOp (v := .slice sp sn sc) (w' := (U.alloc (.cells #[.int .i64 l.id, .int .i64 0, .int .i64 l.un, .int .i64 v.tg, .int .i64 y.rv] 103))) 54 rfl (by clear hK; go_simp) ?_
      refine hK.out _ _ (G1.out.alloc _) (fun hHeld => ?_)
      clear hK K q8
      simp only [Act.put, List.setIfInBounds_toArray, List.set_cons_zero, List.set_cons_succ]
      have J0 : Hid (Blk (U.alloc (.cells #[.int .i64 l.id, .int .i64 0, .int .i64 l.un, .int .i64 v.tg, .int .i64 y.rv] 103)) g (putAll cur O [.int .i64 b.me, .int .i64 b.rv, .int .i64 b.nx, .int .i64 b.mo, .int .i64 b.bo, .int .i64 b.fr, .slice pb lb cb]) 58) := G0.out.alloc _
      have J1 : Hid (Blk (U.alloc (.cells #[.int .i64 l.id, .int .i64 0, .int .i64 l.un, .int .i64 v.tg, .int .i64 y.rv] 103)) gs #[.int .i64 l.id, .int .i64 0, .int .i64 l.un, .int .i64 v.tg, .int .i64 y.rv] 103) := G1.out.alloc _
      have J2 : Hid (Lo (U.alloc (.cells #[.int .i64 l.id, .int .i64 0, .int .i64 l.un, .int .i64 v.tg, .int .i64 y.rv] 103)) base (.slice sp sn sc) sol) := G2.out.alloc _
      have J3 : Hid (tar.Came (U.alloc (.cells #[.int .i64 l.id, .int .i64 0, .int .i64 l.un, .int .i64 v.tg, .int .i64 y.rv] 103)) pb lb cb b.ds) := G3.out.below ((Below.refl _ _).alloc (Nat.le_refl _) _)
      have J4 : Hid (∀ i, i ≠ g → i < W4.heap.size → (U.alloc (.cells #[.int .i64 l.id, .int .i64 0, .int .i64 l.un, .int .i64 v.tg, .int .i64 y.rv] 103)).heap[i]? = W4.heap[i]?) := fun i hi hl => by rw [← G4.out i hi]; exact ((Below.refl U.heap.size U).alloc (Nat.le_refl _) _).block i (by rw [← G7.out]; exact hl)
      have J5 : Hid ((U.alloc (.cells #[.int .i64 l.id, .int .i64 0, .int .i64 l.un, .int .i64 v.tg, .int .i64 y.rv] 103)).os = w.os ∧ (U.alloc (.cells #[.int .i64 l.id, .int .i64 0, .int .i64 l.un, .int .i64 v.tg, .int .i64 y.rv] 103)).tape = w.tape ∧ (U.alloc (.cells #[.int .i64 l.id, .int .i64 0, .int .i64 l.un, .int .i64 v.tg, .int .i64 y.rv] 103)).output = w.output) := G5.out
      have J6 : Hid (base ≤ (U.alloc (.cells #[.int .i64 l.id, .int .i64 0, .int .i64 l.un, .int .i64 v.tg, .int .i64 y.rv] 103)).heap.size ∧ W4.heap.size ≤ (U.alloc (.cells #[.int .i64 l.id, .int .i64 0, .int .i64 l.un, .int .i64 v.tg, .int .i64 y.rv] 103)).heap.size) := by show _ ∧ _; have h1 := G6.out; have h2 := G7.out; simp; omega
      have J8 : Hid (Blk (U.alloc (.cells #[.int .i64 l.id, .int .i64 0, .int .i64 l.un, .int .i64 v.tg, .int .i64 y.rv] 103)) U.heap.size #[.int .i64 l.id, .int .i64 0, .int .i64 l.un, .int .i64 v.tg, .int .i64 y.rv] 103) := Blk.new _ _ _
      clear G0 G1 G2 G3 G4 G5 G6 G7
      generalize U.heap.size = gn at *
      generalize (U.alloc (.cells #[.int .i64 l.id, .int .i64 0, .int .i64 l.un, .int .i64 v.tg, .int .i64 y.rv] 103)) = U2 at *
      refine wpAnyH_ready (rs := [7]) (by kernel_rfl) (by simp) (AllReadyH.cons rfl (fun K hK => ?_) AllReadyH.nil)
      rw [if_pos (by rfl)]
      refine step_sold 57 rfl _ _ rfl base gn _ sol (⟨l.id, 0, l.un, v.tg, y.rv⟩ : So) rfl rfl J2.out J8.out (by have := HSL.out; omega) J6.out.1 ?_
      intro v3 w9 h3 hg3 ho3
      obtain ⟨p3, c3, rfl, _, _, _⟩ := h3.row
      have L0 : Hid (Blk w9 g (putAll cur O [.int .i64 b.me, .int .i64 b.rv, .int .i64 b.nx, .int .i64 b.mo, .int .i64 b.bo, .int .i64 b.fr, .slice pb lb cb]) 58) := blk_kept J0.out hg3 (fun q => (HOI.out g q.symm).2.2 rfl)
      have L1 : Hid (Blk w9 gs #[.int .i64 l.id, .int .i64 0, .int .i64 l.un, .int .i64 v.tg, .int .i64 y.rv] 103) := blk_kept J1.out hg3 (fun q => by have := (HOI.out gs q.symm).1; omega)
      have L2 : Hid (Lo w9 base (.slice p3 (sol ++ [(⟨l.id, 0, l.un, v.tg, y.rv⟩ : So)]).length c3) (sol ++ [(⟨l.id, 0, l.un, v.tg, y.rv⟩ : So)])) := h3
      have L3 : Hid (tar.Came w9 pb lb cb b.ds) := came_grown J3.out hg3 (fun hn p hp q => by have h1 := (HFN.out hn p hp).1; have h2 := (HOI.out _ q.symm).1; omega)
      have L4 : Hid (∀ i, i ≠ g → (Value.slice sp sn sc).ownBlock ≠ some i → i < w.heap.size → w9.heap[i]? = w.heap[i]?) := fun i h1 h2 h3 => by rw [hg3.block i (by have := J6.out; have := HX5.out.size; omega) (fun q => h2 q.symm), J4.out i h1 (by have := HX5.out.size; omega), HX5.out.block i h3]
      have L5 : Hid (w9.os = w.os ∧ w9.tape = w.tape ∧ w9.output = w.output) := ⟨hg3.os.trans J5.out.1, hg3.tape.trans J5.out.2.1, hg3.output.trans J5.out.2.2⟩
      have L6 : Hid (w.heap.size ≤ U2.heap.size ∧ U2.heap.size ≤ w9.heap.size) := ⟨by have := J6.out; have := HX5.out.size; omega, hg3.size⟩
      have L7 : Hid ((Value.slice p3 (sol ++ [(⟨l.id, 0, l.un, v.tg, y.rv⟩ : So)]).length c3).ownBlock = (Value.slice sp sn sc).ownBlock ∨ (Value.slice p3 (sol ++ [(⟨l.id, 0, l.un, v.tg, y.rv⟩ : So)]).length c3).ownBlock = some U2.heap.size) := ho3
      have LFU : Hid (0 < lb → ∀ p, pb = some p → p.block < U2.heap.size) := came_lt J3.out
      refine hK.out _ _ L1.out (fun hHeld => ?_)
      clear hK K h3 hg3 ho3 J0 J1 J2 J3 J4 J5 J6 J8
      simp only [Act.put, List.setIfInBounds_toArray, List.set_cons_zero, List.set_cons_succ]
      generalize (sol ++ [(⟨l.id, 0, l.un, v.tg, y.rv⟩ : So)]).length = n3 at *
      refine take_at 8 58 (.pointer (some ⟨g, O, none⟩)) _ rfl rfl (by kernel_rfl) (by kernel_rfl) (by kernel_rfl) (fun _ _ _ h => h) (Or.inl ⟨by rfl, fun v hv => by clear hv; go_simp⟩) hHeld ?_
      simp only [Act.put, List.setIfInBounds_toArray, List.set_cons_zero, List.set_cons_succ]
      refine take_at 9 59 (.pointer (some ⟨g, O + 7, none⟩)) _ rfl rfl (by kernel_rfl) (by kernel_rfl) (by kernel_rfl) (fun _ _ _ h => h) (Or.inl ⟨by rfl, fun v hv => by clear hv; go_simp⟩) hHeld ?_
      simp only [Act.put, List.setIfInBounds_toArray, List.set_cons_zero, List.set_cons_succ]
      refine wpAnyH_ready (rs := [10]) (by kernel_rfl) (by simp) (AllReadyH.cons rfl (fun K hK => ?_) AllReadyH.nil)
      rw [if_pos (by rfl)]
      refine acc.wp_letOp1 56 _ _ rfl g (O + 7) rfl (.slice p3 n3 c3) rfl rfl (by kernel_rfl) rfl (putAll cur O [.int .i64 b.me, .int .i64 b.rv, .int .i64 b.nx, .int .i64 b.mo, .int .i64 b.bo, .int .i64 b.fr, .slice pb lb cb]) 58 L0.out (by rw [putAll_size]; have := HCS.out; omega) rfl ?_
      intro WF hU
      have M1 := shK hU L1 (by omega)
      have MF : Hid (WPost w0 base gW B t pt lt ct (HapR t bk k v) w (.returned (.tuple #[])) WF) := by
        have hb := hU.bel 0 w9 (Nat.zero_le _) (Below.refl _ _)
        have hO : ∀ i, i < w.heap.size → i ≠ g → (Value.slice sp sn sc).ownBlock ≠ some i → WF.heap[i]? = w.heap[i]? := fun i h1 h2 h3 => by rw [hU.oth i h2]; exact L4.out i h2 h3 h1
        have hos : WF.os = w.os ∧ WF.tape = w.tape ∧ WF.output = w.output := ⟨hb.os.trans L5.out.1, hb.tape.trans L5.out.2.1, hb.output.trans L5.out.2.2⟩
        have hsz : w.heap.size ≤ WF.heap.size := by rw [hU.size]; exact Nat.le_trans L6.out.1 L6.out.2
        have hso : (⟨l.id, 0, l.un, v.tg, y.rv⟩ : So) = soldOf ⟨y, sol⟩ v := by unfold soldOf; rw [if_neg HK4.out]; simp only; rw [HSI.out.1, HSI.out.2]
        have hh : HapIs t ⟨y, sol⟩ v ⟨b, sol ++ [soldOf ⟨y, sol⟩ v]⟩ 0 := .inr ⟨HN5.out, b, l, 0, HI.out, .inr (.inr ⟨rfl, HLB.out, rfl, rfl⟩)⟩
        have hw := hap_wf hh HMA.out
        refine ⟨⟨hos.1, hos.2.1, hos.2.2, hsz, fun i h1 _ _ => hO i (by have := HSZ.out; omega) (by have := HBG.out; omega) (fun q => by have := (HOI.out i q).2.1; omega)⟩, .inl ⟨.slice (some ⟨g, 0, none⟩) n cap, xs.set k ⟨b.me, b.rv, b.nx, b.mo, b.bo, b.fr, pb, lb, cb, p3, n3, c3⟩, bk.set k ⟨b, sol ++ [soldOf ⟨y, sol⟩ v]⟩, rfl, ⟨⟨b, sol ++ [soldOf ⟨y, sol⟩ v]⟩, by rw [HC.out]; exact hh, fun _ => rfl⟩, fun hsm => ?_⟩⟩
        refine put_wr HR.out HKL.out HX.out HCB.out hO hsz hos (x' := ⟨b.me, b.rv, b.nx, b.mo, b.bo, b.fr, pb, lb, cb, p3, n3, c3⟩) ⟨⟨rfl, rfl, rfl, rfl, rfl, rfl⟩, ⟨acc_upd L3.out hU (fun hn p hp q => by have := (HFN.out hn p hp).1; omega), fun hn p hp => by have := (HFN.out hn p hp).1; have := HSZ.out; omega⟩, ?_⟩ hw.1 (by rw [HC.out]; exact hw.2) ?_ ?_ ?_ ?_ hsm
        · refine lo_upd (by rw [← hso]; exact L2.out) hU (fun i hi q => ?_)
          rcases L7.out with e1 | e1
          · exact (HOI.out i (e1 ▸ hi)).2.2 q
          · have e2 : some i = some U2.heap.size := hi.symm.trans e1
            injection e2 with e2; have := L6.out; omega
        · intro i hi
          rcases L7.out with e1 | e1
          · exact .inl (e1 ▸ hi)
          · right; have e2 : some i = some U2.heap.size := hi.symm.trans e1; injection e2 with e2; have := L6.out; omega
        · intro hn p hp; have := (HFN.out hn p hp).1; omega
        · intro i hi hn p hp q
          rcases L7.out with e1 | e1
          · have h1 := (HOI.out i (e1 ▸ hi)).1; have h2 := (HFN.out hn p hp).1; omega
          · have e2 : some i = some U2.heap.size := hi.symm.trans e1
            injection e2 with e2; have := LFU.out hn p hp; omega
        · have := hU.blk
          rw [show O + 7 = O + ([.int .i64 b.me, .int .i64 b.rv, .int .i64 b.nx, .int .i64 b.mo, .int .i64 b.bo, .int .i64 b.fr, .slice pb lb cb] : List Value).length from rfl, putAll_more, ← HO.out] at this
          exact this
      refine hK.out _ _ M1.out (fun hHeld => ?_)
      clear hK K hU
      refine wpAnyH_done (by kernel_rfl) ?_ _
      clear hHeld
      go_wp2_with fail
      go_end0
      exact MF.out
  have q4 : (v.kd == 4) = true := by simpa using k4
  have HK4 : Hid (v.kd = 4) := k4
  clear k4
  go_wp2_with fail
  clear c0 q4
  refine wp_region_held_drew (S := fun u => Blk u gb #[.int .i64 b.me, .int .i64 b.rv, .int .i64 b.nx, .int .i64 b.mo, .int .i64 b.bo, .int .i64 b.fr, .slice pb lb cb] 55) (by kernel_rfl) (show _ from Blk.drew H5be.out 1) (fun hHeld => ?_)
  have H6v : Hid (Blk W4.drew (w.heap.size) #[.int .i64 v.kd, .int .i64 v.me, .int .i64 v.mo, .int .i64 v.id, .int .i64 v.te, .int .i64 v.de, .int .i64 v.fe, .int .i64 v.pr, .int .i64 v.ch, .int .i64 v.un, .int .i64 v.tg, .int .i64 v.ow, .int .i64 v.bp] 27) := H5v.out
  have H6c : Hid (Blk W4.drew (g) cur 58) := H5c.out
  have H6a : Hid (Blk W4.drew (ga) #[.int .i64 y.me, .int .i64 y.rv, .int .i64 y.nx, .int .i64 y.mo, .int .i64 y.bo, .int .i64 y.fr, .slice dp dn dc] 55) := H5a.out
  have H6be : Hid (Blk W4.drew (gb) #[.int .i64 b.me, .int .i64 b.rv, .int .i64 b.nx, .int .i64 b.mo, .int .i64 b.bo, .int .i64 b.fr, .slice pb lb cb] 55) := H5be.out
  have H6bi : Hid (Blk W4.drew (gb + 1) #[.int .i64 l.id, .int .i64 l.te, .int .i64 l.de, .int .i64 l.fe, .int .i64 l.pr, .int .i64 l.ch, .int .i64 l.un] 23) := H5bi.out
  have H6so : Hid (Blk W4.drew (gs) #[.int .i64 l.id, .int .i64 0, .int .i64 l.un, .int .i64 v.tg, .int .i64 y.rv] 103) := H5so.out
  have H6B : Hid (Below w.heap.size w W4.drew) := H5B.out.drew
  have HF5 : Hid (deb.Fresh W4.drew W1.heap.size pb lb cb b.ds) := fresh_drew HF4.out
  have hl5 : gs < W4.drew.heap.size := hlW4
  clear HF4 H5v H5c H5a H5be H5bi H5so H5B
  generalize W4.drew = U8 at *
  refine take_at 0 42 (.pointer (some ⟨gb, 1, none⟩)) _ rfl rfl (by kernel_rfl) (by kernel_rfl) (by kernel_rfl) (fun _ _ _ h => h) (Or.inl ⟨by rfl, fun v hv => by clear hv; go_simp⟩) hHeld ?_
  simp only [Act.put, List.setIfInBounds_toArray, List.set_cons_zero, List.set_cons_succ]
  refine take_at 1 43 (.int .i64 b.rv) _ rfl rfl (by kernel_rfl) (by kernel_rfl) (by kernel_rfl) (fun _ _ _ h => h) (Or.inl ⟨by rfl, fun v hv => by have g0 := hv.cell 1; clear hv; go_simp⟩) hHeld ?_
  simp only [Act.put, List.setIfInBounds_toArray, List.set_cons_zero, List.set_cons_succ]
  refine take_at 2 44 (.pointer (some ⟨gs, 1, none⟩)) _ rfl rfl (by kernel_rfl) (by kernel_rfl) (by kernel_rfl) (fun _ _ _ h => h) (Or.inl ⟨by rfl, fun v hv => by clear hv; go_simp⟩) hHeld ?_
  simp only [Act.put, List.setIfInBounds_toArray, List.set_cons_zero, List.set_cons_succ]
  refine wpAnyH_ready (rs := [3]) (by kernel_rfl) (by simp) (AllReadyH.cons rfl (fun K hK => ?_) AllReadyH.nil)
  rw [if_pos (by rfl)]
  refine acc.wp_letOp1 3 _ _ rfl gs 1 rfl (.int .i64 2) rfl rfl (by kernel_rfl) rfl #[.int .i64 l.id, .int .i64 0, .int .i64 l.un, .int .i64 v.tg, .int .i64 y.rv] 103 H6so.out (by simp) rfl ?_
  intro V3 hU
  have H7v := shK hU H6v (by omega)
  have H7c := shK hU H6c (by omega)
  have H7a := shK hU H6a (by omega)
  have H7be := shK hU H6be (by omega)
  have H7bi := shK hU H6bi (by omega)
  have H7so : Hid (Blk V3 (gs) #[.int .i64 l.id, .int .i64 2, .int .i64 l.un, .int .i64 v.tg, .int .i64 y.rv] 103) := hU.blk
  have H7B := shV hU H6B (by omega)
  clear H6v H6c H6a H6be H6bi H6so H6B
  have HF6 : Hid (deb.Fresh V3 W1.heap.size pb lb cb b.ds) := fresh_updN HF5.out hU (fun hn p hp => by have := HFU.out hn p hp; omega)
  have hl6 : gs < V3.heap.size := by rw [hU.size]; exact hl5
  clear hU
  refine hK.out _ _ H7be.out (fun hHeld => ?_)
  clear hK K
  refine take_at 4 45 (.pointer (some ⟨gs, 2, none⟩)) _ rfl rfl (by kernel_rfl) (by kernel_rfl) (by kernel_rfl) (fun _ _ _ h => h) (Or.inl ⟨by rfl, fun v hv => by clear hv; go_simp⟩) hHeld ?_
  simp only [Act.put, List.setIfInBounds_toArray, List.set_cons_zero, List.set_cons_succ]
  refine wpAnyH_ready (rs := [5]) (by kernel_rfl) (by simp) (AllReadyH.cons rfl (fun K hK => ?_) AllReadyH.nil)
  rw [if_pos (by rfl)]
  refine acc.wp_letOp1 3 _ _ rfl gs 2 rfl (.int .i64 b.rv) rfl rfl (by kernel_rfl) rfl #[.int .i64 l.id, .int .i64 2, .int .i64 l.un, .int .i64 v.tg, .int .i64 y.rv] 103 H7so.out (by simp) rfl ?_
  intro V5 hU
  have H8v := shK hU H7v (by omega)
  have H8c := shK hU H7c (by omega)
  have H8a := shK hU H7a (by omega)
  have H8be := shK hU H7be (by omega)
  have H8bi := shK hU H7bi (by omega)
  have H8so : Hid (Blk V5 (gs) #[.int .i64 l.id, .int .i64 2, .int .i64 b.rv, .int .i64 v.tg, .int .i64 y.rv] 103) := hU.blk
  have H8B := shV hU H7B (by omega)
  clear H7v H7c H7a H7be H7bi H7so H7B
  have HF8 : Hid (deb.Fresh V5 W1.heap.size pb lb cb b.ds) := fresh_updN HF6.out hU (fun hn p hp => by have := HFU.out hn p hp; omega)
  have hl8 : gs < V5.heap.size := by rw [hU.size]; exact hl6
  clear hU
  refine hK.out _ _ H8be.out (fun hHeld => ?_)
  clear hK K
  refine wpAnyH_done (by kernel_rfl) ?_ _
  clear hHeld
  have HF4x : Hid (deb.Fresh V5 W1.heap.size pb lb cb b.ds) := HF8.out
  clear HF5 HF6 HF8
  have HRV : Hid (b.rv = y.rv + 1) := rekey_rv (by rcases HI.out with ⟨q, _⟩ | ⟨q, _⟩ | ⟨_, q⟩; exact absurd (q.symm.trans HK4.out) (by decide); exact absurd (q.symm.trans HK4.out) (by decide); exact q)
  go_wp2_with (first
    | (refine wp_let rfl 55 _ _ rfl g O rfl (.agg #[.int .i64 b.me, .int .i64 b.rv, .int .i64 b.nx, .int .i64 b.mo, .int .i64 b.bo, .int .i64 b.fr, .slice pb lb cb]) rfl #[.int .i64 b.me, .int .i64 b.rv, .int .i64 b.nx, .int .i64 b.mo, .int .i64 b.bo, .int .i64 b.fr, .slice pb lb cb] rfl (by kernel_rfl) (by simp [Value.oneCell']) cur 58 H8c.out (by have := HCS.out; simp; omega) (putAll cur O [.int .i64 b.me, .int .i64 b.rv, .int .i64 b.nx, .int .i64 b.mo, .int .i64 b.bo, .int .i64 b.fr, .slice pb lb cb]) rfl ?_)
    | (refine wp_whole rfl 27 _ rfl _ rfl 27 _ _ H8v.out Try.underlying27 rfl (by kernel_rfl) ?_)
    | (refine wp_whole rfl 58 _ rfl (g) rfl 58 cur _ H8c.out Try.underlying58 rfl (by kernel_rfl) ?_)
    | (refine wp_whole rfl 55 _ rfl _ rfl 55 _ _ H8a.out Try.underlying55 rfl (by kernel_rfl) ?_)
    | (refine wp_whole rfl 55 _ rfl _ rfl 55 _ _ H8be.out Try.underlying55 rfl (by kernel_rfl) ?_)
    | (refine wp_whole rfl 23 _ rfl _ rfl 23 _ _ H8bi.out Try.underlying23 rfl (by kernel_rfl) ?_)
    | (refine wp_whole rfl 103 _ rfl _ rfl 103 _ _ H8so.out Try.underlying103 rfl (by kernel_rfl) ?_)
    | fail)
  intro W5 hU
  have HU5 : Hid (Upd V5 W5 g (putAll cur O [.int .i64 b.me, .int .i64 b.rv, .int .i64 b.nx, .int .i64 b.mo, .int .i64 b.bo, .int .i64 b.fr, .slice pb lb cb]) 58) := hU
  have H5c : Hid (Blk W5 g (putAll cur O [.int .i64 b.me, .int .i64 b.rv, .int .i64 b.nx, .int .i64 b.mo, .int .i64 b.bo, .int .i64 b.fr, .slice pb lb cb]) 58) := hU.blk
  have H5so := shK hU H8so (by omega)
  have hs5 : W5.heap.size = V5.heap.size := hU.size
  have HX5 : Hid (Below w.heap.size w V5) := H8B.out
  have H5l : Hid (Lo W5 base (.slice sp sn sc) sol) := lo_upd (HH.out.so.next HX5.out) hU (fun i hi => (HOI.out i hi).2.2)
  have H5f : Hid (tar.Came W5 pb lb cb b.ds) := acc_upd HF4x.out.came hU (fun hn p hp => by have := HF4x.out.new hn p hp; omega)
  have HFN : Hid (0 < lb → ∀ p, pb = some p → W1.heap.size ≤ p.block ∧ p.block < gb) := fun hn p hp => ⟨HF4x.out.new hn p hp, HFU.out hn p hp⟩
  have HS5 : Hid (base ≤ W5.heap.size) := by show _ ≤ _; rw [hs5]; exact Nat.le_trans HSZ.out HX5.out.size
  have HSS : Hid (V5.heap.size = W5.heap.size) := hs5.symm
  clear hU
  go_wp2_with fail
  refine wp_region_held_drew (S := fun u => Blk u gs #[.int .i64 l.id, .int .i64 2, .int .i64 b.rv, .int .i64 v.tg, .int .i64 y.rv] 103) (by kernel_rfl) (show _ from Blk.drew H5so.out 1) (fun hHeld => ?_)
  have q7 : W5.drew.cell? ⟨g, O + 7, none⟩ = some (.slice sp sn sc) := by
    rw [show W5.drew.cell? ⟨g, O + 7, none⟩ = W5.cell? ⟨g, O + 7, none⟩ from rfl, H5c.out.cell (O + 7), putAll_get _ _ _ _ (by have := HCS.out; simp; omega), if_neg (by simp only [List.length_cons, List.length_nil]; omega)]
    exact HC7.out
  have G0 : Hid (Blk W5.drew g (putAll cur O [.int .i64 b.me, .int .i64 b.rv, .int .i64 b.nx, .int .i64 b.mo, .int .i64 b.bo, .int .i64 b.fr, .slice pb lb cb]) 58) := H5c.out
  have G1 : Hid (Blk W5.drew gs #[.int .i64 l.id, .int .i64 2, .int .i64 b.rv, .int .i64 v.tg, .int .i64 y.rv] 103) := H5so.out
  have G2 : Hid (Lo W5.drew base (.slice sp sn sc) sol) := H5l.out.next (Below.refl _ _).drew
  have G3 : Hid (tar.Came W5.drew pb lb cb b.ds) := H5f.out.below (Below.refl _ _).drew
  have G4 : Hid (∀ i, i ≠ g → W5.drew.heap[i]? = V5.heap[i]?) := fun i hi => HU5.out.oth i hi
  have G5 : Hid (W5.drew.os = w.os ∧ W5.drew.tape = w.tape ∧ W5.drew.output = w.output) := by have hb := (HU5.out.bel 0 w (Nat.zero_le _) (HX5.out.mono (Nat.zero_le _))); exact ⟨hb.os, hb.tape, hb.output⟩
  have G6 : Hid (base ≤ W5.drew.heap.size) := HS5.out
  have G7 : Hid (V5.heap.size = W5.drew.heap.size) := HSS.out
  clear H5c H5so H5l H5f HU5 HS5 HSS hs5
  generalize W5.drew = U at *
  refine take_at 0 50 (.pointer (some ⟨g, O, none⟩)) _ rfl rfl (by kernel_rfl) (by kernel_rfl) (by kernel_rfl) (fun _ _ _ h => h) (Or.inl ⟨by rfl, fun v hv => by clear hv; go_simp⟩) hHeld ?_
  simp only [Act.put, List.setIfInBounds_toArray, List.set_cons_zero, List.set_cons_succ]
  refine take_at 1 51 (.pointer (some ⟨g, O, none⟩)) _ rfl rfl (by kernel_rfl) (by kernel_rfl) (by kernel_rfl) (fun _ _ _ h => h) (Or.inl ⟨by rfl, fun v hv => by clear hv; go_simp⟩) hHeld ?_
  simp only [Act.put, List.setIfInBounds_toArray, List.set_cons_zero, List.set_cons_succ]
  refine take_at 2 52 (.pointer (some ⟨g, O, none⟩)) _ rfl rfl (by kernel_rfl) (by kernel_rfl) (by kernel_rfl) (fun _ _ _ h => h) (Or.inl ⟨by rfl, fun v hv => by clear hv; go_simp⟩) hHeld ?_
  simp only [Act.put, List.setIfInBounds_toArray, List.set_cons_zero, List.set_cons_succ]
  refine take_at 3 53 (.pointer (some ⟨g, O + 7, none⟩)) _ rfl rfl (by kernel_rfl) (by kernel_rfl) (by kernel_rfl) (fun _ _ _ h => h) (Or.inl ⟨by rfl, fun v hv => by clear hv; go_simp⟩) hHeld ?_
  simp only [Act.put, List.setIfInBounds_toArray, List.set_cons_zero, List.set_cons_succ]
  refine take_at 5 55 (.agg #[.int .i64 l.id, .int .i64 2, .int .i64 b.rv, .int .i64 v.tg, .int .i64 y.rv]) _ rfl rfl (by kernel_rfl) (by kernel_rfl) (by kernel_rfl) (fun _ _ _ h => h) (Or.inl ⟨by rfl, fun v hv => by have g0 := hv.cell 0; have g1 := hv.cell 1; have g2 := hv.cell 2; have g3 := hv.cell 3; have g4 := hv.cell 4; clear hv; go_simp⟩) hHeld ?_
  simp only [Act.put, List.setIfInBounds_toArray, List.set_cons_zero, List.set_cons_succ]
  refine wpAnyH_ready (rs := [4, 6]) (by kernel_rfl) (by simp) (AllReadyH.cons rfl (fun K hK => ?_) (AllReadyH.cons rfl (fun K hK => ?_) AllReadyH.nil))
  · rw [if_pos (by rfl)]
    refine wp_runOp (v := .slice sp sn sc) (w' := U) 54 rfl (by clear hK; go_simp) ?_
    refine hK.out _ _ G1.out (fun hHeld => ?_)
    clear hK K
    simp only [Act.put, List.setIfInBounds_toArray, List.set_cons_zero, List.set_cons_succ]
    refine wpAnyH_ready (rs := [6]) (by kernel_rfl) (by simp) (AllReadyH.cons rfl (fun K hK => ?_) AllReadyH.nil)
    rw [if_pos (by rfl)]
    refine wp_runOp (v := .slice (some ⟨U.heap.size, 0, none⟩) 1 1) (w' := (U.alloc (.cells #[.int .i64 l.id, .int .i64 2, .int .i64 b.rv, .int .i64 v.tg, .int .i64 y.rv] 103))) 56 rfl (by clear hK; go_simp) ?_
    refine hK.out _ _ (G1.out.alloc _) (fun hHeld => ?_)
    clear hK K q7
    simp only [Act.put, List.setIfInBounds_toArray, List.set_cons_zero, List.set_cons_succ]
    have J0 : Hid (Blk (U.alloc (.cells #[.int .i64 l.id, .int .i64 2, .int .i64 b.rv, .int .i64 v.tg, .int .i64 y.rv] 103)) g (putAll cur O [.int .i64 b.me, .int .i64 b.rv, .int .i64 b.nx, .int .i64 b.mo, .int .i64 b.bo, .int .i64 b.fr, .slice pb lb cb]) 58) := G0.out.alloc _
    have J1 : Hid (Blk (U.alloc (.cells #[.int .i64 l.id, .int .i64 2, .int .i64 b.rv, .int .i64 v.tg, .int .i64 y.rv] 103)) gs #[.int .i64 l.id, .int .i64 2, .int .i64 b.rv, .int .i64 v.tg, .int .i64 y.rv] 103) := G1.out.alloc _
    have J2 : Hid (Lo (U.alloc (.cells #[.int .i64 l.id, .int .i64 2, .int .i64 b.rv, .int .i64 v.tg, .int .i64 y.rv] 103)) base (.slice sp sn sc) sol) := G2.out.alloc _
    have J3 : Hid (tar.Came (U.alloc (.cells #[.int .i64 l.id, .int .i64 2, .int .i64 b.rv, .int .i64 v.tg, .int .i64 y.rv] 103)) pb lb cb b.ds) := G3.out.below ((Below.refl _ _).alloc (Nat.le_refl _) _)
    have J4 : Hid (∀ i, i ≠ g → i < V5.heap.size → (U.alloc (.cells #[.int .i64 l.id, .int .i64 2, .int .i64 b.rv, .int .i64 v.tg, .int .i64 y.rv] 103)).heap[i]? = V5.heap[i]?) := fun i hi hl => by rw [← G4.out i hi]; exact ((Below.refl U.heap.size U).alloc (Nat.le_refl _) _).block i (by rw [← G7.out]; exact hl)
    have J5 : Hid ((U.alloc (.cells #[.int .i64 l.id, .int .i64 2, .int .i64 b.rv, .int .i64 v.tg, .int .i64 y.rv] 103)).os = w.os ∧ (U.alloc (.cells #[.int .i64 l.id, .int .i64 2, .int .i64 b.rv, .int .i64 v.tg, .int .i64 y.rv] 103)).tape = w.tape ∧ (U.alloc (.cells #[.int .i64 l.id, .int .i64 2, .int .i64 b.rv, .int .i64 v.tg, .int .i64 y.rv] 103)).output = w.output) := G5.out
    have J6 : Hid (base ≤ (U.alloc (.cells #[.int .i64 l.id, .int .i64 2, .int .i64 b.rv, .int .i64 v.tg, .int .i64 y.rv] 103)).heap.size ∧ V5.heap.size ≤ (U.alloc (.cells #[.int .i64 l.id, .int .i64 2, .int .i64 b.rv, .int .i64 v.tg, .int .i64 y.rv] 103)).heap.size) := by show _ ∧ _; have h1 := G6.out; have h2 := G7.out; simp; omega
    have J8 : Hid (Blk (U.alloc (.cells #[.int .i64 l.id, .int .i64 2, .int .i64 b.rv, .int .i64 v.tg, .int .i64 y.rv] 103)) U.heap.size #[.int .i64 l.id, .int .i64 2, .int .i64 b.rv, .int .i64 v.tg, .int .i64 y.rv] 103) := Blk.new _ _ _
    clear G0 G1 G2 G3 G4 G5 G6 G7
    generalize U.heap.size = gn at *
    generalize (U.alloc (.cells #[.int .i64 l.id, .int .i64 2, .int .i64 b.rv, .int .i64 v.tg, .int .i64 y.rv] 103)) = U2 at *
    refine wpAnyH_ready (rs := [7]) (by kernel_rfl) (by simp) (AllReadyH.cons rfl (fun K hK => ?_) AllReadyH.nil)
    rw [if_pos (by rfl)]
    refine step_sold 57 rfl _ _ rfl base gn _ sol (⟨l.id, 2, b.rv, v.tg, y.rv⟩ : So) rfl rfl J2.out J8.out (by have := HSL.out; omega) J6.out.1 ?_
    intro v3 w9 h3 hg3 ho3
    obtain ⟨p3, c3, rfl, _, _, _⟩ := h3.row
    have L0 : Hid (Blk w9 g (putAll cur O [.int .i64 b.me, .int .i64 b.rv, .int .i64 b.nx, .int .i64 b.mo, .int .i64 b.bo, .int .i64 b.fr, .slice pb lb cb]) 58) := blk_kept J0.out hg3 (fun q => (HOI.out g q.symm).2.2 rfl)
    have L1 : Hid (Blk w9 gs #[.int .i64 l.id, .int .i64 2, .int .i64 b.rv, .int .i64 v.tg, .int .i64 y.rv] 103) := blk_kept J1.out hg3 (fun q => by have := (HOI.out gs q.symm).1; omega)
    have L2 : Hid (Lo w9 base (.slice p3 (sol ++ [(⟨l.id, 2, b.rv, v.tg, y.rv⟩ : So)]).length c3) (sol ++ [(⟨l.id, 2, b.rv, v.tg, y.rv⟩ : So)])) := h3
    have L3 : Hid (tar.Came w9 pb lb cb b.ds) := came_grown J3.out hg3 (fun hn p hp q => by have h1 := (HFN.out hn p hp).1; have h2 := (HOI.out _ q.symm).1; omega)
    have L4 : Hid (∀ i, i ≠ g → (Value.slice sp sn sc).ownBlock ≠ some i → i < w.heap.size → w9.heap[i]? = w.heap[i]?) := fun i h1 h2 h3 => by rw [hg3.block i (by have := J6.out; have := HX5.out.size; omega) (fun q => h2 q.symm), J4.out i h1 (by have := HX5.out.size; omega), HX5.out.block i h3]
    have L5 : Hid (w9.os = w.os ∧ w9.tape = w.tape ∧ w9.output = w.output) := ⟨hg3.os.trans J5.out.1, hg3.tape.trans J5.out.2.1, hg3.output.trans J5.out.2.2⟩
    have L6 : Hid (w.heap.size ≤ U2.heap.size ∧ U2.heap.size ≤ w9.heap.size) := ⟨by have := J6.out; have := HX5.out.size; omega, hg3.size⟩
    have L7 : Hid ((Value.slice p3 (sol ++ [(⟨l.id, 2, b.rv, v.tg, y.rv⟩ : So)]).length c3).ownBlock = (Value.slice sp sn sc).ownBlock ∨ (Value.slice p3 (sol ++ [(⟨l.id, 2, b.rv, v.tg, y.rv⟩ : So)]).length c3).ownBlock = some U2.heap.size) := ho3
    have LFU : Hid (0 < lb → ∀ p, pb = some p → p.block < U2.heap.size) := came_lt J3.out
    refine hK.out _ _ L1.out (fun hHeld => ?_)
    clear hK K h3 hg3 ho3 J0 J1 J2 J3 J4 J5 J6 J8
    simp only [Act.put, List.setIfInBounds_toArray, List.set_cons_zero, List.set_cons_succ]
    generalize (sol ++ [(⟨l.id, 2, b.rv, v.tg, y.rv⟩ : So)]).length = n3 at *
    refine take_at 8 58 (.pointer (some ⟨g, O, none⟩)) _ rfl rfl (by kernel_rfl) (by kernel_rfl) (by kernel_rfl) (fun _ _ _ h => h) (Or.inl ⟨by rfl, fun v hv => by clear hv; go_simp⟩) hHeld ?_
    simp only [Act.put, List.setIfInBounds_toArray, List.set_cons_zero, List.set_cons_succ]
    refine take_at 9 59 (.pointer (some ⟨g, O + 7, none⟩)) _ rfl rfl (by kernel_rfl) (by kernel_rfl) (by kernel_rfl) (fun _ _ _ h => h) (Or.inl ⟨by rfl, fun v hv => by clear hv; go_simp⟩) hHeld ?_
    simp only [Act.put, List.setIfInBounds_toArray, List.set_cons_zero, List.set_cons_succ]
    refine wpAnyH_ready (rs := [10]) (by kernel_rfl) (by simp) (AllReadyH.cons rfl (fun K hK => ?_) AllReadyH.nil)
    rw [if_pos (by rfl)]
    refine acc.wp_letOp1 56 _ _ rfl g (O + 7) rfl (.slice p3 n3 c3) rfl rfl (by kernel_rfl) rfl (putAll cur O [.int .i64 b.me, .int .i64 b.rv, .int .i64 b.nx, .int .i64 b.mo, .int .i64 b.bo, .int .i64 b.fr, .slice pb lb cb]) 58 L0.out (by rw [putAll_size]; have := HCS.out; omega) rfl ?_
    intro WF hU
    have M1 := shK hU L1 (by omega)
    have MF : Hid (WPost w0 base gW B t pt lt ct (HapR t bk k v) w (.returned (.tuple #[])) WF) := by
      have hb := hU.bel 0 w9 (Nat.zero_le _) (Below.refl _ _)
      have hO : ∀ i, i < w.heap.size → i ≠ g → (Value.slice sp sn sc).ownBlock ≠ some i → WF.heap[i]? = w.heap[i]? := fun i h1 h2 h3 => by rw [hU.oth i h2]; exact L4.out i h2 h3 h1
      have hos : WF.os = w.os ∧ WF.tape = w.tape ∧ WF.output = w.output := ⟨hb.os.trans L5.out.1, hb.tape.trans L5.out.2.1, hb.output.trans L5.out.2.2⟩
      have hsz : w.heap.size ≤ WF.heap.size := by rw [hU.size]; exact Nat.le_trans L6.out.1 L6.out.2
      have hso : (⟨l.id, 2, b.rv, v.tg, y.rv⟩ : So) = soldOf ⟨y, sol⟩ v := by unfold soldOf; rw [if_pos HK4.out, HSI.out.1, HRV.out]
      have hh : HapIs t ⟨y, sol⟩ v ⟨b, sol ++ [soldOf ⟨y, sol⟩ v]⟩ 0 := .inr ⟨HN5.out, b, l, 0, HI.out, .inr (.inr ⟨rfl, HLB.out, rfl, rfl⟩)⟩
      have hw := hap_wf hh HMA.out
      refine ⟨⟨hos.1, hos.2.1, hos.2.2, hsz, fun i h1 _ _ => hO i (by have := HSZ.out; omega) (by have := HBG.out; omega) (fun q => by have := (HOI.out i q).2.1; omega)⟩, .inl ⟨.slice (some ⟨g, 0, none⟩) n cap, xs.set k ⟨b.me, b.rv, b.nx, b.mo, b.bo, b.fr, pb, lb, cb, p3, n3, c3⟩, bk.set k ⟨b, sol ++ [soldOf ⟨y, sol⟩ v]⟩, rfl, ⟨⟨b, sol ++ [soldOf ⟨y, sol⟩ v]⟩, by rw [HC.out]; exact hh, fun _ => rfl⟩, fun hsm => ?_⟩⟩
      refine put_wr HR.out HKL.out HX.out HCB.out hO hsz hos (x' := ⟨b.me, b.rv, b.nx, b.mo, b.bo, b.fr, pb, lb, cb, p3, n3, c3⟩) ⟨⟨rfl, rfl, rfl, rfl, rfl, rfl⟩, ⟨acc_upd L3.out hU (fun hn p hp q => by have := (HFN.out hn p hp).1; omega), fun hn p hp => by have := (HFN.out hn p hp).1; have := HSZ.out; omega⟩, ?_⟩ hw.1 (by rw [HC.out]; exact hw.2) ?_ ?_ ?_ ?_ hsm
      · refine lo_upd (by rw [← hso]; exact L2.out) hU (fun i hi q => ?_)
        rcases L7.out with e1 | e1
        · exact (HOI.out i (e1 ▸ hi)).2.2 q
        · have e2 : some i = some U2.heap.size := hi.symm.trans e1
          injection e2 with e2; have := L6.out; omega
      · intro i hi
        rcases L7.out with e1 | e1
        · exact .inl (e1 ▸ hi)
        · right; have e2 : some i = some U2.heap.size := hi.symm.trans e1; injection e2 with e2; have := L6.out; omega
      · intro hn p hp; have := (HFN.out hn p hp).1; omega
      · intro i hi hn p hp q
        rcases L7.out with e1 | e1
        · have h1 := (HOI.out i (e1 ▸ hi)).1; have h2 := (HFN.out hn p hp).1; omega
        · have e2 : some i = some U2.heap.size := hi.symm.trans e1
          injection e2 with e2; have := LFU.out hn p hp; omega
      · have := hU.blk
        rw [show O + 7 = O + ([.int .i64 b.me, .int .i64 b.rv, .int .i64 b.nx, .int .i64 b.mo, .int .i64 b.bo, .int .i64 b.fr, .slice pb lb cb] : List Value).length from rfl, putAll_more, ← HO.out] at this
        exact this
    refine hK.out _ _ M1.out (fun hHeld => ?_)
    clear hK K hU
    refine wpAnyH_done (by kernel_rfl) ?_ _
    clear hHeld
    go_wp2_with fail
    go_end0
    exact MF.out
  · rw [if_pos (by rfl)]
    refine wp_runOp (v := .slice (some ⟨U.heap.size, 0, none⟩) 1 1) (w' := (U.alloc (.cells #[.int .i64 l.id, .int .i64 2, .int .i64 b.rv, .int .i64 v.tg, .int .i64 y.rv] 103))) 56 rfl (by clear hK; go_simp) ?_
    refine hK.out _ _ (G1.out.alloc _) (fun hHeld => ?_)
    clear hK K
    simp only [Act.put, List.setIfInBounds_toArray, List.set_cons_zero, List.set_cons_succ]
    have q8 : (U.alloc (.cells #[.int .i64 l.id, .int .i64 2, .int .i64 b.rv, .int .i64 v.tg, .int .i64 y.rv] 103)).cell? ⟨g, O + 7, none⟩ = some (.slice sp sn sc) := (((Below.refl U.heap.size U).alloc (Nat.le_refl _) _).cell (p := ⟨g, O + 7, none⟩) G0.out.lt).trans q7
    clear q7
    refine wpAnyH_ready (rs := [4]) (by kernel_rfl) (by simp) (AllReadyH.cons rfl (fun K hK => ?_) AllReadyH.nil)
    rw [if_pos (by rfl)]
    refine wp_runOp (v := .slice sp sn sc) (w' := (U.alloc (.cells #[.int .i64 l.id, .int .i64 2, .int .i64 b.rv, .int .i64 v.tg, .int .i64 y.rv] 103))) 54 rfl (by clear hK; go_simp) ?_
    refine hK.out _ _ (G1.out.alloc _) (fun hHeld => ?_)
    clear hK K q8
    simp only [Act.put, List.setIfInBounds_toArray, List.set_cons_zero, List.set_cons_succ]
    have J0 : Hid (Blk (U.alloc (.cells #[.int .i64 l.id, .int .i64 2, .int .i64 b.rv, .int .i64 v.tg, .int .i64 y.rv] 103)) g (putAll cur O [.int .i64 b.me, .int .i64 b.rv, .int .i64 b.nx, .int .i64 b.mo, .int .i64 b.bo, .int .i64 b.fr, .slice pb lb cb]) 58) := G0.out.alloc _
    have J1 : Hid (Blk (U.alloc (.cells #[.int .i64 l.id, .int .i64 2, .int .i64 b.rv, .int .i64 v.tg, .int .i64 y.rv] 103)) gs #[.int .i64 l.id, .int .i64 2, .int .i64 b.rv, .int .i64 v.tg, .int .i64 y.rv] 103) := G1.out.alloc _
    have J2 : Hid (Lo (U.alloc (.cells #[.int .i64 l.id, .int .i64 2, .int .i64 b.rv, .int .i64 v.tg, .int .i64 y.rv] 103)) base (.slice sp sn sc) sol) := G2.out.alloc _
    have J3 : Hid (tar.Came (U.alloc (.cells #[.int .i64 l.id, .int .i64 2, .int .i64 b.rv, .int .i64 v.tg, .int .i64 y.rv] 103)) pb lb cb b.ds) := G3.out.below ((Below.refl _ _).alloc (Nat.le_refl _) _)
    have J4 : Hid (∀ i, i ≠ g → i < V5.heap.size → (U.alloc (.cells #[.int .i64 l.id, .int .i64 2, .int .i64 b.rv, .int .i64 v.tg, .int .i64 y.rv] 103)).heap[i]? = V5.heap[i]?) := fun i hi hl => by rw [← G4.out i hi]; exact ((Below.refl U.heap.size U).alloc (Nat.le_refl _) _).block i (by rw [← G7.out]; exact hl)
    have J5 : Hid ((U.alloc (.cells #[.int .i64 l.id, .int .i64 2, .int .i64 b.rv, .int .i64 v.tg, .int .i64 y.rv] 103)).os = w.os ∧ (U.alloc (.cells #[.int .i64 l.id, .int .i64 2, .int .i64 b.rv, .int .i64 v.tg, .int .i64 y.rv] 103)).tape = w.tape ∧ (U.alloc (.cells #[.int .i64 l.id, .int .i64 2, .int .i64 b.rv, .int .i64 v.tg, .int .i64 y.rv] 103)).output = w.output) := G5.out
    have J6 : Hid (base ≤ (U.alloc (.cells #[.int .i64 l.id, .int .i64 2, .int .i64 b.rv, .int .i64 v.tg, .int .i64 y.rv] 103)).heap.size ∧ V5.heap.size ≤ (U.alloc (.cells #[.int .i64 l.id, .int .i64 2, .int .i64 b.rv, .int .i64 v.tg, .int .i64 y.rv] 103)).heap.size) := by show _ ∧ _; have h1 := G6.out; have h2 := G7.out; simp; omega
    have J8 : Hid (Blk (U.alloc (.cells #[.int .i64 l.id, .int .i64 2, .int .i64 b.rv, .int .i64 v.tg, .int .i64 y.rv] 103)) U.heap.size #[.int .i64 l.id, .int .i64 2, .int .i64 b.rv, .int .i64 v.tg, .int .i64 y.rv] 103) := Blk.new _ _ _
    clear G0 G1 G2 G3 G4 G5 G6 G7
    generalize U.heap.size = gn at *
    generalize (U.alloc (.cells #[.int .i64 l.id, .int .i64 2, .int .i64 b.rv, .int .i64 v.tg, .int .i64 y.rv] 103)) = U2 at *
    refine wpAnyH_ready (rs := [7]) (by kernel_rfl) (by simp) (AllReadyH.cons rfl (fun K hK => ?_) AllReadyH.nil)
    rw [if_pos (by rfl)]
    refine step_sold 57 rfl _ _ rfl base gn _ sol (⟨l.id, 2, b.rv, v.tg, y.rv⟩ : So) rfl rfl J2.out J8.out (by have := HSL.out; omega) J6.out.1 ?_
    intro v3 w9 h3 hg3 ho3
    obtain ⟨p3, c3, rfl, _, _, _⟩ := h3.row
    have L0 : Hid (Blk w9 g (putAll cur O [.int .i64 b.me, .int .i64 b.rv, .int .i64 b.nx, .int .i64 b.mo, .int .i64 b.bo, .int .i64 b.fr, .slice pb lb cb]) 58) := blk_kept J0.out hg3 (fun q => (HOI.out g q.symm).2.2 rfl)
    have L1 : Hid (Blk w9 gs #[.int .i64 l.id, .int .i64 2, .int .i64 b.rv, .int .i64 v.tg, .int .i64 y.rv] 103) := blk_kept J1.out hg3 (fun q => by have := (HOI.out gs q.symm).1; omega)
    have L2 : Hid (Lo w9 base (.slice p3 (sol ++ [(⟨l.id, 2, b.rv, v.tg, y.rv⟩ : So)]).length c3) (sol ++ [(⟨l.id, 2, b.rv, v.tg, y.rv⟩ : So)])) := h3
    have L3 : Hid (tar.Came w9 pb lb cb b.ds) := came_grown J3.out hg3 (fun hn p hp q => by have h1 := (HFN.out hn p hp).1; have h2 := (HOI.out _ q.symm).1; omega)
    have L4 : Hid (∀ i, i ≠ g → (Value.slice sp sn sc).ownBlock ≠ some i → i < w.heap.size → w9.heap[i]? = w.heap[i]?) := fun i h1 h2 h3 => by rw [hg3.block i (by have := J6.out; have := HX5.out.size; omega) (fun q => h2 q.symm), J4.out i h1 (by have := HX5.out.size; omega), HX5.out.block i h3]
    have L5 : Hid (w9.os = w.os ∧ w9.tape = w.tape ∧ w9.output = w.output) := ⟨hg3.os.trans J5.out.1, hg3.tape.trans J5.out.2.1, hg3.output.trans J5.out.2.2⟩
    have L6 : Hid (w.heap.size ≤ U2.heap.size ∧ U2.heap.size ≤ w9.heap.size) := ⟨by have := J6.out; have := HX5.out.size; omega, hg3.size⟩
    have L7 : Hid ((Value.slice p3 (sol ++ [(⟨l.id, 2, b.rv, v.tg, y.rv⟩ : So)]).length c3).ownBlock = (Value.slice sp sn sc).ownBlock ∨ (Value.slice p3 (sol ++ [(⟨l.id, 2, b.rv, v.tg, y.rv⟩ : So)]).length c3).ownBlock = some U2.heap.size) := ho3
    have LFU : Hid (0 < lb → ∀ p, pb = some p → p.block < U2.heap.size) := came_lt J3.out
    refine hK.out _ _ L1.out (fun hHeld => ?_)
    clear hK K h3 hg3 ho3 J0 J1 J2 J3 J4 J5 J6 J8
    simp only [Act.put, List.setIfInBounds_toArray, List.set_cons_zero, List.set_cons_succ]
    generalize (sol ++ [(⟨l.id, 2, b.rv, v.tg, y.rv⟩ : So)]).length = n3 at *
    refine take_at 8 58 (.pointer (some ⟨g, O, none⟩)) _ rfl rfl (by kernel_rfl) (by kernel_rfl) (by kernel_rfl) (fun _ _ _ h => h) (Or.inl ⟨by rfl, fun v hv => by clear hv; go_simp⟩) hHeld ?_
    simp only [Act.put, List.setIfInBounds_toArray, List.set_cons_zero, List.set_cons_succ]
    refine take_at 9 59 (.pointer (some ⟨g, O + 7, none⟩)) _ rfl rfl (by kernel_rfl) (by kernel_rfl) (by kernel_rfl) (fun _ _ _ h => h) (Or.inl ⟨by rfl, fun v hv => by clear hv; go_simp⟩) hHeld ?_
    simp only [Act.put, List.setIfInBounds_toArray, List.set_cons_zero, List.set_cons_succ]
    refine wpAnyH_ready (rs := [10]) (by kernel_rfl) (by simp) (AllReadyH.cons rfl (fun K hK => ?_) AllReadyH.nil)
    rw [if_pos (by rfl)]
    refine acc.wp_letOp1 56 _ _ rfl g (O + 7) rfl (.slice p3 n3 c3) rfl rfl (by kernel_rfl) rfl (putAll cur O [.int .i64 b.me, .int .i64 b.rv, .int .i64 b.nx, .int .i64 b.mo, .int .i64 b.bo, .int .i64 b.fr, .slice pb lb cb]) 58 L0.out (by rw [putAll_size]; have := HCS.out; omega) rfl ?_
    intro WF hU
    have M1 := shK hU L1 (by omega)
    have MF : Hid (WPost w0 base gW B t pt lt ct (HapR t bk k v) w (.returned (.tuple #[])) WF) := by
      have hb := hU.bel 0 w9 (Nat.zero_le _) (Below.refl _ _)
      have hO : ∀ i, i < w.heap.size → i ≠ g → (Value.slice sp sn sc).ownBlock ≠ some i → WF.heap[i]? = w.heap[i]? := fun i h1 h2 h3 => by rw [hU.oth i h2]; exact L4.out i h2 h3 h1
      have hos : WF.os = w.os ∧ WF.tape = w.tape ∧ WF.output = w.output := ⟨hb.os.trans L5.out.1, hb.tape.trans L5.out.2.1, hb.output.trans L5.out.2.2⟩
      have hsz : w.heap.size ≤ WF.heap.size := by rw [hU.size]; exact Nat.le_trans L6.out.1 L6.out.2
      have hso : (⟨l.id, 2, b.rv, v.tg, y.rv⟩ : So) = soldOf ⟨y, sol⟩ v := by unfold soldOf; rw [if_pos HK4.out, HSI.out.1, HRV.out]
      have hh : HapIs t ⟨y, sol⟩ v ⟨b, sol ++ [soldOf ⟨y, sol⟩ v]⟩ 0 := .inr ⟨HN5.out, b, l, 0, HI.out, .inr (.inr ⟨rfl, HLB.out, rfl, rfl⟩)⟩
      have hw := hap_wf hh HMA.out
      refine ⟨⟨hos.1, hos.2.1, hos.2.2, hsz, fun i h1 _ _ => hO i (by have := HSZ.out; omega) (by have := HBG.out; omega) (fun q => by have := (HOI.out i q).2.1; omega)⟩, .inl ⟨.slice (some ⟨g, 0, none⟩) n cap, xs.set k ⟨b.me, b.rv, b.nx, b.mo, b.bo, b.fr, pb, lb, cb, p3, n3, c3⟩, bk.set k ⟨b, sol ++ [soldOf ⟨y, sol⟩ v]⟩, rfl, ⟨⟨b, sol ++ [soldOf ⟨y, sol⟩ v]⟩, by rw [HC.out]; exact hh, fun _ => rfl⟩, fun hsm => ?_⟩⟩
      refine put_wr HR.out HKL.out HX.out HCB.out hO hsz hos (x' := ⟨b.me, b.rv, b.nx, b.mo, b.bo, b.fr, pb, lb, cb, p3, n3, c3⟩) ⟨⟨rfl, rfl, rfl, rfl, rfl, rfl⟩, ⟨acc_upd L3.out hU (fun hn p hp q => by have := (HFN.out hn p hp).1; omega), fun hn p hp => by have := (HFN.out hn p hp).1; have := HSZ.out; omega⟩, ?_⟩ hw.1 (by rw [HC.out]; exact hw.2) ?_ ?_ ?_ ?_ hsm
      · refine lo_upd (by rw [← hso]; exact L2.out) hU (fun i hi q => ?_)
        rcases L7.out with e1 | e1
        · exact (HOI.out i (e1 ▸ hi)).2.2 q
        · have e2 : some i = some U2.heap.size := hi.symm.trans e1
          injection e2 with e2; have := L6.out; omega
      · intro i hi
        rcases L7.out with e1 | e1
        · exact .inl (e1 ▸ hi)
        · right; have e2 : some i = some U2.heap.size := hi.symm.trans e1; injection e2 with e2; have := L6.out; omega
      · intro hn p hp; have := (HFN.out hn p hp).1; omega
      · intro i hi hn p hp q
        rcases L7.out with e1 | e1
        · have h1 := (HOI.out i (e1 ▸ hi)).1; have h2 := (HFN.out hn p hp).1; omega
        · have e2 : some i = some U2.heap.size := hi.symm.trans e1
          injection e2 with e2; have := LFU.out hn p hp; omega
      · have := hU.blk
        rw [show O + 7 = O + ([.int .i64 b.me, .int .i64 b.rv, .int .i64 b.nx, .int .i64 b.mo, .int .i64 b.bo, .int .i64 b.fr, .slice pb lb cb] : List Value).length from rfl, putAll_more, ← HO.out] at this
        exact this
    refine hK.out _ _ M1.out (fun hHeld => ?_)
    clear hK K hU
    refine wpAnyH_done (by kernel_rfl) ?_ _
    clear hHeld
    go_wp2_with fail
    go_end0
    exact MF.out

end Go.Proofs.Ytfhlokjpdkmdjaa.book

/- Lie numbers within their bounds, in the program. -/
namespace Go.Proofs.Ytfhlokjpdkmdjaa.bki
open Go.RowKit

/-- The slice a, len, cap reads as the numbers zs: its elements alone. -/
def Row (w : World) (a : Option Addr) (len : Nat) (zs : List Int) : Prop :=
  zs.length = len ∧ (len = 0 ∨ ∃ b off, a = some ⟨b, off, none⟩ ∧ ∀ i, i < len → w.cell? ⟨b, off + i, none⟩ = some (.int .i64 (zs.getD i 0)))

def okAll (lo hi : Int) (l : List Int) : Bool := l.all fun n => decide (lo ≤ n) && decide (n ≤ hi)

theorem okAll_step (lo hi : Int) (zs : List Int) (k : Nat) (hk : k < zs.length) (h : okAll lo hi (zs.take k) = true) (h1 : lo ≤ zs.getD k 0) (h2 : zs.getD k 0 ≤ hi) : okAll lo hi (zs.take (k + 1)) = true := by
  unfold okAll at *
  rw [List.take_add_one, List.all_append, h]
  simp only [List.getD, List.getElem?_eq_getElem hk, Option.getD] at h1 h2 ⊢
  simp [h1, h2]

theorem okAll_no (lo hi : Int) (zs : List Int) (k : Nat) (hk : k < zs.length) (h : zs.getD k 0 < lo ∨ hi < zs.getD k 0) : okAll lo hi zs = false := by
  unfold okAll
  rw [List.all_eq_false]
  refine ⟨zs[k], List.getElem_mem hk, ?_⟩
  simp only [List.getD, List.getElem?_eq_getElem hk, Option.getD] at h
  simp; omega

theorem ret_bool {a b : Bool} (h : a = b) : Ending.returned (.bool a) = .returned (.bool b) := by rw [h]

set_option maxHeartbeats 400000 in
theorem within_any (lo hi : Int) (a : Option Addr) (len cap : Nat) (zs : List Int) (w : World) (hr : Row w a len zs) (hl : len ≤ maxLen) :
    Calls Try.prog 43 #[.int .i64 lo, .int .i64 hi, .slice a len cap] w fun e w' => e = .returned (.bool (okAll lo hi zs)) ∧ w' = w := by
  unfold maxLen at hl
  obtain ⟨hz, hr⟩ := hr
  go_enter Try.func43, Try.ntmps43
  go_wp2
  go_loop [11] (fun i => ∃ k : Nat, k ≤ len ∧ i = .int .i64 k ∧ okAll lo hi (zs.take k) = true) (fun i => len - (intOf i).toNat)
  case atStart => exact ⟨0, Nat.zero_le _, rfl, rfl⟩
  case round =>
    obtain ⟨k, hk, rfl, hok⟩ := hrel
    have HK : Hid (okAll lo hi (zs.take k) = true) := hok
    clear hok
    by_cases hlt : k < len
    · rcases hr with h0 | ⟨b, off, rfl, hc⟩
      · omega
      have hcell := hc k hlt
      clear hc
      generalize hzk : zs.getD k 0 = z at hcell
      have HZ : Hid (zs.getD k 0 = z) := hzk
      clear hzk
      by_cases h1 : z < lo
      · go_wp2
        go_ret
        exact ⟨ret_bool (okAll_no lo hi zs k (by omega) (.inl (by rw [HZ.out]; exact h1))).symm, rfl⟩
      · by_cases h2 : hi < z
        · go_wp2
          go_ret
          exact ⟨ret_bool (okAll_no lo hi zs k (by omega) (.inr (by rw [HZ.out]; exact h2))).symm, rfl⟩
        · go_wp2
          go_round
          case rel => exact ⟨k + 1, by omega, by go_num, okAll_step lo hi zs k (by omega) HK.out (by rw [HZ.out]; omega) (by rw [HZ.out]; omega)⟩
          case measure => simp [intOf]; omega
    · go_wp2
      go_ret
      refine ⟨ret_bool ?_, rfl⟩
      have := HK.out
      rw [List.take_of_length_le (by omega)] at this
      exact this.symm

theorem row_one (w : World) (z : Int) (t : TypeId) : Row (w.alloc (.cells #[.int .i64 z] t)) (some ⟨w.heap.size, 0, none⟩) 1 [z] := by
  refine ⟨rfl, .inr ⟨_, _, rfl, fun i hi => ?_⟩⟩
  obtain rfl : i = 0 := by omega
  simp

theorem okAll_yes {lo hi z : Int} (h1 : lo ≤ z) (h2 : z ≤ hi) : okAll lo hi [z] = true := by simp [okAll, h1, h2]
theorem okAll_not {lo hi z : Int} (h : z < lo ∨ hi < z) : okAll lo hi [z] = false := by simp [okAll]; omega

/-- One number alone, laid in a new block: it lies within the bounds. -/
theorem within_one_yes (lo hi z : Int) (w : World) (b : Nat) (hb : b = w.heap.size) (h1 : lo ≤ z) (h2 : z ≤ hi) :
    Calls Try.prog 43 #[.int .i64 lo, .int .i64 hi, .slice (some ⟨b, 0, none⟩) 1 1] (w.alloc (.cells #[.int .i64 z] 3)) fun e w' => e = .returned (.bool true) ∧ w' = w.alloc (.cells #[.int .i64 z] 3) := by
  have h := within_any lo hi _ 1 1 [z] _ (row_one w z 3) (by decide)
  rw [okAll_yes h1 h2] at h
  rw [hb]
  exact h

theorem within_one_no (lo hi z : Int) (w : World) (b : Nat) (hb : b = w.heap.size) (h0 : z < lo ∨ hi < z) :
    Calls Try.prog 43 #[.int .i64 lo, .int .i64 hi, .slice (some ⟨b, 0, none⟩) 1 1] (w.alloc (.cells #[.int .i64 z] 3)) fun e w' => e = .returned (.bool false) ∧ w' = w.alloc (.cells #[.int .i64 z] 3) := by
  have h := within_any lo hi _ 1 1 [z] _ (row_one w z 3) (by decide)
  rw [okAll_not h0] at h
  rw [hb]
  exact h

theorem bel1 (w : World) (o : Obj) : Below w.heap.size w (w.alloc o) := (Below.refl _ _).alloc (Nat.le_refl _) _
theorem bel2 (w : World) (o o' : Obj) : Below w.heap.size w ((w.alloc o).alloc o') := (bel1 w o).alloc (by simp) _

theorem row_five (w : World) (a b c d e : Int) (t : TypeId) : Row (w.alloc (.cells #[.int .i64 a, .int .i64 b, .int .i64 c, .int .i64 d, .int .i64 e] t)) (some ⟨w.heap.size, 0, none⟩) 5 [a, b, c, d, e] := by
  refine ⟨rfl, .inr ⟨_, _, rfl, fun i hi => ?_⟩⟩
  match i, hi with
  | 0, _ => simp
  | 1, _ => simp
  | 2, _ => simp
  | 3, _ => simp
  | 4, _ => simp
/-- One number alone. -/
theorem within_one (lo hi z : Int) (w : World) (b : Nat) (hb : b = w.heap.size) :
    Calls Try.prog 43 #[.int .i64 lo, .int .i64 hi, .slice (some ⟨b, 0, none⟩) 1 1] (w.alloc (.cells #[.int .i64 z] 3)) fun e w' => e = .returned (.bool (decide (lo ≤ z ∧ z ≤ hi))) ∧ w' = w.alloc (.cells #[.int .i64 z] 3) := by
  have h := within_any lo hi _ 1 1 [z] _ (row_one w z 3) (by decide)
  have e : okAll lo hi [z] = decide (lo ≤ z ∧ z ≤ hi) := by simp [okAll]
  rw [e] at h
  rw [hb]
  exact h

theorem row_four (w : World) (a b c d : Int) (t : TypeId) : Row (w.alloc (.cells #[.int .i64 a, .int .i64 b, .int .i64 c, .int .i64 d] t)) (some ⟨w.heap.size, 0, none⟩) 4 [a, b, c, d] := by
  refine ⟨rfl, .inr ⟨_, _, rfl, fun i hi => ?_⟩⟩
  match i, hi with
  | 0, _ => simp
  | 1, _ => simp
  | 2, _ => simp
  | 3, _ => simp

end Go.Proofs.Ytfhlokjpdkmdjaa.bki

/- Which events may be: plain facts for the program. -/
namespace Go.Proofs.Ytfhlokjpdkmdjaa.book
open Go.RowKit
set_option maxRecDepth 100000
set_option linter.unusedVariables false
set_option linter.unusedSimpArgs false

/-- What is left of an event, when what its kind has is taken away. -/
def leftE (v : Ev) : Ev := if v.kd = 2 then ⟨0, 0, 0, 0, 0, 0, 0, 0, 0, 0, 0, v.ow, v.bp⟩ else if v.kd = 3 then ⟨0, 0, 0, 0, v.te, v.de, v.fe, v.pr, v.ch, 0, 0, v.ow, v.bp⟩ else if v.kd = 4 then ⟨0, 0, v.mo, 0, v.te, v.de, v.fe, v.pr, v.ch, v.un, 0, v.ow, v.bp⟩ else if v.kd = 5 then ⟨0, 0, v.mo, v.id, v.te, v.de, v.fe, v.pr, v.ch, v.un, v.tg, 0, 0⟩ else ⟨0, 0, v.mo, v.id, v.te, v.de, v.fe, v.pr, v.ch, v.un, v.tg, v.ow, v.bp⟩
def Numd (id tg : Int) : Prop := (1 ≤ id ∧ id ≤ 1048575) ∧ 0 ≤ tg ∧ tg ≤ 65535
def Unt (un : Int) : Prop := 1 ≤ un ∧ un ≤ 2097151
def Mon (mo : Int) : Prop := 0 ≤ mo ∧ mo ≤ 2399
def Mony (te de fe pr ch : Int) : Prop := (1 ≤ te ∧ te ≤ 100000000) ∧ ((0 ≤ de ∧ de ≤ 100000000) ∧ (0 ≤ fe ∧ fe ≤ 100000000) ∧ (0 ≤ pr ∧ pr ≤ 100000000) ∧ 0 ≤ ch ∧ ch ≤ 100000000) ∧ de + fe + pr + ch = te
def Dbt (ow bp : Int) : Prop := (1 ≤ ow ∧ ow ≤ 1000000000) ∧ 0 ≤ bp ∧ bp ≤ 10000
def KindR (v : Ev) : Prop := v.kd = 1 ∨ (v.kd = 2 ∧ Mon v.mo ∧ Numd v.id v.tg ∧ Unt v.un ∧ Mony v.te v.de v.fe v.pr v.ch) ∨ (v.kd = 3 ∧ Mon v.mo ∧ Numd v.id v.tg ∧ Unt v.un) ∨ (v.kd = 4 ∧ Numd v.id v.tg) ∨ (v.kd = 5 ∧ Dbt v.ow v.bp)
set_option maxHeartbeats 2000000 in
theorem may_iff (v : Ev) : EMay v ↔ (0 ≤ v.me ∧ v.me ≤ 49) ∧ KindR v ∧ leftE v = ev0 := by
  obtain ⟨kd, me, mo, id, te, de, fe, pr, ch, un, tg, ow, bp⟩ := v
  unfold EMay KindR leftE ev0 Numd Unt Mon Mony Dbt
  simp only
  by_cases h1 : kd = 1
  · subst h1; simp
  by_cases h2 : kd = 2
  · subst h2; simp; intro _ _; constructor <;> intro h <;> omega
  by_cases h3 : kd = 3
  · subst h3; simp; intro _ _; constructor <;> intro h <;> omega
  by_cases h4 : kd = 4
  · subst h4; simp; intro _ _; constructor <;> intro h <;> omega
  by_cases h5 : kd = 5
  · subst h5; simp; intro _ _; constructor <;> intro h <;> omega
  constructor
  · rintro ⟨_, h | h | h⟩
    · exact absurd h.1 h1
    · exact absurd h.1 h5
    · have := h.1; omega
  · rintro ⟨_, h | h | h | h | h, _⟩
    · exact absurd h h1
    · exact absurd h.1 h2
    · exact absurd h.1 h3
    · exact absurd h.1 h4
    · exact absurd h.1 h5
theorem kind_2 {v : Ev} (h : v.kd = 2) : KindR v ↔ Mon v.mo ∧ Numd v.id v.tg ∧ Unt v.un ∧ Mony v.te v.de v.fe v.pr v.ch := by simp [KindR, h]
theorem kind_3 {v : Ev} (h : v.kd = 3) : KindR v ↔ Mon v.mo ∧ Numd v.id v.tg ∧ Unt v.un := by simp [KindR, h]
theorem kind_4 {v : Ev} (h : v.kd = 4) : KindR v ↔ Numd v.id v.tg := by simp [KindR, h]
theorem kind_5 {v : Ev} (h : v.kd = 5) : KindR v ↔ Dbt v.ow v.bp := by simp [KindR, h]
/-- A question that is answered. -/
def YN (w : World) (P : Prop) (e : Ending) (w' : World) : Prop := ∃ B, e = .returned (.bool B) ∧ (B = true ↔ P) ∧ Below w.heap.size w w'
theorem YN.yes {w w' : World} {P : Prop} (h : P) (hb : Below w.heap.size w w') : YN w P (.returned (.bool true)) w' := ⟨true, rfl, ⟨fun _ => h, fun _ => rfl⟩, hb⟩
theorem YN.no {w w' : World} {P : Prop} (h : ¬ P) (hb : Below w.heap.size w w') : YN w P (.returned (.bool false)) w' := ⟨false, rfl, ⟨fun q => (by cases q), fun q => absurd q h⟩, hb⟩

end Go.Proofs.Ytfhlokjpdkmdjaa.book

/- Are the numbers of an event as told? In the program. -/
namespace Go.Proofs.Ytfhlokjpdkmdjaa.book
open Go.RowKit
set_option maxRecDepth 100000
set_option linter.unusedVariables false
set_option linter.unusedSimpArgs false

set_option maxHeartbeats 4000000 in
theorem bnum (kd me mo id te de fe pr ch un tg ow bp : Int) (w : World) : Calls Try.prog 60 #[.agg #[.int .i64 kd, .int .i64 me, .int .i64 mo, .int .i64 id, .int .i64 te, .int .i64 de, .int .i64 fe, .int .i64 pr, .int .i64 ch, .int .i64 un, .int .i64 tg, .int .i64 ow, .int .i64 bp]] w fun e w' => YN w (Numd id tg) e w' := by
  obtain ⟨W0, HWW, HX0, HB0, -⟩ := sh1 w #[.int .i64 kd, .int .i64 me, .int .i64 mo, .int .i64 id, .int .i64 te, .int .i64 de, .int .i64 fe, .int .i64 pr, .int .i64 ch, .int .i64 un, .int .i64 tg, .int .i64 ow, .int .i64 bp] 27
  go_enter Try.func60, Try.ntmps60
  go_upto_region 1 with fail
  rw [HWW.out]
  clear HWW
  have c0 : W0.cell? ⟨w.heap.size, 0, none⟩ = some (.int .i64 kd) := HX0.out.cell 0
  have c1 : W0.cell? ⟨w.heap.size, 1, none⟩ = some (.int .i64 me) := HX0.out.cell 1
  have c2 : W0.cell? ⟨w.heap.size, 2, none⟩ = some (.int .i64 mo) := HX0.out.cell 2
  have c3 : W0.cell? ⟨w.heap.size, 3, none⟩ = some (.int .i64 id) := HX0.out.cell 3
  have c4 : W0.cell? ⟨w.heap.size, 4, none⟩ = some (.int .i64 te) := HX0.out.cell 4
  have c5 : W0.cell? ⟨w.heap.size, 5, none⟩ = some (.int .i64 de) := HX0.out.cell 5
  have c6 : W0.cell? ⟨w.heap.size, 6, none⟩ = some (.int .i64 fe) := HX0.out.cell 6
  have c7 : W0.cell? ⟨w.heap.size, 7, none⟩ = some (.int .i64 pr) := HX0.out.cell 7
  have c8 : W0.cell? ⟨w.heap.size, 8, none⟩ = some (.int .i64 ch) := HX0.out.cell 8
  have c9 : W0.cell? ⟨w.heap.size, 9, none⟩ = some (.int .i64 un) := HX0.out.cell 9
  have c10 : W0.cell? ⟨w.heap.size, 10, none⟩ = some (.int .i64 tg) := HX0.out.cell 10
  have c11 : W0.cell? ⟨w.heap.size, 11, none⟩ = some (.int .i64 ow) := HX0.out.cell 11
  have c12 : W0.cell? ⟨w.heap.size, 12, none⟩ = some (.int .i64 bp) := HX0.out.cell 12
  have HW0 : Hid (Calls Try.prog 43 #[.int .i64 1, .int .i64 1048575, .slice (some ⟨W0.heap.size, 0, none⟩) 1 1] (W0.alloc (.cells #[.int .i64 id] 3)) fun e w' => e = .returned (.bool (decide (1 ≤ id ∧ id ≤ 1048575))) ∧ w' = (W0.alloc (.cells #[.int .i64 id] 3))) := bki.within_one 1 1048575 id W0 _ rfl
  have HB1 : Hid (Below w.heap.size w (W0.alloc (.cells #[.int .i64 id] 3))) := HB0.out.alloc HB0.out.size _
  have HX1 : Hid (Blk (W0.alloc (.cells #[.int .i64 id] 3)) w.heap.size #[.int .i64 kd, .int .i64 me, .int .i64 mo, .int .i64 id, .int .i64 te, .int .i64 de, .int .i64 fe, .int .i64 pr, .int .i64 ch, .int .i64 un, .int .i64 tg, .int .i64 ow, .int .i64 bp] 27) := HX0.out.alloc _
  by_cases h0 : 1 ≤ id ∧ id ≤ 1048575
  case neg =>
    rw [decide_eq_false h0] at HW0
    go_wp2_with fail
    refine HW0.out.mono ?_
    rintro e W ⟨rfl, hw⟩
    subst hw
    clear HW0
    go_wp2_with fail
    go_ret
    exact YN.no (fun q => h0 q.1) HB1.out
  rw [decide_eq_true h0] at HW0
  go_wp2_with fail
  refine HW0.out.mono ?_
  rintro e W ⟨rfl, hw⟩
  subst hw
  clear HW0 HB0 HX0
  clear c0 c1 c2 c3 c4 c5 c6 c7 c8 c9 c10 c11 c12
  generalize (W0.alloc (.cells #[.int .i64 id] 3)) = W1 at *
  have c0 : W1.cell? ⟨w.heap.size, 0, none⟩ = some (.int .i64 kd) := HX1.out.cell 0
  have c1 : W1.cell? ⟨w.heap.size, 1, none⟩ = some (.int .i64 me) := HX1.out.cell 1
  have c2 : W1.cell? ⟨w.heap.size, 2, none⟩ = some (.int .i64 mo) := HX1.out.cell 2
  have c3 : W1.cell? ⟨w.heap.size, 3, none⟩ = some (.int .i64 id) := HX1.out.cell 3
  have c4 : W1.cell? ⟨w.heap.size, 4, none⟩ = some (.int .i64 te) := HX1.out.cell 4
  have c5 : W1.cell? ⟨w.heap.size, 5, none⟩ = some (.int .i64 de) := HX1.out.cell 5
  have c6 : W1.cell? ⟨w.heap.size, 6, none⟩ = some (.int .i64 fe) := HX1.out.cell 6
  have c7 : W1.cell? ⟨w.heap.size, 7, none⟩ = some (.int .i64 pr) := HX1.out.cell 7
  have c8 : W1.cell? ⟨w.heap.size, 8, none⟩ = some (.int .i64 ch) := HX1.out.cell 8
  have c9 : W1.cell? ⟨w.heap.size, 9, none⟩ = some (.int .i64 un) := HX1.out.cell 9
  have c10 : W1.cell? ⟨w.heap.size, 10, none⟩ = some (.int .i64 tg) := HX1.out.cell 10
  have c11 : W1.cell? ⟨w.heap.size, 11, none⟩ = some (.int .i64 ow) := HX1.out.cell 11
  have c12 : W1.cell? ⟨w.heap.size, 12, none⟩ = some (.int .i64 bp) := HX1.out.cell 12
  have HW1 : Hid (Calls Try.prog 43 #[.int .i64 0, .int .i64 65535, .slice (some ⟨W1.heap.size, 0, none⟩) 1 1] (W1.alloc (.cells #[.int .i64 tg] 3)) fun e w' => e = .returned (.bool (decide (0 ≤ tg ∧ tg ≤ 65535))) ∧ w' = (W1.alloc (.cells #[.int .i64 tg] 3))) := bki.within_one 0 65535 tg W1 _ rfl
  have HB2 : Hid (Below w.heap.size w (W1.alloc (.cells #[.int .i64 tg] 3))) := HB1.out.alloc HB1.out.size _
  have HX2 : Hid (Blk (W1.alloc (.cells #[.int .i64 tg] 3)) w.heap.size #[.int .i64 kd, .int .i64 me, .int .i64 mo, .int .i64 id, .int .i64 te, .int .i64 de, .int .i64 fe, .int .i64 pr, .int .i64 ch, .int .i64 un, .int .i64 tg, .int .i64 ow, .int .i64 bp] 27) := HX1.out.alloc _
  by_cases h1 : 0 ≤ tg ∧ tg ≤ 65535
  case neg =>
    rw [decide_eq_false h1] at HW1
    go_wp2_with fail
    refine HW1.out.mono ?_
    rintro e W ⟨rfl, hw⟩
    subst hw
    clear HW1
    go_wp2_with fail
    go_ret
    exact YN.no (fun q => h1 q.2) HB2.out
  rw [decide_eq_true h1] at HW1
  go_wp2_with fail
  refine HW1.out.mono ?_
  rintro e W ⟨rfl, hw⟩
  subst hw
  clear HW1 HB1 HX1
  clear c0 c1 c2 c3 c4 c5 c6 c7 c8 c9 c10 c11 c12
  generalize (W1.alloc (.cells #[.int .i64 tg] 3)) = W2 at *
  have c0 : W2.cell? ⟨w.heap.size, 0, none⟩ = some (.int .i64 kd) := HX2.out.cell 0
  have c1 : W2.cell? ⟨w.heap.size, 1, none⟩ = some (.int .i64 me) := HX2.out.cell 1
  have c2 : W2.cell? ⟨w.heap.size, 2, none⟩ = some (.int .i64 mo) := HX2.out.cell 2
  have c3 : W2.cell? ⟨w.heap.size, 3, none⟩ = some (.int .i64 id) := HX2.out.cell 3
  have c4 : W2.cell? ⟨w.heap.size, 4, none⟩ = some (.int .i64 te) := HX2.out.cell 4
  have c5 : W2.cell? ⟨w.heap.size, 5, none⟩ = some (.int .i64 de) := HX2.out.cell 5
  have c6 : W2.cell? ⟨w.heap.size, 6, none⟩ = some (.int .i64 fe) := HX2.out.cell 6
  have c7 : W2.cell? ⟨w.heap.size, 7, none⟩ = some (.int .i64 pr) := HX2.out.cell 7
  have c8 : W2.cell? ⟨w.heap.size, 8, none⟩ = some (.int .i64 ch) := HX2.out.cell 8
  have c9 : W2.cell? ⟨w.heap.size, 9, none⟩ = some (.int .i64 un) := HX2.out.cell 9
  have c10 : W2.cell? ⟨w.heap.size, 10, none⟩ = some (.int .i64 tg) := HX2.out.cell 10
  have c11 : W2.cell? ⟨w.heap.size, 11, none⟩ = some (.int .i64 ow) := HX2.out.cell 11
  have c12 : W2.cell? ⟨w.heap.size, 12, none⟩ = some (.int .i64 bp) := HX2.out.cell 12
  go_wp2_with fail
  go_ret
  exact YN.yes (⟨h0, h1⟩) HB2.out
set_option maxHeartbeats 4000000 in
theorem bunt (kd me mo id te de fe pr ch un tg ow bp : Int) (w : World) : Calls Try.prog 61 #[.agg #[.int .i64 kd, .int .i64 me, .int .i64 mo, .int .i64 id, .int .i64 te, .int .i64 de, .int .i64 fe, .int .i64 pr, .int .i64 ch, .int .i64 un, .int .i64 tg, .int .i64 ow, .int .i64 bp]] w fun e w' => YN w (Unt un) e w' := by
  obtain ⟨W0, HWW, HX0, HB0, -⟩ := sh1 w #[.int .i64 kd, .int .i64 me, .int .i64 mo, .int .i64 id, .int .i64 te, .int .i64 de, .int .i64 fe, .int .i64 pr, .int .i64 ch, .int .i64 un, .int .i64 tg, .int .i64 ow, .int .i64 bp] 27
  go_enter Try.func61, Try.ntmps61
  go_upto_region 1 with fail
  rw [HWW.out]
  clear HWW
  have c0 : W0.cell? ⟨w.heap.size, 0, none⟩ = some (.int .i64 kd) := HX0.out.cell 0
  have c1 : W0.cell? ⟨w.heap.size, 1, none⟩ = some (.int .i64 me) := HX0.out.cell 1
  have c2 : W0.cell? ⟨w.heap.size, 2, none⟩ = some (.int .i64 mo) := HX0.out.cell 2
  have c3 : W0.cell? ⟨w.heap.size, 3, none⟩ = some (.int .i64 id) := HX0.out.cell 3
  have c4 : W0.cell? ⟨w.heap.size, 4, none⟩ = some (.int .i64 te) := HX0.out.cell 4
  have c5 : W0.cell? ⟨w.heap.size, 5, none⟩ = some (.int .i64 de) := HX0.out.cell 5
  have c6 : W0.cell? ⟨w.heap.size, 6, none⟩ = some (.int .i64 fe) := HX0.out.cell 6
  have c7 : W0.cell? ⟨w.heap.size, 7, none⟩ = some (.int .i64 pr) := HX0.out.cell 7
  have c8 : W0.cell? ⟨w.heap.size, 8, none⟩ = some (.int .i64 ch) := HX0.out.cell 8
  have c9 : W0.cell? ⟨w.heap.size, 9, none⟩ = some (.int .i64 un) := HX0.out.cell 9
  have c10 : W0.cell? ⟨w.heap.size, 10, none⟩ = some (.int .i64 tg) := HX0.out.cell 10
  have c11 : W0.cell? ⟨w.heap.size, 11, none⟩ = some (.int .i64 ow) := HX0.out.cell 11
  have c12 : W0.cell? ⟨w.heap.size, 12, none⟩ = some (.int .i64 bp) := HX0.out.cell 12
  have HW0 : Hid (Calls Try.prog 43 #[.int .i64 1, .int .i64 2097151, .slice (some ⟨W0.heap.size, 0, none⟩) 1 1] (W0.alloc (.cells #[.int .i64 un] 3)) fun e w' => e = .returned (.bool (decide (1 ≤ un ∧ un ≤ 2097151))) ∧ w' = (W0.alloc (.cells #[.int .i64 un] 3))) := bki.within_one 1 2097151 un W0 _ rfl
  have HB1 : Hid (Below w.heap.size w (W0.alloc (.cells #[.int .i64 un] 3))) := HB0.out.alloc HB0.out.size _
  have HX1 : Hid (Blk (W0.alloc (.cells #[.int .i64 un] 3)) w.heap.size #[.int .i64 kd, .int .i64 me, .int .i64 mo, .int .i64 id, .int .i64 te, .int .i64 de, .int .i64 fe, .int .i64 pr, .int .i64 ch, .int .i64 un, .int .i64 tg, .int .i64 ow, .int .i64 bp] 27) := HX0.out.alloc _
  by_cases h0 : 1 ≤ un ∧ un ≤ 2097151
  case neg =>
    rw [decide_eq_false h0] at HW0
    go_wp2_with fail
    refine HW0.out.mono ?_
    rintro e W ⟨rfl, hw⟩
    subst hw
    clear HW0
    go_wp2_with fail
    go_ret
    exact YN.no (fun q => h0 q) HB1.out
  rw [decide_eq_true h0] at HW0
  go_wp2_with fail
  refine HW0.out.mono ?_
  rintro e W ⟨rfl, hw⟩
  subst hw
  clear HW0 HB0 HX0
  clear c0 c1 c2 c3 c4 c5 c6 c7 c8 c9 c10 c11 c12
  generalize (W0.alloc (.cells #[.int .i64 un] 3)) = W1 at *
  have c0 : W1.cell? ⟨w.heap.size, 0, none⟩ = some (.int .i64 kd) := HX1.out.cell 0
  have c1 : W1.cell? ⟨w.heap.size, 1, none⟩ = some (.int .i64 me) := HX1.out.cell 1
  have c2 : W1.cell? ⟨w.heap.size, 2, none⟩ = some (.int .i64 mo) := HX1.out.cell 2
  have c3 : W1.cell? ⟨w.heap.size, 3, none⟩ = some (.int .i64 id) := HX1.out.cell 3
  have c4 : W1.cell? ⟨w.heap.size, 4, none⟩ = some (.int .i64 te) := HX1.out.cell 4
  have c5 : W1.cell? ⟨w.heap.size, 5, none⟩ = some (.int .i64 de) := HX1.out.cell 5
  have c6 : W1.cell? ⟨w.heap.size, 6, none⟩ = some (.int .i64 fe) := HX1.out.cell 6
  have c7 : W1.cell? ⟨w.heap.size, 7, none⟩ = some (.int .i64 pr) := HX1.out.cell 7
  have c8 : W1.cell? ⟨w.heap.size, 8, none⟩ = some (.int .i64 ch) := HX1.out.cell 8
  have c9 : W1.cell? ⟨w.heap.size, 9, none⟩ = some (.int .i64 un) := HX1.out.cell 9
  have c10 : W1.cell? ⟨w.heap.size, 10, none⟩ = some (.int .i64 tg) := HX1.out.cell 10
  have c11 : W1.cell? ⟨w.heap.size, 11, none⟩ = some (.int .i64 ow) := HX1.out.cell 11
  have c12 : W1.cell? ⟨w.heap.size, 12, none⟩ = some (.int .i64 bp) := HX1.out.cell 12
  go_wp2_with fail
  go_ret
  exact YN.yes (h0) HB1.out
set_option maxHeartbeats 4000000 in
theorem bmony (id te de fe pr ch un : Int) (w : World) : Calls Try.prog 62 #[.agg #[.int .i64 id, .int .i64 te, .int .i64 de, .int .i64 fe, .int .i64 pr, .int .i64 ch, .int .i64 un]] w fun e w' => YN w (Mony te de fe pr ch) e w' := by
  obtain ⟨W0, HWW, HX0, HB0, -⟩ := sh1 w #[.int .i64 id, .int .i64 te, .int .i64 de, .int .i64 fe, .int .i64 pr, .int .i64 ch, .int .i64 un] 23
  go_enter Try.func62, Try.ntmps62
  go_upto_region 1 with fail
  rw [HWW.out]
  clear HWW
  obtain ⟨c0, c1, c2, c3, c4, c5, c6⟩ := scl7 HX0
  have HW0 : Hid (Calls Try.prog 43 #[.int .i64 1, .int .i64 100000000, .slice (some ⟨W0.heap.size, 0, none⟩) 1 1] (W0.alloc (.cells #[.int .i64 te] 3)) fun e w' => e = .returned (.bool (decide (1 ≤ te ∧ te ≤ 100000000))) ∧ w' = (W0.alloc (.cells #[.int .i64 te] 3))) := bki.within_one 1 100000000 te W0 _ rfl
  have HB1 : Hid (Below w.heap.size w (W0.alloc (.cells #[.int .i64 te] 3))) := HB0.out.alloc HB0.out.size _
  have HX1 : Hid (Blk (W0.alloc (.cells #[.int .i64 te] 3)) w.heap.size #[.int .i64 id, .int .i64 te, .int .i64 de, .int .i64 fe, .int .i64 pr, .int .i64 ch, .int .i64 un] 23) := HX0.out.alloc _
  by_cases h0 : 1 ≤ te ∧ te ≤ 100000000
  case neg =>
    rw [decide_eq_false h0] at HW0
    go_wp2_with fail
    refine HW0.out.mono ?_
    rintro e W ⟨rfl, hw⟩
    subst hw
    clear HW0
    go_wp2_with fail
    go_ret
    exact YN.no (fun q => h0 q.1) HB1.out
  rw [decide_eq_true h0] at HW0
  go_wp2_with fail
  refine HW0.out.mono ?_
  rintro e W ⟨rfl, hw⟩
  subst hw
  clear HW0 HB0 HX0
  clear c0 c1 c2 c3 c4 c5 c6
  generalize (W0.alloc (.cells #[.int .i64 te] 3)) = W1 at *
  obtain ⟨c0, c1, c2, c3, c4, c5, c6⟩ := scl7 HX1
  have HW1 : Hid (Calls Try.prog 43 #[.int .i64 0, .int .i64 100000000, .slice (some ⟨W1.heap.size, 0, none⟩) 4 4] (W1.alloc (.cells #[.int .i64 de, .int .i64 fe, .int .i64 pr, .int .i64 ch] 3)) fun e w' => e = .returned (.bool (bki.okAll 0 100000000 [de, fe, pr, ch])) ∧ w' = (W1.alloc (.cells #[.int .i64 de, .int .i64 fe, .int .i64 pr, .int .i64 ch] 3))) := bki.within_any 0 100000000 _ 4 4 [de, fe, pr, ch] _ (bki.row_four W1 de fe pr ch 3) (by decide)
  have HB2 : Hid (Below w.heap.size w (W1.alloc (.cells #[.int .i64 de, .int .i64 fe, .int .i64 pr, .int .i64 ch] 3))) := HB1.out.alloc HB1.out.size _
  have HX2 : Hid (Blk (W1.alloc (.cells #[.int .i64 de, .int .i64 fe, .int .i64 pr, .int .i64 ch] 3)) w.heap.size #[.int .i64 id, .int .i64 te, .int .i64 de, .int .i64 fe, .int .i64 pr, .int .i64 ch, .int .i64 un] 23) := HX1.out.alloc _
  by_cases h1 : bki.okAll 0 100000000 [de, fe, pr, ch] = true
  case neg =>
    rw [show bki.okAll 0 100000000 [de, fe, pr, ch] = false by simpa using h1] at HW1
    go_wp2_with fail
    refine HW1.out.mono ?_
    rintro e W ⟨rfl, hw⟩
    subst hw
    clear HW1
    go_wp2_with fail
    go_ret
    exact YN.no (fun q => h1 (by simpa [bki.okAll] using q.2.1)) HB2.out
  rw [h1] at HW1
  go_wp2_with fail
  refine HW1.out.mono ?_
  rintro e W ⟨rfl, hw⟩
  subst hw
  clear HW1 HB1 HX1
  clear c0 c1 c2 c3 c4 c5 c6
  generalize (W1.alloc (.cells #[.int .i64 de, .int .i64 fe, .int .i64 pr, .int .i64 ch] 3)) = W2 at *
  obtain ⟨c0, c1, c2, c3, c4, c5, c6⟩ := scl7 HX2
  have hh : (0 ≤ de ∧ de ≤ 100000000) ∧ (0 ≤ fe ∧ fe ≤ 100000000) ∧ (0 ≤ pr ∧ pr ≤ 100000000) ∧ 0 ≤ ch ∧ ch ≤ 100000000 := by simpa [bki.okAll] using h1
  have e1 : IntKind.i64.wrap (de + fe) = de + fe := by rw [IntKind.wrap_i64]; omega
  have e2 : IntKind.i64.wrap (de + fe + pr) = de + fe + pr := by rw [IntKind.wrap_i64]; omega
  have e3 : IntKind.i64.wrap (de + fe + pr + ch) = de + fe + pr + ch := by rw [IntKind.wrap_i64]; omega
  have HH : Hid ((0 ≤ de ∧ de ≤ 100000000) ∧ (0 ≤ fe ∧ fe ≤ 100000000) ∧ (0 ≤ pr ∧ pr ≤ 100000000) ∧ 0 ≤ ch ∧ ch ≤ 100000000) := hh
  have H0 : Hid (1 ≤ te ∧ te ≤ 100000000) := h0
  clear hh h1 h0
  by_cases h2 : de + fe + pr + ch = te
  · have hq : ((de + fe + pr + ch) == te) = true := by simpa using h2
    have H2 : Hid (de + fe + pr + ch = te) := h2
    clear h2
    go_wp2_with fail
    go_ret
    exact YN.yes ⟨H0.out, HH.out, H2.out⟩ HB2.out
  · have hq : ((de + fe + pr + ch) == te) = false := by simpa using h2
    have H2 : Hid (¬ de + fe + pr + ch = te) := h2
    clear h2
    go_wp2_with fail
    go_ret
    exact YN.no (fun q => H2.out q.2.2) HB2.out

end Go.Proofs.Ytfhlokjpdkmdjaa.book

/- Is the kind of an event one of those that are? In the program. -/
namespace Go.Proofs.Ytfhlokjpdkmdjaa.book
open Go.RowKit
set_option maxRecDepth 100000
set_option linter.unusedVariables false
set_option linter.unusedSimpArgs false

set_option maxHeartbeats 4000000 in
theorem bkind (kd me mo id te de fe pr ch un tg ow bp : Int) (w : World) : Calls Try.prog 44 #[.agg #[.int .i64 kd, .int .i64 me, .int .i64 mo, .int .i64 id, .int .i64 te, .int .i64 de, .int .i64 fe, .int .i64 pr, .int .i64 ch, .int .i64 un, .int .i64 tg, .int .i64 ow, .int .i64 bp]] w fun e w' => YN w (KindR ⟨kd, me, mo, id, te, de, fe, pr, ch, un, tg, ow, bp⟩) e w' := by
  obtain ⟨W0, HWW, HX0, HB0, -⟩ := sh1 w #[.int .i64 kd, .int .i64 me, .int .i64 mo, .int .i64 id, .int .i64 te, .int .i64 de, .int .i64 fe, .int .i64 pr, .int .i64 ch, .int .i64 un, .int .i64 tg, .int .i64 ow, .int .i64 bp] 27
  go_enter Try.func44, Try.ntmps44
  go_upto_region 1 with fail
  rw [HWW.out]
  clear HWW
  obtain ⟨c0, c1, c2, c3, c4, c5, c6, c7, c8, c9, c10, c11, c12⟩ := scl13 HX0
  by_cases k1 : kd = 1
  case pos =>
    have q1 : (kd == 1) = true := by simpa using k1
    have HK : Hid (kd = 1) := k1
    clear k1
    go_wp2_with fail
    go_ret
    exact YN.yes (Or.inl HK.out) HB0.out
  have q1 : (kd == 1) = false := by simpa using k1
  by_cases k2 : kd = 2
  case pos =>
    have q2 : (kd == 2) = true := by simpa using k2
    have HK : Hid (kd = 2) := k2
    clear k1 k2
    have HW0 : Hid (Calls Try.prog 43 #[.int .i64 0, .int .i64 2399, .slice (some ⟨W0.heap.size, 0, none⟩) 1 1] (W0.alloc (.cells #[.int .i64 mo] 3)) fun e w' => e = .returned (.bool (decide (0 ≤ mo ∧ mo ≤ 2399))) ∧ w' = (W0.alloc (.cells #[.int .i64 mo] 3))) := bki.within_one 0 2399 mo W0 _ rfl
    have HB1 : Hid (Below w.heap.size w (W0.alloc (.cells #[.int .i64 mo] 3))) := HB0.out.alloc HB0.out.size _
    have HX1 : Hid (Blk (W0.alloc (.cells #[.int .i64 mo] 3)) w.heap.size #[.int .i64 kd, .int .i64 me, .int .i64 mo, .int .i64 id, .int .i64 te, .int .i64 de, .int .i64 fe, .int .i64 pr, .int .i64 ch, .int .i64 un, .int .i64 tg, .int .i64 ow, .int .i64 bp] 27) := HX0.out.alloc _
    by_cases h0 : 0 ≤ mo ∧ mo ≤ 2399
    case neg =>
      rw [decide_eq_false h0] at HW0
      go_wp2_with fail
      refine HW0.out.mono ?_
      rintro e W ⟨rfl, hw⟩
      subst hw
      clear HW0
      go_wp2_with fail
      go_ret
      exact YN.no (fun q => (fun q => h0 q.1) ((kind_2 (v := ⟨kd, me, mo, id, te, de, fe, pr, ch, un, tg, ow, bp⟩) HK.out).1 q)) HB1.out
    rw [decide_eq_true h0] at HW0
    go_wp2_with fail
    refine HW0.out.mono ?_
    rintro e W ⟨rfl, hw⟩
    subst hw
    clear HW0 HB0 HX0
    clear c0 c1 c2 c3 c4 c5 c6 c7 c8 c9 c10 c11 c12
    generalize (W0.alloc (.cells #[.int .i64 mo] 3)) = W1 at *
    obtain ⟨c0, c1, c2, c3, c4, c5, c6, c7, c8, c9, c10, c11, c12⟩ := scl13 HX1
    have HC1 : Hid (∀ W, Calls Try.prog 60 #[.agg #[.int .i64 kd, .int .i64 me, .int .i64 mo, .int .i64 id, .int .i64 te, .int .i64 de, .int .i64 fe, .int .i64 pr, .int .i64 ch, .int .i64 un, .int .i64 tg, .int .i64 ow, .int .i64 bp]] W fun e w' => YN W (Numd id tg) e w') := fun W => bnum kd me mo id te de fe pr ch un tg ow bp W
    go_wp2_with fail
    refine (HC1.out _).mono ?_
    rintro e W2 ⟨B, rfl, hB, hb⟩
    have HB2 := shB HB1 hb
    have HX2 := shN HX1 hb
    clear hb HC1 HB1 HX1
    clear c0 c1 c2 c3 c4 c5 c6 c7 c8 c9 c10 c11 c12
    obtain ⟨c0, c1, c2, c3, c4, c5, c6, c7, c8, c9, c10, c11, c12⟩ := scl13 HX2
    cases B
    case false =>
      have HQ : Hid (¬ (Numd id tg)) := fun q => absurd (hB.2 q) (by decide)
      clear hB
      go_wp2_with fail
      go_ret
      exact YN.no (fun q => (fun q => HQ.out q.2.1) ((kind_2 (v := ⟨kd, me, mo, id, te, de, fe, pr, ch, un, tg, ow, bp⟩) HK.out).1 q)) HB2.out
    have H1 : Hid (Numd id tg) := hB.1 rfl
    clear hB
    have HC2 : Hid (∀ W, Calls Try.prog 61 #[.agg #[.int .i64 kd, .int .i64 me, .int .i64 mo, .int .i64 id, .int .i64 te, .int .i64 de, .int .i64 fe, .int .i64 pr, .int .i64 ch, .int .i64 un, .int .i64 tg, .int .i64 ow, .int .i64 bp]] W fun e w' => YN W (Unt un) e w') := fun W => bunt kd me mo id te de fe pr ch un tg ow bp W
    go_wp2_with fail
    refine (HC2.out _).mono ?_
    rintro e W3 ⟨B, rfl, hB, hb⟩
    have HB3 := shB HB2 hb
    have HX3 := shN HX2 hb
    clear hb HC2 HB2 HX2
    clear c0 c1 c2 c3 c4 c5 c6 c7 c8 c9 c10 c11 c12
    obtain ⟨c0, c1, c2, c3, c4, c5, c6, c7, c8, c9, c10, c11, c12⟩ := scl13 HX3
    cases B
    case false =>
      have HQ : Hid (¬ (Unt un)) := fun q => absurd (hB.2 q) (by decide)
      clear hB
      go_wp2_with fail
      go_ret
      exact YN.no (fun q => (fun q => HQ.out q.2.2.1) ((kind_2 (v := ⟨kd, me, mo, id, te, de, fe, pr, ch, un, tg, ow, bp⟩) HK.out).1 q)) HB3.out
    have H2 : Hid (Unt un) := hB.1 rfl
    clear hB
    have HC3 : Hid (∀ W, Calls Try.prog 62 #[.agg #[.int .i64 id, .int .i64 te, .int .i64 de, .int .i64 fe, .int .i64 pr, .int .i64 ch, .int .i64 un]] W fun e w' => YN W (Mony te de fe pr ch) e w') := fun W => bmony id te de fe pr ch un W
    go_wp2_with fail
    refine (HC3.out _).mono ?_
    rintro e W4 ⟨B, rfl, hB, hb⟩
    have HB4 := shB HB3 hb
    have HX4 := shN HX3 hb
    clear hb HC3 HB3 HX3
    clear c0 c1 c2 c3 c4 c5 c6 c7 c8 c9 c10 c11 c12
    obtain ⟨c0, c1, c2, c3, c4, c5, c6, c7, c8, c9, c10, c11, c12⟩ := scl13 HX4
    cases B
    case false =>
      have HQ : Hid (¬ (Mony te de fe pr ch)) := fun q => absurd (hB.2 q) (by decide)
      clear hB
      go_wp2_with fail
      go_ret
      exact YN.no (fun q => (fun q => HQ.out q.2.2.2) ((kind_2 (v := ⟨kd, me, mo, id, te, de, fe, pr, ch, un, tg, ow, bp⟩) HK.out).1 q)) HB4.out
    have H3 : Hid (Mony te de fe pr ch) := hB.1 rfl
    clear hB
    go_wp2_with fail
    go_ret
    exact YN.yes ((kind_2 (v := ⟨kd, me, mo, id, te, de, fe, pr, ch, un, tg, ow, bp⟩) HK.out).2 ⟨h0, H1.out, H2.out, H3.out⟩) HB4.out
  have q2 : (kd == 2) = false := by simpa using k2
  by_cases k3 : kd = 3
  case pos =>
    have q3 : (kd == 3) = true := by simpa using k3
    have HK : Hid (kd = 3) := k3
    clear k1 k2 k3
    have HW0 : Hid (Calls Try.prog 43 #[.int .i64 0, .int .i64 2399, .slice (some ⟨W0.heap.size, 0, none⟩) 1 1] (W0.alloc (.cells #[.int .i64 mo] 3)) fun e w' => e = .returned (.bool (decide (0 ≤ mo ∧ mo ≤ 2399))) ∧ w' = (W0.alloc (.cells #[.int .i64 mo] 3))) := bki.within_one 0 2399 mo W0 _ rfl
    have HB1 : Hid (Below w.heap.size w (W0.alloc (.cells #[.int .i64 mo] 3))) := HB0.out.alloc HB0.out.size _
    have HX1 : Hid (Blk (W0.alloc (.cells #[.int .i64 mo] 3)) w.heap.size #[.int .i64 kd, .int .i64 me, .int .i64 mo, .int .i64 id, .int .i64 te, .int .i64 de, .int .i64 fe, .int .i64 pr, .int .i64 ch, .int .i64 un, .int .i64 tg, .int .i64 ow, .int .i64 bp] 27) := HX0.out.alloc _
    by_cases h0 : 0 ≤ mo ∧ mo ≤ 2399
    case neg =>
      rw [decide_eq_false h0] at HW0
      go_wp2_with fail
      refine HW0.out.mono ?_
      rintro e W ⟨rfl, hw⟩
      subst hw
      clear HW0
      go_wp2_with fail
      go_ret
      exact YN.no (fun q => (fun q => h0 q.1) ((kind_3 (v := ⟨kd, me, mo, id, te, de, fe, pr, ch, un, tg, ow, bp⟩) HK.out).1 q)) HB1.out
    rw [decide_eq_true h0] at HW0
    go_wp2_with fail
    refine HW0.out.mono ?_
    rintro e W ⟨rfl, hw⟩
    subst hw
    clear HW0 HB0 HX0
    clear c0 c1 c2 c3 c4 c5 c6 c7 c8 c9 c10 c11 c12
    generalize (W0.alloc (.cells #[.int .i64 mo] 3)) = W1 at *
    obtain ⟨c0, c1, c2, c3, c4, c5, c6, c7, c8, c9, c10, c11, c12⟩ := scl13 HX1
    have HC1 : Hid (∀ W, Calls Try.prog 60 #[.agg #[.int .i64 kd, .int .i64 me, .int .i64 mo, .int .i64 id, .int .i64 te, .int .i64 de, .int .i64 fe, .int .i64 pr, .int .i64 ch, .int .i64 un, .int .i64 tg, .int .i64 ow, .int .i64 bp]] W fun e w' => YN W (Numd id tg) e w') := fun W => bnum kd me mo id te de fe pr ch un tg ow bp W
    go_wp2_with fail
    refine (HC1.out _).mono ?_
    rintro e W2 ⟨B, rfl, hB, hb⟩
    have HB2 := shB HB1 hb
    have HX2 := shN HX1 hb
    clear hb HC1 HB1 HX1
    clear c0 c1 c2 c3 c4 c5 c6 c7 c8 c9 c10 c11 c12
    obtain ⟨c0, c1, c2, c3, c4, c5, c6, c7, c8, c9, c10, c11, c12⟩ := scl13 HX2
    cases B
    case false =>
      have HQ : Hid (¬ (Numd id tg)) := fun q => absurd (hB.2 q) (by decide)
      clear hB
      go_wp2_with fail
      go_ret
      exact YN.no (fun q => (fun q => HQ.out q.2.1) ((kind_3 (v := ⟨kd, me, mo, id, te, de, fe, pr, ch, un, tg, ow, bp⟩) HK.out).1 q)) HB2.out
    have H1 : Hid (Numd id tg) := hB.1 rfl
    clear hB
    have HC2 : Hid (∀ W, Calls Try.prog 61 #[.agg #[.int .i64 kd, .int .i64 me, .int .i64 mo, .int .i64 id, .int .i64 te, .int .i64 de, .int .i64 fe, .int .i64 pr, .int .i64 ch, .int .i64 un, .int .i64 tg, .int .i64 ow, .int .i64 bp]] W fun e w' => YN W (Unt un) e w') := fun W => bunt kd me mo id te de fe pr ch un tg ow bp W
    go_wp2_with fail
    refine (HC2.out _).mono ?_
    rintro e W3 ⟨B, rfl, hB, hb⟩
    have HB3 := shB HB2 hb
    have HX3 := shN HX2 hb
    clear hb HC2 HB2 HX2
    clear c0 c1 c2 c3 c4 c5 c6 c7 c8 c9 c10 c11 c12
    obtain ⟨c0, c1, c2, c3, c4, c5, c6, c7, c8, c9, c10, c11, c12⟩ := scl13 HX3
    cases B
    case false =>
      have HQ : Hid (¬ (Unt un)) := fun q => absurd (hB.2 q) (by decide)
      clear hB
      go_wp2_with fail
      go_ret
      exact YN.no (fun q => (fun q => HQ.out q.2.2) ((kind_3 (v := ⟨kd, me, mo, id, te, de, fe, pr, ch, un, tg, ow, bp⟩) HK.out).1 q)) HB3.out
    have H2 : Hid (Unt un) := hB.1 rfl
    clear hB
    go_wp2_with fail
    go_ret
    exact YN.yes ((kind_3 (v := ⟨kd, me, mo, id, te, de, fe, pr, ch, un, tg, ow, bp⟩) HK.out).2 ⟨h0, H1.out, H2.out⟩) HB3.out
  have q3 : (kd == 3) = false := by simpa using k3
  by_cases k4 : kd = 4
  case pos =>
    have q4 : (kd == 4) = true := by simpa using k4
    have HK : Hid (kd = 4) := k4
    clear k1 k2 k3 k4
    have HC0 : Hid (∀ W, Calls Try.prog 60 #[.agg #[.int .i64 kd, .int .i64 me, .int .i64 mo, .int .i64 id, .int .i64 te, .int .i64 de, .int .i64 fe, .int .i64 pr, .int .i64 ch, .int .i64 un, .int .i64 tg, .int .i64 ow, .int .i64 bp]] W fun e w' => YN W (Numd id tg) e w') := fun W => bnum kd me mo id te de fe pr ch un tg ow bp W
    go_wp2_with fail
    refine (HC0.out _).mono ?_
    rintro e W1 ⟨B, rfl, hB, hb⟩
    have HB1 := shB HB0 hb
    have HX1 := shN HX0 hb
    clear hb HC0 HB0 HX0
    clear c0 c1 c2 c3 c4 c5 c6 c7 c8 c9 c10 c11 c12
    obtain ⟨c0, c1, c2, c3, c4, c5, c6, c7, c8, c9, c10, c11, c12⟩ := scl13 HX1
    cases B
    case false =>
      have HQ : Hid (¬ (Numd id tg)) := fun q => absurd (hB.2 q) (by decide)
      clear hB
      go_wp2_with fail
      go_ret
      exact YN.no (fun q => (fun q => HQ.out q) ((kind_4 (v := ⟨kd, me, mo, id, te, de, fe, pr, ch, un, tg, ow, bp⟩) HK.out).1 q)) HB1.out
    have H1 : Hid (Numd id tg) := hB.1 rfl
    clear hB
    go_wp2_with fail
    go_ret
    exact YN.yes ((kind_4 (v := ⟨kd, me, mo, id, te, de, fe, pr, ch, un, tg, ow, bp⟩) HK.out).2 H1.out) HB1.out
  have q4 : (kd == 4) = false := by simpa using k4
  by_cases k5 : kd = 5
  case pos =>
    have q5 : (kd == 5) = true := by simpa using k5
    have HK : Hid (kd = 5) := k5
    clear k1 k2 k3 k4 k5
    have HW0 : Hid (Calls Try.prog 43 #[.int .i64 1, .int .i64 1000000000, .slice (some ⟨W0.heap.size, 0, none⟩) 1 1] (W0.alloc (.cells #[.int .i64 ow] 3)) fun e w' => e = .returned (.bool (decide (1 ≤ ow ∧ ow ≤ 1000000000))) ∧ w' = (W0.alloc (.cells #[.int .i64 ow] 3))) := bki.within_one 1 1000000000 ow W0 _ rfl
    have HB1 : Hid (Below w.heap.size w (W0.alloc (.cells #[.int .i64 ow] 3))) := HB0.out.alloc HB0.out.size _
    have HX1 : Hid (Blk (W0.alloc (.cells #[.int .i64 ow] 3)) w.heap.size #[.int .i64 kd, .int .i64 me, .int .i64 mo, .int .i64 id, .int .i64 te, .int .i64 de, .int .i64 fe, .int .i64 pr, .int .i64 ch, .int .i64 un, .int .i64 tg, .int .i64 ow, .int .i64 bp] 27) := HX0.out.alloc _
    by_cases h0 : 1 ≤ ow ∧ ow ≤ 1000000000
    case neg =>
      rw [decide_eq_false h0] at HW0
      go_wp2_with fail
      refine HW0.out.mono ?_
      rintro e W ⟨rfl, hw⟩
      subst hw
      clear HW0
      go_wp2_with fail
      go_ret
      exact YN.no (fun q => (fun q => h0 q.1) ((kind_5 (v := ⟨kd, me, mo, id, te, de, fe, pr, ch, un, tg, ow, bp⟩) HK.out).1 q)) HB1.out
    rw [decide_eq_true h0] at HW0
    go_wp2_with fail
    refine HW0.out.mono ?_
    rintro e W ⟨rfl, hw⟩
    subst hw
    clear HW0 HB0 HX0
    clear c0 c1 c2 c3 c4 c5 c6 c7 c8 c9 c10 c11 c12
    generalize (W0.alloc (.cells #[.int .i64 ow] 3)) = W1 at *
    obtain ⟨c0, c1, c2, c3, c4, c5, c6, c7, c8, c9, c10, c11, c12⟩ := scl13 HX1
    have HW1 : Hid (Calls Try.prog 43 #[.int .i64 0, .int .i64 10000, .slice (some ⟨W1.heap.size, 0, none⟩) 1 1] (W1.alloc (.cells #[.int .i64 bp] 3)) fun e w' => e = .returned (.bool (decide (0 ≤ bp ∧ bp ≤ 10000))) ∧ w' = (W1.alloc (.cells #[.int .i64 bp] 3))) := bki.within_one 0 10000 bp W1 _ rfl
    have HB2 : Hid (Below w.heap.size w (W1.alloc (.cells #[.int .i64 bp] 3))) := HB1.out.alloc HB1.out.size _
    have HX2 : Hid (Blk (W1.alloc (.cells #[.int .i64 bp] 3)) w.heap.size #[.int .i64 kd, .int .i64 me, .int .i64 mo, .int .i64 id, .int .i64 te, .int .i64 de, .int .i64 fe, .int .i64 pr, .int .i64 ch, .int .i64 un, .int .i64 tg, .int .i64 ow, .int .i64 bp] 27) := HX1.out.alloc _
    by_cases h1 : 0 ≤ bp ∧ bp ≤ 10000
    case neg =>
      rw [decide_eq_false h1] at HW1
      go_wp2_with fail
      refine HW1.out.mono ?_
      rintro e W ⟨rfl, hw⟩
      subst hw
      clear HW1
      go_wp2_with fail
      go_ret
      exact YN.no (fun q => (fun q => h1 q.2) ((kind_5 (v := ⟨kd, me, mo, id, te, de, fe, pr, ch, un, tg, ow, bp⟩) HK.out).1 q)) HB2.out
    rw [decide_eq_true h1] at HW1
    go_wp2_with fail
    refine HW1.out.mono ?_
    rintro e W ⟨rfl, hw⟩
    subst hw
    clear HW1 HB1 HX1
    clear c0 c1 c2 c3 c4 c5 c6 c7 c8 c9 c10 c11 c12
    generalize (W1.alloc (.cells #[.int .i64 bp] 3)) = W2 at *
    obtain ⟨c0, c1, c2, c3, c4, c5, c6, c7, c8, c9, c10, c11, c12⟩ := scl13 HX2
    go_wp2_with fail
    go_ret
    exact YN.yes ((kind_5 (v := ⟨kd, me, mo, id, te, de, fe, pr, ch, un, tg, ow, bp⟩) HK.out).2 ⟨h0, h1⟩) HB2.out
  have q5 : (kd == 5) = false := by simpa using k5
  have HK : Hid (¬ KindR ⟨kd, me, mo, id, te, de, fe, pr, ch, un, tg, ow, bp⟩) := fun q => by
    rcases q with q | q | q | q | q
    · exact k1 q
    · exact k2 q.1
    · exact k3 q.1
    · exact k4 q.1
    · exact k5 q.1
  clear k1 k2 k3 k4 k5
  go_wp2_with fail
  go_ret
  exact YN.no HK.out HB0.out

end Go.Proofs.Ytfhlokjpdkmdjaa.book

/- What is left of an event, in the program. -/
namespace Go.Proofs.Ytfhlokjpdkmdjaa.book
open Go.RowKit
set_option maxRecDepth 100000
set_option linter.unusedVariables false
set_option linter.unusedSimpArgs false

set_option maxHeartbeats 4000000 in
theorem bleft2 (kd me mo id te de fe pr ch un tg ow bp : Int) (w : World) (q2 : (kd == 2) = true) : Calls Try.prog 45 #[.agg #[.int .i64 kd, .int .i64 me, .int .i64 mo, .int .i64 id, .int .i64 te, .int .i64 de, .int .i64 fe, .int .i64 pr, .int .i64 ch, .int .i64 un, .int .i64 tg, .int .i64 ow, .int .i64 bp]] w fun e w' => e = .returned (.agg #[.int .i64 0, .int .i64 0, .int .i64 0, .int .i64 0, .int .i64 0, .int .i64 0, .int .i64 0, .int .i64 0, .int .i64 0, .int .i64 0, .int .i64 0, .int .i64 ow, .int .i64 bp]) ∧ Below w.heap.size w w' := by
  go_enter Try.func45, Try.ntmps45
  go_wp2
  exact bodyPost_ret (v := .agg #[.int .i64 0, .int .i64 0, .int .i64 0, .int .i64 0, .int .i64 0, .int .i64 0, .int .i64 0, .int .i64 0, .int .i64 0, .int .i64 0, .int .i64 0, .int .i64 ow, .int .i64 bp]) (by simp [results, Try.results45, go_sem]) rfl ⟨rfl, bki.bel2 _ _ _⟩
set_option maxHeartbeats 4000000 in
theorem bleft3 (kd me mo id te de fe pr ch un tg ow bp : Int) (w : World) (q2 : (kd == 2) = false) (q3 : (kd == 3) = true) : Calls Try.prog 45 #[.agg #[.int .i64 kd, .int .i64 me, .int .i64 mo, .int .i64 id, .int .i64 te, .int .i64 de, .int .i64 fe, .int .i64 pr, .int .i64 ch, .int .i64 un, .int .i64 tg, .int .i64 ow, .int .i64 bp]] w fun e w' => e = .returned (.agg #[.int .i64 0, .int .i64 0, .int .i64 0, .int .i64 0, .int .i64 te, .int .i64 de, .int .i64 fe, .int .i64 pr, .int .i64 ch, .int .i64 0, .int .i64 0, .int .i64 ow, .int .i64 bp]) ∧ Below w.heap.size w w' := by
  go_enter Try.func45, Try.ntmps45
  go_wp2
  exact bodyPost_ret (v := .agg #[.int .i64 0, .int .i64 0, .int .i64 0, .int .i64 0, .int .i64 te, .int .i64 de, .int .i64 fe, .int .i64 pr, .int .i64 ch, .int .i64 0, .int .i64 0, .int .i64 ow, .int .i64 bp]) (by simp [results, Try.results45, go_sem]) rfl ⟨rfl, bki.bel2 _ _ _⟩
set_option maxHeartbeats 4000000 in
theorem bleft4 (kd me mo id te de fe pr ch un tg ow bp : Int) (w : World) (q2 : (kd == 2) = false) (q3 : (kd == 3) = false) (q4 : (kd == 4) = true) : Calls Try.prog 45 #[.agg #[.int .i64 kd, .int .i64 me, .int .i64 mo, .int .i64 id, .int .i64 te, .int .i64 de, .int .i64 fe, .int .i64 pr, .int .i64 ch, .int .i64 un, .int .i64 tg, .int .i64 ow, .int .i64 bp]] w fun e w' => e = .returned (.agg #[.int .i64 0, .int .i64 0, .int .i64 mo, .int .i64 0, .int .i64 te, .int .i64 de, .int .i64 fe, .int .i64 pr, .int .i64 ch, .int .i64 un, .int .i64 0, .int .i64 ow, .int .i64 bp]) ∧ Below w.heap.size w w' := by
  go_enter Try.func45, Try.ntmps45
  go_wp2
  exact bodyPost_ret (v := .agg #[.int .i64 0, .int .i64 0, .int .i64 mo, .int .i64 0, .int .i64 te, .int .i64 de, .int .i64 fe, .int .i64 pr, .int .i64 ch, .int .i64 un, .int .i64 0, .int .i64 ow, .int .i64 bp]) (by simp [results, Try.results45, go_sem]) rfl ⟨rfl, bki.bel2 _ _ _⟩
set_option maxHeartbeats 4000000 in
theorem bleft5 (kd me mo id te de fe pr ch un tg ow bp : Int) (w : World) (q2 : (kd == 2) = false) (q3 : (kd == 3) = false) (q4 : (kd == 4) = false) (q5 : (kd == 5) = true) : Calls Try.prog 45 #[.agg #[.int .i64 kd, .int .i64 me, .int .i64 mo, .int .i64 id, .int .i64 te, .int .i64 de, .int .i64 fe, .int .i64 pr, .int .i64 ch, .int .i64 un, .int .i64 tg, .int .i64 ow, .int .i64 bp]] w fun e w' => e = .returned (.agg #[.int .i64 0, .int .i64 0, .int .i64 mo, .int .i64 id, .int .i64 te, .int .i64 de, .int .i64 fe, .int .i64 pr, .int .i64 ch, .int .i64 un, .int .i64 tg, .int .i64 0, .int .i64 0]) ∧ Below w.heap.size w w' := by
  go_enter Try.func45, Try.ntmps45
  go_wp2
  exact bodyPost_ret (v := .agg #[.int .i64 0, .int .i64 0, .int .i64 mo, .int .i64 id, .int .i64 te, .int .i64 de, .int .i64 fe, .int .i64 pr, .int .i64 ch, .int .i64 un, .int .i64 tg, .int .i64 0, .int .i64 0]) (by simp [results, Try.results45, go_sem]) rfl ⟨rfl, bki.bel2 _ _ _⟩
set_option maxHeartbeats 4000000 in
theorem bleft0 (kd me mo id te de fe pr ch un tg ow bp : Int) (w : World) (q2 : (kd == 2) = false) (q3 : (kd == 3) = false) (q4 : (kd == 4) = false) (q5 : (kd == 5) = false) : Calls Try.prog 45 #[.agg #[.int .i64 kd, .int .i64 me, .int .i64 mo, .int .i64 id, .int .i64 te, .int .i64 de, .int .i64 fe, .int .i64 pr, .int .i64 ch, .int .i64 un, .int .i64 tg, .int .i64 ow, .int .i64 bp]] w fun e w' => e = .returned (.agg #[.int .i64 0, .int .i64 0, .int .i64 mo, .int .i64 id, .int .i64 te, .int .i64 de, .int .i64 fe, .int .i64 pr, .int .i64 ch, .int .i64 un, .int .i64 tg, .int .i64 ow, .int .i64 bp]) ∧ Below w.heap.size w w' := by
  go_enter Try.func45, Try.ntmps45
  go_wp2
  exact bodyPost_ret (v := .agg #[.int .i64 0, .int .i64 0, .int .i64 mo, .int .i64 id, .int .i64 te, .int .i64 de, .int .i64 fe, .int .i64 pr, .int .i64 ch, .int .i64 un, .int .i64 tg, .int .i64 ow, .int .i64 bp]) (by simp [results, Try.results45, go_sem]) rfl ⟨rfl, bki.bel2 _ _ _⟩
theorem bleft (v : Ev) (w : World) : Calls Try.prog 45 #[v.v] w fun e w' => e = .returned (leftE v).v ∧ Below w.heap.size w w' := by
  obtain ⟨kd, me, mo, id, te, de, fe, pr, ch, un, tg, ow, bp⟩ := v
  unfold leftE Ev.v
  simp only
  by_cases k2 : kd = 2
  · rw [if_pos k2]
    exact bleft2 kd me mo id te de fe pr ch un tg ow bp w (by simpa using k2)
  rw [if_neg k2]
  by_cases k3 : kd = 3
  · rw [if_pos k3]
    exact bleft3 kd me mo id te de fe pr ch un tg ow bp w (by simpa using k2) (by simpa using k3)
  rw [if_neg k3]
  by_cases k4 : kd = 4
  · rw [if_pos k4]
    exact bleft4 kd me mo id te de fe pr ch un tg ow bp w (by simpa using k2) (by simpa using k3) (by simpa using k4)
  rw [if_neg k4]
  by_cases k5 : kd = 5
  · rw [if_pos k5]
    exact bleft5 kd me mo id te de fe pr ch un tg ow bp w (by simpa using k2) (by simpa using k3) (by simpa using k4) (by simpa using k5)
  rw [if_neg k5]
  exact bleft0 kd me mo id te de fe pr ch un tg ow bp w (by simpa using k2) (by simpa using k3) (by simpa using k4) (by simpa using k5)

end Go.Proofs.Ytfhlokjpdkmdjaa.book

/- An event that may be, or it is given up. -/
namespace Go.Proofs.Ytfhlokjpdkmdjaa.book
open Go.RowKit
set_option maxRecDepth 100000
set_option linter.unusedVariables false
set_option linter.unusedSimpArgs false

def MustPost (w : World) (v : Ev) (e : Ending) (w' : World) : Prop := ((EMay v ∧ e = .returned (.tuple #[])) ∨ (¬ EMay v ∧ e = .panicked (thrown 5))) ∧ Below w.heap.size w w'
theorem eqEv_any (a b : Ev) (w : World) : ∃ B, (Op.equalIn 10000 27 (.agg a.cs) (.agg b.cs)).run Try.prog w = .ok B w ∧ (B = true ↔ a = b) := by
  obtain ⟨a0, a1, a2, a3, a4, a5, a6, a7, a8, a9, a10, a11, a12⟩ := a
  obtain ⟨b0, b1, b2, b3, b4, b5, b6, b7, b8, b9, b10, b11, b12⟩ := b
  refine ⟨_, eqEv 9997 a0 a1 a2 a3 a4 a5 a6 a7 a8 a9 a10 a11 a12 b0 b1 b2 b3 b4 b5 b6 b7 b8 b9 b10 b11 b12 w, ?_⟩
  rw [decide_eq_true_iff]
  constructor
  · rintro ⟨rfl, rfl, rfl, rfl, rfl, rfl, rfl, rfl, rfl, rfl, rfl, rfl, rfl⟩; rfl
  · intro h; cases h; exact ⟨rfl, rfl, rfl, rfl, rfl, rfl, rfl, rfl, rfl, rfl, rfl, rfl, rfl⟩
set_option maxHeartbeats 4000000 in
theorem bmust (v : Ev) (w : World) : Calls Try.prog 27 #[.agg #[.int .i64 v.kd, .int .i64 v.me, .int .i64 v.mo, .int .i64 v.id, .int .i64 v.te, .int .i64 v.de, .int .i64 v.fe, .int .i64 v.pr, .int .i64 v.ch, .int .i64 v.un, .int .i64 v.tg, .int .i64 v.ow, .int .i64 v.bp]] w fun e w' => MustPost w v e w' := by
  have HMI : Hid (EMay v ↔ (0 ≤ v.me ∧ v.me ≤ 49) ∧ KindR v ∧ leftE v = ev0) := may_iff v
  obtain ⟨W0, HWW, HX0, HB0, -⟩ := sh1 w #[.int .i64 v.kd, .int .i64 v.me, .int .i64 v.mo, .int .i64 v.id, .int .i64 v.te, .int .i64 v.de, .int .i64 v.fe, .int .i64 v.pr, .int .i64 v.ch, .int .i64 v.un, .int .i64 v.tg, .int .i64 v.ow, .int .i64 v.bp] 27
  have HNO : Hid (∀ W, Calls Try.prog 46 #[.int .i64 5] W fun e w' => e = .panicked (thrown 5) ∧ w' = W) := fun W => insist_no 5 (by decide) W
  have HKR : Hid (∀ W, Calls Try.prog 44 #[.agg #[.int .i64 v.kd, .int .i64 v.me, .int .i64 v.mo, .int .i64 v.id, .int .i64 v.te, .int .i64 v.de, .int .i64 v.fe, .int .i64 v.pr, .int .i64 v.ch, .int .i64 v.un, .int .i64 v.tg, .int .i64 v.ow, .int .i64 v.bp]] W fun e w' => YN W (KindR v) e w') := fun W => bkind v.kd v.me v.mo v.id v.te v.de v.fe v.pr v.ch v.un v.tg v.ow v.bp W
  have HLE : Hid (∀ W, Calls Try.prog 45 #[.agg #[.int .i64 v.kd, .int .i64 v.me, .int .i64 v.mo, .int .i64 v.id, .int .i64 v.te, .int .i64 v.de, .int .i64 v.fe, .int .i64 v.pr, .int .i64 v.ch, .int .i64 v.un, .int .i64 v.tg, .int .i64 v.ow, .int .i64 v.bp]] W fun e w' => e = .returned (leftE v).v ∧ Below W.heap.size W w') := fun W => bleft v W
  go_enter Try.func27, Try.ntmps27
  go_upto_region 1 with fail
  rw [HWW.out]
  clear HWW
  obtain ⟨c0, c1, c2, c3, c4, c5, c6, c7, c8, c9, c10, c11, c12⟩ := scl13 HX0
  have HW : Hid (Calls Try.prog 43 #[.int .i64 0, .int .i64 49, .slice (some ⟨W0.heap.size, 0, none⟩) 1 1] (W0.alloc (.cells #[.int .i64 v.me] 3)) fun e w' => e = .returned (.bool (decide (0 ≤ v.me ∧ v.me ≤ 49))) ∧ w' = (W0.alloc (.cells #[.int .i64 v.me] 3))) := bki.within_one 0 49 v.me W0 _ rfl
  have HB1 : Hid (Below w.heap.size w (W0.alloc (.cells #[.int .i64 v.me] 3))) := HB0.out.alloc HB0.out.size _
  have HX1 : Hid (Blk (W0.alloc (.cells #[.int .i64 v.me] 3)) w.heap.size #[.int .i64 v.kd, .int .i64 v.me, .int .i64 v.mo, .int .i64 v.id, .int .i64 v.te, .int .i64 v.de, .int .i64 v.fe, .int .i64 v.pr, .int .i64 v.ch, .int .i64 v.un, .int .i64 v.tg, .int .i64 v.ow, .int .i64 v.bp] 27) := HX0.out.alloc _
  by_cases h0 : 0 ≤ v.me ∧ v.me ≤ 49
  case neg =>
    rw [decide_eq_false h0] at HW
    have HN : Hid (¬ EMay v) := fun q => h0 (HMI.out.1 q).1
    clear h0
    go_wp2_with fail
    refine HW.out.mono ?_
    rintro e W ⟨rfl, hw⟩
    subst hw
    clear HW
    clear HX0 HB0 c0 c1 c2 c3 c4 c5 c6 c7 c8 c9 c10 c11 c12
    generalize (W0.alloc (.cells #[.int .i64 v.me] 3)) = W1 at *
    obtain ⟨c0, c1, c2, c3, c4, c5, c6, c7, c8, c9, c10, c11, c12⟩ := scl13 HX1
    go_wp2_with fail
    refine (HNO.out _).mono ?_
    rintro e W9 ⟨rfl, rfl⟩
    exact ⟨rfl, .inr ⟨HN.out, rfl⟩, HB1.out⟩
  rw [decide_eq_true h0] at HW
  have H0 : Hid (0 ≤ v.me ∧ v.me ≤ 49) := h0
  clear h0
  go_wp2_with fail
  refine HW.out.mono ?_
  rintro e W ⟨rfl, hw⟩
  subst hw
  clear HW HX0 HB0
  clear c0 c1 c2 c3 c4 c5 c6 c7 c8 c9 c10 c11 c12
  generalize (W0.alloc (.cells #[.int .i64 v.me] 3)) = W1 at *
  obtain ⟨c0, c1, c2, c3, c4, c5, c6, c7, c8, c9, c10, c11, c12⟩ := scl13 HX1
  go_wp2_with fail
  refine (HKR.out _).mono ?_
  rintro e W2 ⟨B, rfl, hB, hb⟩
  have HB2 := shB HB1 hb
  have HX2 := shN HX1 hb
  clear hb HKR HB1 HX1
  clear c0 c1 c2 c3 c4 c5 c6 c7 c8 c9 c10 c11 c12
  obtain ⟨c0, c1, c2, c3, c4, c5, c6, c7, c8, c9, c10, c11, c12⟩ := scl13 HX2
  cases B
  case false =>
    have HN : Hid (¬ EMay v) := fun q => absurd (hB.2 (HMI.out.1 q).2.1) (by decide)
    clear hB
    go_wp2_with fail
    refine (HNO.out _).mono ?_
    rintro e W9 ⟨rfl, rfl⟩
    exact ⟨rfl, .inr ⟨HN.out, rfl⟩, HB2.out⟩
  have HK : Hid (KindR v) := hB.1 rfl
  clear hB
  go_wp2_with fail
  refine (HLE.out _).mono ?_
  rintro e W3 ⟨rfl, hb⟩
  have HB3 := shB HB2 hb
  clear hb HLE HB2 HX2
  clear c0 c1 c2 c3 c4 c5 c6 c7 c8 c9 c10 c11 c12
  obtain ⟨B, hB, hBi⟩ := eqEv_any (leftE v) ev0 W3
  have HEQ : Hid ((Op.equalIn 10000 27 (.agg (leftE v).cs) (.agg ev0.cs)).run Try.prog W3 = .ok B W3) := hB
  have HBI : Hid (B = true ↔ leftE v = ev0) := hBi
  clear hB hBi
  unfold Ev.v
  cases B
  case false =>
    have HN : Hid (¬ EMay v) := fun q => absurd (HBI.out.2 (HMI.out.1 q).2.2) (by decide)
    go_wp2_with (first | (refine wp_neE (by rfl) 27 _ _ _ rfl (leftE v).cs ev0.cs rfl rfl (by kernel_rfl) false HEQ.out _ rfl ?_) | fail)
    go_wp2_with fail
    refine (HNO.out _).mono ?_
    rintro e W9 ⟨rfl, rfl⟩
    exact ⟨rfl, .inr ⟨HN.out, rfl⟩, HB3.out⟩
  case true =>
    have HY : Hid (EMay v) := HMI.out.2 ⟨H0.out, HK.out, HBI.out.1 rfl⟩
    go_wp2_with (first | (refine wp_neE (by rfl) 27 _ _ _ rfl (leftE v).cs ev0.cs rfl rfl (by kernel_rfl) true HEQ.out _ rfl ?_) | fail)
    go_end0
    exact ⟨.inl ⟨HY.out, rfl⟩, HB3.out⟩

end Go.Proofs.Ytfhlokjpdkmdjaa.book

/- What an event does, in the program. -/
namespace Go.Proofs.Ytfhlokjpdkmdjaa.book
open Go.RowKit
open Go.Proofs.Ytfhlokjpdkmdjaa.acc (Ac Tm Bi APost BPost TFault TRight OpenIs OweIs SellIs GrantIs RekeyIs wf6 ACame TCame fresh_updN fresh_drew came_lt)
set_option maxRecDepth 100000
set_option linter.unusedVariables false
set_option linter.unusedSimpArgs false

theorem ev_me {v : Ev} (h : EMay v) : 0 ≤ v.me ∧ v.me ≤ 49 := by unfold EMay at h; omega
theorem ev_kd {v : Ev} (h : EMay v) (h1 : v.kd ≠ 1) (h5 : v.kd ≠ 5) : v.kd = 2 ∨ v.kd = 3 ∨ v.kd = 4 := by unfold EMay at h; omega
theorem ev_ow {v : Ev} (h : EMay v) : (Lit.int .i64 v.ow).wf = true ∧ (Lit.int .i64 v.bp).wf = true := by
  have : (0 ≤ v.ow ∧ v.ow ≤ 1000000000) ∧ 0 ≤ v.bp ∧ v.bp ≤ 10000 := by unfold EMay at h; omega
  exact ⟨wf_i (by omega) (by omega), wf_i (by omega) (by omega)⟩
/-- A charge: the account alone is stored anew. -/
theorem charge_wr {w0 : World} {base gW B : Nat} {t : Tm} {pt : Option Addr} {lt ct g n cap : Nat} {xs : List Cu} {bk : List Cm} {k : Nat} {v : Ev} {y b : Ac} {sol : List So} {dp pb : Option Addr} {dn dc lb cb : Nat} {sp : Option Addr} {sn sc : Nat} {cur : Array Value} {w w1 WF : World}
    (h : Wr w0 base gW B t pt lt ct (.slice (some ⟨g, 0, none⟩) n cap) xs bk w) (hk : k < xs.length) (hx : xs.getD k cu0 = ⟨y.me, y.rv, y.nx, y.mo, y.bo, y.fr, dp, dn, dc, sp, sn, sc⟩) (hc : bk.getD k cm0 = ⟨y, sol⟩) (hcb : Blk w g cur 58) (hcs : k * 8 + 8 ≤ cur.size) (hc7 : cur[k * 8 + 7]? = some (.slice sp sn sc))
    (hm : EMay v) (hh : HapIs t ⟨y, sol⟩ v ⟨b, sol⟩ 0) (hb : Below w.heap.size w w1) (hf : deb.Fresh w1 w.heap.size pb lb cb b.ds) (hU : Upd w1 WF g (putAll cur (k * 8) [.int .i64 b.me, .int .i64 b.rv, .int .i64 b.nx, .int .i64 b.mo, .int .i64 b.bo, .int .i64 b.fr, .slice pb lb cb]) 58) :
    WPost w0 base gW B t pt lt ct (HapR t bk k v) w (.returned (.tuple #[])) WF := by
  have hx0 := h.hold.has k hk
  have hoff := h.hold.off k hk
  rw [hc] at hx0
  rw [hx] at hx0 hoff
  have HOI : ∀ i, (Value.slice sp sn sc).ownBlock = some i → i < w.heap.size ∧ base ≤ i ∧ i ≠ g := fun i hi => ⟨(World.ownsRow.lt hx0.so i hi).2, (World.ownsRow.lt hx0.so i hi).1, fun e => hoff.1 i hi (by rw [e]; rfl)⟩
  have hgb : base ≤ g := (World.ownsRow.lt h.hold.row g rfl).1
  have hgl := hcb.lt
  have hsz0 := h.sz
  have hbb := hU.bel 0 w1 (Nat.zero_le _) (Below.refl _ _)
  have hO : ∀ i, i < w.heap.size → i ≠ g → WF.heap[i]? = w.heap[i]? := fun i h1 h2 => by rw [hU.oth i h2]; exact hb.block i h1
  have hos : WF.os = w.os ∧ WF.tape = w.tape ∧ WF.output = w.output := ⟨hbb.os.trans hb.os, hbb.tape.trans hb.tape, hbb.output.trans hb.output⟩
  have hsz : w.heap.size ≤ WF.heap.size := by rw [hU.size]; exact hb.size
  have hw := hap_wf hh hm
  refine ⟨⟨hos.1, hos.2.1, hos.2.2, hsz, fun i h1 _ _ => hO i (by omega) (by omega)⟩, .inl ⟨.slice (some ⟨g, 0, none⟩) n cap, xs.set k ⟨b.me, b.rv, b.nx, b.mo, b.bo, b.fr, pb, lb, cb, sp, sn, sc⟩, bk.set k ⟨b, sol⟩, rfl, ⟨⟨b, sol⟩, by rw [hc]; exact hh, fun _ => rfl⟩, fun hsm => ?_⟩⟩
  refine put_wr h hk hx hcb (fun i h1 h2 _ => hO i h1 h2) hsz hos (x' := ⟨b.me, b.rv, b.nx, b.mo, b.bo, b.fr, pb, lb, cb, sp, sn, sc⟩) ⟨⟨rfl, rfl, rfl, rfl, rfl, rfl⟩, ⟨acc_upd hf.came hU (fun hn p hp q => by have := hf.new hn p hp; omega), fun hn p hp => by have := hf.new hn p hp; omega⟩, ?_⟩ hw.1 (by rw [hc]; exact hw.2) (fun i hi => .inl hi) (fun hn p hp => hf.new hn p hp) (fun i hi hn p hp q => by have h1 := (HOI i hi).1; have h2 := hf.new hn p hp; omega) ?_ hsm
  · exact lo_upd (hx0.so.next hb) hU (fun i hi => (HOI i hi).2.2)
  · have e1 : putAll cur (k * 8) ([.int .i64 b.me, .int .i64 b.rv, .int .i64 b.nx, .int .i64 b.mo, .int .i64 b.bo, .int .i64 b.fr, .slice pb lb cb] ++ [.slice sp sn sc]) = putAll cur (k * 8) [.int .i64 b.me, .int .i64 b.rv, .int .i64 b.nx, .int .i64 b.mo, .int .i64 b.bo, .int .i64 b.fr, .slice pb lb cb] := by
      rw [← putAll_more]
      apply Array.ext_getElem?
      intro j
      by_cases hj : j = k * 8 + 7
      · subst hj
        rw [show k * 8 + ([.int .i64 b.me, .int .i64 b.rv, .int .i64 b.nx, .int .i64 b.mo, .int .i64 b.bo, .int .i64 b.fr, .slice pb lb cb] : List Value).length = k * 8 + 7 from rfl, Array.getElem?_setIfInBounds_self_of_lt (by rw [putAll_size]; omega), putAll_get _ _ _ _ (by simp; omega), if_neg (by simp only [List.length_cons, List.length_nil]; omega), hc7]
      · rw [Array.getElem?_setIfInBounds_ne (by simp only [List.length_cons, List.length_nil]; omega)]
    have e2 : (⟨b.me, b.rv, b.nx, b.mo, b.bo, b.fr, pb, lb, cb, sp, sn, sc⟩ : Cu).cs = [.int .i64 b.me, .int .i64 b.rv, .int .i64 b.nx, .int .i64 b.mo, .int .i64 b.bo, .int .i64 b.fr, .slice pb lb cb] ++ [.slice sp sn sc] := rfl
    rw [e2, e1]; exact hU.blk
set_option maxHeartbeats 16000000 in
theorem bhappen (w0 : World) (base gW B : Nat) (t : Tm) (pt : Option Addr) (lt ct : Nat) (a : Option Addr) (n cap : Nat) (xs : List Cu) (bk : List Cm) (v : Ev) (w : World) (h : Wr w0 base gW B t pt lt ct (.slice a n cap) xs bk w) (ht : TCame w0 t pt lt ct) : Calls Try.prog 34 #[.pointer (some ⟨gW, 0, none⟩), .agg #[.int .i64 v.kd, .int .i64 v.me, .int .i64 v.mo, .int .i64 v.id, .int .i64 v.te, .int .i64 v.de, .int .i64 v.fe, .int .i64 v.pr, .int .i64 v.ch, .int .i64 v.un, .int .i64 v.tg, .int .i64 v.ow, .int .i64 v.bp]] w fun e w' => WPost w0 base gW B t pt lt ct (StepIs t bk v) w e w' := by
  have HMU : Hid (∀ W, Calls Try.prog 27 #[.agg #[.int .i64 v.kd, .int .i64 v.me, .int .i64 v.mo, .int .i64 v.id, .int .i64 v.te, .int .i64 v.de, .int .i64 v.fe, .int .i64 v.pr, .int .i64 v.ch, .int .i64 v.un, .int .i64 v.tg, .int .i64 v.ow, .int .i64 v.bp]] W fun e w' => MustPost W v e w') := fun W => bmust v W
  have HR : Hid (Wr w0 base gW B t pt lt ct (.slice a n cap) xs bk w) := h
  have HT : Hid (TCame w0 t pt lt ct) := ht
  have HSZ : Hid (base ≤ w.heap.size) := h.sz
  clear h ht
  obtain ⟨W0, HWW, H0v, H0B, -⟩ := sh1 w #[.int .i64 v.kd, .int .i64 v.me, .int .i64 v.mo, .int .i64 v.id, .int .i64 v.te, .int .i64 v.de, .int .i64 v.fe, .int .i64 v.pr, .int .i64 v.ch, .int .i64 v.un, .int .i64 v.tg, .int .i64 v.ow, .int .i64 v.bp] 27
  go_enter Try.func34, Try.ntmps34
  go_upto_region 1 with fail
  rw [HWW.out]
  clear HWW
  go_wp2_with (first
    | (refine wp_whole rfl 27 _ rfl _ rfl 27 _ _ H0v.out Try.underlying27 rfl (by kernel_rfl) ?_)
    | fail)
  refine (HMU.out _).mono ?_
  rintro e W1 ⟨hm, hb⟩
  have H1v := shN H0v hb
  have H1B := shB H0B hb
  clear H0v H0B
  clear hb HMU
  rcases hm with ⟨hm, rfl⟩ | ⟨hm, rfl⟩
  case inr =>
    exact ⟨rfl, .of H1B.out HSZ.out, .inr ⟨5, [], by decide, rfl, .inl ⟨hm, rfl⟩⟩⟩
  have HMA : Hid (EMay v) := hm
  have HGN : Hid (∀ cur, ¬ Blk W1 w.heap.size cur 58) := fun cur q => by have h1 : W1.heap[w.heap.size]? = _ := H1v.out; have h2 : W1.heap[w.heap.size]? = _ := q; rw [h1] at h2; simp at h2
  clear hm
  have HR1 : Hid (Wr w0 base gW B t pt lt ct (.slice a n cap) xs bk W1) := HR.out.next H1B.out
  have HK1 : Hid (Kp base gW B w W1) := .of H1B.out HSZ.out
  clear HR
  have hgv : w.heap.size < W1.heap.size := H1v.out.lt
  have c0 : W1.cell? ⟨w.heap.size, 0, none⟩ = some (.int .i64 v.kd) := H1v.out.cell 0
  have c1 : W1.cell? ⟨w.heap.size, 1, none⟩ = some (.int .i64 v.me) := H1v.out.cell 1
  by_cases k1 : v.kd = 1
  case pos =>
    have q1 : (v.kd == 1) = true := by simpa using k1
    have HK : Hid (v.kd = 1) := k1
    clear k1
    have HRG : Hid (Calls Try.prog 50 #[.pointer (some ⟨gW, 0, none⟩), .int .i64 v.me] W1 fun e w' => WPost w0 base gW B t pt lt ct (RegR bk v.me) W1 e w') := breg w0 base gW B t pt lt ct a n cap xs bk v.me W1 HR1.out (ev_me HMA.out)
    go_wp2_with fail
    refine HRG.out.mono ?_
    intro e w9 hp
    have hq := hp.back (R' := StepIs t bk v) HK1.out (fun b f hr => by rcases hr with ⟨h1, rfl⟩ | ⟨h1, rfl, rfl⟩; exact .inr (.inl ⟨HMA.out, HK.out, h1, rfl⟩); exact .inr (.inr (.inl ⟨HMA.out, HK.out, h1, rfl, rfl⟩)))
    have HQ : Hid (WPost w0 base gW B t pt lt ct (StepIs t bk v) w e w9) := hq
    clear hp hq
    rcases HQ.out.2 with ⟨V3, xs3, bk3, rfl, _⟩ | ⟨f, bk3, _, rfl, _⟩
    · go_wp2_with fail
      go_end0
      exact HQ.out
    · exact ⟨rfl, HQ.out⟩
  have q1 : (v.kd == 1) = false := by simpa using k1
  have HN1 : Hid (v.kd ≠ 1) := k1
  clear k1
  have HCU : Hid (Calls Try.prog 51 #[.pointer (some ⟨gW, 0, none⟩), .int .i64 v.me] W1 fun e w' => CuPost W1 a bk v.me e w') := by
    have hl : xs.length = n := by obtain ⟨_, _, hv, _⟩ := HR1.out.hold.row.row; injection hv with _ e1 _; exact e1.symm
    refine bcust gW B t pt lt ct a n cap bk v.me W1 HR1.out.blk HR1.out.mp (by rw [← HR1.out.hold.len, hl]) (fun hn => ?_) (by have := HR1.out.few.1; have := HR1.out.hold.len; omega)
    obtain ⟨g, cur, e1, _⟩ := at_cust HR1.out.hold.row (k := 0) (by omega)
    exact ⟨g, e1⟩
  go_wp2_with fail
  refine HCU.out.mono ?_
  rintro e w9 ⟨hw9, hcu⟩
  obtain rfl : W1 = w9 := hw9.symm
  clear HCU
  rcases hcu with ⟨k, g, hfa, rfl, rfl⟩ | ⟨hno, rfl⟩
  case inr =>
    exact ⟨rfl, HK1.out, .inr ⟨18, [], by decide, rfl, .inr (.inr (.inr (.inl ⟨HMA.out, HN1.out, hno, rfl⟩)))⟩⟩
  have HFA : Hid (FirstAt bk v.me k) := hfa
  have HKL : Hid (k < xs.length) := by show _ < _; rw [HR1.out.hold.len]; exact hfa.1
  clear hfa
  by_cases k5 : v.kd = 5
  case neg =>
    have q5 : (v.kd == 5) = false := by simpa using k5
    have HN5 : Hid (v.kd ≠ 5) := k5
    clear k5
    have HSE : Hid (Calls Try.prog 53 #[.pointer (some ⟨gW, 0, none⟩), .pointer (some ⟨g, k * 8, none⟩), .agg #[.int .i64 v.kd, .int .i64 v.me, .int .i64 v.mo, .int .i64 v.id, .int .i64 v.te, .int .i64 v.de, .int .i64 v.fe, .int .i64 v.pr, .int .i64 v.ch, .int .i64 v.un, .int .i64 v.tg, .int .i64 v.ow, .int .i64 v.bp]] W1 fun e w' => WPost w0 base gW B t pt lt ct (HapR t bk k v) W1 e w') := bsell w0 base gW B t pt lt ct g n cap xs bk k v W1 HR1.out HKL.out HT.out HMA.out (ev_kd HMA.out HN1.out HN5.out)
    generalize k * 8 = O at *
    go_wp2_with (first
      | (refine wp_whole rfl 27 _ rfl _ rfl 27 _ _ H1v.out Try.underlying27 rfl (by kernel_rfl) ?_)
      | fail)
    refine HSE.out.mono ?_
    intro e w9 hp
    have hq := hp.back (R' := StepIs t bk v) HK1.out (fun b f hr => by obtain ⟨c', h1, h2⟩ := hr; exact .inr (.inr (.inr (.inr ⟨HMA.out, HN1.out, k, c', HFA.out, h1, h2⟩))))
    have HQ : Hid (WPost w0 base gW B t pt lt ct (StepIs t bk v) w e w9) := hq
    clear hp hq
    rcases HQ.out.2 with ⟨V3, xs3, bk3, rfl, _⟩ | ⟨f, bk3, _, rfl, _⟩
    · go_wp2_with fail
      go_end0
      exact HQ.out
    · exact ⟨rfl, HQ.out⟩
  have q5 : (v.kd == 5) = true := by simpa using k5
  have HK5 : Hid (v.kd = 5) := k5
  clear k5
  have hx0 := HR1.out.hold.has k HKL.out
  have hwf0 : wf6 (bk.getD k cm0).a := HR1.out.wf _ (getD_in (by rw [← HR1.out.hold.len]; exact HKL.out))
  obtain ⟨c, hc⟩ : ∃ c, bk.getD k cm0 = c := ⟨_, rfl⟩
  obtain ⟨x, hx⟩ : ∃ x, xs.getD k cu0 = x := ⟨_, rfl⟩
  obtain ⟨g', cur, e1, hgb, hcb, hcs, hcc⟩ := at_cust HR1.out.hold.row HKL.out
  obtain rfl : g = g' := by injection e1 with e1; injection e1
  clear e1
  rw [hc] at hx0 hwf0
  rw [hx] at hx0 hcc
  obtain ⟨y, sol⟩ := c
  obtain ⟨dp, dn, dc, sp, sn, sc, rfl⟩ := cuA_of hx0.num
  have HX : Hid (xs.getD k cu0 = (⟨y.me, y.rv, y.nx, y.mo, y.bo, y.fr, dp, dn, dc, sp, sn, sc⟩ : Cu)) := hx
  have HC : Hid (bk.getD k cm0 = ⟨y, sol⟩) := hc
  have HCB : Hid (Blk W1 g cur 58) := hcb
  have HCS : Hid (k * 8 + 8 ≤ cur.size) := hcs
  have hgl : g < W1.heap.size := hcb.lt
  have hgv2 : g ≠ w.heap.size := fun q => HGN.out cur (by rw [← q]; exact hcb)
  have HOW : Hid (Calls Try.prog 52 #[.agg #[.int .i64 y.me, .int .i64 y.rv, .int .i64 y.nx, .int .i64 y.mo, .int .i64 y.bo, .int .i64 y.fr, .slice dp dn dc], .agg #[.int .i64 v.ow, .int .i64 v.bp]] W1.drew fun e w' => OwPost W1.drew y ⟨v.ow, v.bp⟩ e w') := bowing y dp dn dc ⟨v.ow, v.bp⟩ W1.drew ⟨hx0.ds.came.below (Below.refl _ _).drew, hwf0⟩ (ev_ow HMA.out)
  have HC0 : Hid (cur[k * 8 + 0]? = some (.int .i64 y.me)) := hcc 0 (by decide)
  have HC1 : Hid (cur[k * 8 + 1]? = some (.int .i64 y.rv)) := hcc 1 (by decide)
  have HC2 : Hid (cur[k * 8 + 2]? = some (.int .i64 y.nx)) := hcc 2 (by decide)
  have HC3 : Hid (cur[k * 8 + 3]? = some (.int .i64 y.mo)) := hcc 3 (by decide)
  have HC4 : Hid (cur[k * 8 + 4]? = some (.int .i64 y.bo)) := hcc 4 (by decide)
  have HC5 : Hid (cur[k * 8 + 5]? = some (.int .i64 y.fr)) := hcc 5 (by decide)
  have HC6 : Hid (cur[k * 8 + 6]? = some (.slice dp dn dc)) := hcc 6 (by decide)
  have HC7 : Hid (cur[k * 8 + 7]? = some (.slice sp sn sc)) := hcc 7 (by decide)
  clear hcc hx hc hx0 hwf0 hgb hcs
  obtain ⟨O, hO⟩ : ∃ O, k * 8 = O := ⟨_, rfl⟩
  have HO : Hid (k * 8 = O) := hO
  rw [hO] at HCS HC0 HC1 HC2 HC3 HC4 HC5 HC6 HC7
  rw [hO]
  clear hO
  go_wp2_with fail
  clear q1 q5 c0 c1
  refine wp_region_held_drew (S := fun u => Blk u w.heap.size #[.int .i64 v.kd, .int .i64 v.me, .int .i64 v.mo, .int .i64 v.id, .int .i64 v.te, .int .i64 v.de, .int .i64 v.fe, .int .i64 v.pr, .int .i64 v.ch, .int .i64 v.un, .int .i64 v.tg, .int .i64 v.ow, .int .i64 v.bp] 27) (by kernel_rfl) (show _ from Blk.drew H1v.out 1) (fun hHeld => ?_)
  have z0 : W1.drew.cell? ⟨g, O, none⟩ = some (.int .i64 y.me) := (HCB.out.cell (O + 0)).trans HC0.out
  have z1 : W1.drew.cell? ⟨g, O + 1, none⟩ = some (.int .i64 y.rv) := (HCB.out.cell (O + 1)).trans HC1.out
  have z2 : W1.drew.cell? ⟨g, O + 2, none⟩ = some (.int .i64 y.nx) := (HCB.out.cell (O + 2)).trans HC2.out
  have z3 : W1.drew.cell? ⟨g, O + 3, none⟩ = some (.int .i64 y.mo) := (HCB.out.cell (O + 3)).trans HC3.out
  have z4 : W1.drew.cell? ⟨g, O + 4, none⟩ = some (.int .i64 y.bo) := (HCB.out.cell (O + 4)).trans HC4.out
  have z5 : W1.drew.cell? ⟨g, O + 5, none⟩ = some (.int .i64 y.fr) := (HCB.out.cell (O + 5)).trans HC5.out
  have z6 : W1.drew.cell? ⟨g, O + 6, none⟩ = some (.slice dp dn dc) := (HCB.out.cell (O + 6)).trans HC6.out
  refine take_at 0 21 (.pointer (some ⟨g, O, none⟩)) _ rfl rfl (by kernel_rfl) (by kernel_rfl) (by kernel_rfl) (fun _ _ _ h => h) (Or.inl ⟨by rfl, fun v hv => by clear hv; go_simp⟩) hHeld ?_
  simp only [Act.put, List.setIfInBounds_toArray, List.set_cons_zero, List.set_cons_succ]
  refine take_at 1 22 (.pointer (some ⟨g, O, none⟩)) _ rfl rfl (by kernel_rfl) (by kernel_rfl) (by kernel_rfl) (fun _ _ _ h => h) (Or.inl ⟨by rfl, fun v hv => by clear hv; go_simp⟩) hHeld ?_
  simp only [Act.put, List.setIfInBounds_toArray, List.set_cons_zero, List.set_cons_succ]
  refine take_at 2 23 (.pointer (some ⟨g, O, none⟩)) _ rfl rfl (by kernel_rfl) (by kernel_rfl) (by kernel_rfl) (fun _ _ _ h => h) (Or.inl ⟨by rfl, fun v hv => by clear hv; go_simp⟩) hHeld ?_
  simp only [Act.put, List.setIfInBounds_toArray, List.set_cons_zero, List.set_cons_succ]
  refine take_at 3 24 (.pointer (some ⟨g, O, none⟩)) _ rfl rfl (by kernel_rfl) (by kernel_rfl) (by kernel_rfl) (fun _ _ _ h => h) (Or.inl ⟨by rfl, fun v hv => by clear hv; go_simp⟩) hHeld ?_
  simp only [Act.put, List.setIfInBounds_toArray, List.set_cons_zero, List.set_cons_succ]
  refine take_at 5 26 (.pointer (some ⟨w.heap.size, 11, none⟩)) _ rfl rfl (by kernel_rfl) (by kernel_rfl) (by kernel_rfl) (fun _ _ _ h => h) (Or.inl ⟨by rfl, fun v hv => by clear hv; go_simp⟩) hHeld ?_
  simp only [Act.put, List.setIfInBounds_toArray, List.set_cons_zero, List.set_cons_succ]
  refine take_at 6 27 (.agg #[.int .i64 v.ow, .int .i64 v.bp]) _ rfl rfl (by kernel_rfl) (by kernel_rfl) (by kernel_rfl) (fun _ _ _ h => h) (Or.inl ⟨by rfl, fun v hv => by have g0 := hv.cell 11; have g1 := hv.cell 12; clear hv; go_simp⟩) hHeld ?_
  simp only [Act.put, List.setIfInBounds_toArray, List.set_cons_zero, List.set_cons_succ]
  refine wpAnyH_ready (rs := [4]) (by kernel_rfl) (by simp) (AllReadyH.cons rfl (fun K hK => ?_) AllReadyH.nil)
  rw [if_pos (by rfl)]
  refine wp_runOp (v := .agg #[.int .i64 y.me, .int .i64 y.rv, .int .i64 y.nx, .int .i64 y.mo, .int .i64 y.bo, .int .i64 y.fr, .slice dp dn dc]) (w' := W1.drew) 25 rfl (by clear hK; go_simp) ?_
  refine hK.out _ _ (Blk.drew H1v.out 1) (fun hHeld => ?_)
  clear hK K z0 z1 z2 z3 z4 z5 z6
  simp only [Act.put, List.setIfInBounds_toArray, List.set_cons_zero, List.set_cons_succ]
  refine wpAnyH_ready (rs := [7]) (by kernel_rfl) (by simp) (AllReadyH.cons rfl (fun K hK => ?_) AllReadyH.nil)
  rw [if_pos (by rfl)]
  refine wp_callOpP 28 rfl (by clear hK; go_simp) HOW.out ?_
  rintro e w2 ⟨hb, hp⟩
  rcases hp with ⟨b, pb, lb, cb, rfl, hi, hf⟩ | ⟨b, f, hf, rfl, hi⟩
  case inr =>
    exact .inr ⟨_, rfl, rfl, HK1.out.trans (.of ((Below.refl W1.heap.size W1).drew.trans hb) HR1.out.sz), .inr ⟨f, [], hf, rfl, .inr (.inr (.inr (.inr ⟨HMA.out, HN1.out, k, ⟨y, sol⟩, HFA.out, by rw [HC.out]; exact .inl ⟨HK5.out, b, hi, fun q => absurd q hf⟩, fun q => absurd q hf⟩)))⟩⟩
  refine .inl ⟨_, rfl, ?_⟩
  have hb2 : Below W1.heap.size W1 w2 := (Below.refl W1.heap.size W1).drew.trans hb
  have HV2 := shN H1v hb2
  have HC2 := shN HCB hb2
  have HB2 : Hid (Below W1.heap.size W1 w2) := hb2
  have HI : Hid (OweIs y ⟨v.ow, v.bp⟩ b 0) := hi
  have HF : Hid (deb.Fresh w2 W1.heap.size pb lb cb b.ds) := hf
  refine hK.out _ _ HV2.out (fun hHeld => ?_)
  clear hK K hi hf hb hb2 HOW
  unfold acc.Ac.v acc.Ac.cs
  simp only [Act.put, List.setIfInBounds_toArray, List.set_cons_zero, List.set_cons_succ]
  refine take_at 8 29 (.pointer (some ⟨g, O, none⟩)) _ rfl rfl (by kernel_rfl) (by kernel_rfl) (by kernel_rfl) (fun _ _ _ h => h) (Or.inl ⟨by rfl, fun v hv => by clear hv; go_simp⟩) hHeld ?_
  simp only [Act.put, List.setIfInBounds_toArray, List.set_cons_zero, List.set_cons_succ]
  refine take_at 9 30 (.pointer (some ⟨g, O, none⟩)) _ rfl rfl (by kernel_rfl) (by kernel_rfl) (by kernel_rfl) (fun _ _ _ h => h) (Or.inl ⟨by rfl, fun v hv => by clear hv; go_simp⟩) hHeld ?_
  simp only [Act.put, List.setIfInBounds_toArray, List.set_cons_zero, List.set_cons_succ]
  refine wpAnyH_ready (rs := [10]) (by kernel_rfl) (by simp) (AllReadyH.cons rfl (fun K hK => ?_) AllReadyH.nil)
  rw [if_pos (by rfl)]
  refine wp_letOpN 55 _ _ rfl g O rfl (.agg #[.int .i64 b.me, .int .i64 b.rv, .int .i64 b.nx, .int .i64 b.mo, .int .i64 b.bo, .int .i64 b.fr, .slice pb lb cb]) rfl #[.int .i64 b.me, .int .i64 b.rv, .int .i64 b.nx, .int .i64 b.mo, .int .i64 b.bo, .int .i64 b.fr, .slice pb lb cb] rfl (by kernel_rfl) (by simp [Value.oneCell']) cur 58 HC2.out (by have := HCS.out; simp; omega) (putAll cur O [.int .i64 b.me, .int .i64 b.rv, .int .i64 b.nx, .int .i64 b.mo, .int .i64 b.bo, .int .i64 b.fr, .slice pb lb cb]) rfl rfl ?_
  intro WF hU
  have M1 : Hid (Blk WF w.heap.size #[.int .i64 v.kd, .int .i64 v.me, .int .i64 v.mo, .int .i64 v.id, .int .i64 v.te, .int .i64 v.de, .int .i64 v.fe, .int .i64 v.pr, .int .i64 v.ch, .int .i64 v.un, .int .i64 v.tg, .int .i64 v.ow, .int .i64 v.bp] 27) := hU.keep HV2.out (Ne.symm hgv2)
  have MF : Hid (WPost w0 base gW B t pt lt ct (StepIs t bk v) w (.returned (.tuple #[])) WF) := by
    have hh : HapIs t ⟨y, sol⟩ v ⟨b, sol⟩ 0 := .inl ⟨HK5.out, b, HI.out, fun _ => rfl⟩
    refine (charge_wr HR1.out HKL.out HX.out HC.out HCB.out (by rw [HO.out]; exact HCS.out) (by rw [HO.out]; exact HC7.out) HMA.out hh HB2.out HF.out (by rw [HO.out]; exact hU)).back HK1.out (fun bb f hr => ?_)
    obtain ⟨c', h1, h2⟩ := hr
    exact .inr (.inr (.inr (.inr ⟨HMA.out, HN1.out, k, c', HFA.out, h1, h2⟩)))
  refine hK.out _ _ M1.out (fun hHeld => ?_)
  clear hK K hU
  refine wpAnyH_done (by kernel_rfl) ?_ _
  clear hHeld
  go_wp2_with fail
  go_end0
  exact MF.out

end Go.Proofs.Ytfhlokjpdkmdjaa.book

/- What is thrown in book.Of, and what is made of it. -/
namespace Go.Proofs.Ytfhlokjpdkmdjaa.book
open Go.RowKit
set_option maxRecDepth 100000
set_option linter.unusedVariables false
set_option linter.unusedSimpArgs false

set_option maxHeartbeats 1000000 in
theorem of_caught (ge gn ga : Nat) (f0 m0 a0 f : Int) (hf : f ≠ 0) (w : World) (he : Blk w ge #[.int .i64 f0] 29) (hn : Blk w gn #[.int .i64 m0] 3) (ha : Blk w ga #[.int .i64 a0] 3) (h1 : gn ≠ ge) (h2 : ga ≠ ge) :
    CallsD Try.prog 33 #[.pointer (some ⟨ge, 0, none⟩), .pointer (some ⟨gn, 0, none⟩), .pointer (some ⟨ga, 0, none⟩)] (.panicking (thrown f)) w fun e u' w' => e = .returned (.tuple #[]) ∧ settle u' = .returning ∧ ∃ W W2, Below w.heap.size w W ∧ Upd W W2 ge #[.int .i64 f] 29 ∧ Upd W2 w' ga #[.int .i64 m0] 3 := by
  refine callsD_of_wpS Try.func33 rfl fun c₀ cs hu => ?_
  apply wpS_seq
  apply wpS_region
  simp only [thrown] at hu
  simp [wpOpsS, go_sem, recoverD, hu, Try.ntmps33, Exit.thenS]
  refine (reason_is f w).mono ?_
  rintro e w1 ⟨rfl, hb1⟩
  have hE := he.next hb1
  have hN := hn.next hb1
  have hA := ha.next hb1
  have hc : w1.cell? ⟨ge, 0, none⟩ = some (.int .i64 f0) := hE.cell 0
  have hz : w1.frozen? ⟨ge, 0, none⟩ = false := hE.free 0
  have hU : Upd w1 (w1.setCell ⟨ge, 0, none⟩ (.int .i64 f)) ge #[.int .i64 f] 29 := upd_cells ge _ [.int .i64 f] 0 w1 _ hE
  simp [go_sem, hc, hz, Exit.thenS]
  generalize w1.setCell ⟨ge, 0, none⟩ (.int .i64 f) = W2 at *
  have hE2 := hU.blk
  have hN2 := hU.keep hN h1
  have hA2 := hU.keep hA h2
  have q0 : W2.cell? ⟨ge, 0, none⟩ = some (.int .i64 f) := hE2.cell 0
  have q1 : W2.cell? ⟨gn, 0, none⟩ = some (.int .i64 m0) := hN2.cell 0
  have nf : (f != 0) = true := by simpa using hf
  change Code.wpS _ _ _ { tmps := #[.pointer (some ⟨ge, 0, none⟩), .pointer (some ⟨gn, 0, none⟩), .pointer (some ⟨ga, 0, none⟩), refV f, .int .i64 f, undef, undef, undef], defers := [] } _ _
  apply wpS_of_wp
  have HA2 : Hid (Blk W2 ga #[.int .i64 a0] 3) := hA2
  have HU : Hid (Upd w1 W2 ge #[.int .i64 f] 29) := hU
  have HB : Hid (Below w.heap.size w w1) := hb1
  clear hf he hn ha hE hN hA hc hz hU hE2 hN2 hA2 hb1 hu
  go_wp2_with (first | (refine wp_let1 rfl 3 _ _ rfl ga 0 rfl .i64 m0 rfl (by kernel_rfl) #[.int .i64 a0] 3 HA2.out (by simp) ?_) | fail)
  intro W3 hU3
  have HU3 : Hid (Upd W2 W3 ga #[.int .i64 m0] 3) := hU3
  clear hU3
  go_wp2_with fail
  simp [bodyPostS, results, Try.results33, settle]
  exact ⟨w1, HB.out, W2, HU.out, HU3.out⟩
set_option maxHeartbeats 1000000 in
theorem of_idle (ge gn ga : Nat) (f0 : Int) (w : World) (he : Blk w ge #[.int .i64 f0] 29) :
    CallsD Try.prog 33 #[.pointer (some ⟨ge, 0, none⟩), .pointer (some ⟨gn, 0, none⟩), .pointer (some ⟨ga, 0, none⟩)] .returning w fun e u' w' => e = .returned (.tuple #[]) ∧ settle u' = .returning ∧ ∃ W, Below w.heap.size w W ∧ Upd W w' ge #[.int .i64 0] 29 := by
  refine callsD_of_wpS Try.func33 rfl fun c₀ cs hu => ?_
  apply wpS_seq
  apply wpS_region
  simp [wpOpsS, go_sem, recoverD, hu, Try.ntmps33, Exit.thenS]
  refine (reason_nil w).mono ?_
  rintro e w1 ⟨rfl, rfl⟩
  have hc : w1.cell? ⟨ge, 0, none⟩ = some (.int .i64 f0) := he.cell 0
  have hz : w1.frozen? ⟨ge, 0, none⟩ = false := he.free 0
  have hU : Upd w1 (w1.setCell ⟨ge, 0, none⟩ (.int .i64 0)) ge #[.int .i64 0] 29 := upd_cells ge _ [.int .i64 0] 0 w1 _ he
  simp [go_sem, hc, hz, Exit.thenS]
  generalize w1.setCell ⟨ge, 0, none⟩ (.int .i64 0) = W2 at *
  have q0 : W2.cell? ⟨ge, 0, none⟩ = some (.int .i64 0) := hU.blk.cell 0
  change Code.wpS _ _ _ { tmps := #[.pointer (some ⟨ge, 0, none⟩), .pointer (some ⟨gn, 0, none⟩), .pointer (some ⟨ga, 0, none⟩), .nilIface, .int .i64 0, undef, undef, undef], defers := [] } _ _
  apply wpS_of_wp
  have HU : Hid (Upd w1 W2 ge #[.int .i64 0] 29) := hU
  have HH : Hid (c₀.mode = .returning) := hu
  clear he hc hz hU hu
  go_wp2_with fail
  have hu := HH.out
  have hU := HU.out
  simp [bodyPostS, results, Try.results33, hu, settle]
  exact ⟨.returning, (by cases c₀; simp_all), rfl, w1, Below.refl _ _, hU⟩

end Go.Proofs.Ytfhlokjpdkmdjaa.book

/- book.Of. -/
namespace Go.Proofs.Ytfhlokjpdkmdjaa.book
open Go.RowKit
open Go.Proofs.Ytfhlokjpdkmdjaa.acc (Ac Tm Bi APost BPost TFault TRight OpenIs OweIs SellIs GrantIs RekeyIs wf6 ACame TCame fresh_updN fresh_drew came_lt)
set_option maxRecDepth 100000
set_option linter.unusedVariables false
set_option linter.unusedSimpArgs false

theorem Wr.upd {w0 : World} {base gW B g : Nat} {t : Tm} {pt : Option Addr} {lt ct : Nat} {V : Value} {xs : List Cu} {bk : List Cm} {w W : World} {cs : Array Value} {ty : TypeId} (h : Wr w0 base gW B t pt lt ct V xs bk w) (hU : Upd w W g cs ty) (h0 : g < base) (h1 : g ≠ gW) (h2 : g ≠ B) (h3 : w0.heap.size ≤ g) : Wr w0 base gW B t pt lt ct V xs bk W :=
  ⟨hU.keep h.blk (Ne.symm h1), h.mp.upd hU (Ne.symm h2), h.hold.upd hU h0, h.gw, h.gb, h.ne, h.n0, h.n1, by rw [hU.size]; exact h.sz, hU.bel _ _ h3 h.bel, h.few, h.wf⟩
theorem Small.more {bk : List Cm} {k m : Nat} (h : Small bk k) (hk : k ≤ m) : Small bk m := ⟨Nat.le_trans h.1 hk, fun c hc => ⟨Nat.le_trans (h.2 c hc).1 hk, (h.2 c hc).2⟩⟩
/-- Where it stands behind k events. -/
structure Mid2 (w : World) (t : Tm) (pt : Option Addr) (lt ct : Nat) (l : List Ev) (gn base gW B k : Nat) (st : Nat → List Cm) (wr : World) : Prop where
  s0 : st 0 = []
  steps : ∀ i, i < k → StepIs t (st i) (l.getD i ev0) (st (i + 1)) 0
  small : Small (st k) k
  bb : Blk wr (w.heap.size + 1) #[.slice none 0 0] 45
  ba : Blk wr (w.heap.size + 1 + 1) #[.int .i64 0] 3
  be : Blk wr (w.heap.size + 1 + 1 + 1) #[.int .i64 0] 29
  bn : Blk wr gn #[.int .i64 (k : Int)] 3
  wr : ∃ V xs, Wr w base gW B t pt lt ct V xs (st k) wr
structure Pl (w : World) (gn base gW B : Nat) : Prop where
  h1 : w.heap.size + 1 + 1 + 1 < gn
  h2 : gn < B
  h3 : B < gW
  h4 : gW < base
set_option maxHeartbeats 16000000 in
theorem kof : KOf := by
  intro w t pt lt ct pl n cap l ht hl
  unfold acc.Tm.v
  have HT : Hid (TCame w t pt lt ct) := ht
  have HL : Hid (RowE w pl n l) := hl.row
  have HLN : Hid (l.length = n) := hl.row.1
  have hnm : n ≤ 9223372036854775807 := by have := hl.bytes; omega
  have hmf : ∀ (fn : Fn) (first cap : Array Value) (w : World), (Instr.makeFunc fn first cap).run Try.prog w = .ok (.func fn first cap) w := fun _ _ _ _ => rfl
  have hmm : ∀ w : World, (Instr.makeMap 70 none).run Try.prog w = .ok (.map (some w.heap.size)) (w.alloc (.map #[] 0)) := mkMapI
  have HCK : Hid (∀ W, Below w.heap.size w W → Calls Try.prog 32 #[.agg #[.slice pt lt ct, .int .i64 t.ff, .int .i64 t.fb, .int .i64 t.db, .int .i64 t.al]] W fun e w' => tar.ErrPost W (TFault t) e w') := fun W hB => acc.kcheck W t pt lt ct (ht.below hB)
  clear ht hl
  obtain ⟨W0, HWW, H0t, H0b, H0at, H0er, H0B, -⟩ := sh4 w #[.slice pt lt ct, .int .i64 t.ff, .int .i64 t.fb, .int .i64 t.db, .int .i64 t.al] 40 #[.slice none 0 0] 45 #[.int .i64 0] 3 #[.int .i64 0] 29
  go_enter_defers Try.func16, Try.ntmps16
  go_upto_region 1 with fail
  rw [HWW.out]
  clear HWW
  have HC1 : Hid (Calls Try.prog 32 #[.agg #[.slice pt lt ct, .int .i64 t.ff, .int .i64 t.fb, .int .i64 t.db, .int .i64 t.al]] W0 fun e w' => tar.ErrPost W0 (TFault t) e w') := HCK.out W0 H0B.out
  clear HCK
  go_wp2_with (first
    | (refine wp_whole rfl 40 _ rfl _ rfl 40 _ _ H0t.out Try.underlying40 rfl (by kernel_rfl) ?_)
    | (refine wp_whole rfl 45 _ rfl _ rfl 45 _ _ H0b.out Try.underlying45 rfl (by kernel_rfl) ?_)
    | (refine wp_whole rfl 3 _ rfl _ rfl 3 _ _ H0at.out Try.underlying3 rfl (by kernel_rfl) ?_)
    | (refine wp_whole rfl 29 _ rfl _ rfl 29 _ _ H0er.out Try.underlying29 rfl (by kernel_rfl) ?_)
    | fail)
  refine HC1.out.mono ?_
  rintro e w1 ⟨f, rfl, hf, hb1⟩
  have H1t := shN H0t hb1
  have H1b := shN H0b hb1
  have H1at := shN H0at hb1
  have H1er := shN H0er hb1
  have H1B := shB H0B hb1
  clear H0t H0b H0at H0er H0B
  clear hb1 HC1
  by_cases h0 : f = 0
  case neg =>
    have nf : (f != 0) = true := by simpa using h0
    have HF : Hid (TFault t f) := hf
    have HNE : Hid (f ≠ 0) := h0
    clear hf h0
    go_wp2_with (first
      | (refine wp_letAll rfl 45 _ _ rfl _ rfl _ rfl (by kernel_rfl) (by simp [Value.oneCell']) _ 45 H1b.out rfl ?_)
      | (refine wp_whole rfl 40 _ rfl _ rfl 40 _ _ H1t.out Try.underlying40 rfl (by kernel_rfl) ?_)
      | (refine wp_whole rfl 45 _ rfl _ rfl 45 _ _ H1b.out Try.underlying45 rfl (by kernel_rfl) ?_)
      | (refine wp_whole rfl 3 _ rfl _ rfl 3 _ _ H1at.out Try.underlying3 rfl (by kernel_rfl) ?_)
      | (refine wp_whole rfl 29 _ rfl _ rfl 29 _ _ H1er.out Try.underlying29 rfl (by kernel_rfl) ?_)
      | fail)
    intro w1a hU
    have H2t := shK hU H1t (by omega)
    have H2b : Hid (Blk w1a (w.heap.size + 1) #[.slice none 0 0] 45) := hU.blk
    have H2at := shK hU H1at (by omega)
    have H2er := shK hU H1er (by omega)
    have H2B := shV hU H1B (by omega)
    clear H1t H1b H1at H1er H1B
    clear hU
    go_wp2_with (first
      | (refine wp_let1 rfl 3 _ _ rfl (w.heap.size + 1 + 1) 0 rfl .i64 0 rfl (by kernel_rfl) #[.int .i64 0] 3 H2at.out (by simp) ?_)
      | (refine wp_whole rfl 40 _ rfl _ rfl 40 _ _ H2t.out Try.underlying40 rfl (by kernel_rfl) ?_)
      | (refine wp_whole rfl 45 _ rfl _ rfl 45 _ _ H2b.out Try.underlying45 rfl (by kernel_rfl) ?_)
      | (refine wp_whole rfl 3 _ rfl _ rfl 3 _ _ H2at.out Try.underlying3 rfl (by kernel_rfl) ?_)
      | (refine wp_whole rfl 29 _ rfl _ rfl 29 _ _ H2er.out Try.underlying29 rfl (by kernel_rfl) ?_)
      | fail)
    intro w1aa hU
    have H3t := shK hU H2t (by omega)
    have H3b := shK hU H2b (by omega)
    have H3at : Hid (Blk w1aa (w.heap.size + 1 + 1) #[.int .i64 0] 3) := hU.blk
    have H3er := shK hU H2er (by omega)
    have H3B := shV hU H2B (by omega)
    clear H2t H2b H2at H2er H2B
    clear hU
    go_wp2_with (first
      | (refine wp_let1 rfl 29 _ _ rfl (w.heap.size + 1 + 1 + 1) 0 rfl .i64 f rfl (by kernel_rfl) #[.int .i64 0] 29 H3er.out (by simp) ?_)
      | (refine wp_whole rfl 40 _ rfl _ rfl 40 _ _ H3t.out Try.underlying40 rfl (by kernel_rfl) ?_)
      | (refine wp_whole rfl 45 _ rfl _ rfl 45 _ _ H3b.out Try.underlying45 rfl (by kernel_rfl) ?_)
      | (refine wp_whole rfl 3 _ rfl _ rfl 3 _ _ H3at.out Try.underlying3 rfl (by kernel_rfl) ?_)
      | (refine wp_whole rfl 29 _ rfl _ rfl 29 _ _ H3er.out Try.underlying29 rfl (by kernel_rfl) ?_)
      | fail)
    intro w1aaa hU
    have H4t := shK hU H3t (by omega)
    have H4b := shK hU H3b (by omega)
    have H4at := shK hU H3at (by omega)
    have H4er : Hid (Blk w1aaa (w.heap.size + 1 + 1 + 1) #[.int .i64 f] 29) := hU.blk
    have H4B := shV hU H3B (by omega)
    clear H3t H3b H3at H3er H3B
    clear hU
    go_wp2_with fail
    have rb : w1aaa.cell? ⟨w.heap.size + 1, 0, none⟩ = some (.slice none 0 0) := H4b.out.cell 0
    have rat : w1aaa.cell? ⟨w.heap.size + 1 + 1, 0, none⟩ = some (.int .i64 0) := H4at.out.cell 0
    have rer : w1aaa.cell? ⟨w.heap.size + 1 + 1 + 1, 0, none⟩ = some (.int .i64 f) := H4er.out.cell 0
    show Leaves _ _ _ _ [] .returning w1aaa
    refine ⟨.tuple #[.agg #[.slice none 0 0], .int .i64 0, .int .i64 f], by simp [results, Try.results16, rb, rat, rer, go_sem], ?_⟩
    exact ⟨none, 0, 0, [], [], 0, f, rfl, .inl ⟨HF.out, HNE.out, rfl, rfl⟩, sees_nil _, Nat.zero_le _, H4B.out⟩
  subst h0
  have HTR : Hid (TRight t) := hf.ok.1 rfl
  clear hf
  by_cases hbig : 120 < n
  case pos =>
    have hd1 : decide ((120 : Int) < (n : Int)) = true := decide_eq_true (by omega)
    have HBG : Hid (120 < l.length) := by show _ < _; rw [HLN.out]; exact hbig
    clear hbig
    go_wp2_with (first
      | (refine wp_letAll rfl 45 _ _ rfl _ rfl _ rfl (by kernel_rfl) (by simp [Value.oneCell']) _ 45 H1b.out rfl ?_)
      | (refine wp_whole rfl 40 _ rfl _ rfl 40 _ _ H1t.out Try.underlying40 rfl (by kernel_rfl) ?_)
      | (refine wp_whole rfl 45 _ rfl _ rfl 45 _ _ H1b.out Try.underlying45 rfl (by kernel_rfl) ?_)
      | (refine wp_whole rfl 3 _ rfl _ rfl 3 _ _ H1at.out Try.underlying3 rfl (by kernel_rfl) ?_)
      | (refine wp_whole rfl 29 _ rfl _ rfl 29 _ _ H1er.out Try.underlying29 rfl (by kernel_rfl) ?_)
      | fail)
    intro w1a hU
    have H2t := shK hU H1t (by omega)
    have H2b : Hid (Blk w1a (w.heap.size + 1) #[.slice none 0 0] 45) := hU.blk
    have H2at := shK hU H1at (by omega)
    have H2er := shK hU H1er (by omega)
    have H2B := shV hU H1B (by omega)
    clear H1t H1b H1at H1er H1B
    clear hU
    go_wp2_with (first
      | (refine wp_let1 rfl 3 _ _ rfl (w.heap.size + 1 + 1) 0 rfl .i64 0 rfl (by kernel_rfl) #[.int .i64 0] 3 H2at.out (by simp) ?_)
      | (refine wp_whole rfl 40 _ rfl _ rfl 40 _ _ H2t.out Try.underlying40 rfl (by kernel_rfl) ?_)
      | (refine wp_whole rfl 45 _ rfl _ rfl 45 _ _ H2b.out Try.underlying45 rfl (by kernel_rfl) ?_)
      | (refine wp_whole rfl 3 _ rfl _ rfl 3 _ _ H2at.out Try.underlying3 rfl (by kernel_rfl) ?_)
      | (refine wp_whole rfl 29 _ rfl _ rfl 29 _ _ H2er.out Try.underlying29 rfl (by kernel_rfl) ?_)
      | fail)
    intro w1aa hU
    have H3t := shK hU H2t (by omega)
    have H3b := shK hU H2b (by omega)
    have H3at : Hid (Blk w1aa (w.heap.size + 1 + 1) #[.int .i64 0] 3) := hU.blk
    have H3er := shK hU H2er (by omega)
    have H3B := shV hU H2B (by omega)
    clear H2t H2b H2at H2er H2B
    clear hU
    go_wp2_with (first
      | (refine wp_let1 rfl 29 _ _ rfl (w.heap.size + 1 + 1 + 1) 0 rfl .i64 1 rfl (by kernel_rfl) #[.int .i64 0] 29 H3er.out (by simp) ?_)
      | (refine wp_whole rfl 40 _ rfl _ rfl 40 _ _ H3t.out Try.underlying40 rfl (by kernel_rfl) ?_)
      | (refine wp_whole rfl 45 _ rfl _ rfl 45 _ _ H3b.out Try.underlying45 rfl (by kernel_rfl) ?_)
      | (refine wp_whole rfl 3 _ rfl _ rfl 3 _ _ H3at.out Try.underlying3 rfl (by kernel_rfl) ?_)
      | (refine wp_whole rfl 29 _ rfl _ rfl 29 _ _ H3er.out Try.underlying29 rfl (by kernel_rfl) ?_)
      | fail)
    intro w1aaa hU
    have H4t := shK hU H3t (by omega)
    have H4b := shK hU H3b (by omega)
    have H4at := shK hU H3at (by omega)
    have H4er : Hid (Blk w1aaa (w.heap.size + 1 + 1 + 1) #[.int .i64 1] 29) := hU.blk
    have H4B := shV hU H3B (by omega)
    clear H3t H3b H3at H3er H3B
    clear hU
    go_wp2_with fail
    have rb : w1aaa.cell? ⟨w.heap.size + 1, 0, none⟩ = some (.slice none 0 0) := H4b.out.cell 0
    have rat : w1aaa.cell? ⟨w.heap.size + 1 + 1, 0, none⟩ = some (.int .i64 0) := H4at.out.cell 0
    have rer : w1aaa.cell? ⟨w.heap.size + 1 + 1 + 1, 0, none⟩ = some (.int .i64 1) := H4er.out.cell 0
    show Leaves _ _ _ _ [] .returning w1aaa
    refine ⟨.tuple #[.agg #[.slice none 0 0], .int .i64 0, .int .i64 1], by simp [results, Try.results16, rb, rat, rer, go_sem], ?_⟩
    exact ⟨none, 0, 0, [], [], 0, 1, rfl, .inr (.inl ⟨HTR.out, HBG.out, rfl, rfl, rfl⟩), sees_nil _, Nat.zero_le _, H4B.out⟩
  have hd1 : decide ((120 : Int) < (n : Int)) = false := decide_eq_false (by omega)
  have hn120 : n ≤ 120 := by omega
  have HFEW : Hid (l.length ≤ 120) := by show _ ≤ _; rw [HLN.out]; exact hn120
  clear hbig
  have HN2 : Hid (Blk (((w1.alloc (.cells #[.int .i64 0] 3)).alloc (.map #[] 0)).alloc (.cells #[.slice none 0 0, .slice pt lt ct, .int .i64 t.ff, .int .i64 t.fb, .int .i64 t.db, .int .i64 t.al, .map (some (w1.heap.size + 1))] 72)) w1.heap.size #[.int .i64 0] 3) := ((Blk.new _ _ _).alloc _).alloc _
  have HM2 : Hid (MpI (((w1.alloc (.cells #[.int .i64 0] 3)).alloc (.map #[] 0)).alloc (.cells #[.slice none 0 0, .slice pt lt ct, .int .i64 t.ff, .int .i64 t.fb, .int .i64 t.db, .int .i64 t.al, .map (some (w1.heap.size + 1))] 72)) (w1.heap.size + 1) []) := by
    have h1 := MpI.new (w1.alloc (.cells #[.int .i64 0] 3))
    rw [show (w1.alloc (.cells #[.int .i64 0] 3)).heap.size = w1.heap.size + 1 by simp] at h1
    exact h1.below ((Below.refl _ _).alloc (Nat.le_refl _) _)
  have HW2 : Hid (Blk (((w1.alloc (.cells #[.int .i64 0] 3)).alloc (.map #[] 0)).alloc (.cells #[.slice none 0 0, .slice pt lt ct, .int .i64 t.ff, .int .i64 t.fb, .int .i64 t.db, .int .i64 t.al, .map (some (w1.heap.size + 1))] 72)) (w1.heap.size + 1 + 1) #[.slice none 0 0, .slice pt lt ct, .int .i64 t.ff, .int .i64 t.fb, .int .i64 t.db, .int .i64 t.al, .map (some (w1.heap.size + 1))] 72) := by
    have h1 := Blk.new ((w1.alloc (.cells #[.int .i64 0] 3)).alloc (.map #[] 0)) #[.slice none 0 0, .slice pt lt ct, .int .i64 t.ff, .int .i64 t.fb, .int .i64 t.db, .int .i64 t.al, .map (some (w1.heap.size + 1))] 72
    rwa [show ((w1.alloc (.cells #[.int .i64 0] 3)).alloc (.map #[] 0)).heap.size = w1.heap.size + 1 + 1 by simp] at h1
  have HZt : Hid (Blk (((w1.alloc (.cells #[.int .i64 0] 3)).alloc (.map #[] 0)).alloc (.cells #[.slice none 0 0, .slice pt lt ct, .int .i64 t.ff, .int .i64 t.fb, .int .i64 t.db, .int .i64 t.al, .map (some (w1.heap.size + 1))] 72)) (w.heap.size) #[.slice pt lt ct, .int .i64 t.ff, .int .i64 t.fb, .int .i64 t.db, .int .i64 t.al] 40) := ((H1t.out.alloc _).alloc _).alloc _
  have HZb : Hid (Blk (((w1.alloc (.cells #[.int .i64 0] 3)).alloc (.map #[] 0)).alloc (.cells #[.slice none 0 0, .slice pt lt ct, .int .i64 t.ff, .int .i64 t.fb, .int .i64 t.db, .int .i64 t.al, .map (some (w1.heap.size + 1))] 72)) (w.heap.size + 1) #[.slice none 0 0] 45) := ((H1b.out.alloc _).alloc _).alloc _
  have HZat : Hid (Blk (((w1.alloc (.cells #[.int .i64 0] 3)).alloc (.map #[] 0)).alloc (.cells #[.slice none 0 0, .slice pt lt ct, .int .i64 t.ff, .int .i64 t.fb, .int .i64 t.db, .int .i64 t.al, .map (some (w1.heap.size + 1))] 72)) (w.heap.size + 1 + 1) #[.int .i64 0] 3) := ((H1at.out.alloc _).alloc _).alloc _
  have HZer : Hid (Blk (((w1.alloc (.cells #[.int .i64 0] 3)).alloc (.map #[] 0)).alloc (.cells #[.slice none 0 0, .slice pt lt ct, .int .i64 t.ff, .int .i64 t.fb, .int .i64 t.db, .int .i64 t.al, .map (some (w1.heap.size + 1))] 72)) (w.heap.size + 1 + 1 + 1) #[.int .i64 0] 29) := ((H1er.out.alloc _).alloc _).alloc _
  have HZB : Hid (Below w.heap.size w (((w1.alloc (.cells #[.int .i64 0] 3)).alloc (.map #[] 0)).alloc (.cells #[.slice none 0 0, .slice pt lt ct, .int .i64 t.ff, .int .i64 t.fb, .int .i64 t.db, .int .i64 t.al, .map (some (w1.heap.size + 1))] 72))) := ((H1B.out.alloc H1B.out.size _).alloc (Nat.le_trans H1B.out.size (by simp)) _).alloc (Nat.le_trans H1B.out.size (by simp; omega)) _
  have HPL0 : Hid (w.heap.size + 1 + 1 + 1 < w1.heap.size) := H1er.out.lt
  have HSB : Hid ((((w1.alloc (.cells #[.int .i64 0] 3)).alloc (.map #[] 0)).alloc (.cells #[.slice none 0 0, .slice pt lt ct, .int .i64 t.ff, .int .i64 t.fb, .int .i64 t.db, .int .i64 t.al, .map (some (w1.heap.size + 1))] 72)).heap.size = w1.heap.size + 1 + 1 + 1) := by show _ = _; simp
  go_upto_region 9 with (first
    | (refine wp_whole rfl 40 _ rfl w.heap.size rfl 40 #[.slice pt lt ct, .int .i64 t.ff, .int .i64 t.fb, .int .i64 t.db, .int .i64 t.al] _ (H1t.out.alloc _) Try.underlying40 rfl (by kernel_rfl) ?_)
    | fail)
  generalize (((w1.alloc (.cells #[.int .i64 0] 3)).alloc (.map #[] 0)).alloc (.cells #[.slice none 0 0, .slice pt lt ct, .int .i64 t.ff, .int .i64 t.fb, .int .i64 t.db, .int .i64 t.al, .map (some (w1.heap.size + 1))] 72)) = W2 at *
  generalize w1.heap.size = gn at *
  have HPL : Hid (Pl w gn (gn + 1 + 1 + 1) (gn + 1 + 1) (gn + 1)) := ⟨HPL0.out, Nat.lt_succ_self _, Nat.lt_succ_self _, Nat.lt_succ_self _⟩
  have HMID : Hid (Mid2 w t pt lt ct l gn (gn + 1 + 1 + 1) (gn + 1 + 1) (gn + 1) 0 (fun _ => []) W2) := ⟨rfl, (fun i hi => absurd hi (Nat.not_lt_zero _)), Small.zero, HZb.out, HZat.out, HZer.out, HN2.out, .slice none 0 0, [], HW2.out, HM2.out, Holds.zero _ _, by omega, by omega, by omega, by have := HPL0.out; omega, by have := HPL0.out; omega, by rw [HSB.out]; exact Nat.le_refl _, HZB.out, Small.more Small.zero (by omega), fun c hc => by cases hc⟩
  clear HZt HZb HZat HZer HN2 HM2 HW2 HZB HPL0 HSB H1t H1b H1at H1er H1B
  generalize gn + 1 + 1 + 1 = base at *
  generalize hgW : gn + 1 + 1 = gW at *
  generalize gn + 1 = B at *
  clear hgW
  clear hmf hmm hd1
  go_wp2_with fail
  go_loopg [] n (fun gk wr => ∃ (k : Nat) (st : Nat → List Cm), k + gk = n ∧ Mid2 w t pt lt ct l gn base gW B k st wr)
  case atStart => exact ⟨0, _, by omega, HMID.out⟩
  case round =>
    obtain ⟨k, st, hk, hmid⟩ := hrel
    clear HMID
    have HM : Hid (Mid2 w t pt lt ct l gn base gW B k st wr) := hmid
    have q8 : wr.cell? ⟨gn, 0, none⟩ = some (.int .i64 (k : Int)) := hmid.bn.cell 0
    obtain ⟨V, xs, hwr⟩ := hmid.wr
    obtain ⟨a, ca, hV, _⟩ := hwr.hold.row.row
    subst hV
    have HWR : Hid (Wr w base gW B t pt lt ct (.slice a xs.length ca) xs (st k) wr) := hwr
    clear hmid hwr
    by_cases hlt : k < n
    case neg =>
      have hkn : k = n := by omega
      have HKN : Hid (k = n) := hkn
      have hdl : decide ((k : Int) < (n : Int)) = false := decide_eq_false (by omega)
      clear hkn
      have q0 : wr.cell? ⟨gW, 0, none⟩ = some (.slice a xs.length ca) := HWR.out.blk.cell 0
      have hp1 := HPL.out.h1
      have hp2 := HPL.out.h2
      have hp3 := HPL.out.h3
      have hp4 := HPL.out.h4
      have HXL : Hid (xs.length ≤ 120) := by show _ ≤ _; rw [HWR.out.hold.len]; exact HWR.out.few.1
      have HW0 : Hid (Wr w base gW B t pt lt ct (.slice a xs.length ca) xs (st k) wr ∧ Blk wr (w.heap.size + 1) #[.slice none 0 0] 45 ∧ Blk wr (w.heap.size + 1 + 1) #[.int .i64 0] 3 ∧ Blk wr (w.heap.size + 1 + 1 + 1) #[.int .i64 0] 29) := ⟨HWR.out, HM.out.bb, HM.out.ba, HM.out.be⟩
      clear HWR
      generalize hxl : xs.length = m at *
      have HXN : Hid (xs.length = m) := hxl
      clear hxl
      go_wp2_with (first | (refine wp_letAll rfl 45 _ _ rfl (w.heap.size + 1) rfl #[.slice a m ca] rfl (by kernel_rfl) (by simp [Value.oneCell']) #[.slice none 0 0] 45 HW0.out.2.1 rfl ?_) | fail)
      intro V1 hU
      clear q0
      have HW1 : Hid (Wr w base gW B t pt lt ct (.slice a m ca) xs (st k) V1 ∧ Blk V1 (w.heap.size + 1) #[.slice a m ca] 45 ∧ Blk V1 (w.heap.size + 1 + 1) #[.int .i64 0] 3 ∧ Blk V1 (w.heap.size + 1 + 1 + 1) #[.int .i64 0] 29) := ⟨HW0.out.1.upd hU (by omega) (by omega) (by omega) (by omega), hU.blk, hU.keep HW0.out.2.2.1 (by omega), hU.keep HW0.out.2.2.2 (by omega)⟩
      clear hU HW0
      go_wp2_with (first | (refine wp_let1 rfl 3 _ _ rfl (w.heap.size + 1 + 1) 0 rfl .i64 0 rfl (by kernel_rfl) #[.int .i64 0] 3 HW1.out.2.2.1 (by simp) ?_) | fail)
      intro V2 hU
      have HW2 : Hid (Wr w base gW B t pt lt ct (.slice a m ca) xs (st k) V2 ∧ Blk V2 (w.heap.size + 1) #[.slice a m ca] 45 ∧ Blk V2 (w.heap.size + 1 + 1) #[.int .i64 0] 3 ∧ Blk V2 (w.heap.size + 1 + 1 + 1) #[.int .i64 0] 29) := ⟨HW1.out.1.upd hU (by omega) (by omega) (by omega) (by omega), hU.keep HW1.out.2.1 (by omega), hU.blk, hU.keep HW1.out.2.2.2 (by omega)⟩
      clear hU HW1
      go_wp2_with (first | (refine wp_let1 rfl 29 _ _ rfl (w.heap.size + 1 + 1 + 1) 0 rfl .i64 0 rfl (by kernel_rfl) #[.int .i64 0] 29 HW2.out.2.2.2 (by simp) ?_) | fail)
      intro V3 hU
      have HW3 : Hid (Wr w base gW B t pt lt ct (.slice a m ca) xs (st k) V3 ∧ Blk V3 (w.heap.size + 1) #[.slice a m ca] 45 ∧ Blk V3 (w.heap.size + 1 + 1) #[.int .i64 0] 3 ∧ Blk V3 (w.heap.size + 1 + 1 + 1) #[.int .i64 0] 29) := ⟨HW2.out.1.upd hU (by omega) (by omega) (by omega) (by omega), hU.keep HW2.out.2.1 (by omega), hU.keep HW2.out.2.2.1 (by omega), hU.blk⟩
      clear hU HW2
      go_wp2_with fail
      refine leaves_cons (f := 33) (args := #[.pointer (some ⟨w.heap.size + 1 + 1 + 1, 0, none⟩), .pointer (some ⟨gn, 0, none⟩), .pointer (some ⟨w.heap.size + 1 + 1, 0, none⟩)]) (by simp) (by simp [go_sem]) ?_
      refine (of_idle (w.heap.size + 1 + 1 + 1) gn (w.heap.size + 1 + 1) 0 _ HW3.out.2.2.2).mono ?_
      rintro e u' w5 ⟨rfl, hs, W, hb, hU⟩
      have hwr5 : Wr w base gW B t pt lt ct (.slice a m ca) xs (st k) w5 := (HW3.out.1.next hb).upd hU (by omega) (by omega) (by omega) (by omega)
      have r0 : w5.cell? ⟨w.heap.size + 1, 0, none⟩ = some (.slice a m ca) := (hU.keep (HW3.out.2.1.next hb) (by omega)).cell 0
      have r1 : w5.cell? ⟨w.heap.size + 1 + 1, 0, none⟩ = some (.int .i64 0) := (hU.keep (HW3.out.2.2.1.next hb) (by omega)).cell 0
      have r2 : w5.cell? ⟨w.heap.size + 1 + 1 + 1, 0, none⟩ = some (.int .i64 0) := hU.blk.cell 0
      show Leaves _ _ _ _ [] (settle u') w5
      rw [hs]
      refine ⟨.tuple #[.agg #[.slice a m ca], .int .i64 0, .int .i64 0], by simp [results, Try.results16, r0, r1, r2, go_sem], ?_⟩
      obtain ⟨p9, c9, hv9, hsee⟩ := hwr5.hold.sees
      injection hv9 with e1 e2 e3
      subst e1
      rw [← e2] at hsee
      exact ⟨a, m, ca, xs, st k, 0, 0, rfl, .inr (.inr ⟨HTR.out, HFEW.out, k, st, HM.out.s0, HM.out.steps, .inl ⟨by rw [HLN.out]; exact HKN.out, rfl, rfl, rfl⟩⟩), hsee, HXL.out, hwr5.bel⟩
    have hdl : decide ((k : Int) < (n : Int)) = true := decide_eq_true (by omega)
    obtain ⟨bl, off, rfl, lb, hc⟩ := HL.out.2.resolve_left (by omega)
    have hce : ∀ j, j < 13 → wr.cell? ⟨bl, off + k * 13 + j, none⟩ = (l.getD k ev0).cl[j]? := fun j hj => (HWR.out.bel.cell (p := ⟨bl, off + k * 13 + j, none⟩) lb).trans (hc k j hlt hj)
    obtain ⟨v, hv⟩ : ∃ v, v = l.getD k ev0 := ⟨_, rfl⟩
    have HV : Hid (v = l.getD k ev0) := hv
    rw [← hv] at hce
    clear hv hc
    have c0 : wr.cell? ⟨bl, off + k * 13, none⟩ = some (.int .i64 v.kd) := hce 0 (by decide)
    have c1 : wr.cell? ⟨bl, off + k * 13 + 1, none⟩ = some (.int .i64 v.me) := hce 1 (by decide)
    have c2 : wr.cell? ⟨bl, off + k * 13 + 2, none⟩ = some (.int .i64 v.mo) := hce 2 (by decide)
    have c3 : wr.cell? ⟨bl, off + k * 13 + 3, none⟩ = some (.int .i64 v.id) := hce 3 (by decide)
    have c4 : wr.cell? ⟨bl, off + k * 13 + 4, none⟩ = some (.int .i64 v.te) := hce 4 (by decide)
    have c5 : wr.cell? ⟨bl, off + k * 13 + 5, none⟩ = some (.int .i64 v.de) := hce 5 (by decide)
    have c6 : wr.cell? ⟨bl, off + k * 13 + 6, none⟩ = some (.int .i64 v.fe) := hce 6 (by decide)
    have c7 : wr.cell? ⟨bl, off + k * 13 + 7, none⟩ = some (.int .i64 v.pr) := hce 7 (by decide)
    have c8 : wr.cell? ⟨bl, off + k * 13 + 8, none⟩ = some (.int .i64 v.ch) := hce 8 (by decide)
    have c9 : wr.cell? ⟨bl, off + k * 13 + 9, none⟩ = some (.int .i64 v.un) := hce 9 (by decide)
    have c10 : wr.cell? ⟨bl, off + k * 13 + 10, none⟩ = some (.int .i64 v.tg) := hce 10 (by decide)
    have c11 : wr.cell? ⟨bl, off + k * 13 + 11, none⟩ = some (.int .i64 v.ow) := hce 11 (by decide)
    have c12 : wr.cell? ⟨bl, off + k * 13 + 12, none⟩ = some (.int .i64 v.bp) := hce 12 (by decide)
    have HHP : Hid (Calls Try.prog 34 #[.pointer (some ⟨gW, 0, none⟩), .agg #[.int .i64 v.kd, .int .i64 v.me, .int .i64 v.mo, .int .i64 v.id, .int .i64 v.te, .int .i64 v.de, .int .i64 v.fe, .int .i64 v.pr, .int .i64 v.ch, .int .i64 v.un, .int .i64 v.tg, .int .i64 v.ow, .int .i64 v.bp]] wr fun e w' => WPost w base gW B t pt lt ct (StepIs t (st k) v) wr e w') := bhappen w base gW B t pt lt ct a xs.length ca xs (st k) v wr HWR.out HT.out
    clear hce lb
    have HKL : Hid (k < l.length) := by show _ < _; rw [HLN.out]; exact hlt
    go_wp2_with fail
    refine HHP.out.mono ?_
    rintro e w2 ⟨hkp, hpo⟩
    clear HHP q8 hdl c0 c1 c2 c3 c4 c5 c6 c7 c8 c9 c10 c11 c12
    have hp1 := HPL.out.h1
    have hp2 := HPL.out.h2
    have hp3 := HPL.out.h3
    have hp4 := HPL.out.h4
    have Hb2 : Hid (Blk w2 (w.heap.size + 1) #[.slice none 0 0] 45) := hkp.keep HM.out.bb (by omega) (by omega) (by omega)
    have Ha2 : Hid (Blk w2 (w.heap.size + 1 + 1) #[.int .i64 0] 3) := hkp.keep HM.out.ba (by omega) (by omega) (by omega)
    have He2 : Hid (Blk w2 (w.heap.size + 1 + 1 + 1) #[.int .i64 0] 29) := hkp.keep HM.out.be (by omega) (by omega) (by omega)
    have Hn2 : Hid (Blk w2 gn #[.int .i64 (k : Int)] 3) := hkp.keep HM.out.bn (by omega) (by omega) (by omega)
    have HB2 : Hid (Below w.heap.size w w2) := hkp.bel HWR.out.bel (by omega) (by omega) (by omega)
    rcases hpo with ⟨V', xs', bk', rfl, hst, hwr2⟩ | ⟨f, bk', hf, rfl, hst⟩
    case inr =>
      have HST : Hid (StepIs t (st k) (l.getD k ev0) bk' f) := by show StepIs _ _ _ _ _; rw [← HV.out]; exact hst
      have HF : Hid (f ≠ 0) := hf
      clear hst hkp
      refine leaves_cons (f := 33) (args := #[.pointer (some ⟨w.heap.size + 1 + 1 + 1, 0, none⟩), .pointer (some ⟨gn, 0, none⟩), .pointer (some ⟨w.heap.size + 1 + 1, 0, none⟩)]) (by simp) (by simp [go_sem]) ?_
      refine (of_caught (w.heap.size + 1 + 1 + 1) gn (w.heap.size + 1 + 1) 0 (k : Int) 0 f hf _ He2.out Hn2.out Ha2.out (by omega) (by omega)).mono ?_
      rintro e u' w5 ⟨rfl, hs, W, W3, hb, hU, hU2⟩
      have r0 : w5.cell? ⟨w.heap.size + 1, 0, none⟩ = some (.slice none 0 0) := (hU2.keep (hU.keep (Hb2.out.next hb) (by omega)) (by omega)).cell 0
      have r1 : w5.cell? ⟨w.heap.size + 1 + 1, 0, none⟩ = some (.int .i64 (k : Int)) := hU2.blk.cell 0
      have r2 : w5.cell? ⟨w.heap.size + 1 + 1 + 1, 0, none⟩ = some (.int .i64 f) := (hU2.keep hU.blk (by omega)).cell 0
      have HB5 : Below w.heap.size w w5 := hU2.bel _ _ (by omega) (hU.bel _ _ (by omega) (bel_step HB2.out hb))
      show Leaves _ _ _ _ [] (settle u') w5
      rw [hs]
      refine ⟨.tuple #[.agg #[.slice none 0 0], .int .i64 (k : Int), .int .i64 f], by simp [results, Try.results16, r0, r1, r2, go_sem], ?_⟩
      exact ⟨none, 0, 0, [], [], (k : Int), f, rfl, .inr (.inr ⟨HTR.out, HFEW.out, k, st, HM.out.s0, HM.out.steps, .inr ⟨HKL.out, ⟨bk', HST.out⟩, HF.out, rfl, rfl⟩⟩), sees_nil _, Nat.zero_le _, HB5⟩
    have HST : Hid (StepIs t (st k) (l.getD k ev0) bk' 0) := by show StepIs _ _ _ _ _; rw [← HV.out]; exact hst
    have HS2 : Hid (Small bk' (k + 1)) := step_small hst HM.out.small
    have HWR2 : Hid (Wr w base gW B t pt lt ct V' xs' bk' w2) := hwr2 (HS2.out.more (by omega))
    have q8 : w2.cell? ⟨gn, 0, none⟩ = some (.int .i64 (k : Int)) := Hn2.out.cell 0
    have hwk : IntKind.i64.wrap ((k : Int) + 1) = (k : Int) + 1 := by rw [IntKind.wrap_i64]; omega
    clear hst hkp hwr2 HWR
    go_wp2_with (first | (refine wp_let1 rfl 3 _ _ rfl gn 0 rfl .i64 ((k : Int) + 1) rfl (by kernel_rfl) #[.int .i64 (k : Int)] 3 Hn2.out (by simp) ?_) | fail)
    intro W3 hU
    have HWR3 : Hid (Wr w base gW B t pt lt ct V' xs' bk' W3) := HWR2.out.upd hU (by omega) (by omega) (by omega) (by omega)
    have HX3 : Hid (Blk W3 (w.heap.size + 1) #[.slice none 0 0] 45 ∧ Blk W3 (w.heap.size + 1 + 1) #[.int .i64 0] 3 ∧ Blk W3 (w.heap.size + 1 + 1 + 1) #[.int .i64 0] 29 ∧ Blk W3 gn #[.int .i64 ((k : Int) + 1)] 3) := ⟨hU.keep Hb2.out (by omega), hU.keep Ha2.out (by omega), hU.keep He2.out (by omega), hU.blk⟩
    clear hU q8 HWR2
    obtain ⟨st2, s1, s2, s3⟩ := run_more HM.out.steps HST.out
    have HM3 : Hid (Mid2 w t pt lt ct l gn base gW B (k + 1) st2 W3) := ⟨s1.trans HM.out.s0, s3, by rw [s2]; exact HS2.out, HX3.out.1, HX3.out.2.1, HX3.out.2.2.1, by have h1 := HX3.out.2.2.2; rw [show ((k : Int) + 1) = ((k + 1 : Nat) : Int) by omega] at h1; exact h1, V', xs', by rw [s2]; exact HWR3.out⟩
    clear s1 s2 s3
    go_wp2_with fail
    go_roundg (n - (k + 1))
    case rel => exact ⟨k + 1, st2, by omega, HM3.out⟩
    case measure => omega

end Go.Proofs.Ytfhlokjpdkmdjaa.book

/- Terms that came in. -/
namespace Go.Proofs.Ytfhlokjpdkmdjaa.acc
open Go.ChangeShapes Go.WideShapes Go.ChangeAt Go.RowKit Go.Deep
set_option maxRecDepth 100000
set_option linter.unusedVariables false

theorem open_terms {H : Type} {enc : TypeId × Value → H} {W : World} {r : Reach} {b0 b1 : Nat} {held : Bool} {v : Value} {d : DataW H} {ps : List MemPlace}
    (hval : Value.okWide Try.prog W r b0 40 v) (h : DataW.Trod enc Try.prog W b1 (fun _ => true) held 40 v d ps) (hs : ∀ n ∈ d.weights Try.prog 40, n ≤ reachBytes) :
    ∃ (x : Tm) (p : Option Addr) (len cap : Nat), v = x.v p len cap ∧ TCame W x p len cap := by
  have hu := Try.underlying40
  have hc : Try.prog.cellsOf 40 = 5 := by kernel_rfl
  have ci : Try.prog.cellsOf 3 = 1 := by kernel_rfl
  have csl : Try.prog.cellsOf 38 = 1 := by kernel_rfl
  obtain ⟨cs, rfl, hsz⟩ := okWide_struct hu hval
  rw [hc] at hsz
  obtain ⟨c0, c1, c2, c3, c4, rfl⟩ : ∃ c0 c1 c2 c3 c4, cs = #[c0, c1, c2, c3, c4] := by
    cases cs with
    | mk l => match l, hsz with
      | [c0, c1, c2, c3, c4], _ => exact ⟨c0, c1, c2, c3, c4, rfl⟩
  obtain ⟨fuel, hf⟩ := h
  obtain ⟨xs, n, hx, hd, _, hlen, hg⟩ := DataW.trod_struct hu hf
  match xs, hlen with
  | [y0, y1, y2, y3, y4], _ =>
    have g0 := hg 0 _ rfl
    have g1 := hg 1 _ rfl
    have g2 := hg 2 _ rfl
    have g3 := hg 3 _ rfl
    have g4 := hg 4 _ rfl
    simp [Value.cells, ci, csl] at g0 g1 g2 g3 g4
    obtain ⟨x1, e1, -, w1⟩ := DataW.trod_int Try.underlying3 g1
    obtain ⟨x2, e2, -, w2⟩ := DataW.trod_int Try.underlying3 g2
    obtain ⟨x3, e3, -, w3⟩ := DataW.trod_int Try.underlying3 g3
    obtain ⟨x4, e4, -, w4⟩ := DataW.trod_int Try.underlying3 g4
    simp at e1 e2 e3 e4
    subst e1 e2 e3 e4
    rcases Deep.open_slice_pairs Try.underlying38 Try.underlying111 (by kernel_rfl) rfl rfl (by kernel_rfl) (by kernel_rfl) g0 with ⟨hcs, _⟩ | ⟨x, l, c, mm, fu, V0, V1, D0, D1, P0, P1, hcs, _, hl, hm, hmm, hy, hall⟩
    · simp at hcs
      subst hcs
      exact ⟨⟨[], x1, x2, x3, x4⟩, none, 0, 0, rfl, ⟨tar.RowD.nil _ _, (fun _ => rfl), Nat.le_refl _, by omega, (fun x hx => by cases hx)⟩, ⟨w1, w2, w3, w4⟩⟩
    · simp at hcs
      subst hcs
      simp only [if_true] at hmm
      subst hmm
      have hr := tar.rowD_of (len := l) (w := W) (a := x) (m := mm) (by omega) (fun j hj => by
        obtain ⟨k0, k1, t0, t1⟩ := hall j hj
        obtain ⟨z0, hv0, _, hw0⟩ := DataW.trod_int Try.underlying3 t0
        obtain ⟨z1, hv1, _, hw1⟩ := DataW.trod_int Try.underlying3 t1
        simp only [List.cons.injEq, and_true] at hv0 hv1
        rw [hv0] at k0
        rw [hv1] at k1
        exact ⟨z0, z1, k0, k1, hw0, hw1⟩)
      obtain ⟨zs, r1, r2⟩ := hr
      subst hy
      obtain ⟨hd1, _⟩ := Prod.mk.inj hd
      subst hd1
      have h1 := hs ((l + (mm - l)) * Try.prog.bytesOf 111) (by simp [DataW.weights, hu, DataW.weightsEach, Try.underlying38])
      rw [show Try.prog.bytesOf 111 = 16 from by kernel_rfl] at h1
      simp only [reachBytes] at h1
      exact ⟨⟨zs, x1, x2, x3, x4⟩, some x, l, mm, rfl, ⟨r1, (fun h => by cases h), hl, by omega, r2⟩, ⟨w1, w2, w3, w4⟩⟩

end Go.Proofs.Ytfhlokjpdkmdjaa.acc

/- Events that came in. -/
namespace Go.Proofs.Ytfhlokjpdkmdjaa.book
open Go.ChangeShapes Go.WideShapes Go.ChangeAt Go.RowKit Go.Deep
set_option maxRecDepth 100000

theorem ev_cells {H : Type} {enc : TypeId × Value → H} {W : World} {b1 : Nat} {spare : Nat → Bool} {held : Bool} {fuel : Nat} {cs : List Value} {x : DataW H × List MemPlace}
    (hsz : cs.length = 13) (hf : DataW.trod enc Try.prog W b1 spare held fuel 27 cs = some x) :
    ∃ x : Ev, cs = x.cl ∧ wf13 x := by
  have hu := Try.underlying27
  have ci : Try.prog.cellsOf 3 = 1 := by kernel_rfl
  have cb : Try.prog.cellsOf 23 = 7 := by kernel_rfl
  have cd : Try.prog.cellsOf 25 = 2 := by kernel_rfl
  obtain ⟨c0, c1, c2, c3, c4, c5, c6, c7, c8, c9, c10, c11, c12, rfl⟩ : ∃ c0 c1 c2 c3 c4 c5 c6 c7 c8 c9 c10 c11 c12, cs = [c0, c1, c2, c3, c4, c5, c6, c7, c8, c9, c10, c11, c12] := by
    match cs, hsz with
    | [c0, c1, c2, c3, c4, c5, c6, c7, c8, c9, c10, c11, c12], _ => exact ⟨c0, c1, c2, c3, c4, c5, c6, c7, c8, c9, c10, c11, c12, rfl⟩
  obtain ⟨xs, n, _, _, _, hlen, hg⟩ := DataW.trod_struct hu hf
  match xs, hlen with
  | [y0, y1, y2, y3, y4, y5], _ =>
    have g0 := hg 0 _ rfl
    have g1 := hg 1 _ rfl
    have g2 := hg 2 _ rfl
    have g3 := hg 3 _ rfl
    have g4 := hg 4 _ rfl
    have g5 := hg 5 _ rfl
    simp [ci, cb, cd] at g0 g1 g2 g3 g4 g5
    obtain ⟨x0, e0, -, w0⟩ := DataW.trod_int Try.underlying3 g0
    obtain ⟨x1, e1, -, w1⟩ := DataW.trod_int Try.underlying3 g1
    obtain ⟨x2, e2, -, w2⟩ := DataW.trod_int Try.underlying3 g2
    obtain ⟨x10, e10, -, w10⟩ := DataW.trod_int Try.underlying3 g4
    obtain ⟨ys, k, _, _, _, hlen2, hq⟩ := DataW.trod_struct Try.underlying23 g3
    obtain ⟨us, k2, _, _, _, hlen3, hp⟩ := DataW.trod_struct Try.underlying25 g5
    match ys, hlen2, us, hlen3 with
    | [z0, z1, z2, z3, z4, z5, z6], _, [u0, u1], _ =>
      have q0 := hq 0 _ rfl
      have q1 := hq 1 _ rfl
      have q2 := hq 2 _ rfl
      have q3 := hq 3 _ rfl
      have q4 := hq 4 _ rfl
      have q5 := hq 5 _ rfl
      have q6 := hq 6 _ rfl
      have p0 := hp 0 _ rfl
      have p1 := hp 1 _ rfl
      simp [ci] at q0 q1 q2 q3 q4 q5 q6 p0 p1
      obtain ⟨x3, e3, -, w3⟩ := DataW.trod_int Try.underlying3 q0
      obtain ⟨x4, e4, -, w4⟩ := DataW.trod_int Try.underlying3 q1
      obtain ⟨x5, e5, -, w5⟩ := DataW.trod_int Try.underlying3 q2
      obtain ⟨x6, e6, -, w6⟩ := DataW.trod_int Try.underlying3 q3
      obtain ⟨x7, e7, -, w7⟩ := DataW.trod_int Try.underlying3 q4
      obtain ⟨x8, e8, -, w8⟩ := DataW.trod_int Try.underlying3 q5
      obtain ⟨x9, e9, -, w9⟩ := DataW.trod_int Try.underlying3 q6
      obtain ⟨x11, e11, -, w11⟩ := DataW.trod_int Try.underlying3 p0
      obtain ⟨x12, e12, -, w12⟩ := DataW.trod_int Try.underlying3 p1
      simp at e0 e1 e2 e3 e4 e5 e6 e7 e8 e9 e10 e11 e12
      subst e0 e1 e2 e3 e4 e5 e6 e7 e8 e9 e10 e11 e12
      exact ⟨⟨x0, x1, x2, x3, x4, x5, x6, x7, x8, x9, x10, x11, x12⟩, rfl, w0, w1, w2, w3, w4, w5, w6, w7, w8, w9, w10, w11, w12⟩

theorem rowE_of {w : World} {a : Addr} {m len : Nat} (hl : len ≤ m)
    (h : ∀ i, i < m → ∃ y : Ev, (∀ j, j < 13 → w.cell? (a.add (i * 13 + j)) = y.cl[j]?) ∧ wf13 y) :
    ∃ zs : List Ev, RowE w (some a) len zs ∧ ∀ x ∈ zs, wf13 x := by
  haveI : Inhabited Ev := ⟨ev0⟩
  obtain ⟨f, hf⟩ := Deep.choose_lt h
  refine ⟨(List.range len).map f, ⟨by simp, ?_⟩, fun x hx => ?_⟩
  · by_cases h0 : len = 0
    · exact .inl h0
    · obtain ⟨b, off, spot⟩ := a
      have e0 : w.cell? ((⟨b, off, spot⟩ : Addr).add (0 * 13 + 0)) = some (.int .i64 (f 0).kd) := (hf 0 (by omega)).1 0 (by omega)
      have hs : spot = none := by simpa [Addr.add] using World.cell?_spot e0
      subst hs
      refine .inr ⟨b, off, rfl, ?_, fun i j hi hj => ?_⟩
      · rw [Addr.add_lit] at e0
        exact World.block_lt_of_cell? w _ e0
      · have h1 := (hf i (by omega)).1 j hj
        rw [Addr.add_lit, ← Nat.add_assoc] at h1
        have e : ((List.range len).map f).getD i ev0 = f i := by simp [List.getD, hi]
        rw [e]
        exact h1
  · obtain ⟨j, hj, rfl⟩ := List.mem_map.1 hx
    exact (hf j (by have := List.mem_range.1 hj; omega)).2
theorem open_evs {H : Type} {enc : TypeId × Value → H} {W : World} {r : Reach} {b0 b1 : Nat} {held : Bool} {v : Value} {d : DataW H} {ps : List MemPlace}
    (hval : Value.okWide Try.prog W r b0 41 v) (h : DataW.Trod enc Try.prog W b1 (fun _ => true) held 41 v d ps) (hs : ∀ n ∈ d.weights Try.prog 41, n ≤ reachBytes) :
    ∃ (p : Option Addr) (len cap : Nat) (l : List Ev), v = .slice p len cap ∧ ECame W p len cap l := by
  have hu := Try.underlying41
  have hc : Try.prog.cellsOf 27 = 13 := by kernel_rfl
  obtain ⟨p, len, cap, rfl⟩ := okWide_slice hu hval
  obtain ⟨fuel, hf⟩ := h
  rcases Deep.open_slice hu hf with ⟨hcs, _⟩ | ⟨a, l, c, m, n, D, Pl, hcs, _, hl, hm, hmm, hy, hall⟩
  · simp [Value.cells] at hcs
    obtain ⟨rfl, rfl, rfl⟩ := hcs
    exact ⟨none, 0, 0, [], rfl, ⟨rfl, .inl rfl⟩, (fun _ => rfl), Nat.le_refl _, by omega, (fun x hx => by cases hx)⟩
  · simp [Value.cells] at hcs
    obtain ⟨rfl, rfl, rfl⟩ := hcs
    simp only [if_true] at hmm
    subst hmm
    rw [hc] at hall
    obtain ⟨zs, r1, r2⟩ := rowE_of (w := W) (a := a) (m := m) hl (fun i hi => by
      obtain ⟨cs', h1, h2⟩ := hall i hi
      obtain ⟨_, hlen, hcell⟩ := World.cells?_some h1
      obtain ⟨y, rfl, hw⟩ := ev_cells hlen h2
      exact ⟨y, fun j hj => by have := hcell j hj; rwa [Deep.add_add] at this, hw⟩)
    obtain ⟨hd1, _⟩ := Prod.mk.inj hy
    subst hd1
    have h1 := hs ((len + (m - len)) * Try.prog.bytesOf 27) (by simp [DataW.weights, hu])
    rw [show Try.prog.bytesOf 27 = 104 from by kernel_rfl] at h1
    simp only [reachBytes] at h1
    exact ⟨some a, len, m, zs, rfl, r1, (fun h => by cases h), hl, by omega, r2⟩

end Go.Proofs.Ytfhlokjpdkmdjaa.book
