/- The statement AccountGrants. -/
import Derived.Test.YtlolippocnngcaaKcG
import Derived.Test.YtlolippocnngcaaAcGr
import Derived.Test.YtlolippocnngcaaAcEb
import Derived.Test.YtlolippocnngcaaAcCt
import Derived.Test.YtlolippocnngcaaOpAt
import Derived.Deep.RegionHeld
import Derived.Test.YtlolippocnngcaaAcCa
import Derived.Test.YtlolippocnngcaaAcSa
import Derived.Test.YtlolippocnngcaaLetG
import Derived.Deep.DeepCutAuto
namespace Go.Proofs.Ytlolippocnngcaa.acc
open Go.Proofs.Ytlolippocnngcaa.tar (Du du0 Came RowD Ld PairT)
open Go.RowKit
set_option maxRecDepth 100000
set_option linter.unusedVariables false
set_option linter.unusedSimpArgs false

set_option maxHeartbeats 8000000 in
theorem AccountGrants_walk (K : KcGrant) (x : Ac) (p : Option Addr) (len cap : Nat) (t : Tm) (pt : Option Addr) (lt ct : Nat) (m : Int) (w : World) (h : ACame w x p len cap) (ht : TCame w t pt lt ct) (hm : (Lit.int .i64 m).wf = true) : Calls Try.prog 7 #[x.v p len cap, t.v pt lt ct, .int .i64 m] w fun e w' => e = .returned (.bool true) ∧ Below w.heap.size w w' := by
  have HWF : Hid (wf6 x) := h.wf
  have HWT : Hid (wf4 t) := ht.wf
  unfold Ac.v Ac.cs Tm.v
  have H0x : Hid (Blk ((w.alloc (.cells #[.int .i64 x.me, .int .i64 x.rv, .int .i64 x.nx, .int .i64 x.mo, .int .i64 x.bo, .int .i64 x.fr, .slice p len cap] 32)).alloc (.cells #[.slice pt lt ct, .int .i64 t.ff, .int .i64 t.fb, .int .i64 t.db, .int .i64 t.al] 24)) (w.heap.size) #[.int .i64 x.me, .int .i64 x.rv, .int .i64 x.nx, .int .i64 x.mo, .int .i64 x.bo, .int .i64 x.fr, .slice p len cap] 32) := (Blk.new w _ _).alloc _
  have H0t : Hid (Blk ((w.alloc (.cells #[.int .i64 x.me, .int .i64 x.rv, .int .i64 x.nx, .int .i64 x.mo, .int .i64 x.bo, .int .i64 x.fr, .slice p len cap] 32)).alloc (.cells #[.slice pt lt ct, .int .i64 t.ff, .int .i64 t.fb, .int .i64 t.db, .int .i64 t.al] 24)) (w.heap.size + 1) #[.slice pt lt ct, .int .i64 t.ff, .int .i64 t.fb, .int .i64 t.db, .int .i64 t.al] 24) := Blk.new1 w _ _ _
  have H0B : Hid (Below w.heap.size w ((w.alloc (.cells #[.int .i64 x.me, .int .i64 x.rv, .int .i64 x.nx, .int .i64 x.mo, .int .i64 x.bo, .int .i64 x.fr, .slice p len cap] 32)).alloc (.cells #[.slice pt lt ct, .int .i64 t.ff, .int .i64 t.fb, .int .i64 t.db, .int .i64 t.al] 24))) := ((Below.refl w.heap.size w).alloc (by simp) _).alloc (by simp) _
  have H0C : Hid (ACame ((w.alloc (.cells #[.int .i64 x.me, .int .i64 x.rv, .int .i64 x.nx, .int .i64 x.mo, .int .i64 x.bo, .int .i64 x.fr, .slice p len cap] 32)).alloc (.cells #[.slice pt lt ct, .int .i64 t.ff, .int .i64 t.fb, .int .i64 t.db, .int .i64 t.al] 24)) x p len cap) := h.below H0B.out
  have H0T : Hid (TCame ((w.alloc (.cells #[.int .i64 x.me, .int .i64 x.rv, .int .i64 x.nx, .int .i64 x.mo, .int .i64 x.bo, .int .i64 x.fr, .slice p len cap] 32)).alloc (.cells #[.slice pt lt ct, .int .i64 t.ff, .int .i64 t.fb, .int .i64 t.db, .int .i64 t.al] 24)) t pt lt ct) := ht.below H0B.out
  have hs0 : w.heap.size + 1 < ((w.alloc (.cells #[.int .i64 x.me, .int .i64 x.rv, .int .i64 x.nx, .int .i64 x.mo, .int .i64 x.bo, .int .i64 x.fr, .slice p len cap] 32)).alloc (.cells #[.slice pt lt ct, .int .i64 t.ff, .int .i64 t.fb, .int .i64 t.db, .int .i64 t.al] 24)).heap.size := H0t.out.lt
  generalize hWW : ((w.alloc (.cells #[.int .i64 x.me, .int .i64 x.rv, .int .i64 x.nx, .int .i64 x.mo, .int .i64 x.bo, .int .i64 x.fr, .slice p len cap] 32)).alloc (.cells #[.slice pt lt ct, .int .i64 t.ff, .int .i64 t.fb, .int .i64 t.db, .int .i64 t.al] 24)) = W0 at *
  have HWW : Hid (((w.alloc (.cells #[.int .i64 x.me, .int .i64 x.rv, .int .i64 x.nx, .int .i64 x.mo, .int .i64 x.bo, .int .i64 x.fr, .slice p len cap] 32)).alloc (.cells #[.slice pt lt ct, .int .i64 t.ff, .int .i64 t.fb, .int .i64 t.db, .int .i64 t.al] 24)) = W0) := hWW
  clear hWW
  go_enter Try.func7, Try.ntmps7
  go_upto_region 1 with fail
  rw [HWW.out]
  clear HWW
  have HAC : Hid (Calls Try.prog 16 #[.agg #[.int .i64 x.me, .int .i64 x.rv, .int .i64 x.nx, .int .i64 x.mo, .int .i64 x.bo, .int .i64 x.fr, .slice p len cap]] W0 fun e w' => ∃ p' cap', e = .returned (x.v p' len cap') ∧ deb.Fresh w' W0.heap.size p' len cap' x.ds ∧ Below W0.heap.size W0 w') := accounts_any x p len cap W0 H0C.out
  clear h ht
  go_wp2_with (first
    | (refine wp_whole rfl 32 _ rfl (w.heap.size) rfl 32 #[.int .i64 x.me, .int .i64 x.rv, .int .i64 x.nx, .int .i64 x.mo, .int .i64 x.bo, .int .i64 x.fr, .slice p len cap] _ H0x.out Try.underlying32 rfl (by kernel_rfl) ?_)
    | (refine wp_wholeG (by rfl) 32 _ rfl (w.heap.size) rfl 32 #[.int .i64 x.me, .int .i64 x.rv, .int .i64 x.nx, .int .i64 x.mo, .int .i64 x.bo, .int .i64 x.fr, .slice p len cap] _ H0x.out Try.underlying32 rfl (by kernel_rfl) ?_)
    | (refine wp_whole rfl 24 _ rfl (w.heap.size + 1) rfl 24 #[.slice pt lt ct, .int .i64 t.ff, .int .i64 t.fb, .int .i64 t.db, .int .i64 t.al] _ H0t.out Try.underlying24 rfl (by kernel_rfl) ?_)
    | (refine wp_wholeG (by rfl) 24 _ rfl (w.heap.size + 1) rfl 24 #[.slice pt lt ct, .int .i64 t.ff, .int .i64 t.fb, .int .i64 t.db, .int .i64 t.al] _ H0t.out Try.underlying24 rfl (by kernel_rfl) ?_)
    | fail)
  refine HAC.out.mono ?_
  rintro e w2 ⟨p2, c2, rfl, hf2, hb2⟩
  have H1x : Hid (Blk w2 (w.heap.size) #[.int .i64 x.me, .int .i64 x.rv, .int .i64 x.nx, .int .i64 x.mo, .int .i64 x.bo, .int .i64 x.fr, .slice p len cap] 32) := H0x.out.next hb2
  have H1t : Hid (Blk w2 (w.heap.size + 1) #[.slice pt lt ct, .int .i64 t.ff, .int .i64 t.fb, .int .i64 t.db, .int .i64 t.al] 24) := H0t.out.next hb2
  have H1C : Hid (ACame w2 x p len cap) := H0C.out.below hb2
  have H1T : Hid (TCame w2 t pt lt ct) := H0T.out.below hb2
  have H1B : Hid (Below w.heap.size w w2) := H0B.out.trans (hb2.mono H0B.out.size)
  have hsw2 : W0.heap.size ≤ w2.heap.size := hb2.size
  clear hb2 H0x H0t H0C H0T H0B
  unfold Ac.v Ac.cs
  have H2D : Hid (ACame w2 x p2 len c2) := ⟨hf2.came, HWF.out⟩
  clear hf2 HAC
  have H3x : Hid (Blk (w2.alloc (.cells #[.int .i64 x.me, .int .i64 x.rv, .int .i64 x.nx, .int .i64 x.mo, .int .i64 x.bo, .int .i64 x.fr, .slice p2 len c2] 32)) (w.heap.size) #[.int .i64 x.me, .int .i64 x.rv, .int .i64 x.nx, .int .i64 x.mo, .int .i64 x.bo, .int .i64 x.fr, .slice p len cap] 32) := H1x.out.alloc _
  have H3t : Hid (Blk (w2.alloc (.cells #[.int .i64 x.me, .int .i64 x.rv, .int .i64 x.nx, .int .i64 x.mo, .int .i64 x.bo, .int .i64 x.fr, .slice p2 len c2] 32)) (w.heap.size + 1) #[.slice pt lt ct, .int .i64 t.ff, .int .i64 t.fb, .int .i64 t.db, .int .i64 t.al] 24) := H1t.out.alloc _
  have H3C : Hid (ACame (w2.alloc (.cells #[.int .i64 x.me, .int .i64 x.rv, .int .i64 x.nx, .int .i64 x.mo, .int .i64 x.bo, .int .i64 x.fr, .slice p2 len c2] 32)) x p len cap) := H1C.out.below ((Below.refl w2.heap.size w2).alloc (Nat.le_refl _) _)
  have H3T : Hid (TCame (w2.alloc (.cells #[.int .i64 x.me, .int .i64 x.rv, .int .i64 x.nx, .int .i64 x.mo, .int .i64 x.bo, .int .i64 x.fr, .slice p2 len c2] 32)) t pt lt ct) := H1T.out.below ((Below.refl w2.heap.size w2).alloc (Nat.le_refl _) _)
  have H3D : Hid (ACame (w2.alloc (.cells #[.int .i64 x.me, .int .i64 x.rv, .int .i64 x.nx, .int .i64 x.mo, .int .i64 x.bo, .int .i64 x.fr, .slice p2 len c2] 32)) x p2 len c2) := H2D.out.below ((Below.refl w2.heap.size w2).alloc (Nat.le_refl _) _)
  have H3c : Hid (Blk (w2.alloc (.cells #[.int .i64 x.me, .int .i64 x.rv, .int .i64 x.nx, .int .i64 x.mo, .int .i64 x.bo, .int .i64 x.fr, .slice p2 len c2] 32)) w2.heap.size #[.int .i64 x.me, .int .i64 x.rv, .int .i64 x.nx, .int .i64 x.mo, .int .i64 x.bo, .int .i64 x.fr, .slice p2 len c2] 32) := Blk.new w2 _ _
  have H3B : Hid (Below w.heap.size w (w2.alloc (.cells #[.int .i64 x.me, .int .i64 x.rv, .int .i64 x.nx, .int .i64 x.mo, .int .i64 x.bo, .int .i64 x.fr, .slice p2 len c2] 32))) := H1B.out.alloc H1B.out.size _
  have hsW3 : w2.heap.size < (w2.alloc (.cells #[.int .i64 x.me, .int .i64 x.rv, .int .i64 x.nx, .int .i64 x.mo, .int .i64 x.bo, .int .i64 x.fr, .slice p2 len c2] 32)).heap.size := (Blk.new w2 #[.int .i64 x.me, .int .i64 x.rv, .int .i64 x.nx, .int .i64 x.mo, .int .i64 x.bo, .int .i64 x.fr, .slice p2 len c2] 32).lt
  clear H1x H1t H1C H1T H2D H1B
  go_upto_region 2 with fail
  generalize (w2.alloc (.cells #[.int .i64 x.me, .int .i64 x.rv, .int .i64 x.nx, .int .i64 x.mo, .int .i64 x.bo, .int .i64 x.fr, .slice p2 len c2] 32)) = W3 at *
  have HTC : Hid (∀ W, Below W3.heap.size W3 W → Calls Try.prog 9 #[.agg #[.slice pt lt ct, .int .i64 t.ff, .int .i64 t.fb, .int .i64 t.db, .int .i64 t.al]] W fun e w' => ∃ p' cap', e = .returned (t.v p' lt cap') ∧ deb.Fresh w' W.heap.size p' lt cap' t.ts ∧ Below W.heap.size W w') := fun W hW => terms_any t pt lt ct W (H3T.out.below hW)
  have HGR : Hid (∀ W p4 c4, Below W3.heap.size W3 W → Came W p4 lt c4 t.ts → Calls Try.prog 21 #[.agg #[.int .i64 x.me, .int .i64 x.rv, .int .i64 x.nx, .int .i64 x.mo, .int .i64 x.bo, .int .i64 x.fr, .slice p2 len c2], .agg #[.slice p4 lt c4, .int .i64 t.ff, .int .i64 t.fb, .int .i64 t.db, .int .i64 t.al], .int .i64 m] W fun e w' => BPost W (GrantIs x t m) e w') := fun W p4 c4 hW hU => K W x p2 len c2 t p4 lt c4 m (H3D.out.below hW) ⟨hU, HWT.out⟩ hm
  go_cut [8, 9, 10] (fun v8 v9 v10 wc => ∃ (g8 g9 : Nat) (b : Ac) (l : Bi) (pb : Option Addr) (lb cb : Nat) (fb : Int), v8 = .pointer (some ⟨g8, 0, none⟩) ∧ v9 = .pointer (some ⟨g9, 0, none⟩) ∧ v10 = .int .i64 fb ∧ Blk wc g8 #[.int .i64 b.me, .int .i64 b.rv, .int .i64 b.nx, .int .i64 b.mo, .int .i64 b.bo, .int .i64 b.fr, .slice pb lb cb] 32 ∧ Blk wc g9 #[.int .i64 l.id, .int .i64 l.te, .int .i64 l.de, .int .i64 l.fe, .int .i64 l.pr, .int .i64 l.ch, .int .i64 l.un] 41 ∧ GrantIs x t m b l fb ∧ Came wc pb lb cb b.ds ∧ Below W3.heap.size W3 wc)
  case first =>
    clear H3x H3C H3T H3D H3B
    have HB0 : Hid (Below W3.heap.size W3 W3.drew) := (Below.refl _ _).drew
    refine wp_region_held_drew (S := fun v => Below W3.heap.size W3 v) (by kernel_rfl) HB0.out (fun hHeld => ?_)
    refine take_at 0 17 (.agg #[.int .i64 x.me, .int .i64 x.rv, .int .i64 x.nx, .int .i64 x.mo, .int .i64 x.bo, .int .i64 x.fr, .slice p2 len c2]) _ rfl rfl (by kernel_rfl) (by kernel_rfl) (by kernel_rfl) (fun _ _ _ h => h) (yieldsIf_whole (by rfl) 32 _ rfl (w2.heap.size) rfl 32 #[.int .i64 x.me, .int .i64 x.rv, .int .i64 x.nx, .int .i64 x.mo, .int .i64 x.bo, .int .i64 x.fr, .slice p2 len c2] _ (fun v hv => H3c.out.next hv) Try.underlying32 rfl (by kernel_rfl)) hHeld ?_
    simp only [Act.put, List.setIfInBounds_toArray, List.set_cons_zero, List.set_cons_succ]
    refine take_at 1 18 (.agg #[.slice pt lt ct, .int .i64 t.ff, .int .i64 t.fb, .int .i64 t.db, .int .i64 t.al]) _ rfl rfl (by kernel_rfl) (by kernel_rfl) (by kernel_rfl) (fun _ _ _ h => h) (yieldsIf_whole (by rfl) 24 _ rfl (w.heap.size + 1) rfl 24 #[.slice pt lt ct, .int .i64 t.ff, .int .i64 t.fb, .int .i64 t.db, .int .i64 t.al] _ (fun v hv => H3t.out.next hv) Try.underlying24 rfl (by kernel_rfl)) hHeld ?_
    simp only [Act.put, List.setIfInBounds_toArray, List.set_cons_zero, List.set_cons_succ]
    refine take_at 3 20 (.int .i64 m) _ rfl rfl (by kernel_rfl) (by kernel_rfl) (by kernel_rfl) (fun _ _ _ h => h) (Or.inl ⟨by rfl, fun v hv => by clear hv; go_simp⟩) hHeld ?_
    simp only [Act.put, List.setIfInBounds_toArray, List.set_cons_zero, List.set_cons_succ]
    generalize W3.drew = U0 at *
    clear H3c H3t
    refine wpAnyH_ready (rs := [2, 9, 10]) (by kernel_rfl) (by simp) (AllReadyH.cons rfl (fun K hK => ?_) (AllReadyH.cons rfl (fun K hK => ?_) (AllReadyH.cons rfl (fun K hK => ?_) AllReadyH.nil)))
    · rw [if_pos (by rfl)]
      refine wp_callOp 19 rfl (by clear hK; go_simp) (HTC.out U0 HB0.out) ?_
      rintro e U1 ⟨p4, c4, rfl, hf, hb⟩
      have HB1 : Hid (Below W3.heap.size W3 U1) := bel_step HB0.out hb
      have FU1 : Hid (Came U1 p4 lt c4 t.ts) := hf.came
      refine ⟨_, rfl, hK.out _ _ HB1.out (fun hHeld => ?_)⟩
      clear hK hf hb HB0
      simp only [Act.put, List.setIfInBounds_toArray, List.set_cons_zero, List.set_cons_succ]
      unfold Tm.v
      refine wpAnyH_ready (rs := [4, 9, 10]) (by kernel_rfl) (by simp) (AllReadyH.cons rfl (fun K hK => ?_) (AllReadyH.cons rfl (fun K hK => ?_) (AllReadyH.cons rfl (fun K hK => ?_) AllReadyH.nil)))
      · rw [if_pos (by rfl)]
        refine wp_callOp 21 rfl (by clear hK; go_simp) (HGR.out U1 p4 c4 HB1.out FU1.out) ?_
        rintro e U2 ⟨b, l, pb, lb, cb, fb, rfl, hi, hf, hb⟩
        have HB2 : Hid (Below W3.heap.size W3 U2) := bel_step HB1.out hb
        have FE2 : Hid (Came U2 pb lb cb b.ds) := hf.came
        have HI : Hid (GrantIs x t m b l fb) := hi
        refine ⟨_, rfl, hK.out _ _ HB2.out (fun hHeld => ?_)⟩
        clear hK hi hf hb HB1 FU1
        simp only [Act.put, List.setIfInBounds_toArray, List.set_cons_zero, List.set_cons_succ]
        unfold Ac.v Ac.cs Bi.v
        refine take_at 5 16 (.tuple #[.agg #[.int .i64 b.me, .int .i64 b.rv, .int .i64 b.nx, .int .i64 b.mo, .int .i64 b.bo, .int .i64 b.fr, .slice pb lb cb], .agg #[.int .i64 l.id, .int .i64 l.te, .int .i64 l.de, .int .i64 l.fe, .int .i64 l.pr, .int .i64 l.ch, .int .i64 l.un], .int .i64 fb]) _ rfl rfl (by kernel_rfl) (by kernel_rfl) (by kernel_rfl) (fun _ _ _ h => h) (Or.inl ⟨by rfl, fun v hv => by clear hv; go_simp⟩) hHeld ?_
        simp only [Act.put, List.setIfInBounds_toArray, List.set_cons_zero, List.set_cons_succ]
        refine take_at 6 22 (.agg #[.int .i64 b.me, .int .i64 b.rv, .int .i64 b.nx, .int .i64 b.mo, .int .i64 b.bo, .int .i64 b.fr, .slice pb lb cb]) _ rfl rfl (by kernel_rfl) (by kernel_rfl) (by kernel_rfl) (fun _ _ _ h => h) (Or.inl ⟨by rfl, fun v hv => by clear hv; go_simp⟩) hHeld ?_
        simp only [Act.put, List.setIfInBounds_toArray, List.set_cons_zero, List.set_cons_succ]
        refine take_at 7 23 (.agg #[.int .i64 l.id, .int .i64 l.te, .int .i64 l.de, .int .i64 l.fe, .int .i64 l.pr, .int .i64 l.ch, .int .i64 l.un]) _ rfl rfl (by kernel_rfl) (by kernel_rfl) (by kernel_rfl) (fun _ _ _ h => h) (Or.inl ⟨by rfl, fun v hv => by clear hv; go_simp⟩) hHeld ?_
        simp only [Act.put, List.setIfInBounds_toArray, List.set_cons_zero, List.set_cons_succ]
        refine take_at 8 24 (.int .i64 fb) _ rfl rfl (by kernel_rfl) (by kernel_rfl) (by kernel_rfl) (fun _ _ _ h => h) (Or.inl ⟨by rfl, fun v hv => by clear hv; go_simp⟩) hHeld ?_
        simp only [Act.put, List.setIfInBounds_toArray, List.set_cons_zero, List.set_cons_succ]
        refine wpAnyH_ready (rs := [9, 10]) (by kernel_rfl) (by simp) (AllReadyH.cons rfl (fun K hK => ?_) (AllReadyH.cons rfl (fun K hK => ?_) AllReadyH.nil))
        · rw [if_pos (by rfl)]
          have HB3 : Hid (Below W3.heap.size W3 (U2.alloc (.cells #[.int .i64 0, .int .i64 0, .int .i64 0, .int .i64 0, .int .i64 0, .int .i64 0, .slice none 0 0] 32))) := HB2.out.alloc HB2.out.size _
          have HG9 : Hid (W3.heap.size ≤ U2.heap.size) := HB2.out.size
          have FE3 : Hid (Came (U2.alloc (.cells #[.int .i64 0, .int .i64 0, .int .i64 0, .int .i64 0, .int .i64 0, .int .i64 0, .slice none 0 0] 32)) pb lb cb b.ds) := FE2.out.below ((Below.refl _ _).alloc (Nat.le_refl _) _)
          have HEE9 : Hid (0 < lb → ∀ y, pb = some y → y.block ≠ U2.heap.size) := fun hn y hy => Nat.ne_of_lt (came_lt FE2.out hn y hy)
          have G93 : Hid (Blk (U2.alloc (.cells #[.int .i64 0, .int .i64 0, .int .i64 0, .int .i64 0, .int .i64 0, .int .i64 0, .slice none 0 0] 32)) U2.heap.size #[.int .i64 0, .int .i64 0, .int .i64 0, .int .i64 0, .int .i64 0, .int .i64 0, .slice none 0 0] 32) := Blk.new _ _ _
          refine wp_runOp (v := .pointer (some ⟨U2.heap.size, 0, none⟩)) (w' := (U2.alloc (.cells #[.int .i64 0, .int .i64 0, .int .i64 0, .int .i64 0, .int .i64 0, .int .i64 0, .slice none 0 0] 32))) 8 rfl (by clear hK; go_simp) ?_
          refine hK.out _ _ HB3.out (fun hHeld => ?_)
          clear hK HB2 FE2
          simp only [Act.put, List.setIfInBounds_toArray, List.set_cons_zero, List.set_cons_succ]
          generalize U2.heap.size = g9 at *
          generalize U2.alloc _ = U3 at *
          refine wpAnyH_ready (rs := [10]) (by kernel_rfl) (by simp) (AllReadyH.cons rfl (fun K hK => ?_) AllReadyH.nil)
          rw [if_pos (by rfl)]
          have HB4 : Hid (Below W3.heap.size W3 (U3.alloc (.cells #[.int .i64 0, .int .i64 0, .int .i64 0, .int .i64 0, .int .i64 0, .int .i64 0, .int .i64 0] 41))) := HB3.out.alloc HB3.out.size _
          have HG10 : Hid (W3.heap.size ≤ U3.heap.size) := HB3.out.size
          have FE4 : Hid (Came (U3.alloc (.cells #[.int .i64 0, .int .i64 0, .int .i64 0, .int .i64 0, .int .i64 0, .int .i64 0, .int .i64 0] 41)) pb lb cb b.ds) := FE3.out.below ((Below.refl _ _).alloc (Nat.le_refl _) _)
          have HEE10 : Hid (0 < lb → ∀ y, pb = some y → y.block ≠ U3.heap.size) := fun hn y hy => Nat.ne_of_lt (came_lt FE3.out hn y hy)
          have HD910 : Hid (g9 ≠ U3.heap.size) := Nat.ne_of_lt G93.out.lt
          have G94 : Hid (Blk (U3.alloc (.cells #[.int .i64 0, .int .i64 0, .int .i64 0, .int .i64 0, .int .i64 0, .int .i64 0, .int .i64 0] 41)) g9 #[.int .i64 0, .int .i64 0, .int .i64 0, .int .i64 0, .int .i64 0, .int .i64 0, .slice none 0 0] 32) := G93.out.alloc _
          have G104 : Hid (Blk (U3.alloc (.cells #[.int .i64 0, .int .i64 0, .int .i64 0, .int .i64 0, .int .i64 0, .int .i64 0, .int .i64 0] 41)) U3.heap.size #[.int .i64 0, .int .i64 0, .int .i64 0, .int .i64 0, .int .i64 0, .int .i64 0, .int .i64 0] 41) := Blk.new _ _ _
          refine wp_runOp (v := .pointer (some ⟨U3.heap.size, 0, none⟩)) (w' := (U3.alloc (.cells #[.int .i64 0, .int .i64 0, .int .i64 0, .int .i64 0, .int .i64 0, .int .i64 0, .int .i64 0] 41))) 9 rfl (by clear hK; go_simp) ?_
          refine hK.out _ _ HB4.out (fun hHeld => ?_)
          clear hK HB3 FE3 G93
          simp only [Act.put, List.setIfInBounds_toArray, List.set_cons_zero, List.set_cons_succ]
          generalize U3.heap.size = g10 at *
          generalize U3.alloc _ = U4 at *
          refine wpAnyH_ready (rs := [11]) (by kernel_rfl) (by simp) (AllReadyH.cons rfl (fun K hK => ?_) AllReadyH.nil)
          rw [if_pos (by rfl)]
          refine wp_letOp 32 _ _ rfl g9 rfl #[.int .i64 b.me, .int .i64 b.rv, .int .i64 b.nx, .int .i64 b.mo, .int .i64 b.bo, .int .i64 b.fr, .slice pb lb cb] rfl (by kernel_rfl) (by simp [Value.oneCell']) #[.int .i64 0, .int .i64 0, .int .i64 0, .int .i64 0, .int .i64 0, .int .i64 0, .slice none 0 0] 32 G94.out rfl rfl ?_
          intro U5 hU
          have HB5 : Hid (Below W3.heap.size W3 U5) := hU.bel _ _ HG9.out HB4.out
          have FE5 : Hid (Came U5 pb lb cb b.ds) := came_upd FE4.out hU HEE9.out
          have G95 : Hid (Blk U5 g9 #[.int .i64 b.me, .int .i64 b.rv, .int .i64 b.nx, .int .i64 b.mo, .int .i64 b.bo, .int .i64 b.fr, .slice pb lb cb] 32) := hU.blk
          have G105 : Hid (Blk U5 g10 #[.int .i64 0, .int .i64 0, .int .i64 0, .int .i64 0, .int .i64 0, .int .i64 0, .int .i64 0] 41) := hU.keep G104.out (by have := HD910.out; omega)
          refine hK.out _ _ HB5.out (fun hHeld => ?_)
          clear hK hU HB4 FE4 G94 G104
          refine wpAnyH_ready (rs := [12]) (by kernel_rfl) (by simp) (AllReadyH.cons rfl (fun K hK => ?_) AllReadyH.nil)
          rw [if_pos (by rfl)]
          refine wp_letOp 41 _ _ rfl g10 rfl #[.int .i64 l.id, .int .i64 l.te, .int .i64 l.de, .int .i64 l.fe, .int .i64 l.pr, .int .i64 l.ch, .int .i64 l.un] rfl (by kernel_rfl) (by simp [Value.oneCell']) #[.int .i64 0, .int .i64 0, .int .i64 0, .int .i64 0, .int .i64 0, .int .i64 0, .int .i64 0] 41 G105.out rfl rfl ?_
          intro U6 hU
          have HB6 : Hid (Below W3.heap.size W3 U6) := hU.bel _ _ HG10.out HB5.out
          have FE6 : Hid (Came U6 pb lb cb b.ds) := came_upd FE5.out hU HEE10.out
          have G96 : Hid (Blk U6 g9 #[.int .i64 b.me, .int .i64 b.rv, .int .i64 b.nx, .int .i64 b.mo, .int .i64 b.bo, .int .i64 b.fr, .slice pb lb cb] 32) := hU.keep G95.out (by have := HD910.out; omega)
          have G106 : Hid (Blk U6 g10 #[.int .i64 l.id, .int .i64 l.te, .int .i64 l.de, .int .i64 l.fe, .int .i64 l.pr, .int .i64 l.ch, .int .i64 l.un] 41) := hU.blk
          refine hK.out _ _ HB6.out (fun hHeld => ?_)
          clear hK hU HB5 FE5 G95 G105
          refine take_at 13 10 (.int .i64 fb) _ rfl rfl (by kernel_rfl) (by kernel_rfl) (by kernel_rfl) (fun _ _ _ h => h) (Or.inl ⟨by rfl, fun v hv => by clear hv; go_simp⟩) hHeld ?_
          simp only [Act.put, List.setIfInBounds_toArray, List.set_cons_zero, List.set_cons_succ]
          refine wpAnyH_done (by kernel_rfl) ?_ _
          clear hHeld
          go_wp2_with fail
          go_meet
          case rel => exact ⟨g9, g10, b, l, pb, lb, cb, fb, rfl, rfl, rfl, G96.out, G106.out, HI.out, FE6.out, HB6.out⟩
        · rw [if_pos (by rfl)]
          have HB3 : Hid (Below W3.heap.size W3 (U2.alloc (.cells #[.int .i64 0, .int .i64 0, .int .i64 0, .int .i64 0, .int .i64 0, .int .i64 0, .int .i64 0] 41))) := HB2.out.alloc HB2.out.size _
          have HG10 : Hid (W3.heap.size ≤ U2.heap.size) := HB2.out.size
          have FE3 : Hid (Came (U2.alloc (.cells #[.int .i64 0, .int .i64 0, .int .i64 0, .int .i64 0, .int .i64 0, .int .i64 0, .int .i64 0] 41)) pb lb cb b.ds) := FE2.out.below ((Below.refl _ _).alloc (Nat.le_refl _) _)
          have HEE10 : Hid (0 < lb → ∀ y, pb = some y → y.block ≠ U2.heap.size) := fun hn y hy => Nat.ne_of_lt (came_lt FE2.out hn y hy)
          have G103 : Hid (Blk (U2.alloc (.cells #[.int .i64 0, .int .i64 0, .int .i64 0, .int .i64 0, .int .i64 0, .int .i64 0, .int .i64 0] 41)) U2.heap.size #[.int .i64 0, .int .i64 0, .int .i64 0, .int .i64 0, .int .i64 0, .int .i64 0, .int .i64 0] 41) := Blk.new _ _ _
          refine wp_runOp (v := .pointer (some ⟨U2.heap.size, 0, none⟩)) (w' := (U2.alloc (.cells #[.int .i64 0, .int .i64 0, .int .i64 0, .int .i64 0, .int .i64 0, .int .i64 0, .int .i64 0] 41))) 9 rfl (by clear hK; go_simp) ?_
          refine hK.out _ _ HB3.out (fun hHeld => ?_)
          clear hK HB2 FE2
          simp only [Act.put, List.setIfInBounds_toArray, List.set_cons_zero, List.set_cons_succ]
          generalize U2.heap.size = g10 at *
          generalize U2.alloc _ = U3 at *
          refine wpAnyH_ready (rs := [9]) (by kernel_rfl) (by simp) (AllReadyH.cons rfl (fun K hK => ?_) AllReadyH.nil)
          rw [if_pos (by rfl)]
          have HB4 : Hid (Below W3.heap.size W3 (U3.alloc (.cells #[.int .i64 0, .int .i64 0, .int .i64 0, .int .i64 0, .int .i64 0, .int .i64 0, .slice none 0 0] 32))) := HB3.out.alloc HB3.out.size _
          have HG9 : Hid (W3.heap.size ≤ U3.heap.size) := HB3.out.size
          have FE4 : Hid (Came (U3.alloc (.cells #[.int .i64 0, .int .i64 0, .int .i64 0, .int .i64 0, .int .i64 0, .int .i64 0, .slice none 0 0] 32)) pb lb cb b.ds) := FE3.out.below ((Below.refl _ _).alloc (Nat.le_refl _) _)
          have HEE9 : Hid (0 < lb → ∀ y, pb = some y → y.block ≠ U3.heap.size) := fun hn y hy => Nat.ne_of_lt (came_lt FE3.out hn y hy)
          have HD109 : Hid (g10 ≠ U3.heap.size) := Nat.ne_of_lt G103.out.lt
          have G104 : Hid (Blk (U3.alloc (.cells #[.int .i64 0, .int .i64 0, .int .i64 0, .int .i64 0, .int .i64 0, .int .i64 0, .slice none 0 0] 32)) g10 #[.int .i64 0, .int .i64 0, .int .i64 0, .int .i64 0, .int .i64 0, .int .i64 0, .int .i64 0] 41) := G103.out.alloc _
          have G94 : Hid (Blk (U3.alloc (.cells #[.int .i64 0, .int .i64 0, .int .i64 0, .int .i64 0, .int .i64 0, .int .i64 0, .slice none 0 0] 32)) U3.heap.size #[.int .i64 0, .int .i64 0, .int .i64 0, .int .i64 0, .int .i64 0, .int .i64 0, .slice none 0 0] 32) := Blk.new _ _ _
          refine wp_runOp (v := .pointer (some ⟨U3.heap.size, 0, none⟩)) (w' := (U3.alloc (.cells #[.int .i64 0, .int .i64 0, .int .i64 0, .int .i64 0, .int .i64 0, .int .i64 0, .slice none 0 0] 32))) 8 rfl (by clear hK; go_simp) ?_
          refine hK.out _ _ HB4.out (fun hHeld => ?_)
          clear hK HB3 FE3 G103
          simp only [Act.put, List.setIfInBounds_toArray, List.set_cons_zero, List.set_cons_succ]
          generalize U3.heap.size = g9 at *
          generalize U3.alloc _ = U4 at *
          refine wpAnyH_ready (rs := [11]) (by kernel_rfl) (by simp) (AllReadyH.cons rfl (fun K hK => ?_) AllReadyH.nil)
          rw [if_pos (by rfl)]
          refine wp_letOp 32 _ _ rfl g9 rfl #[.int .i64 b.me, .int .i64 b.rv, .int .i64 b.nx, .int .i64 b.mo, .int .i64 b.bo, .int .i64 b.fr, .slice pb lb cb] rfl (by kernel_rfl) (by simp [Value.oneCell']) #[.int .i64 0, .int .i64 0, .int .i64 0, .int .i64 0, .int .i64 0, .int .i64 0, .slice none 0 0] 32 G94.out rfl rfl ?_
          intro U5 hU
          have HB5 : Hid (Below W3.heap.size W3 U5) := hU.bel _ _ HG9.out HB4.out
          have FE5 : Hid (Came U5 pb lb cb b.ds) := came_upd FE4.out hU HEE9.out
          have G105 : Hid (Blk U5 g10 #[.int .i64 0, .int .i64 0, .int .i64 0, .int .i64 0, .int .i64 0, .int .i64 0, .int .i64 0] 41) := hU.keep G104.out (by have := HD109.out; omega)
          have G95 : Hid (Blk U5 g9 #[.int .i64 b.me, .int .i64 b.rv, .int .i64 b.nx, .int .i64 b.mo, .int .i64 b.bo, .int .i64 b.fr, .slice pb lb cb] 32) := hU.blk
          refine hK.out _ _ HB5.out (fun hHeld => ?_)
          clear hK hU HB4 FE4 G104 G94
          refine wpAnyH_ready (rs := [12]) (by kernel_rfl) (by simp) (AllReadyH.cons rfl (fun K hK => ?_) AllReadyH.nil)
          rw [if_pos (by rfl)]
          refine wp_letOp 41 _ _ rfl g10 rfl #[.int .i64 l.id, .int .i64 l.te, .int .i64 l.de, .int .i64 l.fe, .int .i64 l.pr, .int .i64 l.ch, .int .i64 l.un] rfl (by kernel_rfl) (by simp [Value.oneCell']) #[.int .i64 0, .int .i64 0, .int .i64 0, .int .i64 0, .int .i64 0, .int .i64 0, .int .i64 0] 41 G105.out rfl rfl ?_
          intro U6 hU
          have HB6 : Hid (Below W3.heap.size W3 U6) := hU.bel _ _ HG10.out HB5.out
          have FE6 : Hid (Came U6 pb lb cb b.ds) := came_upd FE5.out hU HEE10.out
          have G106 : Hid (Blk U6 g10 #[.int .i64 l.id, .int .i64 l.te, .int .i64 l.de, .int .i64 l.fe, .int .i64 l.pr, .int .i64 l.ch, .int .i64 l.un] 41) := hU.blk
          have G96 : Hid (Blk U6 g9 #[.int .i64 b.me, .int .i64 b.rv, .int .i64 b.nx, .int .i64 b.mo, .int .i64 b.bo, .int .i64 b.fr, .slice pb lb cb] 32) := hU.keep G95.out (by have := HD109.out; omega)
          refine hK.out _ _ HB6.out (fun hHeld => ?_)
          clear hK hU HB5 FE5 G105 G95
          refine take_at 13 10 (.int .i64 fb) _ rfl rfl (by kernel_rfl) (by kernel_rfl) (by kernel_rfl) (fun _ _ _ h => h) (Or.inl ⟨by rfl, fun v hv => by clear hv; go_simp⟩) hHeld ?_
          simp only [Act.put, List.setIfInBounds_toArray, List.set_cons_zero, List.set_cons_succ]
          refine wpAnyH_done (by kernel_rfl) ?_ _
          clear hHeld
          go_wp2_with fail
          go_meet
          case rel => exact ⟨g9, g10, b, l, pb, lb, cb, fb, rfl, rfl, rfl, G96.out, G106.out, HI.out, FE6.out, HB6.out⟩
      · rw [if_pos (by rfl)]
        have HB2 : Hid (Below W3.heap.size W3 (U1.alloc (.cells #[.int .i64 0, .int .i64 0, .int .i64 0, .int .i64 0, .int .i64 0, .int .i64 0, .slice none 0 0] 32))) := HB1.out.alloc HB1.out.size _
        have HG9 : Hid (W3.heap.size ≤ U1.heap.size) := HB1.out.size
        have FU2 : Hid (Came (U1.alloc (.cells #[.int .i64 0, .int .i64 0, .int .i64 0, .int .i64 0, .int .i64 0, .int .i64 0, .slice none 0 0] 32)) p4 lt c4 t.ts) := FU1.out.below ((Below.refl _ _).alloc (Nat.le_refl _) _)
        have HEU9 : Hid (0 < lt → ∀ y, p4 = some y → y.block ≠ U1.heap.size) := fun hn y hy => Nat.ne_of_lt (came_lt FU1.out hn y hy)
        have G92 : Hid (Blk (U1.alloc (.cells #[.int .i64 0, .int .i64 0, .int .i64 0, .int .i64 0, .int .i64 0, .int .i64 0, .slice none 0 0] 32)) U1.heap.size #[.int .i64 0, .int .i64 0, .int .i64 0, .int .i64 0, .int .i64 0, .int .i64 0, .slice none 0 0] 32) := Blk.new _ _ _
        refine wp_runOp (v := .pointer (some ⟨U1.heap.size, 0, none⟩)) (w' := (U1.alloc (.cells #[.int .i64 0, .int .i64 0, .int .i64 0, .int .i64 0, .int .i64 0, .int .i64 0, .slice none 0 0] 32))) 8 rfl (by clear hK; go_simp) ?_
        refine hK.out _ _ HB2.out (fun hHeld => ?_)
        clear hK HB1 FU1
        simp only [Act.put, List.setIfInBounds_toArray, List.set_cons_zero, List.set_cons_succ]
        generalize U1.heap.size = g9 at *
        generalize U1.alloc _ = U2 at *
        refine wpAnyH_ready (rs := [4, 10]) (by kernel_rfl) (by simp) (AllReadyH.cons rfl (fun K hK => ?_) (AllReadyH.cons rfl (fun K hK => ?_) AllReadyH.nil))
        · rw [if_pos (by rfl)]
          refine wp_callOp 21 rfl (by clear hK; go_simp) (HGR.out U2 p4 c4 HB2.out FU2.out) ?_
          rintro e U3 ⟨b, l, pb, lb, cb, fb, rfl, hi, hf, hb⟩
          have HB3 : Hid (Below W3.heap.size W3 U3) := bel_step HB2.out hb
          have FE3 : Hid (Came U3 pb lb cb b.ds) := hf.came
          have HEE9 : Hid (0 < lb → ∀ y, pb = some y → y.block ≠ g9) := fun hn y hy => by have h1 := hf.new hn y hy; have h2 := G92.out.lt; omega
          have G93 : Hid (Blk U3 g9 #[.int .i64 0, .int .i64 0, .int .i64 0, .int .i64 0, .int .i64 0, .int .i64 0, .slice none 0 0] 32) := G92.out.next hb
          have HI : Hid (GrantIs x t m b l fb) := hi
          refine ⟨_, rfl, hK.out _ _ HB3.out (fun hHeld => ?_)⟩
          clear hK hi hf hb HB2 FU2 G92
          simp only [Act.put, List.setIfInBounds_toArray, List.set_cons_zero, List.set_cons_succ]
          unfold Ac.v Ac.cs Bi.v
          refine take_at 5 16 (.tuple #[.agg #[.int .i64 b.me, .int .i64 b.rv, .int .i64 b.nx, .int .i64 b.mo, .int .i64 b.bo, .int .i64 b.fr, .slice pb lb cb], .agg #[.int .i64 l.id, .int .i64 l.te, .int .i64 l.de, .int .i64 l.fe, .int .i64 l.pr, .int .i64 l.ch, .int .i64 l.un], .int .i64 fb]) _ rfl rfl (by kernel_rfl) (by kernel_rfl) (by kernel_rfl) (fun _ _ _ h => h) (Or.inl ⟨by rfl, fun v hv => by clear hv; go_simp⟩) hHeld ?_
          simp only [Act.put, List.setIfInBounds_toArray, List.set_cons_zero, List.set_cons_succ]
          refine take_at 6 22 (.agg #[.int .i64 b.me, .int .i64 b.rv, .int .i64 b.nx, .int .i64 b.mo, .int .i64 b.bo, .int .i64 b.fr, .slice pb lb cb]) _ rfl rfl (by kernel_rfl) (by kernel_rfl) (by kernel_rfl) (fun _ _ _ h => h) (Or.inl ⟨by rfl, fun v hv => by clear hv; go_simp⟩) hHeld ?_
          simp only [Act.put, List.setIfInBounds_toArray, List.set_cons_zero, List.set_cons_succ]
          refine take_at 7 23 (.agg #[.int .i64 l.id, .int .i64 l.te, .int .i64 l.de, .int .i64 l.fe, .int .i64 l.pr, .int .i64 l.ch, .int .i64 l.un]) _ rfl rfl (by kernel_rfl) (by kernel_rfl) (by kernel_rfl) (fun _ _ _ h => h) (Or.inl ⟨by rfl, fun v hv => by clear hv; go_simp⟩) hHeld ?_
          simp only [Act.put, List.setIfInBounds_toArray, List.set_cons_zero, List.set_cons_succ]
          refine take_at 8 24 (.int .i64 fb) _ rfl rfl (by kernel_rfl) (by kernel_rfl) (by kernel_rfl) (fun _ _ _ h => h) (Or.inl ⟨by rfl, fun v hv => by clear hv; go_simp⟩) hHeld ?_
          simp only [Act.put, List.setIfInBounds_toArray, List.set_cons_zero, List.set_cons_succ]
          refine wpAnyH_ready (rs := [10]) (by kernel_rfl) (by simp) (AllReadyH.cons rfl (fun K hK => ?_) AllReadyH.nil)
          rw [if_pos (by rfl)]
          have HB4 : Hid (Below W3.heap.size W3 (U3.alloc (.cells #[.int .i64 0, .int .i64 0, .int .i64 0, .int .i64 0, .int .i64 0, .int .i64 0, .int .i64 0] 41))) := HB3.out.alloc HB3.out.size _
          have HG10 : Hid (W3.heap.size ≤ U3.heap.size) := HB3.out.size
          have FE4 : Hid (Came (U3.alloc (.cells #[.int .i64 0, .int .i64 0, .int .i64 0, .int .i64 0, .int .i64 0, .int .i64 0, .int .i64 0] 41)) pb lb cb b.ds) := FE3.out.below ((Below.refl _ _).alloc (Nat.le_refl _) _)
          have HEE10 : Hid (0 < lb → ∀ y, pb = some y → y.block ≠ U3.heap.size) := fun hn y hy => Nat.ne_of_lt (came_lt FE3.out hn y hy)
          have HD910 : Hid (g9 ≠ U3.heap.size) := Nat.ne_of_lt G93.out.lt
          have G94 : Hid (Blk (U3.alloc (.cells #[.int .i64 0, .int .i64 0, .int .i64 0, .int .i64 0, .int .i64 0, .int .i64 0, .int .i64 0] 41)) g9 #[.int .i64 0, .int .i64 0, .int .i64 0, .int .i64 0, .int .i64 0, .int .i64 0, .slice none 0 0] 32) := G93.out.alloc _
          have G104 : Hid (Blk (U3.alloc (.cells #[.int .i64 0, .int .i64 0, .int .i64 0, .int .i64 0, .int .i64 0, .int .i64 0, .int .i64 0] 41)) U3.heap.size #[.int .i64 0, .int .i64 0, .int .i64 0, .int .i64 0, .int .i64 0, .int .i64 0, .int .i64 0] 41) := Blk.new _ _ _
          refine wp_runOp (v := .pointer (some ⟨U3.heap.size, 0, none⟩)) (w' := (U3.alloc (.cells #[.int .i64 0, .int .i64 0, .int .i64 0, .int .i64 0, .int .i64 0, .int .i64 0, .int .i64 0] 41))) 9 rfl (by clear hK; go_simp) ?_
          refine hK.out _ _ HB4.out (fun hHeld => ?_)
          clear hK HB3 FE3 G93
          simp only [Act.put, List.setIfInBounds_toArray, List.set_cons_zero, List.set_cons_succ]
          generalize U3.heap.size = g10 at *
          generalize U3.alloc _ = U4 at *
          refine wpAnyH_ready (rs := [11]) (by kernel_rfl) (by simp) (AllReadyH.cons rfl (fun K hK => ?_) AllReadyH.nil)
          rw [if_pos (by rfl)]
          refine wp_letOp 32 _ _ rfl g9 rfl #[.int .i64 b.me, .int .i64 b.rv, .int .i64 b.nx, .int .i64 b.mo, .int .i64 b.bo, .int .i64 b.fr, .slice pb lb cb] rfl (by kernel_rfl) (by simp [Value.oneCell']) #[.int .i64 0, .int .i64 0, .int .i64 0, .int .i64 0, .int .i64 0, .int .i64 0, .slice none 0 0] 32 G94.out rfl rfl ?_
          intro U5 hU
          have HB5 : Hid (Below W3.heap.size W3 U5) := hU.bel _ _ HG9.out HB4.out
          have FE5 : Hid (Came U5 pb lb cb b.ds) := came_upd FE4.out hU HEE9.out
          have G95 : Hid (Blk U5 g9 #[.int .i64 b.me, .int .i64 b.rv, .int .i64 b.nx, .int .i64 b.mo, .int .i64 b.bo, .int .i64 b.fr, .slice pb lb cb] 32) := hU.blk
          have G105 : Hid (Blk U5 g10 #[.int .i64 0, .int .i64 0, .int .i64 0, .int .i64 0, .int .i64 0, .int .i64 0, .int .i64 0] 41) := hU.keep G104.out (by have := HD910.out; omega)
          refine hK.out _ _ HB5.out (fun hHeld => ?_)
          clear hK hU HB4 FE4 G94 G104
          refine wpAnyH_ready (rs := [12]) (by kernel_rfl) (by simp) (AllReadyH.cons rfl (fun K hK => ?_) AllReadyH.nil)
          rw [if_pos (by rfl)]
          refine wp_letOp 41 _ _ rfl g10 rfl #[.int .i64 l.id, .int .i64 l.te, .int .i64 l.de, .int .i64 l.fe, .int .i64 l.pr, .int .i64 l.ch, .int .i64 l.un] rfl (by kernel_rfl) (by simp [Value.oneCell']) #[.int .i64 0, .int .i64 0, .int .i64 0, .int .i64 0, .int .i64 0, .int .i64 0, .int .i64 0] 41 G105.out rfl rfl ?_
          intro U6 hU
          have HB6 : Hid (Below W3.heap.size W3 U6) := hU.bel _ _ HG10.out HB5.out
          have FE6 : Hid (Came U6 pb lb cb b.ds) := came_upd FE5.out hU HEE10.out
          have G96 : Hid (Blk U6 g9 #[.int .i64 b.me, .int .i64 b.rv, .int .i64 b.nx, .int .i64 b.mo, .int .i64 b.bo, .int .i64 b.fr, .slice pb lb cb] 32) := hU.keep G95.out (by have := HD910.out; omega)
          have G106 : Hid (Blk U6 g10 #[.int .i64 l.id, .int .i64 l.te, .int .i64 l.de, .int .i64 l.fe, .int .i64 l.pr, .int .i64 l.ch, .int .i64 l.un] 41) := hU.blk
          refine hK.out _ _ HB6.out (fun hHeld => ?_)
          clear hK hU HB5 FE5 G95 G105
          refine take_at 13 10 (.int .i64 fb) _ rfl rfl (by kernel_rfl) (by kernel_rfl) (by kernel_rfl) (fun _ _ _ h => h) (Or.inl ⟨by rfl, fun v hv => by clear hv; go_simp⟩) hHeld ?_
          simp only [Act.put, List.setIfInBounds_toArray, List.set_cons_zero, List.set_cons_succ]
          refine wpAnyH_done (by kernel_rfl) ?_ _
          clear hHeld
          go_wp2_with fail
          go_meet
          case rel => exact ⟨g9, g10, b, l, pb, lb, cb, fb, rfl, rfl, rfl, G96.out, G106.out, HI.out, FE6.out, HB6.out⟩
        · rw [if_pos (by rfl)]
          have HB3 : Hid (Below W3.heap.size W3 (U2.alloc (.cells #[.int .i64 0, .int .i64 0, .int .i64 0, .int .i64 0, .int .i64 0, .int .i64 0, .int .i64 0] 41))) := HB2.out.alloc HB2.out.size _
          have HG10 : Hid (W3.heap.size ≤ U2.heap.size) := HB2.out.size
          have FU3 : Hid (Came (U2.alloc (.cells #[.int .i64 0, .int .i64 0, .int .i64 0, .int .i64 0, .int .i64 0, .int .i64 0, .int .i64 0] 41)) p4 lt c4 t.ts) := FU2.out.below ((Below.refl _ _).alloc (Nat.le_refl _) _)
          have HEU10 : Hid (0 < lt → ∀ y, p4 = some y → y.block ≠ U2.heap.size) := fun hn y hy => Nat.ne_of_lt (came_lt FU2.out hn y hy)
          have HD910 : Hid (g9 ≠ U2.heap.size) := Nat.ne_of_lt G92.out.lt
          have G93 : Hid (Blk (U2.alloc (.cells #[.int .i64 0, .int .i64 0, .int .i64 0, .int .i64 0, .int .i64 0, .int .i64 0, .int .i64 0] 41)) g9 #[.int .i64 0, .int .i64 0, .int .i64 0, .int .i64 0, .int .i64 0, .int .i64 0, .slice none 0 0] 32) := G92.out.alloc _
          have G103 : Hid (Blk (U2.alloc (.cells #[.int .i64 0, .int .i64 0, .int .i64 0, .int .i64 0, .int .i64 0, .int .i64 0, .int .i64 0] 41)) U2.heap.size #[.int .i64 0, .int .i64 0, .int .i64 0, .int .i64 0, .int .i64 0, .int .i64 0, .int .i64 0] 41) := Blk.new _ _ _
          refine wp_runOp (v := .pointer (some ⟨U2.heap.size, 0, none⟩)) (w' := (U2.alloc (.cells #[.int .i64 0, .int .i64 0, .int .i64 0, .int .i64 0, .int .i64 0, .int .i64 0, .int .i64 0] 41))) 9 rfl (by clear hK; go_simp) ?_
          refine hK.out _ _ HB3.out (fun hHeld => ?_)
          clear hK HB2 FU2 G92
          simp only [Act.put, List.setIfInBounds_toArray, List.set_cons_zero, List.set_cons_succ]
          generalize U2.heap.size = g10 at *
          generalize U2.alloc _ = U3 at *
          refine wpAnyH_ready (rs := [4]) (by kernel_rfl) (by simp) (AllReadyH.cons rfl (fun K hK => ?_) AllReadyH.nil)
          rw [if_pos (by rfl)]
          refine wp_callOp 21 rfl (by clear hK; go_simp) (HGR.out U3 p4 c4 HB3.out FU3.out) ?_
          rintro e U4 ⟨b, l, pb, lb, cb, fb, rfl, hi, hf, hb⟩
          have HB4 : Hid (Below W3.heap.size W3 U4) := bel_step HB3.out hb
          have FE4 : Hid (Came U4 pb lb cb b.ds) := hf.came
          have HEE9 : Hid (0 < lb → ∀ y, pb = some y → y.block ≠ g9) := fun hn y hy => by have h1 := hf.new hn y hy; have h2 := G93.out.lt; omega
          have G94 : Hid (Blk U4 g9 #[.int .i64 0, .int .i64 0, .int .i64 0, .int .i64 0, .int .i64 0, .int .i64 0, .slice none 0 0] 32) := G93.out.next hb
          have HEE10 : Hid (0 < lb → ∀ y, pb = some y → y.block ≠ g10) := fun hn y hy => by have h1 := hf.new hn y hy; have h2 := G103.out.lt; omega
          have G104 : Hid (Blk U4 g10 #[.int .i64 0, .int .i64 0, .int .i64 0, .int .i64 0, .int .i64 0, .int .i64 0, .int .i64 0] 41) := G103.out.next hb
          have HI : Hid (GrantIs x t m b l fb) := hi
          refine ⟨_, rfl, hK.out _ _ HB4.out (fun hHeld => ?_)⟩
          clear hK hi hf hb HB3 FU3 G93 G103
          simp only [Act.put, List.setIfInBounds_toArray, List.set_cons_zero, List.set_cons_succ]
          unfold Ac.v Ac.cs Bi.v
          refine take_at 5 16 (.tuple #[.agg #[.int .i64 b.me, .int .i64 b.rv, .int .i64 b.nx, .int .i64 b.mo, .int .i64 b.bo, .int .i64 b.fr, .slice pb lb cb], .agg #[.int .i64 l.id, .int .i64 l.te, .int .i64 l.de, .int .i64 l.fe, .int .i64 l.pr, .int .i64 l.ch, .int .i64 l.un], .int .i64 fb]) _ rfl rfl (by kernel_rfl) (by kernel_rfl) (by kernel_rfl) (fun _ _ _ h => h) (Or.inl ⟨by rfl, fun v hv => by clear hv; go_simp⟩) hHeld ?_
          simp only [Act.put, List.setIfInBounds_toArray, List.set_cons_zero, List.set_cons_succ]
          refine take_at 6 22 (.agg #[.int .i64 b.me, .int .i64 b.rv, .int .i64 b.nx, .int .i64 b.mo, .int .i64 b.bo, .int .i64 b.fr, .slice pb lb cb]) _ rfl rfl (by kernel_rfl) (by kernel_rfl) (by kernel_rfl) (fun _ _ _ h => h) (Or.inl ⟨by rfl, fun v hv => by clear hv; go_simp⟩) hHeld ?_
          simp only [Act.put, List.setIfInBounds_toArray, List.set_cons_zero, List.set_cons_succ]
          refine take_at 7 23 (.agg #[.int .i64 l.id, .int .i64 l.te, .int .i64 l.de, .int .i64 l.fe, .int .i64 l.pr, .int .i64 l.ch, .int .i64 l.un]) _ rfl rfl (by kernel_rfl) (by kernel_rfl) (by kernel_rfl) (fun _ _ _ h => h) (Or.inl ⟨by rfl, fun v hv => by clear hv; go_simp⟩) hHeld ?_
          simp only [Act.put, List.setIfInBounds_toArray, List.set_cons_zero, List.set_cons_succ]
          refine take_at 8 24 (.int .i64 fb) _ rfl rfl (by kernel_rfl) (by kernel_rfl) (by kernel_rfl) (fun _ _ _ h => h) (Or.inl ⟨by rfl, fun v hv => by clear hv; go_simp⟩) hHeld ?_
          simp only [Act.put, List.setIfInBounds_toArray, List.set_cons_zero, List.set_cons_succ]
          refine wpAnyH_ready (rs := [11]) (by kernel_rfl) (by simp) (AllReadyH.cons rfl (fun K hK => ?_) AllReadyH.nil)
          rw [if_pos (by rfl)]
          refine wp_letOp 32 _ _ rfl g9 rfl #[.int .i64 b.me, .int .i64 b.rv, .int .i64 b.nx, .int .i64 b.mo, .int .i64 b.bo, .int .i64 b.fr, .slice pb lb cb] rfl (by kernel_rfl) (by simp [Value.oneCell']) #[.int .i64 0, .int .i64 0, .int .i64 0, .int .i64 0, .int .i64 0, .int .i64 0, .slice none 0 0] 32 G94.out rfl rfl ?_
          intro U5 hU
          have HB5 : Hid (Below W3.heap.size W3 U5) := hU.bel _ _ HG9.out HB4.out
          have FE5 : Hid (Came U5 pb lb cb b.ds) := came_upd FE4.out hU HEE9.out
          have G95 : Hid (Blk U5 g9 #[.int .i64 b.me, .int .i64 b.rv, .int .i64 b.nx, .int .i64 b.mo, .int .i64 b.bo, .int .i64 b.fr, .slice pb lb cb] 32) := hU.blk
          have G105 : Hid (Blk U5 g10 #[.int .i64 0, .int .i64 0, .int .i64 0, .int .i64 0, .int .i64 0, .int .i64 0, .int .i64 0] 41) := hU.keep G104.out (by have := HD910.out; omega)
          refine hK.out _ _ HB5.out (fun hHeld => ?_)
          clear hK hU HB4 FE4 G94 G104
          refine wpAnyH_ready (rs := [12]) (by kernel_rfl) (by simp) (AllReadyH.cons rfl (fun K hK => ?_) AllReadyH.nil)
          rw [if_pos (by rfl)]
          refine wp_letOp 41 _ _ rfl g10 rfl #[.int .i64 l.id, .int .i64 l.te, .int .i64 l.de, .int .i64 l.fe, .int .i64 l.pr, .int .i64 l.ch, .int .i64 l.un] rfl (by kernel_rfl) (by simp [Value.oneCell']) #[.int .i64 0, .int .i64 0, .int .i64 0, .int .i64 0, .int .i64 0, .int .i64 0, .int .i64 0] 41 G105.out rfl rfl ?_
          intro U6 hU
          have HB6 : Hid (Below W3.heap.size W3 U6) := hU.bel _ _ HG10.out HB5.out
          have FE6 : Hid (Came U6 pb lb cb b.ds) := came_upd FE5.out hU HEE10.out
          have G96 : Hid (Blk U6 g9 #[.int .i64 b.me, .int .i64 b.rv, .int .i64 b.nx, .int .i64 b.mo, .int .i64 b.bo, .int .i64 b.fr, .slice pb lb cb] 32) := hU.keep G95.out (by have := HD910.out; omega)
          have G106 : Hid (Blk U6 g10 #[.int .i64 l.id, .int .i64 l.te, .int .i64 l.de, .int .i64 l.fe, .int .i64 l.pr, .int .i64 l.ch, .int .i64 l.un] 41) := hU.blk
          refine hK.out _ _ HB6.out (fun hHeld => ?_)
          clear hK hU HB5 FE5 G95 G105
          refine take_at 13 10 (.int .i64 fb) _ rfl rfl (by kernel_rfl) (by kernel_rfl) (by kernel_rfl) (fun _ _ _ h => h) (Or.inl ⟨by rfl, fun v hv => by clear hv; go_simp⟩) hHeld ?_
          simp only [Act.put, List.setIfInBounds_toArray, List.set_cons_zero, List.set_cons_succ]
          refine wpAnyH_done (by kernel_rfl) ?_ _
          clear hHeld
          go_wp2_with fail
          go_meet
          case rel => exact ⟨g9, g10, b, l, pb, lb, cb, fb, rfl, rfl, rfl, G96.out, G106.out, HI.out, FE6.out, HB6.out⟩
      · rw [if_pos (by rfl)]
        have HB2 : Hid (Below W3.heap.size W3 (U1.alloc (.cells #[.int .i64 0, .int .i64 0, .int .i64 0, .int .i64 0, .int .i64 0, .int .i64 0, .int .i64 0] 41))) := HB1.out.alloc HB1.out.size _
        have HG10 : Hid (W3.heap.size ≤ U1.heap.size) := HB1.out.size
        have FU2 : Hid (Came (U1.alloc (.cells #[.int .i64 0, .int .i64 0, .int .i64 0, .int .i64 0, .int .i64 0, .int .i64 0, .int .i64 0] 41)) p4 lt c4 t.ts) := FU1.out.below ((Below.refl _ _).alloc (Nat.le_refl _) _)
        have HEU10 : Hid (0 < lt → ∀ y, p4 = some y → y.block ≠ U1.heap.size) := fun hn y hy => Nat.ne_of_lt (came_lt FU1.out hn y hy)
        have G102 : Hid (Blk (U1.alloc (.cells #[.int .i64 0, .int .i64 0, .int .i64 0, .int .i64 0, .int .i64 0, .int .i64 0, .int .i64 0] 41)) U1.heap.size #[.int .i64 0, .int .i64 0, .int .i64 0, .int .i64 0, .int .i64 0, .int .i64 0, .int .i64 0] 41) := Blk.new _ _ _
        refine wp_runOp (v := .pointer (some ⟨U1.heap.size, 0, none⟩)) (w' := (U1.alloc (.cells #[.int .i64 0, .int .i64 0, .int .i64 0, .int .i64 0, .int .i64 0, .int .i64 0, .int .i64 0] 41))) 9 rfl (by clear hK; go_simp) ?_
        refine hK.out _ _ HB2.out (fun hHeld => ?_)
        clear hK HB1 FU1
        simp only [Act.put, List.setIfInBounds_toArray, List.set_cons_zero, List.set_cons_succ]
        generalize U1.heap.size = g10 at *
        generalize U1.alloc _ = U2 at *
        refine wpAnyH_ready (rs := [4, 9]) (by kernel_rfl) (by simp) (AllReadyH.cons rfl (fun K hK => ?_) (AllReadyH.cons rfl (fun K hK => ?_) AllReadyH.nil))
        · rw [if_pos (by rfl)]
          refine wp_callOp 21 rfl (by clear hK; go_simp) (HGR.out U2 p4 c4 HB2.out FU2.out) ?_
          rintro e U3 ⟨b, l, pb, lb, cb, fb, rfl, hi, hf, hb⟩
          have HB3 : Hid (Below W3.heap.size W3 U3) := bel_step HB2.out hb
          have FE3 : Hid (Came U3 pb lb cb b.ds) := hf.came
          have HEE10 : Hid (0 < lb → ∀ y, pb = some y → y.block ≠ g10) := fun hn y hy => by have h1 := hf.new hn y hy; have h2 := G102.out.lt; omega
          have G103 : Hid (Blk U3 g10 #[.int .i64 0, .int .i64 0, .int .i64 0, .int .i64 0, .int .i64 0, .int .i64 0, .int .i64 0] 41) := G102.out.next hb
          have HI : Hid (GrantIs x t m b l fb) := hi
          refine ⟨_, rfl, hK.out _ _ HB3.out (fun hHeld => ?_)⟩
          clear hK hi hf hb HB2 FU2 G102
          simp only [Act.put, List.setIfInBounds_toArray, List.set_cons_zero, List.set_cons_succ]
          unfold Ac.v Ac.cs Bi.v
          refine take_at 5 16 (.tuple #[.agg #[.int .i64 b.me, .int .i64 b.rv, .int .i64 b.nx, .int .i64 b.mo, .int .i64 b.bo, .int .i64 b.fr, .slice pb lb cb], .agg #[.int .i64 l.id, .int .i64 l.te, .int .i64 l.de, .int .i64 l.fe, .int .i64 l.pr, .int .i64 l.ch, .int .i64 l.un], .int .i64 fb]) _ rfl rfl (by kernel_rfl) (by kernel_rfl) (by kernel_rfl) (fun _ _ _ h => h) (Or.inl ⟨by rfl, fun v hv => by clear hv; go_simp⟩) hHeld ?_
          simp only [Act.put, List.setIfInBounds_toArray, List.set_cons_zero, List.set_cons_succ]
          refine take_at 6 22 (.agg #[.int .i64 b.me, .int .i64 b.rv, .int .i64 b.nx, .int .i64 b.mo, .int .i64 b.bo, .int .i64 b.fr, .slice pb lb cb]) _ rfl rfl (by kernel_rfl) (by kernel_rfl) (by kernel_rfl) (fun _ _ _ h => h) (Or.inl ⟨by rfl, fun v hv => by clear hv; go_simp⟩) hHeld ?_
          simp only [Act.put, List.setIfInBounds_toArray, List.set_cons_zero, List.set_cons_succ]
          refine take_at 7 23 (.agg #[.int .i64 l.id, .int .i64 l.te, .int .i64 l.de, .int .i64 l.fe, .int .i64 l.pr, .int .i64 l.ch, .int .i64 l.un]) _ rfl rfl (by kernel_rfl) (by kernel_rfl) (by kernel_rfl) (fun _ _ _ h => h) (Or.inl ⟨by rfl, fun v hv => by clear hv; go_simp⟩) hHeld ?_
          simp only [Act.put, List.setIfInBounds_toArray, List.set_cons_zero, List.set_cons_succ]
          refine take_at 8 24 (.int .i64 fb) _ rfl rfl (by kernel_rfl) (by kernel_rfl) (by kernel_rfl) (fun _ _ _ h => h) (Or.inl ⟨by rfl, fun v hv => by clear hv; go_simp⟩) hHeld ?_
          simp only [Act.put, List.setIfInBounds_toArray, List.set_cons_zero, List.set_cons_succ]
          refine wpAnyH_ready (rs := [9]) (by kernel_rfl) (by simp) (AllReadyH.cons rfl (fun K hK => ?_) AllReadyH.nil)
          rw [if_pos (by rfl)]
          have HB4 : Hid (Below W3.heap.size W3 (U3.alloc (.cells #[.int .i64 0, .int .i64 0, .int .i64 0, .int .i64 0, .int .i64 0, .int .i64 0, .slice none 0 0] 32))) := HB3.out.alloc HB3.out.size _
          have HG9 : Hid (W3.heap.size ≤ U3.heap.size) := HB3.out.size
          have FE4 : Hid (Came (U3.alloc (.cells #[.int .i64 0, .int .i64 0, .int .i64 0, .int .i64 0, .int .i64 0, .int .i64 0, .slice none 0 0] 32)) pb lb cb b.ds) := FE3.out.below ((Below.refl _ _).alloc (Nat.le_refl _) _)
          have HEE9 : Hid (0 < lb → ∀ y, pb = some y → y.block ≠ U3.heap.size) := fun hn y hy => Nat.ne_of_lt (came_lt FE3.out hn y hy)
          have HD109 : Hid (g10 ≠ U3.heap.size) := Nat.ne_of_lt G103.out.lt
          have G104 : Hid (Blk (U3.alloc (.cells #[.int .i64 0, .int .i64 0, .int .i64 0, .int .i64 0, .int .i64 0, .int .i64 0, .slice none 0 0] 32)) g10 #[.int .i64 0, .int .i64 0, .int .i64 0, .int .i64 0, .int .i64 0, .int .i64 0, .int .i64 0] 41) := G103.out.alloc _
          have G94 : Hid (Blk (U3.alloc (.cells #[.int .i64 0, .int .i64 0, .int .i64 0, .int .i64 0, .int .i64 0, .int .i64 0, .slice none 0 0] 32)) U3.heap.size #[.int .i64 0, .int .i64 0, .int .i64 0, .int .i64 0, .int .i64 0, .int .i64 0, .slice none 0 0] 32) := Blk.new _ _ _
          refine wp_runOp (v := .pointer (some ⟨U3.heap.size, 0, none⟩)) (w' := (U3.alloc (.cells #[.int .i64 0, .int .i64 0, .int .i64 0, .int .i64 0, .int .i64 0, .int .i64 0, .slice none 0 0] 32))) 8 rfl (by clear hK; go_simp) ?_
          refine hK.out _ _ HB4.out (fun hHeld => ?_)
          clear hK HB3 FE3 G103
          simp only [Act.put, List.setIfInBounds_toArray, List.set_cons_zero, List.set_cons_succ]
          generalize U3.heap.size = g9 at *
          generalize U3.alloc _ = U4 at *
          refine wpAnyH_ready (rs := [11]) (by kernel_rfl) (by simp) (AllReadyH.cons rfl (fun K hK => ?_) AllReadyH.nil)
          rw [if_pos (by rfl)]
          refine wp_letOp 32 _ _ rfl g9 rfl #[.int .i64 b.me, .int .i64 b.rv, .int .i64 b.nx, .int .i64 b.mo, .int .i64 b.bo, .int .i64 b.fr, .slice pb lb cb] rfl (by kernel_rfl) (by simp [Value.oneCell']) #[.int .i64 0, .int .i64 0, .int .i64 0, .int .i64 0, .int .i64 0, .int .i64 0, .slice none 0 0] 32 G94.out rfl rfl ?_
          intro U5 hU
          have HB5 : Hid (Below W3.heap.size W3 U5) := hU.bel _ _ HG9.out HB4.out
          have FE5 : Hid (Came U5 pb lb cb b.ds) := came_upd FE4.out hU HEE9.out
          have G105 : Hid (Blk U5 g10 #[.int .i64 0, .int .i64 0, .int .i64 0, .int .i64 0, .int .i64 0, .int .i64 0, .int .i64 0] 41) := hU.keep G104.out (by have := HD109.out; omega)
          have G95 : Hid (Blk U5 g9 #[.int .i64 b.me, .int .i64 b.rv, .int .i64 b.nx, .int .i64 b.mo, .int .i64 b.bo, .int .i64 b.fr, .slice pb lb cb] 32) := hU.blk
          refine hK.out _ _ HB5.out (fun hHeld => ?_)
          clear hK hU HB4 FE4 G104 G94
          refine wpAnyH_ready (rs := [12]) (by kernel_rfl) (by simp) (AllReadyH.cons rfl (fun K hK => ?_) AllReadyH.nil)
          rw [if_pos (by rfl)]
          refine wp_letOp 41 _ _ rfl g10 rfl #[.int .i64 l.id, .int .i64 l.te, .int .i64 l.de, .int .i64 l.fe, .int .i64 l.pr, .int .i64 l.ch, .int .i64 l.un] rfl (by kernel_rfl) (by simp [Value.oneCell']) #[.int .i64 0, .int .i64 0, .int .i64 0, .int .i64 0, .int .i64 0, .int .i64 0, .int .i64 0] 41 G105.out rfl rfl ?_
          intro U6 hU
          have HB6 : Hid (Below W3.heap.size W3 U6) := hU.bel _ _ HG10.out HB5.out
          have FE6 : Hid (Came U6 pb lb cb b.ds) := came_upd FE5.out hU HEE10.out
          have G106 : Hid (Blk U6 g10 #[.int .i64 l.id, .int .i64 l.te, .int .i64 l.de, .int .i64 l.fe, .int .i64 l.pr, .int .i64 l.ch, .int .i64 l.un] 41) := hU.blk
          have G96 : Hid (Blk U6 g9 #[.int .i64 b.me, .int .i64 b.rv, .int .i64 b.nx, .int .i64 b.mo, .int .i64 b.bo, .int .i64 b.fr, .slice pb lb cb] 32) := hU.keep G95.out (by have := HD109.out; omega)
          refine hK.out _ _ HB6.out (fun hHeld => ?_)
          clear hK hU HB5 FE5 G105 G95
          refine take_at 13 10 (.int .i64 fb) _ rfl rfl (by kernel_rfl) (by kernel_rfl) (by kernel_rfl) (fun _ _ _ h => h) (Or.inl ⟨by rfl, fun v hv => by clear hv; go_simp⟩) hHeld ?_
          simp only [Act.put, List.setIfInBounds_toArray, List.set_cons_zero, List.set_cons_succ]
          refine wpAnyH_done (by kernel_rfl) ?_ _
          clear hHeld
          go_wp2_with fail
          go_meet
          case rel => exact ⟨g9, g10, b, l, pb, lb, cb, fb, rfl, rfl, rfl, G96.out, G106.out, HI.out, FE6.out, HB6.out⟩
        · rw [if_pos (by rfl)]
          have HB3 : Hid (Below W3.heap.size W3 (U2.alloc (.cells #[.int .i64 0, .int .i64 0, .int .i64 0, .int .i64 0, .int .i64 0, .int .i64 0, .slice none 0 0] 32))) := HB2.out.alloc HB2.out.size _
          have HG9 : Hid (W3.heap.size ≤ U2.heap.size) := HB2.out.size
          have FU3 : Hid (Came (U2.alloc (.cells #[.int .i64 0, .int .i64 0, .int .i64 0, .int .i64 0, .int .i64 0, .int .i64 0, .slice none 0 0] 32)) p4 lt c4 t.ts) := FU2.out.below ((Below.refl _ _).alloc (Nat.le_refl _) _)
          have HEU9 : Hid (0 < lt → ∀ y, p4 = some y → y.block ≠ U2.heap.size) := fun hn y hy => Nat.ne_of_lt (came_lt FU2.out hn y hy)
          have HD109 : Hid (g10 ≠ U2.heap.size) := Nat.ne_of_lt G102.out.lt
          have G103 : Hid (Blk (U2.alloc (.cells #[.int .i64 0, .int .i64 0, .int .i64 0, .int .i64 0, .int .i64 0, .int .i64 0, .slice none 0 0] 32)) g10 #[.int .i64 0, .int .i64 0, .int .i64 0, .int .i64 0, .int .i64 0, .int .i64 0, .int .i64 0] 41) := G102.out.alloc _
          have G93 : Hid (Blk (U2.alloc (.cells #[.int .i64 0, .int .i64 0, .int .i64 0, .int .i64 0, .int .i64 0, .int .i64 0, .slice none 0 0] 32)) U2.heap.size #[.int .i64 0, .int .i64 0, .int .i64 0, .int .i64 0, .int .i64 0, .int .i64 0, .slice none 0 0] 32) := Blk.new _ _ _
          refine wp_runOp (v := .pointer (some ⟨U2.heap.size, 0, none⟩)) (w' := (U2.alloc (.cells #[.int .i64 0, .int .i64 0, .int .i64 0, .int .i64 0, .int .i64 0, .int .i64 0, .slice none 0 0] 32))) 8 rfl (by clear hK; go_simp) ?_
          refine hK.out _ _ HB3.out (fun hHeld => ?_)
          clear hK HB2 FU2 G102
          simp only [Act.put, List.setIfInBounds_toArray, List.set_cons_zero, List.set_cons_succ]
          generalize U2.heap.size = g9 at *
          generalize U2.alloc _ = U3 at *
          refine wpAnyH_ready (rs := [4]) (by kernel_rfl) (by simp) (AllReadyH.cons rfl (fun K hK => ?_) AllReadyH.nil)
          rw [if_pos (by rfl)]
          refine wp_callOp 21 rfl (by clear hK; go_simp) (HGR.out U3 p4 c4 HB3.out FU3.out) ?_
          rintro e U4 ⟨b, l, pb, lb, cb, fb, rfl, hi, hf, hb⟩
          have HB4 : Hid (Below W3.heap.size W3 U4) := bel_step HB3.out hb
          have FE4 : Hid (Came U4 pb lb cb b.ds) := hf.came
          have HEE10 : Hid (0 < lb → ∀ y, pb = some y → y.block ≠ g10) := fun hn y hy => by have h1 := hf.new hn y hy; have h2 := G103.out.lt; omega
          have G104 : Hid (Blk U4 g10 #[.int .i64 0, .int .i64 0, .int .i64 0, .int .i64 0, .int .i64 0, .int .i64 0, .int .i64 0] 41) := G103.out.next hb
          have HEE9 : Hid (0 < lb → ∀ y, pb = some y → y.block ≠ g9) := fun hn y hy => by have h1 := hf.new hn y hy; have h2 := G93.out.lt; omega
          have G94 : Hid (Blk U4 g9 #[.int .i64 0, .int .i64 0, .int .i64 0, .int .i64 0, .int .i64 0, .int .i64 0, .slice none 0 0] 32) := G93.out.next hb
          have HI : Hid (GrantIs x t m b l fb) := hi
          refine ⟨_, rfl, hK.out _ _ HB4.out (fun hHeld => ?_)⟩
          clear hK hi hf hb HB3 FU3 G103 G93
          simp only [Act.put, List.setIfInBounds_toArray, List.set_cons_zero, List.set_cons_succ]
          unfold Ac.v Ac.cs Bi.v
          refine take_at 5 16 (.tuple #[.agg #[.int .i64 b.me, .int .i64 b.rv, .int .i64 b.nx, .int .i64 b.mo, .int .i64 b.bo, .int .i64 b.fr, .slice pb lb cb], .agg #[.int .i64 l.id, .int .i64 l.te, .int .i64 l.de, .int .i64 l.fe, .int .i64 l.pr, .int .i64 l.ch, .int .i64 l.un], .int .i64 fb]) _ rfl rfl (by kernel_rfl) (by kernel_rfl) (by kernel_rfl) (fun _ _ _ h => h) (Or.inl ⟨by rfl, fun v hv => by clear hv; go_simp⟩) hHeld ?_
          simp only [Act.put, List.setIfInBounds_toArray, List.set_cons_zero, List.set_cons_succ]
          refine take_at 6 22 (.agg #[.int .i64 b.me, .int .i64 b.rv, .int .i64 b.nx, .int .i64 b.mo, .int .i64 b.bo, .int .i64 b.fr, .slice pb lb cb]) _ rfl rfl (by kernel_rfl) (by kernel_rfl) (by kernel_rfl) (fun _ _ _ h => h) (Or.inl ⟨by rfl, fun v hv => by clear hv; go_simp⟩) hHeld ?_
          simp only [Act.put, List.setIfInBounds_toArray, List.set_cons_zero, List.set_cons_succ]
          refine take_at 7 23 (.agg #[.int .i64 l.id, .int .i64 l.te, .int .i64 l.de, .int .i64 l.fe, .int .i64 l.pr, .int .i64 l.ch, .int .i64 l.un]) _ rfl rfl (by kernel_rfl) (by kernel_rfl) (by kernel_rfl) (fun _ _ _ h => h) (Or.inl ⟨by rfl, fun v hv => by clear hv; go_simp⟩) hHeld ?_
          simp only [Act.put, List.setIfInBounds_toArray, List.set_cons_zero, List.set_cons_succ]
          refine take_at 8 24 (.int .i64 fb) _ rfl rfl (by kernel_rfl) (by kernel_rfl) (by kernel_rfl) (fun _ _ _ h => h) (Or.inl ⟨by rfl, fun v hv => by clear hv; go_simp⟩) hHeld ?_
          simp only [Act.put, List.setIfInBounds_toArray, List.set_cons_zero, List.set_cons_succ]
          refine wpAnyH_ready (rs := [11]) (by kernel_rfl) (by simp) (AllReadyH.cons rfl (fun K hK => ?_) AllReadyH.nil)
          rw [if_pos (by rfl)]
          refine wp_letOp 32 _ _ rfl g9 rfl #[.int .i64 b.me, .int .i64 b.rv, .int .i64 b.nx, .int .i64 b.mo, .int .i64 b.bo, .int .i64 b.fr, .slice pb lb cb] rfl (by kernel_rfl) (by simp [Value.oneCell']) #[.int .i64 0, .int .i64 0, .int .i64 0, .int .i64 0, .int .i64 0, .int .i64 0, .slice none 0 0] 32 G94.out rfl rfl ?_
          intro U5 hU
          have HB5 : Hid (Below W3.heap.size W3 U5) := hU.bel _ _ HG9.out HB4.out
          have FE5 : Hid (Came U5 pb lb cb b.ds) := came_upd FE4.out hU HEE9.out
          have G105 : Hid (Blk U5 g10 #[.int .i64 0, .int .i64 0, .int .i64 0, .int .i64 0, .int .i64 0, .int .i64 0, .int .i64 0] 41) := hU.keep G104.out (by have := HD109.out; omega)
          have G95 : Hid (Blk U5 g9 #[.int .i64 b.me, .int .i64 b.rv, .int .i64 b.nx, .int .i64 b.mo, .int .i64 b.bo, .int .i64 b.fr, .slice pb lb cb] 32) := hU.blk
          refine hK.out _ _ HB5.out (fun hHeld => ?_)
          clear hK hU HB4 FE4 G104 G94
          refine wpAnyH_ready (rs := [12]) (by kernel_rfl) (by simp) (AllReadyH.cons rfl (fun K hK => ?_) AllReadyH.nil)
          rw [if_pos (by rfl)]
          refine wp_letOp 41 _ _ rfl g10 rfl #[.int .i64 l.id, .int .i64 l.te, .int .i64 l.de, .int .i64 l.fe, .int .i64 l.pr, .int .i64 l.ch, .int .i64 l.un] rfl (by kernel_rfl) (by simp [Value.oneCell']) #[.int .i64 0, .int .i64 0, .int .i64 0, .int .i64 0, .int .i64 0, .int .i64 0, .int .i64 0] 41 G105.out rfl rfl ?_
          intro U6 hU
          have HB6 : Hid (Below W3.heap.size W3 U6) := hU.bel _ _ HG10.out HB5.out
          have FE6 : Hid (Came U6 pb lb cb b.ds) := came_upd FE5.out hU HEE10.out
          have G106 : Hid (Blk U6 g10 #[.int .i64 l.id, .int .i64 l.te, .int .i64 l.de, .int .i64 l.fe, .int .i64 l.pr, .int .i64 l.ch, .int .i64 l.un] 41) := hU.blk
          have G96 : Hid (Blk U6 g9 #[.int .i64 b.me, .int .i64 b.rv, .int .i64 b.nx, .int .i64 b.mo, .int .i64 b.bo, .int .i64 b.fr, .slice pb lb cb] 32) := hU.keep G95.out (by have := HD109.out; omega)
          refine hK.out _ _ HB6.out (fun hHeld => ?_)
          clear hK hU HB5 FE5 G105 G95
          refine take_at 13 10 (.int .i64 fb) _ rfl rfl (by kernel_rfl) (by kernel_rfl) (by kernel_rfl) (fun _ _ _ h => h) (Or.inl ⟨by rfl, fun v hv => by clear hv; go_simp⟩) hHeld ?_
          simp only [Act.put, List.setIfInBounds_toArray, List.set_cons_zero, List.set_cons_succ]
          refine wpAnyH_done (by kernel_rfl) ?_ _
          clear hHeld
          go_wp2_with fail
          go_meet
          case rel => exact ⟨g9, g10, b, l, pb, lb, cb, fb, rfl, rfl, rfl, G96.out, G106.out, HI.out, FE6.out, HB6.out⟩
    · rw [if_pos (by rfl)]
      have HB1 : Hid (Below W3.heap.size W3 (U0.alloc (.cells #[.int .i64 0, .int .i64 0, .int .i64 0, .int .i64 0, .int .i64 0, .int .i64 0, .slice none 0 0] 32))) := HB0.out.alloc HB0.out.size _
      have HG9 : Hid (W3.heap.size ≤ U0.heap.size) := HB0.out.size
      have G91 : Hid (Blk (U0.alloc (.cells #[.int .i64 0, .int .i64 0, .int .i64 0, .int .i64 0, .int .i64 0, .int .i64 0, .slice none 0 0] 32)) U0.heap.size #[.int .i64 0, .int .i64 0, .int .i64 0, .int .i64 0, .int .i64 0, .int .i64 0, .slice none 0 0] 32) := Blk.new _ _ _
      refine wp_runOp (v := .pointer (some ⟨U0.heap.size, 0, none⟩)) (w' := (U0.alloc (.cells #[.int .i64 0, .int .i64 0, .int .i64 0, .int .i64 0, .int .i64 0, .int .i64 0, .slice none 0 0] 32))) 8 rfl (by clear hK; go_simp) ?_
      refine hK.out _ _ HB1.out (fun hHeld => ?_)
      clear hK HB0
      simp only [Act.put, List.setIfInBounds_toArray, List.set_cons_zero, List.set_cons_succ]
      generalize U0.heap.size = g9 at *
      generalize U0.alloc _ = U1 at *
      refine wpAnyH_ready (rs := [2, 10]) (by kernel_rfl) (by simp) (AllReadyH.cons rfl (fun K hK => ?_) (AllReadyH.cons rfl (fun K hK => ?_) AllReadyH.nil))
      · rw [if_pos (by rfl)]
        refine wp_callOp 19 rfl (by clear hK; go_simp) (HTC.out U1 HB1.out) ?_
        rintro e U2 ⟨p4, c4, rfl, hf, hb⟩
        have HB2 : Hid (Below W3.heap.size W3 U2) := bel_step HB1.out hb
        have FU2 : Hid (Came U2 p4 lt c4 t.ts) := hf.came
        have HEU9 : Hid (0 < lt → ∀ y, p4 = some y → y.block ≠ g9) := fun hn y hy => by have h1 := hf.new hn y hy; have h2 := G91.out.lt; omega
        have G92 : Hid (Blk U2 g9 #[.int .i64 0, .int .i64 0, .int .i64 0, .int .i64 0, .int .i64 0, .int .i64 0, .slice none 0 0] 32) := G91.out.next hb
        refine ⟨_, rfl, hK.out _ _ HB2.out (fun hHeld => ?_)⟩
        clear hK hf hb HB1 G91
        simp only [Act.put, List.setIfInBounds_toArray, List.set_cons_zero, List.set_cons_succ]
        unfold Tm.v
        refine wpAnyH_ready (rs := [4, 10]) (by kernel_rfl) (by simp) (AllReadyH.cons rfl (fun K hK => ?_) (AllReadyH.cons rfl (fun K hK => ?_) AllReadyH.nil))
        · rw [if_pos (by rfl)]
          refine wp_callOp 21 rfl (by clear hK; go_simp) (HGR.out U2 p4 c4 HB2.out FU2.out) ?_
          rintro e U3 ⟨b, l, pb, lb, cb, fb, rfl, hi, hf, hb⟩
          have HB3 : Hid (Below W3.heap.size W3 U3) := bel_step HB2.out hb
          have FE3 : Hid (Came U3 pb lb cb b.ds) := hf.came
          have HEE9 : Hid (0 < lb → ∀ y, pb = some y → y.block ≠ g9) := fun hn y hy => by have h1 := hf.new hn y hy; have h2 := G92.out.lt; omega
          have G93 : Hid (Blk U3 g9 #[.int .i64 0, .int .i64 0, .int .i64 0, .int .i64 0, .int .i64 0, .int .i64 0, .slice none 0 0] 32) := G92.out.next hb
          have HI : Hid (GrantIs x t m b l fb) := hi
          refine ⟨_, rfl, hK.out _ _ HB3.out (fun hHeld => ?_)⟩
          clear hK hi hf hb HB2 FU2 G92
          simp only [Act.put, List.setIfInBounds_toArray, List.set_cons_zero, List.set_cons_succ]
          unfold Ac.v Ac.cs Bi.v
          refine take_at 5 16 (.tuple #[.agg #[.int .i64 b.me, .int .i64 b.rv, .int .i64 b.nx, .int .i64 b.mo, .int .i64 b.bo, .int .i64 b.fr, .slice pb lb cb], .agg #[.int .i64 l.id, .int .i64 l.te, .int .i64 l.de, .int .i64 l.fe, .int .i64 l.pr, .int .i64 l.ch, .int .i64 l.un], .int .i64 fb]) _ rfl rfl (by kernel_rfl) (by kernel_rfl) (by kernel_rfl) (fun _ _ _ h => h) (Or.inl ⟨by rfl, fun v hv => by clear hv; go_simp⟩) hHeld ?_
          simp only [Act.put, List.setIfInBounds_toArray, List.set_cons_zero, List.set_cons_succ]
          refine take_at 6 22 (.agg #[.int .i64 b.me, .int .i64 b.rv, .int .i64 b.nx, .int .i64 b.mo, .int .i64 b.bo, .int .i64 b.fr, .slice pb lb cb]) _ rfl rfl (by kernel_rfl) (by kernel_rfl) (by kernel_rfl) (fun _ _ _ h => h) (Or.inl ⟨by rfl, fun v hv => by clear hv; go_simp⟩) hHeld ?_
          simp only [Act.put, List.setIfInBounds_toArray, List.set_cons_zero, List.set_cons_succ]
          refine take_at 7 23 (.agg #[.int .i64 l.id, .int .i64 l.te, .int .i64 l.de, .int .i64 l.fe, .int .i64 l.pr, .int .i64 l.ch, .int .i64 l.un]) _ rfl rfl (by kernel_rfl) (by kernel_rfl) (by kernel_rfl) (fun _ _ _ h => h) (Or.inl ⟨by rfl, fun v hv => by clear hv; go_simp⟩) hHeld ?_
          simp only [Act.put, List.setIfInBounds_toArray, List.set_cons_zero, List.set_cons_succ]
          refine take_at 8 24 (.int .i64 fb) _ rfl rfl (by kernel_rfl) (by kernel_rfl) (by kernel_rfl) (fun _ _ _ h => h) (Or.inl ⟨by rfl, fun v hv => by clear hv; go_simp⟩) hHeld ?_
          simp only [Act.put, List.setIfInBounds_toArray, List.set_cons_zero, List.set_cons_succ]
          refine wpAnyH_ready (rs := [10]) (by kernel_rfl) (by simp) (AllReadyH.cons rfl (fun K hK => ?_) AllReadyH.nil)
          rw [if_pos (by rfl)]
          have HB4 : Hid (Below W3.heap.size W3 (U3.alloc (.cells #[.int .i64 0, .int .i64 0, .int .i64 0, .int .i64 0, .int .i64 0, .int .i64 0, .int .i64 0] 41))) := HB3.out.alloc HB3.out.size _
          have HG10 : Hid (W3.heap.size ≤ U3.heap.size) := HB3.out.size
          have FE4 : Hid (Came (U3.alloc (.cells #[.int .i64 0, .int .i64 0, .int .i64 0, .int .i64 0, .int .i64 0, .int .i64 0, .int .i64 0] 41)) pb lb cb b.ds) := FE3.out.below ((Below.refl _ _).alloc (Nat.le_refl _) _)
          have HEE10 : Hid (0 < lb → ∀ y, pb = some y → y.block ≠ U3.heap.size) := fun hn y hy => Nat.ne_of_lt (came_lt FE3.out hn y hy)
          have HD910 : Hid (g9 ≠ U3.heap.size) := Nat.ne_of_lt G93.out.lt
          have G94 : Hid (Blk (U3.alloc (.cells #[.int .i64 0, .int .i64 0, .int .i64 0, .int .i64 0, .int .i64 0, .int .i64 0, .int .i64 0] 41)) g9 #[.int .i64 0, .int .i64 0, .int .i64 0, .int .i64 0, .int .i64 0, .int .i64 0, .slice none 0 0] 32) := G93.out.alloc _
          have G104 : Hid (Blk (U3.alloc (.cells #[.int .i64 0, .int .i64 0, .int .i64 0, .int .i64 0, .int .i64 0, .int .i64 0, .int .i64 0] 41)) U3.heap.size #[.int .i64 0, .int .i64 0, .int .i64 0, .int .i64 0, .int .i64 0, .int .i64 0, .int .i64 0] 41) := Blk.new _ _ _
          refine wp_runOp (v := .pointer (some ⟨U3.heap.size, 0, none⟩)) (w' := (U3.alloc (.cells #[.int .i64 0, .int .i64 0, .int .i64 0, .int .i64 0, .int .i64 0, .int .i64 0, .int .i64 0] 41))) 9 rfl (by clear hK; go_simp) ?_
          refine hK.out _ _ HB4.out (fun hHeld => ?_)
          clear hK HB3 FE3 G93
          simp only [Act.put, List.setIfInBounds_toArray, List.set_cons_zero, List.set_cons_succ]
          generalize U3.heap.size = g10 at *
          generalize U3.alloc _ = U4 at *
          refine wpAnyH_ready (rs := [11]) (by kernel_rfl) (by simp) (AllReadyH.cons rfl (fun K hK => ?_) AllReadyH.nil)
          rw [if_pos (by rfl)]
          refine wp_letOp 32 _ _ rfl g9 rfl #[.int .i64 b.me, .int .i64 b.rv, .int .i64 b.nx, .int .i64 b.mo, .int .i64 b.bo, .int .i64 b.fr, .slice pb lb cb] rfl (by kernel_rfl) (by simp [Value.oneCell']) #[.int .i64 0, .int .i64 0, .int .i64 0, .int .i64 0, .int .i64 0, .int .i64 0, .slice none 0 0] 32 G94.out rfl rfl ?_
          intro U5 hU
          have HB5 : Hid (Below W3.heap.size W3 U5) := hU.bel _ _ HG9.out HB4.out
          have FE5 : Hid (Came U5 pb lb cb b.ds) := came_upd FE4.out hU HEE9.out
          have G95 : Hid (Blk U5 g9 #[.int .i64 b.me, .int .i64 b.rv, .int .i64 b.nx, .int .i64 b.mo, .int .i64 b.bo, .int .i64 b.fr, .slice pb lb cb] 32) := hU.blk
          have G105 : Hid (Blk U5 g10 #[.int .i64 0, .int .i64 0, .int .i64 0, .int .i64 0, .int .i64 0, .int .i64 0, .int .i64 0] 41) := hU.keep G104.out (by have := HD910.out; omega)
          refine hK.out _ _ HB5.out (fun hHeld => ?_)
          clear hK hU HB4 FE4 G94 G104
          refine wpAnyH_ready (rs := [12]) (by kernel_rfl) (by simp) (AllReadyH.cons rfl (fun K hK => ?_) AllReadyH.nil)
          rw [if_pos (by rfl)]
          refine wp_letOp 41 _ _ rfl g10 rfl #[.int .i64 l.id, .int .i64 l.te, .int .i64 l.de, .int .i64 l.fe, .int .i64 l.pr, .int .i64 l.ch, .int .i64 l.un] rfl (by kernel_rfl) (by simp [Value.oneCell']) #[.int .i64 0, .int .i64 0, .int .i64 0, .int .i64 0, .int .i64 0, .int .i64 0, .int .i64 0] 41 G105.out rfl rfl ?_
          intro U6 hU
          have HB6 : Hid (Below W3.heap.size W3 U6) := hU.bel _ _ HG10.out HB5.out
          have FE6 : Hid (Came U6 pb lb cb b.ds) := came_upd FE5.out hU HEE10.out
          have G96 : Hid (Blk U6 g9 #[.int .i64 b.me, .int .i64 b.rv, .int .i64 b.nx, .int .i64 b.mo, .int .i64 b.bo, .int .i64 b.fr, .slice pb lb cb] 32) := hU.keep G95.out (by have := HD910.out; omega)
          have G106 : Hid (Blk U6 g10 #[.int .i64 l.id, .int .i64 l.te, .int .i64 l.de, .int .i64 l.fe, .int .i64 l.pr, .int .i64 l.ch, .int .i64 l.un] 41) := hU.blk
          refine hK.out _ _ HB6.out (fun hHeld => ?_)
          clear hK hU HB5 FE5 G95 G105
          refine take_at 13 10 (.int .i64 fb) _ rfl rfl (by kernel_rfl) (by kernel_rfl) (by kernel_rfl) (fun _ _ _ h => h) (Or.inl ⟨by rfl, fun v hv => by clear hv; go_simp⟩) hHeld ?_
          simp only [Act.put, List.setIfInBounds_toArray, List.set_cons_zero, List.set_cons_succ]
          refine wpAnyH_done (by kernel_rfl) ?_ _
          clear hHeld
          go_wp2_with fail
          go_meet
          case rel => exact ⟨g9, g10, b, l, pb, lb, cb, fb, rfl, rfl, rfl, G96.out, G106.out, HI.out, FE6.out, HB6.out⟩
        · rw [if_pos (by rfl)]
          have HB3 : Hid (Below W3.heap.size W3 (U2.alloc (.cells #[.int .i64 0, .int .i64 0, .int .i64 0, .int .i64 0, .int .i64 0, .int .i64 0, .int .i64 0] 41))) := HB2.out.alloc HB2.out.size _
          have HG10 : Hid (W3.heap.size ≤ U2.heap.size) := HB2.out.size
          have FU3 : Hid (Came (U2.alloc (.cells #[.int .i64 0, .int .i64 0, .int .i64 0, .int .i64 0, .int .i64 0, .int .i64 0, .int .i64 0] 41)) p4 lt c4 t.ts) := FU2.out.below ((Below.refl _ _).alloc (Nat.le_refl _) _)
          have HEU10 : Hid (0 < lt → ∀ y, p4 = some y → y.block ≠ U2.heap.size) := fun hn y hy => Nat.ne_of_lt (came_lt FU2.out hn y hy)
          have HD910 : Hid (g9 ≠ U2.heap.size) := Nat.ne_of_lt G92.out.lt
          have G93 : Hid (Blk (U2.alloc (.cells #[.int .i64 0, .int .i64 0, .int .i64 0, .int .i64 0, .int .i64 0, .int .i64 0, .int .i64 0] 41)) g9 #[.int .i64 0, .int .i64 0, .int .i64 0, .int .i64 0, .int .i64 0, .int .i64 0, .slice none 0 0] 32) := G92.out.alloc _
          have G103 : Hid (Blk (U2.alloc (.cells #[.int .i64 0, .int .i64 0, .int .i64 0, .int .i64 0, .int .i64 0, .int .i64 0, .int .i64 0] 41)) U2.heap.size #[.int .i64 0, .int .i64 0, .int .i64 0, .int .i64 0, .int .i64 0, .int .i64 0, .int .i64 0] 41) := Blk.new _ _ _
          refine wp_runOp (v := .pointer (some ⟨U2.heap.size, 0, none⟩)) (w' := (U2.alloc (.cells #[.int .i64 0, .int .i64 0, .int .i64 0, .int .i64 0, .int .i64 0, .int .i64 0, .int .i64 0] 41))) 9 rfl (by clear hK; go_simp) ?_
          refine hK.out _ _ HB3.out (fun hHeld => ?_)
          clear hK HB2 FU2 G92
          simp only [Act.put, List.setIfInBounds_toArray, List.set_cons_zero, List.set_cons_succ]
          generalize U2.heap.size = g10 at *
          generalize U2.alloc _ = U3 at *
          refine wpAnyH_ready (rs := [4]) (by kernel_rfl) (by simp) (AllReadyH.cons rfl (fun K hK => ?_) AllReadyH.nil)
          rw [if_pos (by rfl)]
          refine wp_callOp 21 rfl (by clear hK; go_simp) (HGR.out U3 p4 c4 HB3.out FU3.out) ?_
          rintro e U4 ⟨b, l, pb, lb, cb, fb, rfl, hi, hf, hb⟩
          have HB4 : Hid (Below W3.heap.size W3 U4) := bel_step HB3.out hb
          have FE4 : Hid (Came U4 pb lb cb b.ds) := hf.came
          have HEE9 : Hid (0 < lb → ∀ y, pb = some y → y.block ≠ g9) := fun hn y hy => by have h1 := hf.new hn y hy; have h2 := G93.out.lt; omega
          have G94 : Hid (Blk U4 g9 #[.int .i64 0, .int .i64 0, .int .i64 0, .int .i64 0, .int .i64 0, .int .i64 0, .slice none 0 0] 32) := G93.out.next hb
          have HEE10 : Hid (0 < lb → ∀ y, pb = some y → y.block ≠ g10) := fun hn y hy => by have h1 := hf.new hn y hy; have h2 := G103.out.lt; omega
          have G104 : Hid (Blk U4 g10 #[.int .i64 0, .int .i64 0, .int .i64 0, .int .i64 0, .int .i64 0, .int .i64 0, .int .i64 0] 41) := G103.out.next hb
          have HI : Hid (GrantIs x t m b l fb) := hi
          refine ⟨_, rfl, hK.out _ _ HB4.out (fun hHeld => ?_)⟩
          clear hK hi hf hb HB3 FU3 G93 G103
          simp only [Act.put, List.setIfInBounds_toArray, List.set_cons_zero, List.set_cons_succ]
          unfold Ac.v Ac.cs Bi.v
          refine take_at 5 16 (.tuple #[.agg #[.int .i64 b.me, .int .i64 b.rv, .int .i64 b.nx, .int .i64 b.mo, .int .i64 b.bo, .int .i64 b.fr, .slice pb lb cb], .agg #[.int .i64 l.id, .int .i64 l.te, .int .i64 l.de, .int .i64 l.fe, .int .i64 l.pr, .int .i64 l.ch, .int .i64 l.un], .int .i64 fb]) _ rfl rfl (by kernel_rfl) (by kernel_rfl) (by kernel_rfl) (fun _ _ _ h => h) (Or.inl ⟨by rfl, fun v hv => by clear hv; go_simp⟩) hHeld ?_
          simp only [Act.put, List.setIfInBounds_toArray, List.set_cons_zero, List.set_cons_succ]
          refine take_at 6 22 (.agg #[.int .i64 b.me, .int .i64 b.rv, .int .i64 b.nx, .int .i64 b.mo, .int .i64 b.bo, .int .i64 b.fr, .slice pb lb cb]) _ rfl rfl (by kernel_rfl) (by kernel_rfl) (by kernel_rfl) (fun _ _ _ h => h) (Or.inl ⟨by rfl, fun v hv => by clear hv; go_simp⟩) hHeld ?_
          simp only [Act.put, List.setIfInBounds_toArray, List.set_cons_zero, List.set_cons_succ]
          refine take_at 7 23 (.agg #[.int .i64 l.id, .int .i64 l.te, .int .i64 l.de, .int .i64 l.fe, .int .i64 l.pr, .int .i64 l.ch, .int .i64 l.un]) _ rfl rfl (by kernel_rfl) (by kernel_rfl) (by kernel_rfl) (fun _ _ _ h => h) (Or.inl ⟨by rfl, fun v hv => by clear hv; go_simp⟩) hHeld ?_
          simp only [Act.put, List.setIfInBounds_toArray, List.set_cons_zero, List.set_cons_succ]
          refine take_at 8 24 (.int .i64 fb) _ rfl rfl (by kernel_rfl) (by kernel_rfl) (by kernel_rfl) (fun _ _ _ h => h) (Or.inl ⟨by rfl, fun v hv => by clear hv; go_simp⟩) hHeld ?_
          simp only [Act.put, List.setIfInBounds_toArray, List.set_cons_zero, List.set_cons_succ]
          refine wpAnyH_ready (rs := [11]) (by kernel_rfl) (by simp) (AllReadyH.cons rfl (fun K hK => ?_) AllReadyH.nil)
          rw [if_pos (by rfl)]
          refine wp_letOp 32 _ _ rfl g9 rfl #[.int .i64 b.me, .int .i64 b.rv, .int .i64 b.nx, .int .i64 b.mo, .int .i64 b.bo, .int .i64 b.fr, .slice pb lb cb] rfl (by kernel_rfl) (by simp [Value.oneCell']) #[.int .i64 0, .int .i64 0, .int .i64 0, .int .i64 0, .int .i64 0, .int .i64 0, .slice none 0 0] 32 G94.out rfl rfl ?_
          intro U5 hU
          have HB5 : Hid (Below W3.heap.size W3 U5) := hU.bel _ _ HG9.out HB4.out
          have FE5 : Hid (Came U5 pb lb cb b.ds) := came_upd FE4.out hU HEE9.out
          have G95 : Hid (Blk U5 g9 #[.int .i64 b.me, .int .i64 b.rv, .int .i64 b.nx, .int .i64 b.mo, .int .i64 b.bo, .int .i64 b.fr, .slice pb lb cb] 32) := hU.blk
          have G105 : Hid (Blk U5 g10 #[.int .i64 0, .int .i64 0, .int .i64 0, .int .i64 0, .int .i64 0, .int .i64 0, .int .i64 0] 41) := hU.keep G104.out (by have := HD910.out; omega)
          refine hK.out _ _ HB5.out (fun hHeld => ?_)
          clear hK hU HB4 FE4 G94 G104
          refine wpAnyH_ready (rs := [12]) (by kernel_rfl) (by simp) (AllReadyH.cons rfl (fun K hK => ?_) AllReadyH.nil)
          rw [if_pos (by rfl)]
          refine wp_letOp 41 _ _ rfl g10 rfl #[.int .i64 l.id, .int .i64 l.te, .int .i64 l.de, .int .i64 l.fe, .int .i64 l.pr, .int .i64 l.ch, .int .i64 l.un] rfl (by kernel_rfl) (by simp [Value.oneCell']) #[.int .i64 0, .int .i64 0, .int .i64 0, .int .i64 0, .int .i64 0, .int .i64 0, .int .i64 0] 41 G105.out rfl rfl ?_
          intro U6 hU
          have HB6 : Hid (Below W3.heap.size W3 U6) := hU.bel _ _ HG10.out HB5.out
          have FE6 : Hid (Came U6 pb lb cb b.ds) := came_upd FE5.out hU HEE10.out
          have G96 : Hid (Blk U6 g9 #[.int .i64 b.me, .int .i64 b.rv, .int .i64 b.nx, .int .i64 b.mo, .int .i64 b.bo, .int .i64 b.fr, .slice pb lb cb] 32) := hU.keep G95.out (by have := HD910.out; omega)
          have G106 : Hid (Blk U6 g10 #[.int .i64 l.id, .int .i64 l.te, .int .i64 l.de, .int .i64 l.fe, .int .i64 l.pr, .int .i64 l.ch, .int .i64 l.un] 41) := hU.blk
          refine hK.out _ _ HB6.out (fun hHeld => ?_)
          clear hK hU HB5 FE5 G95 G105
          refine take_at 13 10 (.int .i64 fb) _ rfl rfl (by kernel_rfl) (by kernel_rfl) (by kernel_rfl) (fun _ _ _ h => h) (Or.inl ⟨by rfl, fun v hv => by clear hv; go_simp⟩) hHeld ?_
          simp only [Act.put, List.setIfInBounds_toArray, List.set_cons_zero, List.set_cons_succ]
          refine wpAnyH_done (by kernel_rfl) ?_ _
          clear hHeld
          go_wp2_with fail
          go_meet
          case rel => exact ⟨g9, g10, b, l, pb, lb, cb, fb, rfl, rfl, rfl, G96.out, G106.out, HI.out, FE6.out, HB6.out⟩
      · rw [if_pos (by rfl)]
        have HB2 : Hid (Below W3.heap.size W3 (U1.alloc (.cells #[.int .i64 0, .int .i64 0, .int .i64 0, .int .i64 0, .int .i64 0, .int .i64 0, .int .i64 0] 41))) := HB1.out.alloc HB1.out.size _
        have HG10 : Hid (W3.heap.size ≤ U1.heap.size) := HB1.out.size
        have HD910 : Hid (g9 ≠ U1.heap.size) := Nat.ne_of_lt G91.out.lt
        have G92 : Hid (Blk (U1.alloc (.cells #[.int .i64 0, .int .i64 0, .int .i64 0, .int .i64 0, .int .i64 0, .int .i64 0, .int .i64 0] 41)) g9 #[.int .i64 0, .int .i64 0, .int .i64 0, .int .i64 0, .int .i64 0, .int .i64 0, .slice none 0 0] 32) := G91.out.alloc _
        have G102 : Hid (Blk (U1.alloc (.cells #[.int .i64 0, .int .i64 0, .int .i64 0, .int .i64 0, .int .i64 0, .int .i64 0, .int .i64 0] 41)) U1.heap.size #[.int .i64 0, .int .i64 0, .int .i64 0, .int .i64 0, .int .i64 0, .int .i64 0, .int .i64 0] 41) := Blk.new _ _ _
        refine wp_runOp (v := .pointer (some ⟨U1.heap.size, 0, none⟩)) (w' := (U1.alloc (.cells #[.int .i64 0, .int .i64 0, .int .i64 0, .int .i64 0, .int .i64 0, .int .i64 0, .int .i64 0] 41))) 9 rfl (by clear hK; go_simp) ?_
        refine hK.out _ _ HB2.out (fun hHeld => ?_)
        clear hK HB1 G91
        simp only [Act.put, List.setIfInBounds_toArray, List.set_cons_zero, List.set_cons_succ]
        generalize U1.heap.size = g10 at *
        generalize U1.alloc _ = U2 at *
        refine wpAnyH_ready (rs := [2]) (by kernel_rfl) (by simp) (AllReadyH.cons rfl (fun K hK => ?_) AllReadyH.nil)
        rw [if_pos (by rfl)]
        refine wp_callOp 19 rfl (by clear hK; go_simp) (HTC.out U2 HB2.out) ?_
        rintro e U3 ⟨p4, c4, rfl, hf, hb⟩
        have HB3 : Hid (Below W3.heap.size W3 U3) := bel_step HB2.out hb
        have FU3 : Hid (Came U3 p4 lt c4 t.ts) := hf.came
        have HEU9 : Hid (0 < lt → ∀ y, p4 = some y → y.block ≠ g9) := fun hn y hy => by have h1 := hf.new hn y hy; have h2 := G92.out.lt; omega
        have G93 : Hid (Blk U3 g9 #[.int .i64 0, .int .i64 0, .int .i64 0, .int .i64 0, .int .i64 0, .int .i64 0, .slice none 0 0] 32) := G92.out.next hb
        have HEU10 : Hid (0 < lt → ∀ y, p4 = some y → y.block ≠ g10) := fun hn y hy => by have h1 := hf.new hn y hy; have h2 := G102.out.lt; omega
        have G103 : Hid (Blk U3 g10 #[.int .i64 0, .int .i64 0, .int .i64 0, .int .i64 0, .int .i64 0, .int .i64 0, .int .i64 0] 41) := G102.out.next hb
        refine ⟨_, rfl, hK.out _ _ HB3.out (fun hHeld => ?_)⟩
        clear hK hf hb HB2 G92 G102
        simp only [Act.put, List.setIfInBounds_toArray, List.set_cons_zero, List.set_cons_succ]
        unfold Tm.v
        refine wpAnyH_ready (rs := [4]) (by kernel_rfl) (by simp) (AllReadyH.cons rfl (fun K hK => ?_) AllReadyH.nil)
        rw [if_pos (by rfl)]
        refine wp_callOp 21 rfl (by clear hK; go_simp) (HGR.out U3 p4 c4 HB3.out FU3.out) ?_
        rintro e U4 ⟨b, l, pb, lb, cb, fb, rfl, hi, hf, hb⟩
        have HB4 : Hid (Below W3.heap.size W3 U4) := bel_step HB3.out hb
        have FE4 : Hid (Came U4 pb lb cb b.ds) := hf.came
        have HEE9 : Hid (0 < lb → ∀ y, pb = some y → y.block ≠ g9) := fun hn y hy => by have h1 := hf.new hn y hy; have h2 := G93.out.lt; omega
        have G94 : Hid (Blk U4 g9 #[.int .i64 0, .int .i64 0, .int .i64 0, .int .i64 0, .int .i64 0, .int .i64 0, .slice none 0 0] 32) := G93.out.next hb
        have HEE10 : Hid (0 < lb → ∀ y, pb = some y → y.block ≠ g10) := fun hn y hy => by have h1 := hf.new hn y hy; have h2 := G103.out.lt; omega
        have G104 : Hid (Blk U4 g10 #[.int .i64 0, .int .i64 0, .int .i64 0, .int .i64 0, .int .i64 0, .int .i64 0, .int .i64 0] 41) := G103.out.next hb
        have HI : Hid (GrantIs x t m b l fb) := hi
        refine ⟨_, rfl, hK.out _ _ HB4.out (fun hHeld => ?_)⟩
        clear hK hi hf hb HB3 FU3 G93 G103
        simp only [Act.put, List.setIfInBounds_toArray, List.set_cons_zero, List.set_cons_succ]
        unfold Ac.v Ac.cs Bi.v
        refine take_at 5 16 (.tuple #[.agg #[.int .i64 b.me, .int .i64 b.rv, .int .i64 b.nx, .int .i64 b.mo, .int .i64 b.bo, .int .i64 b.fr, .slice pb lb cb], .agg #[.int .i64 l.id, .int .i64 l.te, .int .i64 l.de, .int .i64 l.fe, .int .i64 l.pr, .int .i64 l.ch, .int .i64 l.un], .int .i64 fb]) _ rfl rfl (by kernel_rfl) (by kernel_rfl) (by kernel_rfl) (fun _ _ _ h => h) (Or.inl ⟨by rfl, fun v hv => by clear hv; go_simp⟩) hHeld ?_
        simp only [Act.put, List.setIfInBounds_toArray, List.set_cons_zero, List.set_cons_succ]
        refine take_at 6 22 (.agg #[.int .i64 b.me, .int .i64 b.rv, .int .i64 b.nx, .int .i64 b.mo, .int .i64 b.bo, .int .i64 b.fr, .slice pb lb cb]) _ rfl rfl (by kernel_rfl) (by kernel_rfl) (by kernel_rfl) (fun _ _ _ h => h) (Or.inl ⟨by rfl, fun v hv => by clear hv; go_simp⟩) hHeld ?_
        simp only [Act.put, List.setIfInBounds_toArray, List.set_cons_zero, List.set_cons_succ]
        refine take_at 7 23 (.agg #[.int .i64 l.id, .int .i64 l.te, .int .i64 l.de, .int .i64 l.fe, .int .i64 l.pr, .int .i64 l.ch, .int .i64 l.un]) _ rfl rfl (by kernel_rfl) (by kernel_rfl) (by kernel_rfl) (fun _ _ _ h => h) (Or.inl ⟨by rfl, fun v hv => by clear hv; go_simp⟩) hHeld ?_
        simp only [Act.put, List.setIfInBounds_toArray, List.set_cons_zero, List.set_cons_succ]
        refine take_at 8 24 (.int .i64 fb) _ rfl rfl (by kernel_rfl) (by kernel_rfl) (by kernel_rfl) (fun _ _ _ h => h) (Or.inl ⟨by rfl, fun v hv => by clear hv; go_simp⟩) hHeld ?_
        simp only [Act.put, List.setIfInBounds_toArray, List.set_cons_zero, List.set_cons_succ]
        refine wpAnyH_ready (rs := [11]) (by kernel_rfl) (by simp) (AllReadyH.cons rfl (fun K hK => ?_) AllReadyH.nil)
        rw [if_pos (by rfl)]
        refine wp_letOp 32 _ _ rfl g9 rfl #[.int .i64 b.me, .int .i64 b.rv, .int .i64 b.nx, .int .i64 b.mo, .int .i64 b.bo, .int .i64 b.fr, .slice pb lb cb] rfl (by kernel_rfl) (by simp [Value.oneCell']) #[.int .i64 0, .int .i64 0, .int .i64 0, .int .i64 0, .int .i64 0, .int .i64 0, .slice none 0 0] 32 G94.out rfl rfl ?_
        intro U5 hU
        have HB5 : Hid (Below W3.heap.size W3 U5) := hU.bel _ _ HG9.out HB4.out
        have FE5 : Hid (Came U5 pb lb cb b.ds) := came_upd FE4.out hU HEE9.out
        have G95 : Hid (Blk U5 g9 #[.int .i64 b.me, .int .i64 b.rv, .int .i64 b.nx, .int .i64 b.mo, .int .i64 b.bo, .int .i64 b.fr, .slice pb lb cb] 32) := hU.blk
        have G105 : Hid (Blk U5 g10 #[.int .i64 0, .int .i64 0, .int .i64 0, .int .i64 0, .int .i64 0, .int .i64 0, .int .i64 0] 41) := hU.keep G104.out (by have := HD910.out; omega)
        refine hK.out _ _ HB5.out (fun hHeld => ?_)
        clear hK hU HB4 FE4 G94 G104
        refine wpAnyH_ready (rs := [12]) (by kernel_rfl) (by simp) (AllReadyH.cons rfl (fun K hK => ?_) AllReadyH.nil)
        rw [if_pos (by rfl)]
        refine wp_letOp 41 _ _ rfl g10 rfl #[.int .i64 l.id, .int .i64 l.te, .int .i64 l.de, .int .i64 l.fe, .int .i64 l.pr, .int .i64 l.ch, .int .i64 l.un] rfl (by kernel_rfl) (by simp [Value.oneCell']) #[.int .i64 0, .int .i64 0, .int .i64 0, .int .i64 0, .int .i64 0, .int .i64 0, .int .i64 0] 41 G105.out rfl rfl ?_
        intro U6 hU
        have HB6 : Hid (Below W3.heap.size W3 U6) := hU.bel _ _ HG10.out HB5.out
        have FE6 : Hid (Came U6 pb lb cb b.ds) := came_upd FE5.out hU HEE10.out
        have G96 : Hid (Blk U6 g9 #[.int .i64 b.me, .int .i64 b.rv, .int .i64 b.nx, .int .i64 b.mo, .int .i64 b.bo, .int .i64 b.fr, .slice pb lb cb] 32) := hU.keep G95.out (by have := HD910.out; omega)
        have G106 : Hid (Blk U6 g10 #[.int .i64 l.id, .int .i64 l.te, .int .i64 l.de, .int .i64 l.fe, .int .i64 l.pr, .int .i64 l.ch, .int .i64 l.un] 41) := hU.blk
        refine hK.out _ _ HB6.out (fun hHeld => ?_)
        clear hK hU HB5 FE5 G95 G105
        refine take_at 13 10 (.int .i64 fb) _ rfl rfl (by kernel_rfl) (by kernel_rfl) (by kernel_rfl) (fun _ _ _ h => h) (Or.inl ⟨by rfl, fun v hv => by clear hv; go_simp⟩) hHeld ?_
        simp only [Act.put, List.setIfInBounds_toArray, List.set_cons_zero, List.set_cons_succ]
        refine wpAnyH_done (by kernel_rfl) ?_ _
        clear hHeld
        go_wp2_with fail
        go_meet
        case rel => exact ⟨g9, g10, b, l, pb, lb, cb, fb, rfl, rfl, rfl, G96.out, G106.out, HI.out, FE6.out, HB6.out⟩
    · rw [if_pos (by rfl)]
      have HB1 : Hid (Below W3.heap.size W3 (U0.alloc (.cells #[.int .i64 0, .int .i64 0, .int .i64 0, .int .i64 0, .int .i64 0, .int .i64 0, .int .i64 0] 41))) := HB0.out.alloc HB0.out.size _
      have HG10 : Hid (W3.heap.size ≤ U0.heap.size) := HB0.out.size
      have G101 : Hid (Blk (U0.alloc (.cells #[.int .i64 0, .int .i64 0, .int .i64 0, .int .i64 0, .int .i64 0, .int .i64 0, .int .i64 0] 41)) U0.heap.size #[.int .i64 0, .int .i64 0, .int .i64 0, .int .i64 0, .int .i64 0, .int .i64 0, .int .i64 0] 41) := Blk.new _ _ _
      refine wp_runOp (v := .pointer (some ⟨U0.heap.size, 0, none⟩)) (w' := (U0.alloc (.cells #[.int .i64 0, .int .i64 0, .int .i64 0, .int .i64 0, .int .i64 0, .int .i64 0, .int .i64 0] 41))) 9 rfl (by clear hK; go_simp) ?_
      refine hK.out _ _ HB1.out (fun hHeld => ?_)
      clear hK HB0
      simp only [Act.put, List.setIfInBounds_toArray, List.set_cons_zero, List.set_cons_succ]
      generalize U0.heap.size = g10 at *
      generalize U0.alloc _ = U1 at *
      refine wpAnyH_ready (rs := [2, 9]) (by kernel_rfl) (by simp) (AllReadyH.cons rfl (fun K hK => ?_) (AllReadyH.cons rfl (fun K hK => ?_) AllReadyH.nil))
      · rw [if_pos (by rfl)]
        refine wp_callOp 19 rfl (by clear hK; go_simp) (HTC.out U1 HB1.out) ?_
        rintro e U2 ⟨p4, c4, rfl, hf, hb⟩
        have HB2 : Hid (Below W3.heap.size W3 U2) := bel_step HB1.out hb
        have FU2 : Hid (Came U2 p4 lt c4 t.ts) := hf.came
        have HEU10 : Hid (0 < lt → ∀ y, p4 = some y → y.block ≠ g10) := fun hn y hy => by have h1 := hf.new hn y hy; have h2 := G101.out.lt; omega
        have G102 : Hid (Blk U2 g10 #[.int .i64 0, .int .i64 0, .int .i64 0, .int .i64 0, .int .i64 0, .int .i64 0, .int .i64 0] 41) := G101.out.next hb
        refine ⟨_, rfl, hK.out _ _ HB2.out (fun hHeld => ?_)⟩
        clear hK hf hb HB1 G101
        simp only [Act.put, List.setIfInBounds_toArray, List.set_cons_zero, List.set_cons_succ]
        unfold Tm.v
        refine wpAnyH_ready (rs := [4, 9]) (by kernel_rfl) (by simp) (AllReadyH.cons rfl (fun K hK => ?_) (AllReadyH.cons rfl (fun K hK => ?_) AllReadyH.nil))
        · rw [if_pos (by rfl)]
          refine wp_callOp 21 rfl (by clear hK; go_simp) (HGR.out U2 p4 c4 HB2.out FU2.out) ?_
          rintro e U3 ⟨b, l, pb, lb, cb, fb, rfl, hi, hf, hb⟩
          have HB3 : Hid (Below W3.heap.size W3 U3) := bel_step HB2.out hb
          have FE3 : Hid (Came U3 pb lb cb b.ds) := hf.came
          have HEE10 : Hid (0 < lb → ∀ y, pb = some y → y.block ≠ g10) := fun hn y hy => by have h1 := hf.new hn y hy; have h2 := G102.out.lt; omega
          have G103 : Hid (Blk U3 g10 #[.int .i64 0, .int .i64 0, .int .i64 0, .int .i64 0, .int .i64 0, .int .i64 0, .int .i64 0] 41) := G102.out.next hb
          have HI : Hid (GrantIs x t m b l fb) := hi
          refine ⟨_, rfl, hK.out _ _ HB3.out (fun hHeld => ?_)⟩
          clear hK hi hf hb HB2 FU2 G102
          simp only [Act.put, List.setIfInBounds_toArray, List.set_cons_zero, List.set_cons_succ]
          unfold Ac.v Ac.cs Bi.v
          refine take_at 5 16 (.tuple #[.agg #[.int .i64 b.me, .int .i64 b.rv, .int .i64 b.nx, .int .i64 b.mo, .int .i64 b.bo, .int .i64 b.fr, .slice pb lb cb], .agg #[.int .i64 l.id, .int .i64 l.te, .int .i64 l.de, .int .i64 l.fe, .int .i64 l.pr, .int .i64 l.ch, .int .i64 l.un], .int .i64 fb]) _ rfl rfl (by kernel_rfl) (by kernel_rfl) (by kernel_rfl) (fun _ _ _ h => h) (Or.inl ⟨by rfl, fun v hv => by clear hv; go_simp⟩) hHeld ?_
          simp only [Act.put, List.setIfInBounds_toArray, List.set_cons_zero, List.set_cons_succ]
          refine take_at 6 22 (.agg #[.int .i64 b.me, .int .i64 b.rv, .int .i64 b.nx, .int .i64 b.mo, .int .i64 b.bo, .int .i64 b.fr, .slice pb lb cb]) _ rfl rfl (by kernel_rfl) (by kernel_rfl) (by kernel_rfl) (fun _ _ _ h => h) (Or.inl ⟨by rfl, fun v hv => by clear hv; go_simp⟩) hHeld ?_
          simp only [Act.put, List.setIfInBounds_toArray, List.set_cons_zero, List.set_cons_succ]
          refine take_at 7 23 (.agg #[.int .i64 l.id, .int .i64 l.te, .int .i64 l.de, .int .i64 l.fe, .int .i64 l.pr, .int .i64 l.ch, .int .i64 l.un]) _ rfl rfl (by kernel_rfl) (by kernel_rfl) (by kernel_rfl) (fun _ _ _ h => h) (Or.inl ⟨by rfl, fun v hv => by clear hv; go_simp⟩) hHeld ?_
          simp only [Act.put, List.setIfInBounds_toArray, List.set_cons_zero, List.set_cons_succ]
          refine take_at 8 24 (.int .i64 fb) _ rfl rfl (by kernel_rfl) (by kernel_rfl) (by kernel_rfl) (fun _ _ _ h => h) (Or.inl ⟨by rfl, fun v hv => by clear hv; go_simp⟩) hHeld ?_
          simp only [Act.put, List.setIfInBounds_toArray, List.set_cons_zero, List.set_cons_succ]
          refine wpAnyH_ready (rs := [9]) (by kernel_rfl) (by simp) (AllReadyH.cons rfl (fun K hK => ?_) AllReadyH.nil)
          rw [if_pos (by rfl)]
          have HB4 : Hid (Below W3.heap.size W3 (U3.alloc (.cells #[.int .i64 0, .int .i64 0, .int .i64 0, .int .i64 0, .int .i64 0, .int .i64 0, .slice none 0 0] 32))) := HB3.out.alloc HB3.out.size _
          have HG9 : Hid (W3.heap.size ≤ U3.heap.size) := HB3.out.size
          have FE4 : Hid (Came (U3.alloc (.cells #[.int .i64 0, .int .i64 0, .int .i64 0, .int .i64 0, .int .i64 0, .int .i64 0, .slice none 0 0] 32)) pb lb cb b.ds) := FE3.out.below ((Below.refl _ _).alloc (Nat.le_refl _) _)
          have HEE9 : Hid (0 < lb → ∀ y, pb = some y → y.block ≠ U3.heap.size) := fun hn y hy => Nat.ne_of_lt (came_lt FE3.out hn y hy)
          have HD109 : Hid (g10 ≠ U3.heap.size) := Nat.ne_of_lt G103.out.lt
          have G104 : Hid (Blk (U3.alloc (.cells #[.int .i64 0, .int .i64 0, .int .i64 0, .int .i64 0, .int .i64 0, .int .i64 0, .slice none 0 0] 32)) g10 #[.int .i64 0, .int .i64 0, .int .i64 0, .int .i64 0, .int .i64 0, .int .i64 0, .int .i64 0] 41) := G103.out.alloc _
          have G94 : Hid (Blk (U3.alloc (.cells #[.int .i64 0, .int .i64 0, .int .i64 0, .int .i64 0, .int .i64 0, .int .i64 0, .slice none 0 0] 32)) U3.heap.size #[.int .i64 0, .int .i64 0, .int .i64 0, .int .i64 0, .int .i64 0, .int .i64 0, .slice none 0 0] 32) := Blk.new _ _ _
          refine wp_runOp (v := .pointer (some ⟨U3.heap.size, 0, none⟩)) (w' := (U3.alloc (.cells #[.int .i64 0, .int .i64 0, .int .i64 0, .int .i64 0, .int .i64 0, .int .i64 0, .slice none 0 0] 32))) 8 rfl (by clear hK; go_simp) ?_
          refine hK.out _ _ HB4.out (fun hHeld => ?_)
          clear hK HB3 FE3 G103
          simp only [Act.put, List.setIfInBounds_toArray, List.set_cons_zero, List.set_cons_succ]
          generalize U3.heap.size = g9 at *
          generalize U3.alloc _ = U4 at *
          refine wpAnyH_ready (rs := [11]) (by kernel_rfl) (by simp) (AllReadyH.cons rfl (fun K hK => ?_) AllReadyH.nil)
          rw [if_pos (by rfl)]
          refine wp_letOp 32 _ _ rfl g9 rfl #[.int .i64 b.me, .int .i64 b.rv, .int .i64 b.nx, .int .i64 b.mo, .int .i64 b.bo, .int .i64 b.fr, .slice pb lb cb] rfl (by kernel_rfl) (by simp [Value.oneCell']) #[.int .i64 0, .int .i64 0, .int .i64 0, .int .i64 0, .int .i64 0, .int .i64 0, .slice none 0 0] 32 G94.out rfl rfl ?_
          intro U5 hU
          have HB5 : Hid (Below W3.heap.size W3 U5) := hU.bel _ _ HG9.out HB4.out
          have FE5 : Hid (Came U5 pb lb cb b.ds) := came_upd FE4.out hU HEE9.out
          have G105 : Hid (Blk U5 g10 #[.int .i64 0, .int .i64 0, .int .i64 0, .int .i64 0, .int .i64 0, .int .i64 0, .int .i64 0] 41) := hU.keep G104.out (by have := HD109.out; omega)
          have G95 : Hid (Blk U5 g9 #[.int .i64 b.me, .int .i64 b.rv, .int .i64 b.nx, .int .i64 b.mo, .int .i64 b.bo, .int .i64 b.fr, .slice pb lb cb] 32) := hU.blk
          refine hK.out _ _ HB5.out (fun hHeld => ?_)
          clear hK hU HB4 FE4 G104 G94
          refine wpAnyH_ready (rs := [12]) (by kernel_rfl) (by simp) (AllReadyH.cons rfl (fun K hK => ?_) AllReadyH.nil)
          rw [if_pos (by rfl)]
          refine wp_letOp 41 _ _ rfl g10 rfl #[.int .i64 l.id, .int .i64 l.te, .int .i64 l.de, .int .i64 l.fe, .int .i64 l.pr, .int .i64 l.ch, .int .i64 l.un] rfl (by kernel_rfl) (by simp [Value.oneCell']) #[.int .i64 0, .int .i64 0, .int .i64 0, .int .i64 0, .int .i64 0, .int .i64 0, .int .i64 0] 41 G105.out rfl rfl ?_
          intro U6 hU
          have HB6 : Hid (Below W3.heap.size W3 U6) := hU.bel _ _ HG10.out HB5.out
          have FE6 : Hid (Came U6 pb lb cb b.ds) := came_upd FE5.out hU HEE10.out
          have G106 : Hid (Blk U6 g10 #[.int .i64 l.id, .int .i64 l.te, .int .i64 l.de, .int .i64 l.fe, .int .i64 l.pr, .int .i64 l.ch, .int .i64 l.un] 41) := hU.blk
          have G96 : Hid (Blk U6 g9 #[.int .i64 b.me, .int .i64 b.rv, .int .i64 b.nx, .int .i64 b.mo, .int .i64 b.bo, .int .i64 b.fr, .slice pb lb cb] 32) := hU.keep G95.out (by have := HD109.out; omega)
          refine hK.out _ _ HB6.out (fun hHeld => ?_)
          clear hK hU HB5 FE5 G105 G95
          refine take_at 13 10 (.int .i64 fb) _ rfl rfl (by kernel_rfl) (by kernel_rfl) (by kernel_rfl) (fun _ _ _ h => h) (Or.inl ⟨by rfl, fun v hv => by clear hv; go_simp⟩) hHeld ?_
          simp only [Act.put, List.setIfInBounds_toArray, List.set_cons_zero, List.set_cons_succ]
          refine wpAnyH_done (by kernel_rfl) ?_ _
          clear hHeld
          go_wp2_with fail
          go_meet
          case rel => exact ⟨g9, g10, b, l, pb, lb, cb, fb, rfl, rfl, rfl, G96.out, G106.out, HI.out, FE6.out, HB6.out⟩
        · rw [if_pos (by rfl)]
          have HB3 : Hid (Below W3.heap.size W3 (U2.alloc (.cells #[.int .i64 0, .int .i64 0, .int .i64 0, .int .i64 0, .int .i64 0, .int .i64 0, .slice none 0 0] 32))) := HB2.out.alloc HB2.out.size _
          have HG9 : Hid (W3.heap.size ≤ U2.heap.size) := HB2.out.size
          have FU3 : Hid (Came (U2.alloc (.cells #[.int .i64 0, .int .i64 0, .int .i64 0, .int .i64 0, .int .i64 0, .int .i64 0, .slice none 0 0] 32)) p4 lt c4 t.ts) := FU2.out.below ((Below.refl _ _).alloc (Nat.le_refl _) _)
          have HEU9 : Hid (0 < lt → ∀ y, p4 = some y → y.block ≠ U2.heap.size) := fun hn y hy => Nat.ne_of_lt (came_lt FU2.out hn y hy)
          have HD109 : Hid (g10 ≠ U2.heap.size) := Nat.ne_of_lt G102.out.lt
          have G103 : Hid (Blk (U2.alloc (.cells #[.int .i64 0, .int .i64 0, .int .i64 0, .int .i64 0, .int .i64 0, .int .i64 0, .slice none 0 0] 32)) g10 #[.int .i64 0, .int .i64 0, .int .i64 0, .int .i64 0, .int .i64 0, .int .i64 0, .int .i64 0] 41) := G102.out.alloc _
          have G93 : Hid (Blk (U2.alloc (.cells #[.int .i64 0, .int .i64 0, .int .i64 0, .int .i64 0, .int .i64 0, .int .i64 0, .slice none 0 0] 32)) U2.heap.size #[.int .i64 0, .int .i64 0, .int .i64 0, .int .i64 0, .int .i64 0, .int .i64 0, .slice none 0 0] 32) := Blk.new _ _ _
          refine wp_runOp (v := .pointer (some ⟨U2.heap.size, 0, none⟩)) (w' := (U2.alloc (.cells #[.int .i64 0, .int .i64 0, .int .i64 0, .int .i64 0, .int .i64 0, .int .i64 0, .slice none 0 0] 32))) 8 rfl (by clear hK; go_simp) ?_
          refine hK.out _ _ HB3.out (fun hHeld => ?_)
          clear hK HB2 FU2 G102
          simp only [Act.put, List.setIfInBounds_toArray, List.set_cons_zero, List.set_cons_succ]
          generalize U2.heap.size = g9 at *
          generalize U2.alloc _ = U3 at *
          refine wpAnyH_ready (rs := [4]) (by kernel_rfl) (by simp) (AllReadyH.cons rfl (fun K hK => ?_) AllReadyH.nil)
          rw [if_pos (by rfl)]
          refine wp_callOp 21 rfl (by clear hK; go_simp) (HGR.out U3 p4 c4 HB3.out FU3.out) ?_
          rintro e U4 ⟨b, l, pb, lb, cb, fb, rfl, hi, hf, hb⟩
          have HB4 : Hid (Below W3.heap.size W3 U4) := bel_step HB3.out hb
          have FE4 : Hid (Came U4 pb lb cb b.ds) := hf.came
          have HEE10 : Hid (0 < lb → ∀ y, pb = some y → y.block ≠ g10) := fun hn y hy => by have h1 := hf.new hn y hy; have h2 := G103.out.lt; omega
          have G104 : Hid (Blk U4 g10 #[.int .i64 0, .int .i64 0, .int .i64 0, .int .i64 0, .int .i64 0, .int .i64 0, .int .i64 0] 41) := G103.out.next hb
          have HEE9 : Hid (0 < lb → ∀ y, pb = some y → y.block ≠ g9) := fun hn y hy => by have h1 := hf.new hn y hy; have h2 := G93.out.lt; omega
          have G94 : Hid (Blk U4 g9 #[.int .i64 0, .int .i64 0, .int .i64 0, .int .i64 0, .int .i64 0, .int .i64 0, .slice none 0 0] 32) := G93.out.next hb
          have HI : Hid (GrantIs x t m b l fb) := hi
          refine ⟨_, rfl, hK.out _ _ HB4.out (fun hHeld => ?_)⟩
          clear hK hi hf hb HB3 FU3 G103 G93
          simp only [Act.put, List.setIfInBounds_toArray, List.set_cons_zero, List.set_cons_succ]
          unfold Ac.v Ac.cs Bi.v
          refine take_at 5 16 (.tuple #[.agg #[.int .i64 b.me, .int .i64 b.rv, .int .i64 b.nx, .int .i64 b.mo, .int .i64 b.bo, .int .i64 b.fr, .slice pb lb cb], .agg #[.int .i64 l.id, .int .i64 l.te, .int .i64 l.de, .int .i64 l.fe, .int .i64 l.pr, .int .i64 l.ch, .int .i64 l.un], .int .i64 fb]) _ rfl rfl (by kernel_rfl) (by kernel_rfl) (by kernel_rfl) (fun _ _ _ h => h) (Or.inl ⟨by rfl, fun v hv => by clear hv; go_simp⟩) hHeld ?_
          simp only [Act.put, List.setIfInBounds_toArray, List.set_cons_zero, List.set_cons_succ]
          refine take_at 6 22 (.agg #[.int .i64 b.me, .int .i64 b.rv, .int .i64 b.nx, .int .i64 b.mo, .int .i64 b.bo, .int .i64 b.fr, .slice pb lb cb]) _ rfl rfl (by kernel_rfl) (by kernel_rfl) (by kernel_rfl) (fun _ _ _ h => h) (Or.inl ⟨by rfl, fun v hv => by clear hv; go_simp⟩) hHeld ?_
          simp only [Act.put, List.setIfInBounds_toArray, List.set_cons_zero, List.set_cons_succ]
          refine take_at 7 23 (.agg #[.int .i64 l.id, .int .i64 l.te, .int .i64 l.de, .int .i64 l.fe, .int .i64 l.pr, .int .i64 l.ch, .int .i64 l.un]) _ rfl rfl (by kernel_rfl) (by kernel_rfl) (by kernel_rfl) (fun _ _ _ h => h) (Or.inl ⟨by rfl, fun v hv => by clear hv; go_simp⟩) hHeld ?_
          simp only [Act.put, List.setIfInBounds_toArray, List.set_cons_zero, List.set_cons_succ]
          refine take_at 8 24 (.int .i64 fb) _ rfl rfl (by kernel_rfl) (by kernel_rfl) (by kernel_rfl) (fun _ _ _ h => h) (Or.inl ⟨by rfl, fun v hv => by clear hv; go_simp⟩) hHeld ?_
          simp only [Act.put, List.setIfInBounds_toArray, List.set_cons_zero, List.set_cons_succ]
          refine wpAnyH_ready (rs := [11]) (by kernel_rfl) (by simp) (AllReadyH.cons rfl (fun K hK => ?_) AllReadyH.nil)
          rw [if_pos (by rfl)]
          refine wp_letOp 32 _ _ rfl g9 rfl #[.int .i64 b.me, .int .i64 b.rv, .int .i64 b.nx, .int .i64 b.mo, .int .i64 b.bo, .int .i64 b.fr, .slice pb lb cb] rfl (by kernel_rfl) (by simp [Value.oneCell']) #[.int .i64 0, .int .i64 0, .int .i64 0, .int .i64 0, .int .i64 0, .int .i64 0, .slice none 0 0] 32 G94.out rfl rfl ?_
          intro U5 hU
          have HB5 : Hid (Below W3.heap.size W3 U5) := hU.bel _ _ HG9.out HB4.out
          have FE5 : Hid (Came U5 pb lb cb b.ds) := came_upd FE4.out hU HEE9.out
          have G105 : Hid (Blk U5 g10 #[.int .i64 0, .int .i64 0, .int .i64 0, .int .i64 0, .int .i64 0, .int .i64 0, .int .i64 0] 41) := hU.keep G104.out (by have := HD109.out; omega)
          have G95 : Hid (Blk U5 g9 #[.int .i64 b.me, .int .i64 b.rv, .int .i64 b.nx, .int .i64 b.mo, .int .i64 b.bo, .int .i64 b.fr, .slice pb lb cb] 32) := hU.blk
          refine hK.out _ _ HB5.out (fun hHeld => ?_)
          clear hK hU HB4 FE4 G104 G94
          refine wpAnyH_ready (rs := [12]) (by kernel_rfl) (by simp) (AllReadyH.cons rfl (fun K hK => ?_) AllReadyH.nil)
          rw [if_pos (by rfl)]
          refine wp_letOp 41 _ _ rfl g10 rfl #[.int .i64 l.id, .int .i64 l.te, .int .i64 l.de, .int .i64 l.fe, .int .i64 l.pr, .int .i64 l.ch, .int .i64 l.un] rfl (by kernel_rfl) (by simp [Value.oneCell']) #[.int .i64 0, .int .i64 0, .int .i64 0, .int .i64 0, .int .i64 0, .int .i64 0, .int .i64 0] 41 G105.out rfl rfl ?_
          intro U6 hU
          have HB6 : Hid (Below W3.heap.size W3 U6) := hU.bel _ _ HG10.out HB5.out
          have FE6 : Hid (Came U6 pb lb cb b.ds) := came_upd FE5.out hU HEE10.out
          have G106 : Hid (Blk U6 g10 #[.int .i64 l.id, .int .i64 l.te, .int .i64 l.de, .int .i64 l.fe, .int .i64 l.pr, .int .i64 l.ch, .int .i64 l.un] 41) := hU.blk
          have G96 : Hid (Blk U6 g9 #[.int .i64 b.me, .int .i64 b.rv, .int .i64 b.nx, .int .i64 b.mo, .int .i64 b.bo, .int .i64 b.fr, .slice pb lb cb] 32) := hU.keep G95.out (by have := HD109.out; omega)
          refine hK.out _ _ HB6.out (fun hHeld => ?_)
          clear hK hU HB5 FE5 G105 G95
          refine take_at 13 10 (.int .i64 fb) _ rfl rfl (by kernel_rfl) (by kernel_rfl) (by kernel_rfl) (fun _ _ _ h => h) (Or.inl ⟨by rfl, fun v hv => by clear hv; go_simp⟩) hHeld ?_
          simp only [Act.put, List.setIfInBounds_toArray, List.set_cons_zero, List.set_cons_succ]
          refine wpAnyH_done (by kernel_rfl) ?_ _
          clear hHeld
          go_wp2_with fail
          go_meet
          case rel => exact ⟨g9, g10, b, l, pb, lb, cb, fb, rfl, rfl, rfl, G96.out, G106.out, HI.out, FE6.out, HB6.out⟩
      · rw [if_pos (by rfl)]
        have HB2 : Hid (Below W3.heap.size W3 (U1.alloc (.cells #[.int .i64 0, .int .i64 0, .int .i64 0, .int .i64 0, .int .i64 0, .int .i64 0, .slice none 0 0] 32))) := HB1.out.alloc HB1.out.size _
        have HG9 : Hid (W3.heap.size ≤ U1.heap.size) := HB1.out.size
        have HD109 : Hid (g10 ≠ U1.heap.size) := Nat.ne_of_lt G101.out.lt
        have G102 : Hid (Blk (U1.alloc (.cells #[.int .i64 0, .int .i64 0, .int .i64 0, .int .i64 0, .int .i64 0, .int .i64 0, .slice none 0 0] 32)) g10 #[.int .i64 0, .int .i64 0, .int .i64 0, .int .i64 0, .int .i64 0, .int .i64 0, .int .i64 0] 41) := G101.out.alloc _
        have G92 : Hid (Blk (U1.alloc (.cells #[.int .i64 0, .int .i64 0, .int .i64 0, .int .i64 0, .int .i64 0, .int .i64 0, .slice none 0 0] 32)) U1.heap.size #[.int .i64 0, .int .i64 0, .int .i64 0, .int .i64 0, .int .i64 0, .int .i64 0, .slice none 0 0] 32) := Blk.new _ _ _
        refine wp_runOp (v := .pointer (some ⟨U1.heap.size, 0, none⟩)) (w' := (U1.alloc (.cells #[.int .i64 0, .int .i64 0, .int .i64 0, .int .i64 0, .int .i64 0, .int .i64 0, .slice none 0 0] 32))) 8 rfl (by clear hK; go_simp) ?_
        refine hK.out _ _ HB2.out (fun hHeld => ?_)
        clear hK HB1 G101
        simp only [Act.put, List.setIfInBounds_toArray, List.set_cons_zero, List.set_cons_succ]
        generalize U1.heap.size = g9 at *
        generalize U1.alloc _ = U2 at *
        refine wpAnyH_ready (rs := [2]) (by kernel_rfl) (by simp) (AllReadyH.cons rfl (fun K hK => ?_) AllReadyH.nil)
        rw [if_pos (by rfl)]
        refine wp_callOp 19 rfl (by clear hK; go_simp) (HTC.out U2 HB2.out) ?_
        rintro e U3 ⟨p4, c4, rfl, hf, hb⟩
        have HB3 : Hid (Below W3.heap.size W3 U3) := bel_step HB2.out hb
        have FU3 : Hid (Came U3 p4 lt c4 t.ts) := hf.came
        have HEU10 : Hid (0 < lt → ∀ y, p4 = some y → y.block ≠ g10) := fun hn y hy => by have h1 := hf.new hn y hy; have h2 := G102.out.lt; omega
        have G103 : Hid (Blk U3 g10 #[.int .i64 0, .int .i64 0, .int .i64 0, .int .i64 0, .int .i64 0, .int .i64 0, .int .i64 0] 41) := G102.out.next hb
        have HEU9 : Hid (0 < lt → ∀ y, p4 = some y → y.block ≠ g9) := fun hn y hy => by have h1 := hf.new hn y hy; have h2 := G92.out.lt; omega
        have G93 : Hid (Blk U3 g9 #[.int .i64 0, .int .i64 0, .int .i64 0, .int .i64 0, .int .i64 0, .int .i64 0, .slice none 0 0] 32) := G92.out.next hb
        refine ⟨_, rfl, hK.out _ _ HB3.out (fun hHeld => ?_)⟩
        clear hK hf hb HB2 G102 G92
        simp only [Act.put, List.setIfInBounds_toArray, List.set_cons_zero, List.set_cons_succ]
        unfold Tm.v
        refine wpAnyH_ready (rs := [4]) (by kernel_rfl) (by simp) (AllReadyH.cons rfl (fun K hK => ?_) AllReadyH.nil)
        rw [if_pos (by rfl)]
        refine wp_callOp 21 rfl (by clear hK; go_simp) (HGR.out U3 p4 c4 HB3.out FU3.out) ?_
        rintro e U4 ⟨b, l, pb, lb, cb, fb, rfl, hi, hf, hb⟩
        have HB4 : Hid (Below W3.heap.size W3 U4) := bel_step HB3.out hb
        have FE4 : Hid (Came U4 pb lb cb b.ds) := hf.came
        have HEE10 : Hid (0 < lb → ∀ y, pb = some y → y.block ≠ g10) := fun hn y hy => by have h1 := hf.new hn y hy; have h2 := G103.out.lt; omega
        have G104 : Hid (Blk U4 g10 #[.int .i64 0, .int .i64 0, .int .i64 0, .int .i64 0, .int .i64 0, .int .i64 0, .int .i64 0] 41) := G103.out.next hb
        have HEE9 : Hid (0 < lb → ∀ y, pb = some y → y.block ≠ g9) := fun hn y hy => by have h1 := hf.new hn y hy; have h2 := G93.out.lt; omega
        have G94 : Hid (Blk U4 g9 #[.int .i64 0, .int .i64 0, .int .i64 0, .int .i64 0, .int .i64 0, .int .i64 0, .slice none 0 0] 32) := G93.out.next hb
        have HI : Hid (GrantIs x t m b l fb) := hi
        refine ⟨_, rfl, hK.out _ _ HB4.out (fun hHeld => ?_)⟩
        clear hK hi hf hb HB3 FU3 G103 G93
        simp only [Act.put, List.setIfInBounds_toArray, List.set_cons_zero, List.set_cons_succ]
        unfold Ac.v Ac.cs Bi.v
        refine take_at 5 16 (.tuple #[.agg #[.int .i64 b.me, .int .i64 b.rv, .int .i64 b.nx, .int .i64 b.mo, .int .i64 b.bo, .int .i64 b.fr, .slice pb lb cb], .agg #[.int .i64 l.id, .int .i64 l.te, .int .i64 l.de, .int .i64 l.fe, .int .i64 l.pr, .int .i64 l.ch, .int .i64 l.un], .int .i64 fb]) _ rfl rfl (by kernel_rfl) (by kernel_rfl) (by kernel_rfl) (fun _ _ _ h => h) (Or.inl ⟨by rfl, fun v hv => by clear hv; go_simp⟩) hHeld ?_
        simp only [Act.put, List.setIfInBounds_toArray, List.set_cons_zero, List.set_cons_succ]
        refine take_at 6 22 (.agg #[.int .i64 b.me, .int .i64 b.rv, .int .i64 b.nx, .int .i64 b.mo, .int .i64 b.bo, .int .i64 b.fr, .slice pb lb cb]) _ rfl rfl (by kernel_rfl) (by kernel_rfl) (by kernel_rfl) (fun _ _ _ h => h) (Or.inl ⟨by rfl, fun v hv => by clear hv; go_simp⟩) hHeld ?_
        simp only [Act.put, List.setIfInBounds_toArray, List.set_cons_zero, List.set_cons_succ]
        refine take_at 7 23 (.agg #[.int .i64 l.id, .int .i64 l.te, .int .i64 l.de, .int .i64 l.fe, .int .i64 l.pr, .int .i64 l.ch, .int .i64 l.un]) _ rfl rfl (by kernel_rfl) (by kernel_rfl) (by kernel_rfl) (fun _ _ _ h => h) (Or.inl ⟨by rfl, fun v hv => by clear hv; go_simp⟩) hHeld ?_
        simp only [Act.put, List.setIfInBounds_toArray, List.set_cons_zero, List.set_cons_succ]
        refine take_at 8 24 (.int .i64 fb) _ rfl rfl (by kernel_rfl) (by kernel_rfl) (by kernel_rfl) (fun _ _ _ h => h) (Or.inl ⟨by rfl, fun v hv => by clear hv; go_simp⟩) hHeld ?_
        simp only [Act.put, List.setIfInBounds_toArray, List.set_cons_zero, List.set_cons_succ]
        refine wpAnyH_ready (rs := [11]) (by kernel_rfl) (by simp) (AllReadyH.cons rfl (fun K hK => ?_) AllReadyH.nil)
        rw [if_pos (by rfl)]
        refine wp_letOp 32 _ _ rfl g9 rfl #[.int .i64 b.me, .int .i64 b.rv, .int .i64 b.nx, .int .i64 b.mo, .int .i64 b.bo, .int .i64 b.fr, .slice pb lb cb] rfl (by kernel_rfl) (by simp [Value.oneCell']) #[.int .i64 0, .int .i64 0, .int .i64 0, .int .i64 0, .int .i64 0, .int .i64 0, .slice none 0 0] 32 G94.out rfl rfl ?_
        intro U5 hU
        have HB5 : Hid (Below W3.heap.size W3 U5) := hU.bel _ _ HG9.out HB4.out
        have FE5 : Hid (Came U5 pb lb cb b.ds) := came_upd FE4.out hU HEE9.out
        have G105 : Hid (Blk U5 g10 #[.int .i64 0, .int .i64 0, .int .i64 0, .int .i64 0, .int .i64 0, .int .i64 0, .int .i64 0] 41) := hU.keep G104.out (by have := HD109.out; omega)
        have G95 : Hid (Blk U5 g9 #[.int .i64 b.me, .int .i64 b.rv, .int .i64 b.nx, .int .i64 b.mo, .int .i64 b.bo, .int .i64 b.fr, .slice pb lb cb] 32) := hU.blk
        refine hK.out _ _ HB5.out (fun hHeld => ?_)
        clear hK hU HB4 FE4 G104 G94
        refine wpAnyH_ready (rs := [12]) (by kernel_rfl) (by simp) (AllReadyH.cons rfl (fun K hK => ?_) AllReadyH.nil)
        rw [if_pos (by rfl)]
        refine wp_letOp 41 _ _ rfl g10 rfl #[.int .i64 l.id, .int .i64 l.te, .int .i64 l.de, .int .i64 l.fe, .int .i64 l.pr, .int .i64 l.ch, .int .i64 l.un] rfl (by kernel_rfl) (by simp [Value.oneCell']) #[.int .i64 0, .int .i64 0, .int .i64 0, .int .i64 0, .int .i64 0, .int .i64 0, .int .i64 0] 41 G105.out rfl rfl ?_
        intro U6 hU
        have HB6 : Hid (Below W3.heap.size W3 U6) := hU.bel _ _ HG10.out HB5.out
        have FE6 : Hid (Came U6 pb lb cb b.ds) := came_upd FE5.out hU HEE10.out
        have G106 : Hid (Blk U6 g10 #[.int .i64 l.id, .int .i64 l.te, .int .i64 l.de, .int .i64 l.fe, .int .i64 l.pr, .int .i64 l.ch, .int .i64 l.un] 41) := hU.blk
        have G96 : Hid (Blk U6 g9 #[.int .i64 b.me, .int .i64 b.rv, .int .i64 b.nx, .int .i64 b.mo, .int .i64 b.bo, .int .i64 b.fr, .slice pb lb cb] 32) := hU.keep G95.out (by have := HD109.out; omega)
        refine hK.out _ _ HB6.out (fun hHeld => ?_)
        clear hK hU HB5 FE5 G105 G95
        refine take_at 13 10 (.int .i64 fb) _ rfl rfl (by kernel_rfl) (by kernel_rfl) (by kernel_rfl) (fun _ _ _ h => h) (Or.inl ⟨by rfl, fun v hv => by clear hv; go_simp⟩) hHeld ?_
        simp only [Act.put, List.setIfInBounds_toArray, List.set_cons_zero, List.set_cons_succ]
        refine wpAnyH_done (by kernel_rfl) ?_ _
        clear hHeld
        go_wp2_with fail
        go_meet
        case rel => exact ⟨g9, g10, b, l, pb, lb, cb, fb, rfl, rfl, rfl, G96.out, G106.out, HI.out, FE6.out, HB6.out⟩
  case rest =>
    obtain ⟨g8, g9, b, l, pb, lb, cb, fb, rfl, rfl, rfl, h8, h9, hi4, hc4, hb4⟩ := hcut
    have H4x : Hid (Blk wc (w.heap.size) #[.int .i64 x.me, .int .i64 x.rv, .int .i64 x.nx, .int .i64 x.mo, .int .i64 x.bo, .int .i64 x.fr, .slice p len cap] 32) := H3x.out.next hb4
    have H4t : Hid (Blk wc (w.heap.size + 1) #[.slice pt lt ct, .int .i64 t.ff, .int .i64 t.fb, .int .i64 t.db, .int .i64 t.al] 24) := H3t.out.next hb4
    have H4c : Hid (Blk wc (w2.heap.size) #[.int .i64 x.me, .int .i64 x.rv, .int .i64 x.nx, .int .i64 x.mo, .int .i64 x.bo, .int .i64 x.fr, .slice p2 len c2] 32) := H3c.out.next hb4
    have H4C : Hid (ACame wc x p len cap) := H3C.out.below hb4
    have H4T : Hid (TCame wc t pt lt ct) := H3T.out.below hb4
    have H4D : Hid (ACame wc x p2 len c2) := H3D.out.below hb4
    have H4B : Hid (Below w.heap.size w wc) := H3B.out.trans (hb4.mono H3B.out.size)
    have H4a : Hid (Blk wc g8 #[.int .i64 b.me, .int .i64 b.rv, .int .i64 b.nx, .int .i64 b.mo, .int .i64 b.bo, .int .i64 b.fr, .slice pb lb cb] 32) := h8
    have H4m : Hid (Blk wc g9 #[.int .i64 l.id, .int .i64 l.te, .int .i64 l.de, .int .i64 l.fe, .int .i64 l.pr, .int .i64 l.ch, .int .i64 l.un] 41) := h9
    have H4E : Hid (Came wc pb lb cb b.ds) := hc4
    have HI : Hid (GrantIs x t m b l fb) := hi4
    clear hb4 h8 h9 hc4 hi4 HTC HGR H3x H3t H3c H3C H3T H3D H3B
    have H2K : Hid (Calls Try.prog 22 #[.agg #[.int .i64 x.me, .int .i64 x.rv, .int .i64 x.nx, .int .i64 x.mo, .int .i64 x.bo, .int .i64 x.fr, .slice p len cap], .agg #[.slice pt lt ct, .int .i64 t.ff, .int .i64 t.fb, .int .i64 t.db, .int .i64 t.al], .int .i64 m] wc fun e w' => BPost wc (GrantIs x t m) e w') := rgranted x p len cap t pt lt ct m wc H4C.out.ds.row H4C.out.ds.most H4T.out.ts.row H4T.out.ts.most
    go_wp2_with (first
      | (refine wp_whole rfl 32 _ rfl (w.heap.size) rfl 32 #[.int .i64 x.me, .int .i64 x.rv, .int .i64 x.nx, .int .i64 x.mo, .int .i64 x.bo, .int .i64 x.fr, .slice p len cap] _ H4x.out Try.underlying32 rfl (by kernel_rfl) ?_)
      | (refine wp_wholeG (by rfl) 32 _ rfl (w.heap.size) rfl 32 #[.int .i64 x.me, .int .i64 x.rv, .int .i64 x.nx, .int .i64 x.mo, .int .i64 x.bo, .int .i64 x.fr, .slice p len cap] _ H4x.out Try.underlying32 rfl (by kernel_rfl) ?_)
      | (refine wp_whole rfl 24 _ rfl (w.heap.size + 1) rfl 24 #[.slice pt lt ct, .int .i64 t.ff, .int .i64 t.fb, .int .i64 t.db, .int .i64 t.al] _ H4t.out Try.underlying24 rfl (by kernel_rfl) ?_)
      | (refine wp_wholeG (by rfl) 24 _ rfl (w.heap.size + 1) rfl 24 #[.slice pt lt ct, .int .i64 t.ff, .int .i64 t.fb, .int .i64 t.db, .int .i64 t.al] _ H4t.out Try.underlying24 rfl (by kernel_rfl) ?_)
      | (refine wp_whole rfl 32 _ rfl (w2.heap.size) rfl 32 #[.int .i64 x.me, .int .i64 x.rv, .int .i64 x.nx, .int .i64 x.mo, .int .i64 x.bo, .int .i64 x.fr, .slice p2 len c2] _ H4c.out Try.underlying32 rfl (by kernel_rfl) ?_)
      | (refine wp_wholeG (by rfl) 32 _ rfl (w2.heap.size) rfl 32 #[.int .i64 x.me, .int .i64 x.rv, .int .i64 x.nx, .int .i64 x.mo, .int .i64 x.bo, .int .i64 x.fr, .slice p2 len c2] _ H4c.out Try.underlying32 rfl (by kernel_rfl) ?_)
      | (refine wp_whole rfl 32 _ rfl (g8) rfl 32 #[.int .i64 b.me, .int .i64 b.rv, .int .i64 b.nx, .int .i64 b.mo, .int .i64 b.bo, .int .i64 b.fr, .slice pb lb cb] _ H4a.out Try.underlying32 rfl (by kernel_rfl) ?_)
      | (refine wp_wholeG (by rfl) 32 _ rfl (g8) rfl 32 #[.int .i64 b.me, .int .i64 b.rv, .int .i64 b.nx, .int .i64 b.mo, .int .i64 b.bo, .int .i64 b.fr, .slice pb lb cb] _ H4a.out Try.underlying32 rfl (by kernel_rfl) ?_)
      | (refine wp_whole rfl 41 _ rfl (g9) rfl 41 #[.int .i64 l.id, .int .i64 l.te, .int .i64 l.de, .int .i64 l.fe, .int .i64 l.pr, .int .i64 l.ch, .int .i64 l.un] _ H4m.out Try.underlying41 rfl (by kernel_rfl) ?_)
      | (refine wp_wholeG (by rfl) 41 _ rfl (g9) rfl 41 #[.int .i64 l.id, .int .i64 l.te, .int .i64 l.de, .int .i64 l.fe, .int .i64 l.pr, .int .i64 l.ch, .int .i64 l.un] _ H4m.out Try.underlying41 rfl (by kernel_rfl) ?_)
      | fail)
    refine H2K.out.mono ?_
    rintro e w8 ⟨b2, l2, pe, le, ce, fe, rfl, hi8, hf8, hb8⟩
    have H5x : Hid (Blk w8 (w.heap.size) #[.int .i64 x.me, .int .i64 x.rv, .int .i64 x.nx, .int .i64 x.mo, .int .i64 x.bo, .int .i64 x.fr, .slice p len cap] 32) := H4x.out.next hb8
    have H5t : Hid (Blk w8 (w.heap.size + 1) #[.slice pt lt ct, .int .i64 t.ff, .int .i64 t.fb, .int .i64 t.db, .int .i64 t.al] 24) := H4t.out.next hb8
    have H5c : Hid (Blk w8 (w2.heap.size) #[.int .i64 x.me, .int .i64 x.rv, .int .i64 x.nx, .int .i64 x.mo, .int .i64 x.bo, .int .i64 x.fr, .slice p2 len c2] 32) := H4c.out.next hb8
    have H5a : Hid (Blk w8 (g8) #[.int .i64 b.me, .int .i64 b.rv, .int .i64 b.nx, .int .i64 b.mo, .int .i64 b.bo, .int .i64 b.fr, .slice pb lb cb] 32) := H4a.out.next hb8
    have H5m : Hid (Blk w8 (g9) #[.int .i64 l.id, .int .i64 l.te, .int .i64 l.de, .int .i64 l.fe, .int .i64 l.pr, .int .i64 l.ch, .int .i64 l.un] 41) := H4m.out.next hb8
    have H5C : Hid (ACame w8 x p len cap) := H4C.out.below hb8
    have H5T : Hid (TCame w8 t pt lt ct) := H4T.out.below hb8
    have H5D : Hid (ACame w8 x p2 len c2) := H4D.out.below hb8
    have H5E : Hid (Came w8 pb lb cb b.ds) := H4E.out.below hb8
    have H5B : Hid (Below w.heap.size w w8) := H4B.out.trans (hb8.mono H4B.out.size)
    have hsw8 : wc.heap.size ≤ w8.heap.size := hb8.size
    clear hb8 H4x H4t H4c H4a H4m H4C H4T H4D H4E H4B
    unfold Ac.v Ac.cs Bi.v
    obtain ⟨rfl, rfl, rfl⟩ := HI.out.one hi8
    have hc8 := hf8.came
    obtain rfl : lb = le := by rw [← hc8.row.1, ← H5E.out.row.1]
    have H6G : Hid (Came w8 pe lb ce b.ds) := hc8
    clear hc8 hf8 hi8 HI H2K
    have H7x : Hid (Blk ((w8.alloc (.cells #[.int .i64 b.me, .int .i64 b.rv, .int .i64 b.nx, .int .i64 b.mo, .int .i64 b.bo, .int .i64 b.fr, .slice pe lb ce] 32)).alloc (.cells #[.int .i64 l.id, .int .i64 l.te, .int .i64 l.de, .int .i64 l.fe, .int .i64 l.pr, .int .i64 l.ch, .int .i64 l.un] 41)) (w.heap.size) #[.int .i64 x.me, .int .i64 x.rv, .int .i64 x.nx, .int .i64 x.mo, .int .i64 x.bo, .int .i64 x.fr, .slice p len cap] 32) := (H5x.out.alloc _).alloc _
    have H7t : Hid (Blk ((w8.alloc (.cells #[.int .i64 b.me, .int .i64 b.rv, .int .i64 b.nx, .int .i64 b.mo, .int .i64 b.bo, .int .i64 b.fr, .slice pe lb ce] 32)).alloc (.cells #[.int .i64 l.id, .int .i64 l.te, .int .i64 l.de, .int .i64 l.fe, .int .i64 l.pr, .int .i64 l.ch, .int .i64 l.un] 41)) (w.heap.size + 1) #[.slice pt lt ct, .int .i64 t.ff, .int .i64 t.fb, .int .i64 t.db, .int .i64 t.al] 24) := (H5t.out.alloc _).alloc _
    have H7c : Hid (Blk ((w8.alloc (.cells #[.int .i64 b.me, .int .i64 b.rv, .int .i64 b.nx, .int .i64 b.mo, .int .i64 b.bo, .int .i64 b.fr, .slice pe lb ce] 32)).alloc (.cells #[.int .i64 l.id, .int .i64 l.te, .int .i64 l.de, .int .i64 l.fe, .int .i64 l.pr, .int .i64 l.ch, .int .i64 l.un] 41)) (w2.heap.size) #[.int .i64 x.me, .int .i64 x.rv, .int .i64 x.nx, .int .i64 x.mo, .int .i64 x.bo, .int .i64 x.fr, .slice p2 len c2] 32) := (H5c.out.alloc _).alloc _
    have H7a : Hid (Blk ((w8.alloc (.cells #[.int .i64 b.me, .int .i64 b.rv, .int .i64 b.nx, .int .i64 b.mo, .int .i64 b.bo, .int .i64 b.fr, .slice pe lb ce] 32)).alloc (.cells #[.int .i64 l.id, .int .i64 l.te, .int .i64 l.de, .int .i64 l.fe, .int .i64 l.pr, .int .i64 l.ch, .int .i64 l.un] 41)) (g8) #[.int .i64 b.me, .int .i64 b.rv, .int .i64 b.nx, .int .i64 b.mo, .int .i64 b.bo, .int .i64 b.fr, .slice pb lb cb] 32) := (H5a.out.alloc _).alloc _
    have H7m : Hid (Blk ((w8.alloc (.cells #[.int .i64 b.me, .int .i64 b.rv, .int .i64 b.nx, .int .i64 b.mo, .int .i64 b.bo, .int .i64 b.fr, .slice pe lb ce] 32)).alloc (.cells #[.int .i64 l.id, .int .i64 l.te, .int .i64 l.de, .int .i64 l.fe, .int .i64 l.pr, .int .i64 l.ch, .int .i64 l.un] 41)) (g9) #[.int .i64 l.id, .int .i64 l.te, .int .i64 l.de, .int .i64 l.fe, .int .i64 l.pr, .int .i64 l.ch, .int .i64 l.un] 41) := (H5m.out.alloc _).alloc _
    have H7C : Hid (ACame ((w8.alloc (.cells #[.int .i64 b.me, .int .i64 b.rv, .int .i64 b.nx, .int .i64 b.mo, .int .i64 b.bo, .int .i64 b.fr, .slice pe lb ce] 32)).alloc (.cells #[.int .i64 l.id, .int .i64 l.te, .int .i64 l.de, .int .i64 l.fe, .int .i64 l.pr, .int .i64 l.ch, .int .i64 l.un] 41)) x p len cap) := H5C.out.below (((Below.refl w8.heap.size w8).alloc (by simp) _).alloc (by simp) _)
    have H7T : Hid (TCame ((w8.alloc (.cells #[.int .i64 b.me, .int .i64 b.rv, .int .i64 b.nx, .int .i64 b.mo, .int .i64 b.bo, .int .i64 b.fr, .slice pe lb ce] 32)).alloc (.cells #[.int .i64 l.id, .int .i64 l.te, .int .i64 l.de, .int .i64 l.fe, .int .i64 l.pr, .int .i64 l.ch, .int .i64 l.un] 41)) t pt lt ct) := H5T.out.below (((Below.refl w8.heap.size w8).alloc (by simp) _).alloc (by simp) _)
    have H7D : Hid (ACame ((w8.alloc (.cells #[.int .i64 b.me, .int .i64 b.rv, .int .i64 b.nx, .int .i64 b.mo, .int .i64 b.bo, .int .i64 b.fr, .slice pe lb ce] 32)).alloc (.cells #[.int .i64 l.id, .int .i64 l.te, .int .i64 l.de, .int .i64 l.fe, .int .i64 l.pr, .int .i64 l.ch, .int .i64 l.un] 41)) x p2 len c2) := H5D.out.below (((Below.refl w8.heap.size w8).alloc (by simp) _).alloc (by simp) _)
    have H7E : Hid (Came ((w8.alloc (.cells #[.int .i64 b.me, .int .i64 b.rv, .int .i64 b.nx, .int .i64 b.mo, .int .i64 b.bo, .int .i64 b.fr, .slice pe lb ce] 32)).alloc (.cells #[.int .i64 l.id, .int .i64 l.te, .int .i64 l.de, .int .i64 l.fe, .int .i64 l.pr, .int .i64 l.ch, .int .i64 l.un] 41)) pb lb cb b.ds) := H5E.out.below (((Below.refl w8.heap.size w8).alloc (by simp) _).alloc (by simp) _)
    have H7G : Hid (Came ((w8.alloc (.cells #[.int .i64 b.me, .int .i64 b.rv, .int .i64 b.nx, .int .i64 b.mo, .int .i64 b.bo, .int .i64 b.fr, .slice pe lb ce] 32)).alloc (.cells #[.int .i64 l.id, .int .i64 l.te, .int .i64 l.de, .int .i64 l.fe, .int .i64 l.pr, .int .i64 l.ch, .int .i64 l.un] 41)) pe lb ce b.ds) := H6G.out.below (((Below.refl w8.heap.size w8).alloc (by simp) _).alloc (by simp) _)
    have H7b : Hid (Blk ((w8.alloc (.cells #[.int .i64 b.me, .int .i64 b.rv, .int .i64 b.nx, .int .i64 b.mo, .int .i64 b.bo, .int .i64 b.fr, .slice pe lb ce] 32)).alloc (.cells #[.int .i64 l.id, .int .i64 l.te, .int .i64 l.de, .int .i64 l.fe, .int .i64 l.pr, .int .i64 l.ch, .int .i64 l.un] 41)) w8.heap.size #[.int .i64 b.me, .int .i64 b.rv, .int .i64 b.nx, .int .i64 b.mo, .int .i64 b.bo, .int .i64 b.fr, .slice pe lb ce] 32) := (Blk.new w8 _ _).alloc _
    have H7n : Hid (Blk ((w8.alloc (.cells #[.int .i64 b.me, .int .i64 b.rv, .int .i64 b.nx, .int .i64 b.mo, .int .i64 b.bo, .int .i64 b.fr, .slice pe lb ce] 32)).alloc (.cells #[.int .i64 l.id, .int .i64 l.te, .int .i64 l.de, .int .i64 l.fe, .int .i64 l.pr, .int .i64 l.ch, .int .i64 l.un] 41)) (w8.heap.size + 1) #[.int .i64 l.id, .int .i64 l.te, .int .i64 l.de, .int .i64 l.fe, .int .i64 l.pr, .int .i64 l.ch, .int .i64 l.un] 41) := Blk.new1 w8 _ _ _
    have H7B : Hid (Below w.heap.size w ((w8.alloc (.cells #[.int .i64 b.me, .int .i64 b.rv, .int .i64 b.nx, .int .i64 b.mo, .int .i64 b.bo, .int .i64 b.fr, .slice pe lb ce] 32)).alloc (.cells #[.int .i64 l.id, .int .i64 l.te, .int .i64 l.de, .int .i64 l.fe, .int .i64 l.pr, .int .i64 l.ch, .int .i64 l.un] 41))) := (H5B.out.alloc H5B.out.size _).alloc (Nat.le_trans H5B.out.size (by simp)) _
    have hsW9 : w8.heap.size + 1 < ((w8.alloc (.cells #[.int .i64 b.me, .int .i64 b.rv, .int .i64 b.nx, .int .i64 b.mo, .int .i64 b.bo, .int .i64 b.fr, .slice pe lb ce] 32)).alloc (.cells #[.int .i64 l.id, .int .i64 l.te, .int .i64 l.de, .int .i64 l.fe, .int .i64 l.pr, .int .i64 l.ch, .int .i64 l.un] 41)).heap.size := (Blk.new1 w8 _ #[.int .i64 l.id, .int .i64 l.te, .int .i64 l.de, .int .i64 l.fe, .int .i64 l.pr, .int .i64 l.ch, .int .i64 l.un] 41).lt
    clear H5x H5t H5c H5a H5m H5C H5T H5D H5E H6G H5B
    go_upto_region 4 with fail
    generalize ((w8.alloc (.cells #[.int .i64 b.me, .int .i64 b.rv, .int .i64 b.nx, .int .i64 b.mo, .int .i64 b.bo, .int .i64 b.fr, .slice pe lb ce] 32)).alloc (.cells #[.int .i64 l.id, .int .i64 l.te, .int .i64 l.de, .int .i64 l.fe, .int .i64 l.pr, .int .i64 l.ch, .int .i64 l.un] 41)) = W9 at *
    have ef : (fb == fb) = true := by simp
    have eb : ∀ wz : World, (Op.equalIn 10000 41 (.agg #[.int .i64 l.id, .int .i64 l.te, .int .i64 l.de, .int .i64 l.fe, .int .i64 l.pr, .int .i64 l.ch, .int .i64 l.un]) (.agg #[.int .i64 l.id, .int .i64 l.te, .int .i64 l.de, .int .i64 l.fe, .int .i64 l.pr, .int .i64 l.ch, .int .i64 l.un])).run Try.prog wz = .ok true wz := fun wz => eqBill _ _ _ _ _ _ _ wz
    have HS1 : Hid (Calls Try.prog 15 #[.agg #[.int .i64 b.me, .int .i64 b.rv, .int .i64 b.nx, .int .i64 b.mo, .int .i64 b.bo, .int .i64 b.fr, .slice pb lb cb], .agg #[.int .i64 b.me, .int .i64 b.rv, .int .i64 b.nx, .int .i64 b.mo, .int .i64 b.bo, .int .i64 b.fr, .slice pe lb ce]] W9 fun e w' => e = .returned (.bool true) ∧ Below W9.heap.size W9 w') := same_acc b pb pe lb cb ce W9 H7E.out H7G.out
    go_wp2_with (first
      | (refine wp_whole rfl 32 _ rfl (w.heap.size) rfl 32 #[.int .i64 x.me, .int .i64 x.rv, .int .i64 x.nx, .int .i64 x.mo, .int .i64 x.bo, .int .i64 x.fr, .slice p len cap] _ H7x.out Try.underlying32 rfl (by kernel_rfl) ?_)
      | (refine wp_wholeG (by rfl) 32 _ rfl (w.heap.size) rfl 32 #[.int .i64 x.me, .int .i64 x.rv, .int .i64 x.nx, .int .i64 x.mo, .int .i64 x.bo, .int .i64 x.fr, .slice p len cap] _ H7x.out Try.underlying32 rfl (by kernel_rfl) ?_)
      | (refine wp_whole rfl 24 _ rfl (w.heap.size + 1) rfl 24 #[.slice pt lt ct, .int .i64 t.ff, .int .i64 t.fb, .int .i64 t.db, .int .i64 t.al] _ H7t.out Try.underlying24 rfl (by kernel_rfl) ?_)
      | (refine wp_wholeG (by rfl) 24 _ rfl (w.heap.size + 1) rfl 24 #[.slice pt lt ct, .int .i64 t.ff, .int .i64 t.fb, .int .i64 t.db, .int .i64 t.al] _ H7t.out Try.underlying24 rfl (by kernel_rfl) ?_)
      | (refine wp_whole rfl 32 _ rfl (w2.heap.size) rfl 32 #[.int .i64 x.me, .int .i64 x.rv, .int .i64 x.nx, .int .i64 x.mo, .int .i64 x.bo, .int .i64 x.fr, .slice p2 len c2] _ H7c.out Try.underlying32 rfl (by kernel_rfl) ?_)
      | (refine wp_wholeG (by rfl) 32 _ rfl (w2.heap.size) rfl 32 #[.int .i64 x.me, .int .i64 x.rv, .int .i64 x.nx, .int .i64 x.mo, .int .i64 x.bo, .int .i64 x.fr, .slice p2 len c2] _ H7c.out Try.underlying32 rfl (by kernel_rfl) ?_)
      | (refine wp_whole rfl 32 _ rfl (g8) rfl 32 #[.int .i64 b.me, .int .i64 b.rv, .int .i64 b.nx, .int .i64 b.mo, .int .i64 b.bo, .int .i64 b.fr, .slice pb lb cb] _ H7a.out Try.underlying32 rfl (by kernel_rfl) ?_)
      | (refine wp_wholeG (by rfl) 32 _ rfl (g8) rfl 32 #[.int .i64 b.me, .int .i64 b.rv, .int .i64 b.nx, .int .i64 b.mo, .int .i64 b.bo, .int .i64 b.fr, .slice pb lb cb] _ H7a.out Try.underlying32 rfl (by kernel_rfl) ?_)
      | (refine wp_whole rfl 41 _ rfl (g9) rfl 41 #[.int .i64 l.id, .int .i64 l.te, .int .i64 l.de, .int .i64 l.fe, .int .i64 l.pr, .int .i64 l.ch, .int .i64 l.un] _ H7m.out Try.underlying41 rfl (by kernel_rfl) ?_)
      | (refine wp_wholeG (by rfl) 41 _ rfl (g9) rfl 41 #[.int .i64 l.id, .int .i64 l.te, .int .i64 l.de, .int .i64 l.fe, .int .i64 l.pr, .int .i64 l.ch, .int .i64 l.un] _ H7m.out Try.underlying41 rfl (by kernel_rfl) ?_)
      | (refine wp_whole rfl 32 _ rfl (w8.heap.size) rfl 32 #[.int .i64 b.me, .int .i64 b.rv, .int .i64 b.nx, .int .i64 b.mo, .int .i64 b.bo, .int .i64 b.fr, .slice pe lb ce] _ H7b.out Try.underlying32 rfl (by kernel_rfl) ?_)
      | (refine wp_wholeG (by rfl) 32 _ rfl (w8.heap.size) rfl 32 #[.int .i64 b.me, .int .i64 b.rv, .int .i64 b.nx, .int .i64 b.mo, .int .i64 b.bo, .int .i64 b.fr, .slice pe lb ce] _ H7b.out Try.underlying32 rfl (by kernel_rfl) ?_)
      | (refine wp_whole rfl 41 _ rfl (w8.heap.size + 1) rfl 41 #[.int .i64 l.id, .int .i64 l.te, .int .i64 l.de, .int .i64 l.fe, .int .i64 l.pr, .int .i64 l.ch, .int .i64 l.un] _ H7n.out Try.underlying41 rfl (by kernel_rfl) ?_)
      | (refine wp_wholeG (by rfl) 41 _ rfl (w8.heap.size + 1) rfl 41 #[.int .i64 l.id, .int .i64 l.te, .int .i64 l.de, .int .i64 l.fe, .int .i64 l.pr, .int .i64 l.ch, .int .i64 l.un] _ H7n.out Try.underlying41 rfl (by kernel_rfl) ?_)
      | fail)
    refine HS1.out.mono ?_
    rintro e wa ⟨rfl, hba⟩
    have H8x : Hid (Blk wa (w.heap.size) #[.int .i64 x.me, .int .i64 x.rv, .int .i64 x.nx, .int .i64 x.mo, .int .i64 x.bo, .int .i64 x.fr, .slice p len cap] 32) := H7x.out.next hba
    have H8t : Hid (Blk wa (w.heap.size + 1) #[.slice pt lt ct, .int .i64 t.ff, .int .i64 t.fb, .int .i64 t.db, .int .i64 t.al] 24) := H7t.out.next hba
    have H8c : Hid (Blk wa (w2.heap.size) #[.int .i64 x.me, .int .i64 x.rv, .int .i64 x.nx, .int .i64 x.mo, .int .i64 x.bo, .int .i64 x.fr, .slice p2 len c2] 32) := H7c.out.next hba
    have H8a : Hid (Blk wa (g8) #[.int .i64 b.me, .int .i64 b.rv, .int .i64 b.nx, .int .i64 b.mo, .int .i64 b.bo, .int .i64 b.fr, .slice pb lb cb] 32) := H7a.out.next hba
    have H8m : Hid (Blk wa (g9) #[.int .i64 l.id, .int .i64 l.te, .int .i64 l.de, .int .i64 l.fe, .int .i64 l.pr, .int .i64 l.ch, .int .i64 l.un] 41) := H7m.out.next hba
    have H8b : Hid (Blk wa (w8.heap.size) #[.int .i64 b.me, .int .i64 b.rv, .int .i64 b.nx, .int .i64 b.mo, .int .i64 b.bo, .int .i64 b.fr, .slice pe lb ce] 32) := H7b.out.next hba
    have H8n : Hid (Blk wa (w8.heap.size + 1) #[.int .i64 l.id, .int .i64 l.te, .int .i64 l.de, .int .i64 l.fe, .int .i64 l.pr, .int .i64 l.ch, .int .i64 l.un] 41) := H7n.out.next hba
    have H8C : Hid (ACame wa x p len cap) := H7C.out.below hba
    have H8T : Hid (TCame wa t pt lt ct) := H7T.out.below hba
    have H8D : Hid (ACame wa x p2 len c2) := H7D.out.below hba
    have H8E : Hid (Came wa pb lb cb b.ds) := H7E.out.below hba
    have H8G : Hid (Came wa pe lb ce b.ds) := H7G.out.below hba
    have H8B : Hid (Below w.heap.size w wa) := H7B.out.trans (hba.mono H7B.out.size)
    have hswa : W9.heap.size ≤ wa.heap.size := hba.size
    clear hba H7x H7t H7c H7a H7m H7b H7n H7C H7T H7D H7E H7G H7B
    clear HS1
    have HS2 : Hid (Calls Try.prog 15 #[.agg #[.int .i64 x.me, .int .i64 x.rv, .int .i64 x.nx, .int .i64 x.mo, .int .i64 x.bo, .int .i64 x.fr, .slice p2 len c2], .agg #[.int .i64 x.me, .int .i64 x.rv, .int .i64 x.nx, .int .i64 x.mo, .int .i64 x.bo, .int .i64 x.fr, .slice p len cap]] wa fun e w' => e = .returned (.bool true) ∧ Below wa.heap.size wa w') := same_acc x p2 p len c2 cap wa H8D.out.ds H8C.out.ds
    go_wp2_with (first
      | (refine wp_whole rfl 32 _ rfl (w.heap.size) rfl 32 #[.int .i64 x.me, .int .i64 x.rv, .int .i64 x.nx, .int .i64 x.mo, .int .i64 x.bo, .int .i64 x.fr, .slice p len cap] _ H8x.out Try.underlying32 rfl (by kernel_rfl) ?_)
      | (refine wp_wholeG (by rfl) 32 _ rfl (w.heap.size) rfl 32 #[.int .i64 x.me, .int .i64 x.rv, .int .i64 x.nx, .int .i64 x.mo, .int .i64 x.bo, .int .i64 x.fr, .slice p len cap] _ H8x.out Try.underlying32 rfl (by kernel_rfl) ?_)
      | (refine wp_whole rfl 24 _ rfl (w.heap.size + 1) rfl 24 #[.slice pt lt ct, .int .i64 t.ff, .int .i64 t.fb, .int .i64 t.db, .int .i64 t.al] _ H8t.out Try.underlying24 rfl (by kernel_rfl) ?_)
      | (refine wp_wholeG (by rfl) 24 _ rfl (w.heap.size + 1) rfl 24 #[.slice pt lt ct, .int .i64 t.ff, .int .i64 t.fb, .int .i64 t.db, .int .i64 t.al] _ H8t.out Try.underlying24 rfl (by kernel_rfl) ?_)
      | (refine wp_whole rfl 32 _ rfl (w2.heap.size) rfl 32 #[.int .i64 x.me, .int .i64 x.rv, .int .i64 x.nx, .int .i64 x.mo, .int .i64 x.bo, .int .i64 x.fr, .slice p2 len c2] _ H8c.out Try.underlying32 rfl (by kernel_rfl) ?_)
      | (refine wp_wholeG (by rfl) 32 _ rfl (w2.heap.size) rfl 32 #[.int .i64 x.me, .int .i64 x.rv, .int .i64 x.nx, .int .i64 x.mo, .int .i64 x.bo, .int .i64 x.fr, .slice p2 len c2] _ H8c.out Try.underlying32 rfl (by kernel_rfl) ?_)
      | (refine wp_whole rfl 32 _ rfl (g8) rfl 32 #[.int .i64 b.me, .int .i64 b.rv, .int .i64 b.nx, .int .i64 b.mo, .int .i64 b.bo, .int .i64 b.fr, .slice pb lb cb] _ H8a.out Try.underlying32 rfl (by kernel_rfl) ?_)
      | (refine wp_wholeG (by rfl) 32 _ rfl (g8) rfl 32 #[.int .i64 b.me, .int .i64 b.rv, .int .i64 b.nx, .int .i64 b.mo, .int .i64 b.bo, .int .i64 b.fr, .slice pb lb cb] _ H8a.out Try.underlying32 rfl (by kernel_rfl) ?_)
      | (refine wp_whole rfl 41 _ rfl (g9) rfl 41 #[.int .i64 l.id, .int .i64 l.te, .int .i64 l.de, .int .i64 l.fe, .int .i64 l.pr, .int .i64 l.ch, .int .i64 l.un] _ H8m.out Try.underlying41 rfl (by kernel_rfl) ?_)
      | (refine wp_wholeG (by rfl) 41 _ rfl (g9) rfl 41 #[.int .i64 l.id, .int .i64 l.te, .int .i64 l.de, .int .i64 l.fe, .int .i64 l.pr, .int .i64 l.ch, .int .i64 l.un] _ H8m.out Try.underlying41 rfl (by kernel_rfl) ?_)
      | (refine wp_whole rfl 32 _ rfl (w8.heap.size) rfl 32 #[.int .i64 b.me, .int .i64 b.rv, .int .i64 b.nx, .int .i64 b.mo, .int .i64 b.bo, .int .i64 b.fr, .slice pe lb ce] _ H8b.out Try.underlying32 rfl (by kernel_rfl) ?_)
      | (refine wp_wholeG (by rfl) 32 _ rfl (w8.heap.size) rfl 32 #[.int .i64 b.me, .int .i64 b.rv, .int .i64 b.nx, .int .i64 b.mo, .int .i64 b.bo, .int .i64 b.fr, .slice pe lb ce] _ H8b.out Try.underlying32 rfl (by kernel_rfl) ?_)
      | (refine wp_whole rfl 41 _ rfl (w8.heap.size + 1) rfl 41 #[.int .i64 l.id, .int .i64 l.te, .int .i64 l.de, .int .i64 l.fe, .int .i64 l.pr, .int .i64 l.ch, .int .i64 l.un] _ H8n.out Try.underlying41 rfl (by kernel_rfl) ?_)
      | (refine wp_wholeG (by rfl) 41 _ rfl (w8.heap.size + 1) rfl 41 #[.int .i64 l.id, .int .i64 l.te, .int .i64 l.de, .int .i64 l.fe, .int .i64 l.pr, .int .i64 l.ch, .int .i64 l.un] _ H8n.out Try.underlying41 rfl (by kernel_rfl) ?_)
      | fail)
    refine HS2.out.mono ?_
    rintro e wb ⟨rfl, hbb⟩
    have H9x : Hid (Blk wb (w.heap.size) #[.int .i64 x.me, .int .i64 x.rv, .int .i64 x.nx, .int .i64 x.mo, .int .i64 x.bo, .int .i64 x.fr, .slice p len cap] 32) := H8x.out.next hbb
    have H9t : Hid (Blk wb (w.heap.size + 1) #[.slice pt lt ct, .int .i64 t.ff, .int .i64 t.fb, .int .i64 t.db, .int .i64 t.al] 24) := H8t.out.next hbb
    have H9c : Hid (Blk wb (w2.heap.size) #[.int .i64 x.me, .int .i64 x.rv, .int .i64 x.nx, .int .i64 x.mo, .int .i64 x.bo, .int .i64 x.fr, .slice p2 len c2] 32) := H8c.out.next hbb
    have H9a : Hid (Blk wb (g8) #[.int .i64 b.me, .int .i64 b.rv, .int .i64 b.nx, .int .i64 b.mo, .int .i64 b.bo, .int .i64 b.fr, .slice pb lb cb] 32) := H8a.out.next hbb
    have H9m : Hid (Blk wb (g9) #[.int .i64 l.id, .int .i64 l.te, .int .i64 l.de, .int .i64 l.fe, .int .i64 l.pr, .int .i64 l.ch, .int .i64 l.un] 41) := H8m.out.next hbb
    have H9b : Hid (Blk wb (w8.heap.size) #[.int .i64 b.me, .int .i64 b.rv, .int .i64 b.nx, .int .i64 b.mo, .int .i64 b.bo, .int .i64 b.fr, .slice pe lb ce] 32) := H8b.out.next hbb
    have H9n : Hid (Blk wb (w8.heap.size + 1) #[.int .i64 l.id, .int .i64 l.te, .int .i64 l.de, .int .i64 l.fe, .int .i64 l.pr, .int .i64 l.ch, .int .i64 l.un] 41) := H8n.out.next hbb
    have H9C : Hid (ACame wb x p len cap) := H8C.out.below hbb
    have H9T : Hid (TCame wb t pt lt ct) := H8T.out.below hbb
    have H9D : Hid (ACame wb x p2 len c2) := H8D.out.below hbb
    have H9E : Hid (Came wb pb lb cb b.ds) := H8E.out.below hbb
    have H9G : Hid (Came wb pe lb ce b.ds) := H8G.out.below hbb
    have H9B : Hid (Below w.heap.size w wb) := H8B.out.trans (hbb.mono H8B.out.size)
    have hswb : wa.heap.size ≤ wb.heap.size := hbb.size
    clear hbb H8x H8t H8c H8a H8m H8b H8n H8C H8T H8D H8E H8G H8B
    clear HS2
    go_wp2_with fail
    go_ret
    exact ⟨rfl, H9B.out⟩

end Go.Proofs.Ytlolippocnngcaa.acc
