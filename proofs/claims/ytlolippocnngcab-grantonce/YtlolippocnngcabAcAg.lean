/- Terms that are right, of raw numbers. -/
import Derived.Test.YtlolippocnngcabAcU
import Derived.Test.YtlolippocnngcabTfQ
import Derived.Test.YtlolippocnngcabTxW
import Derived.Test.YtlolippocnngcabCkPick
import Derived.Test.YtlolippocnngcabOpAt
import Derived.Test.YtlolippocnngcabCallFirst
import Derived.Test.YtlolippocnngcabLet
import Derived.Test.YtlolippocnngcabLetG
import Derived.Deep.RegionHeld
import Derived.Deep.DeepCutAuto
namespace Go.Proofs.Ytlolippocnngcab.acc
open Go.Proofs.Ytlolippocnngcab.tar (Du du0 Came RowD Ld PairT)
open Go.RowKit
set_option maxRecDepth 100000
set_option linter.unusedVariables false
set_option linter.unusedSimpArgs false

theorem right_wf {l : List Du} (h : tar.Right l) : ∀ x ∈ l, (Lit.int .i64 x.a).wf = true ∧ (Lit.int .i64 x.b).wf = true := fun x hx => by
  obtain ⟨i, hi, rfl⟩ := List.getElem_of_mem hx
  have h1 := h.upto i hi
  have h2 := h.price i hi
  have e : l.getD i du0 = l[i] := by simp [List.getD, List.getElem?_eq_getElem hi]
  rw [e] at h1 h2
  exact ⟨tar.wf_mid (by omega) (by omega), tar.wf_mid (by omega) (by omega)⟩
theorem ld_new {T : TypeId} {w : World} {base : Nat} {v : Value} {l : List Du} {p : Option Addr} {len cap : Nat} (h : tar.Ld T w base v l) (e : v = .slice p len cap) (hn : 0 < len) (y : Addr) (hy : p = some y) : base ≤ y.block := by
  subst e
  subst hy
  exact (World.ownsRow.lt h y.block (by simp [Value.ownBlock])).1
/-- Terms that are right were given back. -/
def GaveT (w : World) (e : Ending) (w' : World) : Prop := ∃ t p len cap, e = .returned (Tm.v t p len cap) ∧ TRight t ∧ Came w' p len cap t.ts ∧ (0 < len → ∀ y, p = some y → w.heap.size ≤ y.block) ∧ Below w.heap.size w w'
set_option maxHeartbeats 4000000 in
theorem agreed_any (t : Tm) (pt : Option Addr) (lt ct : Nat) (w : World) (h : TCame w t pt lt ct) : Calls Try.prog 14 #[t.v pt lt ct] w fun e w' => GaveT w e w' := by
  have HWF : Hid (wf4 t) := h.wf
  unfold Tm.v
  have H0x : Hid (Blk ((w.alloc (.cells #[.slice pt lt ct, .int .i64 t.ff, .int .i64 t.fb, .int .i64 t.db, .int .i64 t.al] 38)).alloc (.cells #[.slice none 0 0, .int .i64 0, .int .i64 0, .int .i64 0, .int .i64 0] 42)) (w.heap.size) #[.slice pt lt ct, .int .i64 t.ff, .int .i64 t.fb, .int .i64 t.db, .int .i64 t.al] 38) := (Blk.new w _ _).alloc _
  have H0r : Hid (Blk ((w.alloc (.cells #[.slice pt lt ct, .int .i64 t.ff, .int .i64 t.fb, .int .i64 t.db, .int .i64 t.al] 38)).alloc (.cells #[.slice none 0 0, .int .i64 0, .int .i64 0, .int .i64 0, .int .i64 0] 42)) (w.heap.size + 1) #[.slice none 0 0, .int .i64 0, .int .i64 0, .int .i64 0, .int .i64 0] 42) := Blk.new1 w _ _ _
  have H0B : Hid (Below w.heap.size w ((w.alloc (.cells #[.slice pt lt ct, .int .i64 t.ff, .int .i64 t.fb, .int .i64 t.db, .int .i64 t.al] 38)).alloc (.cells #[.slice none 0 0, .int .i64 0, .int .i64 0, .int .i64 0, .int .i64 0] 42))) := ((Below.refl w.heap.size w).alloc (by simp) _).alloc (by simp) _
  have H0C : Hid (TCame ((w.alloc (.cells #[.slice pt lt ct, .int .i64 t.ff, .int .i64 t.fb, .int .i64 t.db, .int .i64 t.al] 38)).alloc (.cells #[.slice none 0 0, .int .i64 0, .int .i64 0, .int .i64 0, .int .i64 0] 42)) t pt lt ct) := h.below H0B.out
  have hs0 : w.heap.size + 1 < ((w.alloc (.cells #[.slice pt lt ct, .int .i64 t.ff, .int .i64 t.fb, .int .i64 t.db, .int .i64 t.al] 38)).alloc (.cells #[.slice none 0 0, .int .i64 0, .int .i64 0, .int .i64 0, .int .i64 0] 42)).heap.size := H0r.out.lt
  generalize hWW : ((w.alloc (.cells #[.slice pt lt ct, .int .i64 t.ff, .int .i64 t.fb, .int .i64 t.db, .int .i64 t.al] 38)).alloc (.cells #[.slice none 0 0, .int .i64 0, .int .i64 0, .int .i64 0, .int .i64 0] 42)) = W0 at *
  have HWW : Hid (((w.alloc (.cells #[.slice pt lt ct, .int .i64 t.ff, .int .i64 t.fb, .int .i64 t.db, .int .i64 t.al] 38)).alloc (.cells #[.slice none 0 0, .int .i64 0, .int .i64 0, .int .i64 0, .int .i64 0] 42)) = W0) := hWW
  clear hWW
  go_enter Try.func14, Try.ntmps14
  go_upto_region 1 with fail
  rw [HWW.out]
  clear HWW
  clear h
  have HP1 : Hid (∀ W, Calls Try.prog 15 #[.int .i64 t.ff, .int .i64 100001] W fun e w' => e = .returned (.int .i64 (check.pick t.ff 100001)) ∧ w' = W) := fun W => check.picked_any t.ff 100001 W HWF.out.1 (by decide) (by decide)
  have hp10 := check.pick_nonneg t.ff 100001 (by decide)
  have hp11 := check.pick_lt t.ff 100001 (by decide)
  generalize (check.pick t.ff 100001) = z1 at *
  have HP2 : Hid (∀ W, Calls Try.prog 15 #[.int .i64 t.fb, .int .i64 10001] W fun e w' => e = .returned (.int .i64 (check.pick t.fb 10001)) ∧ w' = W) := fun W => check.picked_any t.fb 10001 W HWF.out.2.1 (by decide) (by decide)
  have hp20 := check.pick_nonneg t.fb 10001 (by decide)
  have hp21 := check.pick_lt t.fb 10001 (by decide)
  generalize (check.pick t.fb 10001) = z2 at *
  have HP3 : Hid (∀ W, Calls Try.prog 15 #[.int .i64 t.db, .int .i64 10001] W fun e w' => e = .returned (.int .i64 (check.pick t.db 10001)) ∧ w' = W) := fun W => check.picked_any t.db 10001 W HWF.out.2.2.1 (by decide) (by decide)
  have hp30 := check.pick_nonneg t.db 10001 (by decide)
  have hp31 := check.pick_lt t.db 10001 (by decide)
  generalize (check.pick t.db 10001) = z3 at *
  have HP4 : Hid (∀ W, Calls Try.prog 15 #[.int .i64 t.al, .int .i64 2097152] W fun e w' => e = .returned (.int .i64 (check.pick t.al 2097152)) ∧ w' = W) := fun W => check.picked_any t.al 2097152 W HWF.out.2.2.2 (by decide) (by decide)
  have hp40 := check.pick_nonneg t.al 2097152 (by decide)
  have hp41 := check.pick_lt t.al 2097152 (by decide)
  generalize (check.pick t.al 2097152) = z4 at *
  have HOW : Hid (∀ W, Below W0.heap.size W0 W → Calls Try.prog 31 #[.slice pt lt ct] W fun e w' => tar.GaveT W e w') := fun W hW => tar.stepped_any pt lt ct t.ts W (H0C.out.below hW).ts
  have HB0 : Hid (Below W0.heap.size W0 W0.drew) := (Below.refl _ _).drew
  refine wp_region_held_drew (S := fun v => Blk v (w.heap.size) #[.slice pt lt ct, .int .i64 t.ff, .int .i64 t.fb, .int .i64 t.db, .int .i64 t.al] 38) (by kernel_rfl) (Blk.drew H0x.out 1) (fun hHeld => ?_)
  generalize W0.drew = U0 at *
  refine take_at 0 3 (.pointer (some ⟨w.heap.size, 0, none⟩)) _ rfl rfl (by kernel_rfl) (by kernel_rfl) (by kernel_rfl) (fun _ _ _ h => h) (Or.inl ⟨by rfl, fun v hv => by skip; clear hv; go_simp⟩) hHeld ?_
  simp only [Act.put, List.setIfInBounds_toArray, List.set_cons_zero, List.set_cons_succ]
  refine take_at 1 4 (.slice pt lt ct) _ rfl rfl (by kernel_rfl) (by kernel_rfl) (by kernel_rfl) (fun _ _ _ h => h) (Or.inl ⟨by rfl, fun v hv => by have h2 := hv.cell 0; simp at h2; clear hv; go_simp⟩) hHeld ?_
  simp only [Act.put, List.setIfInBounds_toArray, List.set_cons_zero, List.set_cons_succ]
  refine take_at 3 6 (.pointer (some ⟨w.heap.size, 1, none⟩)) _ rfl rfl (by kernel_rfl) (by kernel_rfl) (by kernel_rfl) (fun _ _ _ h => h) (Or.inl ⟨by rfl, fun v hv => by skip; clear hv; go_simp⟩) hHeld ?_
  simp only [Act.put, List.setIfInBounds_toArray, List.set_cons_zero, List.set_cons_succ]
  refine take_at 4 7 (.int .i64 t.ff) _ rfl rfl (by kernel_rfl) (by kernel_rfl) (by kernel_rfl) (fun _ _ _ h => h) (Or.inl ⟨by rfl, fun v hv => by have h2 := hv.cell 1; simp at h2; clear hv; go_simp⟩) hHeld ?_
  simp only [Act.put, List.setIfInBounds_toArray, List.set_cons_zero, List.set_cons_succ]
  refine take_at 6 9 (.pointer (some ⟨w.heap.size, 2, none⟩)) _ rfl rfl (by kernel_rfl) (by kernel_rfl) (by kernel_rfl) (fun _ _ _ h => h) (Or.inl ⟨by rfl, fun v hv => by skip; clear hv; go_simp⟩) hHeld ?_
  simp only [Act.put, List.setIfInBounds_toArray, List.set_cons_zero, List.set_cons_succ]
  refine take_at 7 10 (.int .i64 t.fb) _ rfl rfl (by kernel_rfl) (by kernel_rfl) (by kernel_rfl) (fun _ _ _ h => h) (Or.inl ⟨by rfl, fun v hv => by have h2 := hv.cell 2; simp at h2; clear hv; go_simp⟩) hHeld ?_
  simp only [Act.put, List.setIfInBounds_toArray, List.set_cons_zero, List.set_cons_succ]
  refine take_at 9 12 (.pointer (some ⟨w.heap.size, 3, none⟩)) _ rfl rfl (by kernel_rfl) (by kernel_rfl) (by kernel_rfl) (fun _ _ _ h => h) (Or.inl ⟨by rfl, fun v hv => by skip; clear hv; go_simp⟩) hHeld ?_
  simp only [Act.put, List.setIfInBounds_toArray, List.set_cons_zero, List.set_cons_succ]
  refine take_at 10 13 (.int .i64 t.db) _ rfl rfl (by kernel_rfl) (by kernel_rfl) (by kernel_rfl) (fun _ _ _ h => h) (Or.inl ⟨by rfl, fun v hv => by have h2 := hv.cell 3; simp at h2; clear hv; go_simp⟩) hHeld ?_
  simp only [Act.put, List.setIfInBounds_toArray, List.set_cons_zero, List.set_cons_succ]
  refine take_at 12 15 (.pointer (some ⟨w.heap.size, 4, none⟩)) _ rfl rfl (by kernel_rfl) (by kernel_rfl) (by kernel_rfl) (fun _ _ _ h => h) (Or.inl ⟨by rfl, fun v hv => by skip; clear hv; go_simp⟩) hHeld ?_
  simp only [Act.put, List.setIfInBounds_toArray, List.set_cons_zero, List.set_cons_succ]
  refine take_at 13 16 (.int .i64 t.al) _ rfl rfl (by kernel_rfl) (by kernel_rfl) (by kernel_rfl) (fun _ _ _ h => h) (Or.inl ⟨by rfl, fun v hv => by have h2 := hv.cell 4; simp at h2; clear hv; go_simp⟩) hHeld ?_
  simp only [Act.put, List.setIfInBounds_toArray, List.set_cons_zero, List.set_cons_succ]
  refine wpAnyH_ready (rs := [2]) (by kernel_rfl) (by simp) (AllReadyH.cons rfl (fun K hK => ?_) AllReadyH.nil)
  rw [if_pos (by rfl)]
  refine wp_callOp 5 rfl (by clear hK; go_simp) (HOW.out U0 HB0.out) ?_
  rintro e U1 ⟨v, ls, rfl, hrt, hld, hb⟩
  obtain ⟨pb, cb, rfl, hcm⟩ := hld.came (by have := hrt.1.2; omega) (right_wf hrt)
  have HNW : Hid (0 < ls.length → ∀ y, pb = some y → W0.heap.size ≤ y.block) := fun hn y hy => Nat.le_trans HB0.out.size (ld_new hld rfl hn y hy)
  have HRT : Hid (tar.Right ls) := hrt
  have HCM : Hid (Came U1 pb ls.length cb ls) := hcm
  have HB1 : Hid (Below W0.heap.size W0 U1) := bel_step HB0.out hb
  have HR1 : Hid (Blk U1 (w.heap.size + 1) #[.slice none 0 0, .int .i64 0, .int .i64 0, .int .i64 0, .int .i64 0] 42) := H0r.out.next HB1.out
  have HBW : Hid (Below w.heap.size w U1) := H0B.out.trans (HB1.out.mono H0B.out.size)
  refine ⟨_, rfl, hK.out _ _ (H0x.out.next HB1.out) (fun hHeld => ?_)⟩
  clear hK hb hld hrt hcm HB0
  simp only [Act.put, List.setIfInBounds_toArray, List.set_cons_zero, List.set_cons_succ]
  refine call_at 5 8 (.int .i64 z1) _ rfl rfl (by kernel_rfl) (by kernel_rfl) (by kernel_rfl) (fun _ _ _ h => h) 15 #[.int .i64 t.ff, .int .i64 100001] ⟨by rfl, fun v hv => by clear hv; go_simp⟩ (fun v _ => HP1.out v) hHeld ?_
  simp only [Act.put, List.setIfInBounds_toArray, List.set_cons_zero, List.set_cons_succ]
  refine call_at 8 11 (.int .i64 z2) _ rfl rfl (by kernel_rfl) (by kernel_rfl) (by kernel_rfl) (fun _ _ _ h => h) 15 #[.int .i64 t.fb, .int .i64 10001] ⟨by rfl, fun v hv => by clear hv; go_simp⟩ (fun v _ => HP2.out v) hHeld ?_
  simp only [Act.put, List.setIfInBounds_toArray, List.set_cons_zero, List.set_cons_succ]
  refine call_at 11 14 (.int .i64 z3) _ rfl rfl (by kernel_rfl) (by kernel_rfl) (by kernel_rfl) (fun _ _ _ h => h) 15 #[.int .i64 t.db, .int .i64 10001] ⟨by rfl, fun v hv => by clear hv; go_simp⟩ (fun v _ => HP3.out v) hHeld ?_
  simp only [Act.put, List.setIfInBounds_toArray, List.set_cons_zero, List.set_cons_succ]
  refine call_at 14 17 (.int .i64 z4) _ rfl rfl (by kernel_rfl) (by kernel_rfl) (by kernel_rfl) (fun _ _ _ h => h) 15 #[.int .i64 t.al, .int .i64 2097152] ⟨by rfl, fun v hv => by clear hv; go_simp⟩ (fun v _ => HP4.out v) hHeld ?_
  simp only [Act.put, List.setIfInBounds_toArray, List.set_cons_zero, List.set_cons_succ]
  refine take_at 15 18 (.agg #[.slice pb ls.length cb, .int .i64 z1, .int .i64 z2, .int .i64 z3, .int .i64 z4]) _ rfl rfl (by kernel_rfl) (by kernel_rfl) (by kernel_rfl) (fun _ _ _ h => h) (Or.inl ⟨by rfl, fun v hv => by skip; clear hv; go_simp⟩) hHeld ?_
  simp only [Act.put, List.setIfInBounds_toArray, List.set_cons_zero, List.set_cons_succ]
  refine wpAnyH_ready (rs := [16]) (by kernel_rfl) (by simp) (AllReadyH.cons rfl (fun K hK => ?_) AllReadyH.nil)
  rw [if_pos (by rfl)]
  refine wp_letOp 42 _ _ rfl (w.heap.size + 1) rfl #[.slice pb ls.length cb, .int .i64 z1, .int .i64 z2, .int .i64 z3, .int .i64 z4] rfl (by kernel_rfl) (by simp [Value.oneCell']) #[.slice none 0 0, .int .i64 0, .int .i64 0, .int .i64 0, .int .i64 0] 42 HR1.out rfl rfl ?_
  intro U2 hU
  have HR2 : Hid (Blk U2 (w.heap.size + 1) #[.slice pb ls.length cb, .int .i64 z1, .int .i64 z2, .int .i64 z3, .int .i64 z4] 42) := hU.blk
  have HC2 : Hid (Came U2 pb ls.length cb ls) := came_upd HCM.out hU (fun hn y hy => by have := HNW.out hn y hy; omega)
  have HBZ : Hid (Below w.heap.size w U2) := hU.bel _ _ (by omega) HBW.out
  have HX2 : Hid (Blk U2 (w.heap.size) #[.slice pt lt ct, .int .i64 t.ff, .int .i64 t.fb, .int .i64 t.db, .int .i64 t.al] 38) := hU.keep (H0x.out.next HB1.out) (by omega)
  clear HCM HR1 HBW
  refine hK.out _ _ HX2.out (fun hHeld => ?_)
  clear hK K hU
  refine wpAnyH_done (by kernel_rfl) ?_ _
  clear hHeld HX2
  have R0 : Hid (U2.cell? ⟨w.heap.size + 1, 0, none⟩ = some (.slice pb ls.length cb)) := HR2.out.cell 0
  have R1 : Hid (U2.cell? ⟨w.heap.size + 1, 1, none⟩ = some (.int .i64 z1)) := HR2.out.cell 1
  have R2 : Hid (U2.cell? ⟨w.heap.size + 1, 2, none⟩ = some (.int .i64 z2)) := HR2.out.cell 2
  have R3 : Hid (U2.cell? ⟨w.heap.size + 1, 3, none⟩ = some (.int .i64 z3)) := HR2.out.cell 3
  have R4 : Hid (U2.cell? ⟨w.heap.size + 1, 4, none⟩ = some (.int .i64 z4)) := HR2.out.cell 4
  go_wp2_with fail
  exact bodyPost_ret (v := .agg #[.slice pb ls.length cb, .int .i64 z1, .int .i64 z2, .int .i64 z3, .int .i64 z4]) (by simp [results, Try.results14, R0.out, R1.out, R2.out, R3.out, R4.out, go_sem]) rfl ⟨⟨ls, z1, z2, z3, z4⟩, pb, ls.length, cb, rfl, ⟨HRT.out, ⟨hp10, by show z1 ≤ 100000; omega⟩, ⟨hp20, by show z2 ≤ 10000; omega⟩, ⟨hp30, by show z3 ≤ 10000; omega⟩, hp40, by show z4 ≤ 2097151; omega⟩, HC2.out, fun hn y hy => Nat.le_trans (by omega) (HNW.out hn y hy), HBZ.out⟩

end Go.Proofs.Ytlolippocnngcab.acc
