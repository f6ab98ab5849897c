import Derived.Test.YtnpblpbohcegoaaGreatDoorVVCut22
import Derived.Test.YtnpblpbohcegoaaGreatDoorVVCut25
set_option linter.unusedVariables false
set_option linter.unusedSimpArgs false
set_option maxHeartbeats 4000000
set_option maxRecDepth 100000
namespace Go.Proofs.YtnpblpbohcegoaaGreatDoor
namespace token
open words
open Go.RowKit
theorem put_wn (a b c v lo n V : Nat) (w : World) (h : WN a b c V) (hv : v < 2 ^ n) (n0 : 1 ≤ n) (n1 : n ≤ 64) (hl : lo + n ≤ 96) (h0 : V / 2 ^ lo % 2 ^ n = 0) :
  Calls Tryz.prog 132 #[.agg #[.int .u32 (a : Int), .int .u32 (b : Int), .int .u32 (c : Int)], .int .i64 (lo : Int), .int .i64 (n : Int), .int .u64 (v : Int)] w fun e w' =>
   ∃ a' b' c' : Nat, e = .returned (.tuple #[.agg #[.int .u32 (a' : Int), .int .u32 (b' : Int), .int .u32 (c' : Int)], .int .i64 0]) ∧ WN a' b' c' (V + v * 2 ^ lo) ∧ Below w.heap.size w w' := by
 refine (put_any a b c v lo n w h.a1 h.b1 h.c1 hv n0 n1 hl).mono ?_
 rintro e w' ⟨he, hb⟩
 refine ⟨_, _, _, he, ⟨put_lt _ _ _ _ h.a1, put_lt _ _ _ _ h.b1, put_lt _ _ _ _ h.c1, ?_⟩, hb⟩
 rw [put_num h.a1 h.b1 h.c1 hv n1 hl (by rw [h.val]; exact h0), h.val]
structure Pk (w wr : World) (k : Tok) (j a b c : Nat) : Prop where
 below : Below w.heap.size w wr
 fld : Blk wr (w.heap.size + 1 + 1) #[.int .i64 (k.c : Int), .int .i64 (k.i : Int), .int .i64 (k.a : Int), .int .i64 (k.t : Int)] 228
 res : Blk wr (w.heap.size + 1) #[.int .u32 0, .int .u32 0, .int .u32 0] 131
 num : Blk wr (w.heap.size + 1 + 1 + 1) #[.int .u32 (a : Int), .int .u32 (b : Int), .int .u32 (c : Int)] 131
 wn : WN a b c (pP k j)
theorem Pk.mk3 {w w2 : World} {k : Tok} {j a b c a' b' c' : Nat} (hB : Below w.heap.size w w2) (hF : Blk w2 (w.heap.size + 1 + 1) #[.int .i64 (k.c : Int), .int .i64 (k.i : Int), .int .i64 (k.a : Int), .int .i64 (k.t : Int)] 228) (hR : Blk w2 (w.heap.size + 1) #[.int .u32 0, .int .u32 0, .int .u32 0] 131)
  (hN : Blk w2 (w.heap.size + 1 + 1 + 1) #[.int .u32 (a : Int), .int .u32 (b : Int), .int .u32 (c : Int)] 131) (hwn : WN a' b' c' (pP k j)) :
  Pk w (((w2.setCell ⟨w.heap.size + 1 + 1 + 1, 0, none⟩ (.int .u32 (a' : Int))).setCell ⟨w.heap.size + 1 + 1 + 1, 1, none⟩ (.int .u32 (b' : Int))).setCell ⟨w.heap.size + 1 + 1 + 1, 2, none⟩ (.int .u32 (c' : Int))) k j a' b' c' :=
 ⟨bel_set (bel_set (bel_set hB _ _ _ (by omega)) _ _ _ (by omega)) _ _ _ (by omega), ((hF.other _ _ (by omega)).other _ _ (by omega)).other _ _ (by omega), ((hR.other _ _ (by omega)).other _ _ (by omega)).other _ _ (by omega), ((hN.set 0 _).set 1 _).set 2 _, hwn⟩
def PackPost (w : World) (k : Tok) (e : Ending) (w' : World) : Prop := ∃ a b c : Nat, e = .returned (.agg #[.int .u32 (a : Int), .int .u32 (b : Int), .int .u32 (c : Int)]) ∧ WN a b c k.num ∧ Below w.heap.size w w'
set_option maxHeartbeats 1000000 in
theorem pack_any (k : Tok) (w : World) (hk : k.ok) (ht : TTab w) :
  Calls Tryz.prog 87 #[k.v] w fun e w' => PackPost w k e w' := by
 have hb0 : Below w.heap.size w ((((w.alloc (.cells #[.int .i64 (k.c : Int), .int .i64 (k.i : Int), .int .i64 (k.a : Int), .int .i64 (k.t : Int)] 96)).alloc (.cells #[.int .u32 0, .int .u32 0, .int .u32 0] 131)).alloc (.cells #[.int .i64 (k.c : Int), .int .i64 (k.i : Int), .int .i64 (k.a : Int), .int .i64 (k.t : Int)] 228)).alloc (.cells #[.int .u32 0, .int .u32 0, .int .u32 0] 131)) :=
  ((((Below.refl _ _).alloc (Nat.le_refl _) _).alloc (by simp) _).alloc (by simp; omega) _).alloc (by simp; omega) _
 obtain ⟨q0, q1, q2, q3, q4, q5, q6, q7⟩ := (ht.places.below hb0).cell
 have HP : Hid (Pk w ((((w.alloc (.cells #[.int .i64 (k.c : Int), .int .i64 (k.i : Int), .int .i64 (k.a : Int), .int .i64 (k.t : Int)] 96)).alloc (.cells #[.int .u32 0, .int .u32 0, .int .u32 0] 131)).alloc (.cells #[.int .i64 (k.c : Int), .int .i64 (k.i : Int), .int .i64 (k.a : Int), .int .i64 (k.t : Int)] 228)).alloc (.cells #[.int .u32 0, .int .u32 0, .int .u32 0] 131)) k 0 0 0 0) :=
  ⟨hb0, (Blk.new2 _ _ _ _ _).alloc _, ((Blk.new1 _ _ _ _).alloc _).alloc _, Blk.new3 _ _ _ _ _ _, wn_zero⟩
 have HK : Hid k.ok := hk
 clear hk ht hb0
 unfold Tok.v
 go_enter Tryz.func87, Tryz.ntmps87
 go_wp2_with fail
 generalize ((((w.alloc (.cells #[.int .i64 (k.c : Int), .int .i64 (k.i : Int), .int .i64 (k.a : Int), .int .i64 (k.t : Int)] 96)).alloc (.cells #[.int .u32 0, .int .u32 0, .int .u32 0] 131)).alloc (.cells #[.int .i64 (k.c : Int), .int .i64 (k.i : Int), .int .i64 (k.a : Int), .int .i64 (k.t : Int)] 228)).alloc (.cells #[.int .u32 0, .int .u32 0, .int .u32 0] 131)) = W0 at *
 clear q0 q1 q2 q3 q4 q5 q6 q7
 go_loopw [17] (fun v wr => ∃ j a b c : Nat, j ≤ 4 ∧ v = .int .i64 (j : Int) ∧ Pk w wr k j a b c) (fun v _ => 4 - (intOf v).toNat)
 case atStart => exact ⟨0, 0, 0, 0, by omega, rfl, HP.out⟩
 case round =>
  obtain ⟨j, a, b, c, hj, rfl, hp⟩ := hrel
  by_cases hlt : j < 4
  ·have hst := step_P HK.out j hlt
   have HC : Hid (∀ W, Calls Tryz.prog 132 #[.agg #[.int .u32 (a : Int), .int .u32 (b : Int), .int .u32 (c : Int)], .int .i64 (loP j : Int), .int .i64 (nP j : Int), .int .u64 (IntKind.u64.wrap (vP k j : Int))] W fun e w' =>
     ∃ a' b' c' : Nat, e = .returned (.tuple #[.agg #[.int .u32 (a' : Int), .int .u32 (b' : Int), .int .u32 (c' : Int)], .int .i64 0]) ∧ WN a' b' c' (pP k (j + 1)) ∧ Below W.heap.size W w') := fun W => by
    rw [hst.2.2.2.2.2.1, wrap_u _ hst.2.2.2.2.2.2]
    exact put_wn a b c (vP k j) (loP j) (nP j) (pP k j) W hp.wn hst.1 hst.2.1 hst.2.2.1 hst.2.2.2.1 hst.2.2.2.2.1
   have hix := idxP j hlt
   have hv := hst.2.2.2.2.2.2
   have hf : ∀ W : World, Blk W (w.heap.size + 1 + 1) #[.int .i64 (k.c : Int), .int .i64 (k.i : Int), .int .i64 (k.a : Int), .int .i64 (k.t : Int)] 228 → W.cell? ⟨w.heap.size + 1 + 1, j, none⟩ = some (.int .i64 (vP k j : Int)) := fun W hB => by
    rw [hB.cell]
    rcases (by omega : j = 0 ∨ j = 1 ∨ j = 2 ∨ j = 3) with rfl | rfl | rfl | rfl <;> rfl
   generalize vP k j = v at *
   generalize loP j = lo at *
   generalize nP j = n at *
   clear hst
   have hjj : (j : Int) < 4 := by omega
   have hPl := Blk.new wr #[.int .i64 (lo : Int), .int .i64 (n : Int)] 230
   have hNu := hp.num.alloc (.cells #[.int .i64 (lo : Int), .int .i64 (n : Int)] 230)
   have hFi := hp.fld.alloc (.cells #[.int .i64 (lo : Int), .int .i64 (n : Int)] 230)
   have hRe := hp.res.alloc (.cells #[.int .i64 (lo : Int), .int .i64 (n : Int)] 230)
   have hBe := hp.below.alloc hp.below.size (.cells #[.int .i64 (lo : Int), .int .i64 (n : Int)] 230)
   have hne : wr.heap.size ≠ w.heap.size + 1 + 1 + 1 := by have := hp.num.lt; omega
   clear hp
   go_wp2_with fail
   generalize wr.alloc (.cells #[.int .i64 (lo : Int), .int .i64 (n : Int)] 230) = W1 at *
   have k0 : W1.drew.cell? ⟨w.heap.size + 1 + 1 + 1, 0, none⟩ = some (.int .u32 (a : Int)) := hNu.cell 0
   have k1 : W1.drew.cell? ⟨w.heap.size + 1 + 1 + 1, 1, none⟩ = some (.int .u32 (b : Int)) := hNu.cell 1
   have k2 : W1.drew.cell? ⟨w.heap.size + 1 + 1 + 1, 2, none⟩ = some (.int .u32 (c : Int)) := hNu.cell 2
   have KW : Hid (W1.drew.cell? ⟨wr.heap.size, 0, none⟩ = some (.int .i64 (lo : Int)) ∧ W1.drew.cell? ⟨wr.heap.size, 1, none⟩ = some (.int .i64 (n : Int)) ∧ W1.drew.cell? ⟨w.heap.size + 1 + 1, j, none⟩ = some (.int .i64 (v : Int))) := ⟨hPl.cell 0, hPl.cell 1, hf _ hFi⟩
   refine wp_region_held_drew (S := (fun v' => v'.cell? ⟨wr.heap.size, 0, none⟩ = some (.int .i64 (lo : Int)) ∧ v'.cell? ⟨wr.heap.size, 1, none⟩ = some (.int .i64 (n : Int)) ∧ v'.cell? ⟨w.heap.size + 1 + 1, j, none⟩ = some (.int .i64 (v : Int)))) (by kernel_rfl) KW.out (fun hHeld => ?_)
   refine wpAnyH_take (i := 1) (v := ?v1) rfl (by kernel_rfl) (by kernel_rfl) (by kernel_rfl) (fun _ _ _ h => h) (Or.inl ⟨by rfl, ?y1⟩) KW.out ?r1
   case y1 => (intro wz hSw; (try dsimp only at hSw); go_simp; try (with_reducible rfl))
   simp only [Act.put, zqa, zqb, zqc]
   refine wpAnyH_take (i := 2) (v := ?v2) rfl (by kernel_rfl) (by kernel_rfl) (by kernel_rfl) (fun _ _ _ h => h) (Or.inl ⟨by rfl, ?y2⟩) KW.out ?r2
   case y2 => (intro wz hSw; (try dsimp only at hSw); go_simp; try (with_reducible rfl))
   simp only [Act.put, zqa, zqb, zqc]
   refine wpAnyH_take (i := 3) (v := ?v3) rfl (by kernel_rfl) (by kernel_rfl) (by kernel_rfl) (fun _ _ _ h => h) (Or.inl ⟨by rfl, ?y3⟩) KW.out ?r3
   case y3 => (intro wz hSw; (try dsimp only at hSw); go_simp; try (with_reducible rfl))
   simp only [Act.put, zqa, zqb, zqc]
   refine wpAnyH_take (i := 4) (v := ?v4) rfl (by kernel_rfl) (by kernel_rfl) (by kernel_rfl) (fun _ _ _ h => h) (Or.inl ⟨by rfl, ?y4⟩) KW.out ?r4
   case y4 => (intro wz hSw; (try dsimp only at hSw); go_simp; try (with_reducible rfl))
   simp only [Act.put, zqa, zqb, zqc]
   refine wpAnyH_take (i := 5) (v := ?v5) rfl (by kernel_rfl) (by kernel_rfl) (by kernel_rfl) (fun _ _ _ h => h) (Or.inl ⟨by rfl, ?y5⟩) KW.out ?r5
   case y5 => (intro wz hSw; (try dsimp only at hSw); go_simp; try (with_reducible rfl))
   simp only [Act.put, zqa, zqb, zqc]
   refine wpAnyH_take (i := 6) (v := ?v6) rfl (by kernel_rfl) (by kernel_rfl) (by kernel_rfl) (fun _ _ _ h => h) (Or.inl ⟨by rfl, ?y6⟩) KW.out ?r6
   case y6 => (intro wz hSw; (try dsimp only at hSw); go_simp; try (with_reducible rfl))
   simp only [Act.put, zqa, zqb, zqc]
   refine wpAnyH_take (i := 7) (v := ?v7) rfl (by kernel_rfl) (by kernel_rfl) (by kernel_rfl) (fun _ _ _ h => h) (Or.inl ⟨by rfl, ?y7⟩) KW.out ?r7
   case y7 => (intro wz hSw; (try dsimp only at hSw); go_simp; try (with_reducible rfl))
   simp only [Act.put, zqa, zqb, zqc]
   refine wpAnyH_take (i := 8) (v := ?v8) rfl (by kernel_rfl) (by kernel_rfl) (by kernel_rfl) (fun _ _ _ h => h) (Or.inl ⟨by rfl, ?y8⟩) KW.out ?r8
   case y8 => (intro wz hSw; (try dsimp only at hSw); go_simp; try (with_reducible rfl))
   simp only [Act.put, zqa, zqb, zqc]
   refine wpAnyH_ready (rs := [0]) (by kernel_rfl) (by simp) ?_
   refine AllReadyH.cons rfl (fun K hK => ?_) AllReadyH.nil
   go_simp
   refine hK.out _ _ KW.out (fun _ => ?_)
   refine wpAnyH_ready (rs := [9]) (by kernel_rfl) (by simp) ?_
   refine AllReadyH.cons rfl (fun K hK => ?_) AllReadyH.nil
   go_simp
   refine (HC.out _).mono ?_
   rintro e w2 ⟨a', b', c', rfl, hwn, hb2⟩
   have hN2 : Blk w2 (w.heap.size + 1 + 1 + 1) #[.int .u32 (a : Int), .int .u32 (b : Int), .int .u32 (c : Int)] 131 := Blk.next (w := W1.drew) hNu hb2
   have hP2 : Blk w2 wr.heap.size #[.int .i64 (lo : Int), .int .i64 (n : Int)] 230 := Blk.next (w := W1.drew) hPl hb2
   have hF2 : Blk w2 (w.heap.size + 1 + 1) #[.int .i64 (k.c : Int), .int .i64 (k.i : Int), .int .i64 (k.a : Int), .int .i64 (k.t : Int)] 228 := Blk.next (w := W1.drew) hFi hb2
   have hR2 : Blk w2 (w.heap.size + 1) #[.int .u32 0, .int .u32 0, .int .u32 0] 131 := Blk.next (w := W1.drew) hRe hb2
   have hB2 : Below w.heap.size w w2 := bel_step (w := W1.drew) hBe.drew hb2
   have r0 := hN2.cell 0
   have r1 := hN2.cell 1
   have r2 := hN2.cell 2
   have f0 := hN2.free 0
   have f1 := hN2.free 1
   have f2 := hN2.free 2
   have K2 : Hid (w2.cell? ⟨wr.heap.size, 0, none⟩ = some (.int .i64 (lo : Int)) ∧ w2.cell? ⟨wr.heap.size, 1, none⟩ = some (.int .i64 (n : Int)) ∧ w2.cell? ⟨w.heap.size + 1 + 1, j, none⟩ = some (.int .i64 (v : Int))) := ⟨hP2.cell 0, hP2.cell 1, hf _ hF2⟩
   have HQ : Hid (Pk w (((w2.setCell ⟨w.heap.size + 1 + 1 + 1, 0, none⟩ (.int .u32 (a' : Int))).setCell ⟨w.heap.size + 1 + 1 + 1, 1, none⟩ (.int .u32 (b' : Int))).setCell ⟨w.heap.size + 1 + 1 + 1, 2, none⟩ (.int .u32 (c' : Int))) k (j + 1) a' b' c') := Pk.mk3 hB2 hF2 hR2 hN2 hwn
   have K3 : Hid ((((w2.setCell ⟨w.heap.size + 1 + 1 + 1, 0, none⟩ (.int .u32 (a' : Int))).setCell ⟨w.heap.size + 1 + 1 + 1, 1, none⟩ (.int .u32 (b' : Int))).setCell ⟨w.heap.size + 1 + 1 + 1, 2, none⟩ (.int .u32 (c' : Int))).cell? ⟨wr.heap.size, 0, none⟩ = some (.int .i64 (lo : Int)) ∧ (((w2.setCell ⟨w.heap.size + 1 + 1 + 1, 0, none⟩ (.int .u32 (a' : Int))).setCell ⟨w.heap.size + 1 + 1 + 1, 1, none⟩ (.int .u32 (b' : Int))).setCell ⟨w.heap.size + 1 + 1 + 1, 2, none⟩ (.int .u32 (c' : Int))).cell? ⟨wr.heap.size, 1, none⟩ = some (.int .i64 (n : Int)) ∧ (((w2.setCell ⟨w.heap.size + 1 + 1 + 1, 0, none⟩ (.int .u32 (a' : Int))).setCell ⟨w.heap.size + 1 + 1 + 1, 1, none⟩ (.int .u32 (b' : Int))).setCell ⟨w.heap.size + 1 + 1 + 1, 2, none⟩ (.int .u32 (c' : Int))).cell? ⟨w.heap.size + 1 + 1, j, none⟩ = some (.int .i64 (v : Int))) :=
    ⟨(((hP2.other _ _ (Ne.symm hne)).other _ _ (Ne.symm hne)).other _ _ (Ne.symm hne)).cell 0, (((hP2.other _ _ (Ne.symm hne)).other _ _ (Ne.symm hne)).other _ _ (Ne.symm hne)).cell 1, hf _ HQ.out.fld⟩
   clear hN2 hP2 hF2 hR2 hB2 hb2 hwn
   go_simp
   refine hK.out _ _ K2.out (fun _ => ?_)
   refine wpAnyH_take (i := 10) (v := ?v10) rfl (by kernel_rfl) (by kernel_rfl) (by kernel_rfl) (fun _ _ _ h => h) (Or.inl ⟨by rfl, ?y10⟩) K2.out ?r10
   case y10 => (intro wz hSw; (try dsimp only at hSw); go_simp; try (with_reducible rfl))
   simp only [Act.put, zqa, zqb, zqc]
   refine wpAnyH_take (i := 11) (v := ?v11) rfl (by kernel_rfl) (by kernel_rfl) (by kernel_rfl) (fun _ _ _ h => h) (Or.inl ⟨by rfl, ?y11⟩) K2.out ?r11
   case y11 => (intro wz hSw; (try dsimp only at hSw); go_simp; try (with_reducible rfl))
   simp only [Act.put, zqa, zqb, zqc]
   refine wpAnyH_take (i := 12) (v := ?v12) rfl (by kernel_rfl) (by kernel_rfl) (by kernel_rfl) (fun _ _ _ h => h) (Or.inl ⟨by rfl, ?y12⟩) K2.out ?r12
   case y12 => (intro wz hSw; (try dsimp only at hSw); go_simp; try (with_reducible rfl))
   simp only [Act.put, zqa, zqb, zqc]
   refine wpAnyH_ready (rs := [13]) (by kernel_rfl) (by simp) ?_
   refine AllReadyH.cons rfl (fun K hK => ?_) AllReadyH.nil
   go_simp
   refine hK.out _ _ K3.out (fun _ => ?_)
   refine wpAnyH_done (by kernel_rfl) ?_ _
   all_goals
    go_wp2_with fail
    go_roundw
    case rel => exact ⟨j + 1, a', b', c', by omega, by go_num, HQ.out⟩
    case measure => simp [intOf]; omega
  ·obtain rfl : j = 4 := by omega
   have r0 := hp.num.cell 0
   have r1 := hp.num.cell 1
   have r2 := hp.num.cell 2
   have s0 := hp.res.cell 0
   have s1 := hp.res.cell 1
   have s2 := hp.res.cell 2
   have f0 := hp.res.free 0
   have f1 := hp.res.free 1
   have f2 := hp.res.free 2
   have HB : Hid (Below w.heap.size w (((wr.setCell ⟨w.heap.size + 1, 0, none⟩ (.int .u32 (a : Int))).setCell ⟨w.heap.size + 1, 1, none⟩ (.int .u32 (b : Int))).setCell ⟨w.heap.size + 1, 2, none⟩ (.int .u32 (c : Int)))) := bel_set (bel_set (bel_set hp.below _ _ _ (by omega)) _ _ _ (by omega)) _ _ _ (by omega)
   have HW : Hid (WN a b c k.num) := hp.wn
   have RR : Blk (((wr.setCell ⟨w.heap.size + 1, 0, none⟩ (.int .u32 (a : Int))).setCell ⟨w.heap.size + 1, 1, none⟩ (.int .u32 (b : Int))).setCell ⟨w.heap.size + 1, 2, none⟩ (.int .u32 (c : Int))) (w.heap.size + 1) #[.int .u32 (a : Int), .int .u32 (b : Int), .int .u32 (c : Int)] 131 := ((hp.res.set 0 _).set 1 _).set 2 _
   have R0 : Hid (_ = _) := RR.cell 0
   have R1 : Hid (_ = _) := RR.cell 1
   have R2 : Hid (_ = _) := RR.cell 2
   clear hp RR
   go_wp2_with fail
   refine bodyPost_ret (v := .agg #[.int .u32 (a : Int), .int .u32 (b : Int), .int .u32 (c : Int)]) (by simp [results, Tryz.results87, R0.out, R1.out, R2.out, go_sem]) rfl ⟨a, b, c, rfl, HW.out, HB.out⟩
end token
namespace ora
open Go.RowKit
set_option maxRecDepth 100000
theorem step_pr {w : World} {ops : Array Oper} {o : Oper} {a : Act} {K : Act → World → Prop} {Q : Exit → Act → World → Prop} {E : Prop} (hgd : o.guard = none) (s x : Operand)
  (ho : o.op = .call { callee := .builtin .append, args := #[s, x], argTypes := #[37, 37] })
  (base G : Nat) (v : Value) (l : List Pr) (r : Pr) (hs : a.eval s = v) (hx : a.eval x = .slice (some ⟨G, 0, none⟩) 1 1) (hv : Pw w base v l) (hu : PrAt w G 0 r) (hn : l.length ≤ 1000000) (hbase : base ≤ w.heap.size)
  (h : ∀ v' w', Pw w' base v' (l ++ [r]) → w.grownBy w' v.ownBlock → K (a.put o.dst v') w') : if Region.wanted o (yielded ops a.tmps) = true then Oper.wp Tryz.prog o a w K Q else E := by
 have hw : Region.wanted o (yielded ops a.tmps) = true := by simp [Region.wanted, hgd]
 rw [if_pos hw]
 obtain ⟨i0, hi, hz0, hz1, hz2⟩ := info_parts info_pr
 obtain ⟨v', w', hr, h2, h3, _⟩ := run_append_own (P := Tryz.prog) w base 37 o.type 279 i0 (.agg #[.int .i64 0, .int .i64 0, .int .i64 0, .int .i64 0]) 4 32 Tryz.underlying37 hi hz0 hz1 hz2 rfl (by decide) v l.length (cellsP l) hv ⟨G, 0, none⟩ 1 1 (cellsP [r]) rfl (by
  intro j u hj
  match j, hj with
  | 0, hj => simp [cellsP] at hj; subst hj; simpa [Addr.add] using hu.1
  | 1, hj => simp [cellsP] at hj; subst hj; simpa [Addr.add] using hu.2.1
  | 2, hj => simp [cellsP] at hj; subst hj; simpa [Addr.add] using hu.2.2.1
  | 3, hj => simp [cellsP] at hj; subst hj; simpa [Addr.add] using hu.2.2.2
  | j + 4, hj => simp [cellsP] at hj) (oneP [r]) (by unfold maxLen; omega) (by omega) hbase
 unfold Oper.wp execOp
 simp only [ho, resolve, invoke, builtin, Sem.run_bind, Sem.run_pure, Result.andThen_ok, List.map_toArray, List.map_cons, List.map_nil, hs, hx, hr]
 refine h v' w' ?_ h3
 unfold Pw
 rw [List.length_append, cellsP_app]
 exact h2
def IssueQ (w : World) (l : List Pr) (m r b d : Int) (e : Ending) (w' : World) : Prop :=
 ∃ v ls x c, e = .returned (.tuple #[.agg #[v], .int .i64 x, .int .i64 c]) ∧ Pw w' w.heap.size v ls ∧ IssueIs l m r b d ls x c ∧ Below w.heap.size w w'
theorem Pw.lies {w : World} {base : Nat} {v : Value} {l : List Pr} (h : Pw w base v l) : ∃ a cap, v = .slice a l.length cap ∧ RowP w a l.length l ∧ (a = none → cap = 0) ∧ l.length ≤ cap ∧ (∀ y, a = some y → base ≤ y.block ∧ y.block < w.heap.size) := by
 obtain ⟨a, cap, hv, h1, h2, h3⟩ := h.row
 refine ⟨a, cap, hv, h1, h2, h3, fun y hy => ?_⟩
 subst hy
 have := World.ownsRow.lt h y.block (by rw [hv]; rfl)
 exact ⟨this.1, this.2⟩
structure Bj (w wr : World) (a : Option Addr) (n cap : Nat) (l : List Pr) (G : Nat) (m r b d : Int) : Prop where
 bi : Bi w wr a n cap l
 pr : Blk wr G #[.int .i64 m, .int .i64 r, .int .i64 b, .int .i64 d] 279
theorem Bj.next {w wr w' : World} {a : Option Addr} {n cap : Nat} {l : List Pr} {G : Nat} {m r b d : Int} (h : Bj w wr a n cap l G m r b d) (hb : Below wr.heap.size wr w') : Bj w w' a n cap l G m r b d := ⟨h.bi.next hb, h.pr.next hb⟩
theorem Bj.alloc {w wr : World} {a : Option Addr} {n cap : Nat} {l : List Pr} {G : Nat} {m r b d : Int} (h : Bj w wr a n cap l G m r b d) (o : Obj) : Bj w (wr.alloc o) a n cap l G m r b d := h.next ((Below.refl _ _).alloc (Nat.le_refl _) _)
theorem Bj.drew {w wr : World} {a : Option Addr} {n cap : Nat} {l : List Pr} {G : Nat} {m r b d : Int} (h : Bj w wr a n cap l G m r b d) (q : Nat) : Bj w (wr.drewN q) a n cap l G m r b d := h.next (bel_drew (Below.refl _ _) q)
theorem Bj.cells {w wr : World} {a : Option Addr} {n cap : Nat} {l : List Pr} {G : Nat} {m r b d : Int} (h : Bj w wr a n cap l G m r b d) : wr.cell? ⟨w.heap.size, 0, none⟩ = some (.slice a n cap) ∧ wr.cell? ⟨G, 0, none⟩ = some (.int .i64 m) ∧ wr.cell? ⟨G, 0 + 1, none⟩ = some (.int .i64 r) ∧ wr.cell? ⟨G, 0 + 2, none⟩ = some (.int .i64 b) ∧ wr.cell? ⟨G, 0 + 3, none⟩ = some (.int .i64 d) :=
 ⟨h.bi.bo.box.cell 0, h.pr.cell 0, h.pr.cell 1, h.pr.cell 2, h.pr.cell 3⟩
theorem Bj.ne {w wr : World} {a : Option Addr} {n cap : Nat} {l : List Pr} {G : Nat} {m r b d : Int} (h : Bj w wr a n cap l G m r b d) : w.heap.size + 1 ≠ G := by
 rintro rfl
 have h1 := h.pr; have h2 := h.bi.out
 unfold Blk at h1 h2
 rw [h1] at h2; simp at h2
theorem Bj.put {w wr : World} {a : Option Addr} {n cap : Nat} {l : List Pr} {G : Nat} {m r b d : Int} (h : Bj w wr a n cap l G m r b d) (u : Value) : (wr.setCell ⟨w.heap.size + 1, 0, none⟩ u).cell? ⟨w.heap.size, 0, none⟩ = some (.slice a n cap) ∧ (wr.setCell ⟨w.heap.size + 1, 0, none⟩ u).cell? ⟨G, 0, none⟩ = some (.int .i64 m) ∧ (wr.setCell ⟨w.heap.size + 1, 0, none⟩ u).cell? ⟨G, 0 + 1, none⟩ = some (.int .i64 r) ∧ (wr.setCell ⟨w.heap.size + 1, 0, none⟩ u).cell? ⟨G, 0 + 2, none⟩ = some (.int .i64 b) ∧ (wr.setCell ⟨w.heap.size + 1, 0, none⟩ u).cell? ⟨G, 0 + 3, none⟩ = some (.int .i64 d) := by
 have h1 := Blk.other h.bi.bo.box 0 u (G' := w.heap.size + 1) (by omega)
 have h2 := Blk.other h.pr 0 u h.ne
 exact ⟨h1.cell 0, h2.cell 0, h2.cell 1, h2.cell 2, h2.cell 3⟩
structure En (w W : World) (v : Value) (ls : List Pr) : Prop where
 pw : Pw W w.heap.size v ls
 cell : W.cell? ⟨w.heap.size + 1, 0, none⟩ = some v
 bel : Below w.heap.size w W
theorem En.of {w w6 : World} {a : Option Addr} {n cap : Nat} {l : List Pr} {v : Value} {ls : List Pr} (hi : Bi w w6 a n cap l) (hp : Pw w6 w.heap.size v ls) : En w (w6.setCell ⟨w.heap.size + 1, 0, none⟩ v) v ls :=
 ⟨hp.put2 hi.out (by decide) 0 v, by have := (hi.out.set 0 v).cell 0; exact this, bel_set hi.bo.bel _ _ _ (by omega)⟩
set_option maxHeartbeats 2000000 in
theorem poi (a : Option Addr) (n cap : Nat) (l : List Pr) (m r b d : Int) (w : World) (hr : RowP w a n l) :
  Calls Tryz.prog 163 #[.agg #[.slice a n cap], .int .i64 m, .int .i64 r, .int .i64 b, .int .i64 d] w fun e w' => IssueQ w l m r b d e w' := by
 have HB0 : Hid (Bi w ((w.alloc (.cells #[.slice a n cap] 39)).alloc (.cells #[.slice none 0 0] 39)) a n cap l) := ⟨(Bo.new hr).alloc _, Blk.new1 w _ _ _⟩
 have HL : Hid (l.length = n) := hr.1
 have HG : Hid (∀ W, RowP W a n l → Calls Tryz.prog 187 #[.agg #[.slice a n cap]] W fun e w' => Given W l e w') := fun W h => given_any a n cap l W h
 have HCL : Hid (∀ W, n ≤ 500 → RowP W a n l → Calls Tryz.prog 190 #[.slice a n cap] W fun e w' => GaveV W l e w') := fun W h0 h => pclone_any a n cap l W h (by omega)
 have HPM : Hid (∀ W, Calls Tryz.prog 188 #[.agg #[.int .i64 m, .int .i64 r, .int .i64 b, .int .i64 d]] W fun e w' => Told W (Pr.mk m r b d).may e w') := fun W => within_any m r b d W
 have HOF : Hid (∀ W, Calls Tryz.prog 189 #[.agg #[.int .i64 m, .int .i64 r, .int .i64 b, .int .i64 d]] W fun e w' => e = .returned (.agg #[.int .i64 m, .int .i64 r, .int .i64 b]) ∧ Below W.heap.size W w') := fun W => of_any m r b d W
 clear hr
 have c0 := HB0.out.bo.box.cell 0
 go_enter Tryz.func163, Tryz.ntmps163
 go_wp2_with fail
 refine (HG.out _ HB0.out.bo.row).mono ?_
 rintro e w1 ⟨hb1, ⟨hm, B, rfl, hmp⟩ | ⟨hm, rfl⟩⟩
 ·have HI1 : Hid (Bi w w1 a n cap l) := HB0.out.next hb1
  have hn : n ≤ 500 := by rw [← HL.out]; exact hm.few
  have HMY : Hid (May l) := hm
  have HJ2 : Hid (Bj w (w1.alloc (.cells #[.int .i64 m, .int .i64 r, .int .i64 b, .int .i64 d] 279)) a n cap l w1.heap.size m r b d) := ⟨HI1.out.alloc _, Blk.new w1 _ _⟩
  have HM2 : Hid (Mp (w1.alloc (.cells #[.int .i64 m, .int .i64 r, .int .i64 b, .int .i64 d] 279)) B l) := hmp.below ((Below.refl _ _).alloc (Nat.le_refl _) _)
  have p0 := HJ2.out.pr.cell 0
  have p1 := HJ2.out.pr.cell 1
  have p2 := HJ2.out.pr.cell 2
  have p3 := HJ2.out.pr.cell 3
  clear hb1 hm hmp HB0 c0 HI1
  go_wp2_with fail
  refine (HPM.out _).mono ?_
  rintro e w2 ⟨rr, rfl, hrr, hb2⟩
  have HJ3 : Hid (Bj w w2 a n cap l w1.heap.size m r b d) := HJ2.out.next hb2
  have HM3 : Hid (Mp w2 B l) := HM2.out.below hb2
  clear hb2 HJ2 HM2 p0 p1 p2 p3
  generalize w1.heap.size = gp at *
  have z0 := HJ3.out.bi.out.cell 0
  have y0 := HJ3.out.bi.out.free 0
  cases rr with
  | false =>
   have HN : Hid (¬ (Pr.mk m r b d).may) := fun h => by have := hrr.2 h; cases this
   have HE : Hid (En w (w2.setCell ⟨w.heap.size + 1, 0, none⟩ (.slice none 0 0)) (.slice none 0 0) []) := En.of HJ3.out.bi (Pw.zero _ _)
   have R0 : Hid (_ = _) := HE.out.cell
   clear hrr
   go_wp2_with fail
   exact bodyPost_ret (v := .tuple #[.agg #[.slice none 0 0], .int .i64 0, .int .i64 2]) (by simp [results, Tryz.results163, R0.out, go_sem]) rfl ⟨_, [], 0, 2, rfl, HE.out.pw, .inr (.inl ⟨HMY.out, HN.out, rfl, rfl, rfl⟩), HE.out.bel⟩
  | true =>
   have HPY : Hid ((Pr.mk m r b d).may) := hrr.1 rfl
   clear hrr z0 y0
   have p0 := HJ3.out.pr.cell 0
   have p1 := HJ3.out.pr.cell 1
   have p2 := HJ3.out.pr.cell 2
   have p3 := HJ3.out.pr.cell 3
   go_wp2_with fail
   refine (HOF.out _).mono ?_
   rintro e w3 ⟨rfl, hb3⟩
   have HJ4 : Hid (Bj w w3 a n cap l gp m r b d) := HJ3.out.next hb3
   have hlk := look_run (HM3.out.below hb3) m r b
   clear hb3 HJ3 HM3 p0 p1 p2 p3
   have c0 := HJ4.out.bi.bo.box.cell 0
   rcases find_or l m r b with ⟨i, hi⟩ | hno
   ·rw [look_at hi] at hlk
    simp only [Option.getD_some, Option.isSome_some] at hlk
    have HAT : Hid (∃ i, At l m r b i ∧ (l.getD i pr0).t = (l.getD i pr0).t) := ⟨i, hi, rfl⟩
    have HIS : Hid (IssueIs l m r b d l (l.getD i pr0).t 0) := .inr (.inr (.inl ⟨HMY.out, HPY.out, ⟨i, hi, rfl⟩, rfl, rfl⟩))
    clear hi HAT
    generalize (l.getD i pr0).t = pt at *
    go_wp2_with fail
    refine (HCL.out _ hn HJ4.out.bi.bo.row).mono ?_
    rintro e w4 ⟨v4, rfl, hp4, hb4⟩
    have HI5 : Hid (Bi w w4 a n cap l) := HJ4.out.bi.next hb4
    have hp5 : Pw w4 w.heap.size v4 l := hp4.low HJ4.out.bi.bo.bel.size
    obtain ⟨a4, k4, rfl, _⟩ := hp5.lies
    have HE : Hid (En w (w4.setCell ⟨w.heap.size + 1, 0, none⟩ (.slice a4 l.length k4)) (.slice a4 l.length k4) l) := En.of HI5.out hp5
    have R0 : Hid (_ = _) := HE.out.cell
    have z0 := HI5.out.out.cell 0
    have y0 := HI5.out.out.free 0
    clear hb4 hp4 hp5 HJ4 c0 hlk
    generalize l.length = ln at *
    go_wp2_with fail
    exact bodyPost_ret (v := .tuple #[.agg #[.slice a4 ln k4], .int .i64 pt, .int .i64 0]) (by simp [results, Tryz.results163, R0.out, go_sem]) rfl ⟨_, l, pt, 0, rfl, HE.out.pw, HIS.out, HE.out.bel⟩
   ·rw [look_no hno] at hlk
    simp only [Option.getD_none, Option.isSome_none] at hlk
    have HNO : Hid (No l m r b) := hno
    clear hno
    by_cases h5 : n = 500
    ·have hq : ((n : Int) == 500) = true := by simp; omega
     have HL5 : Hid (l.length = 500) := by rw [← h5]; exact HL.out
     have HE : Hid (En w (w3.setCell ⟨w.heap.size + 1, 0, none⟩ (.slice none 0 0)) (.slice none 0 0) []) := En.of HJ4.out.bi (Pw.zero _ _)
     have R0 : Hid (_ = _) := HE.out.cell
     have z0 := HJ4.out.bi.out.cell 0
     have y0 := HJ4.out.bi.out.free 0
     clear h5
     go_wp2_with fail
     exact bodyPost_ret (v := .tuple #[.agg #[.slice none 0 0], .int .i64 0, .int .i64 16]) (by simp [results, Tryz.results163, R0.out, go_sem]) rfl ⟨_, [], 0, 16, rfl, HE.out.pw, .inr (.inr (.inr (.inl ⟨HMY.out, HPY.out, HNO.out, HL5.out, rfl, rfl, rfl⟩))), HE.out.bel⟩
    ·have hq : ((n : Int) == 500) = false := by simp; omega
     have HL5 : Hid (l.length < 500) := by have := HL.out; show _ < _; omega
     have HLN : Hid (l.length ≤ 1000000) := by have := HL5.out; show _ ≤ _; omega
     have HIS : Hid (IssueIs l m r b d (l ++ [⟨m, r, b, d⟩]) d 0) := .inr (.inr (.inr (.inr ⟨HMY.out, HPY.out, HNO.out, HL5.out, rfl, rfl, rfl⟩)))
     obtain ⟨l2, hl2⟩ : ∃ l2, l2 = l ++ [Pr.mk m r b d] := ⟨_, rfl⟩
     have HL2 : Hid (l2 = l ++ [Pr.mk m r b d]) := hl2
     rw [← hl2] at HIS
     clear hl2
     have HJD : Hid (Bj w w3.drew a n cap l gp m r b d) := HJ4.out.drew 1
     have HRD : Hid (RowP w3.drew a n l) := HJD.out.bi.bo.row
     have HBD : Hid (Below w3.heap.size w3 w3.drew) := bel_drew (Below.refl _ _) 1
     have HJX : Hid (Bj w (w3.alloc (.cells #[.int .i64 m, .int .i64 r, .int .i64 b, .int .i64 d] 279)).drew a n cap l gp m r b d) := (HJ4.out.alloc _).drew 1
     have HRX : Hid (RowP (w3.alloc (.cells #[.int .i64 m, .int .i64 r, .int .i64 b, .int .i64 d] 279)).drew a n l) := HJX.out.bi.bo.row
     have HBX : Hid (Below w3.heap.size w3 (w3.alloc (.cells #[.int .i64 m, .int .i64 r, .int .i64 b, .int .i64 d] 279)).drew) := bel_drew ((Below.refl _ _).alloc (Nat.le_refl _) _) 1
     have HPX : Hid (PrAt (w3.alloc (.cells #[.int .i64 m, .int .i64 r, .int .i64 b, .int .i64 d] 279)).drew w3.heap.size 0 ⟨m, r, b, d⟩) := pr_cell w3 m r b d
     have HWW : Hid (w.heap.size ≤ w3.heap.size) := HJ4.out.bi.bo.bel.size
     have KD : Hid (w3.drew.cell? ⟨w.heap.size, 0, none⟩ = some (.slice a n cap) ∧ w3.drew.cell? ⟨gp, 0, none⟩ = some (.int .i64 m) ∧ w3.drew.cell? ⟨gp, 0 + 1, none⟩ = some (.int .i64 r) ∧ w3.drew.cell? ⟨gp, 0 + 2, none⟩ = some (.int .i64 b) ∧ w3.drew.cell? ⟨gp, 0 + 3, none⟩ = some (.int .i64 d)) := HJD.out.cells
     have KX : Hid ((w3.alloc (.cells #[.int .i64 m, .int .i64 r, .int .i64 b, .int .i64 d] 279)).drew.cell? ⟨w.heap.size, 0, none⟩ = some (.slice a n cap) ∧ (w3.alloc (.cells #[.int .i64 m, .int .i64 r, .int .i64 b, .int .i64 d] 279)).drew.cell? ⟨gp, 0, none⟩ = some (.int .i64 m) ∧ (w3.alloc (.cells #[.int .i64 m, .int .i64 r, .int .i64 b, .int .i64 d] 279)).drew.cell? ⟨gp, 0 + 1, none⟩ = some (.int .i64 r) ∧ (w3.alloc (.cells #[.int .i64 m, .int .i64 r, .int .i64 b, .int .i64 d] 279)).drew.cell? ⟨gp, 0 + 2, none⟩ = some (.int .i64 b) ∧ (w3.alloc (.cells #[.int .i64 m, .int .i64 r, .int .i64 b, .int .i64 d] 279)).drew.cell? ⟨gp, 0 + 3, none⟩ = some (.int .i64 d)) := HJX.out.cells
     clear h5
     go_wp2_with fail
     clear hlk hq c0
     go_region_held_law (fun v => v.cell? ⟨w.heap.size, 0, none⟩ = some (.slice a n cap) ∧ v.cell? ⟨gp, 0, none⟩ = some (.int .i64 m) ∧ v.cell? ⟨gp, 0 + 1, none⟩ = some (.int .i64 r) ∧ v.cell? ⟨gp, 0 + 2, none⟩ = some (.int .i64 b) ∧ v.cell? ⟨gp, 0 + 3, none⟩ = some (.int .i64 d))
      (first | with_reducible exact KD.out | with_reducible exact KX.out | with_reducible exact K5.out | with_reducible exact K6.out | with_reducible exact K7.out | with_reducible exact K8.out)
      (first
       | (go_at_call 190; refine (HCL.out _ hn (by with_reducible exact HRD.out)).mono ?_; rintro e w5 ⟨v5, rfl, hp5, hb5⟩
          have HB5 := shB HBD hb5
          have HB6 : Hid (Below w3.heap.size w3 (w5.alloc (.cells #[.int .i64 m, .int .i64 r, .int .i64 b, .int .i64 d] 279))) := HB5.out.alloc HB5.out.size _
          have K5 : Hid (w5.cell? ⟨w.heap.size, 0, none⟩ = some (.slice a n cap) ∧ w5.cell? ⟨gp, 0, none⟩ = some (.int .i64 m) ∧ w5.cell? ⟨gp, 0 + 1, none⟩ = some (.int .i64 r) ∧ w5.cell? ⟨gp, 0 + 2, none⟩ = some (.int .i64 b) ∧ w5.cell? ⟨gp, 0 + 3, none⟩ = some (.int .i64 d)) := (HJ4.out.next HB5.out).cells
          have K6 : Hid ((w5.alloc (.cells #[.int .i64 m, .int .i64 r, .int .i64 b, .int .i64 d] 279)).cell? ⟨w.heap.size, 0, none⟩ = some (.slice a n cap) ∧ (w5.alloc (.cells #[.int .i64 m, .int .i64 r, .int .i64 b, .int .i64 d] 279)).cell? ⟨gp, 0, none⟩ = some (.int .i64 m) ∧ (w5.alloc (.cells #[.int .i64 m, .int .i64 r, .int .i64 b, .int .i64 d] 279)).cell? ⟨gp, 0 + 1, none⟩ = some (.int .i64 r) ∧ (w5.alloc (.cells #[.int .i64 m, .int .i64 r, .int .i64 b, .int .i64 d] 279)).cell? ⟨gp, 0 + 2, none⟩ = some (.int .i64 b) ∧ (w5.alloc (.cells #[.int .i64 m, .int .i64 r, .int .i64 b, .int .i64 d] 279)).cell? ⟨gp, 0 + 3, none⟩ = some (.int .i64 d)) := (HJ4.out.next HB6.out).cells
          have HP6 : Hid (Pw (w5.alloc (.cells #[.int .i64 m, .int .i64 r, .int .i64 b, .int .i64 d] 279)) w3.heap.size v5 l) := Pw.alloc hp5 _
          have HPA : Hid (PrAt (w5.alloc (.cells #[.int .i64 m, .int .i64 r, .int .i64 b, .int .i64 d] 279)) w5.heap.size 0 ⟨m, r, b, d⟩) := pr_cell w5 m r b d
          have HSZ : Hid (w3.heap.size ≤ (w5.alloc (.cells #[.int .i64 m, .int .i64 r, .int .i64 b, .int .i64 d] 279)).heap.size) := HB6.out.size
          clear hp5 hb5)
       | (go_at_call 190; refine (HCL.out _ hn (by with_reducible exact HRX.out)).mono ?_; rintro e w5 ⟨v5, rfl, hp5, hb5⟩
          have HB6 := shB HBX hb5
          have K6 : Hid (w5.cell? ⟨w.heap.size, 0, none⟩ = some (.slice a n cap) ∧ w5.cell? ⟨gp, 0, none⟩ = some (.int .i64 m) ∧ w5.cell? ⟨gp, 0 + 1, none⟩ = some (.int .i64 r) ∧ w5.cell? ⟨gp, 0 + 2, none⟩ = some (.int .i64 b) ∧ w5.cell? ⟨gp, 0 + 3, none⟩ = some (.int .i64 d)) := (HJ4.out.next HB6.out).cells
          have HP6 : Hid (Pw w5 w3.heap.size v5 l) := hp5.low HBX.out.size
          have HPB : Hid (PrAt w5 w3.heap.size 0 ⟨m, r, b, d⟩) := HPX.out.below hb5
          have HSZ : Hid (w3.heap.size ≤ w5.heap.size) := HB6.out.size
          clear hp5 hb5)
       | (first
         | refine step_pr rfl _ _ rfl w3.heap.size w5.heap.size _ l ⟨m, r, b, d⟩ rfl rfl HP6.out HPA.out HLN.out HSZ.out ?_
         | refine step_pr rfl _ _ rfl w3.heap.size w3.heap.size _ l ⟨m, r, b, d⟩ rfl rfl HP6.out HPB.out HLN.out HSZ.out ?_
          intro v7 w7 hp7 hg7
          have hB7 : Below w3.heap.size w3 w7 := pown_bel HP6.out hg7 HB6.out (Nat.le_refl _) HSZ.out
          have HJ7 : Hid (Bj w w7 a n cap l gp m r b d) := HJ4.out.next hB7
          have hp8 : Pw w7 w.heap.size v7 l2 := by rw [HL2.out]; exact hp7.low HWW.out
          obtain ⟨a7, k7, rfl, _⟩ := hp8.lies
          have HE : Hid (En w (w7.setCell ⟨w.heap.size + 1, 0, none⟩ (.slice a7 l2.length k7)) (.slice a7 l2.length k7) l2) := En.of HJ7.out.bi hp8
          have K7 : Hid (w7.cell? ⟨w.heap.size, 0, none⟩ = some (.slice a n cap) ∧ w7.cell? ⟨gp, 0, none⟩ = some (.int .i64 m) ∧ w7.cell? ⟨gp, 0 + 1, none⟩ = some (.int .i64 r) ∧ w7.cell? ⟨gp, 0 + 2, none⟩ = some (.int .i64 b) ∧ w7.cell? ⟨gp, 0 + 3, none⟩ = some (.int .i64 d)) := HJ7.out.cells
          have K8 : Hid ((w7.setCell ⟨w.heap.size + 1, 0, none⟩ (.slice a7 l2.length k7)).cell? ⟨w.heap.size, 0, none⟩ = some (.slice a n cap) ∧ (w7.setCell ⟨w.heap.size + 1, 0, none⟩ (.slice a7 l2.length k7)).cell? ⟨gp, 0, none⟩ = some (.int .i64 m) ∧ (w7.setCell ⟨w.heap.size + 1, 0, none⟩ (.slice a7 l2.length k7)).cell? ⟨gp, 0 + 1, none⟩ = some (.int .i64 r) ∧ (w7.setCell ⟨w.heap.size + 1, 0, none⟩ (.slice a7 l2.length k7)).cell? ⟨gp, 0 + 2, none⟩ = some (.int .i64 b) ∧ (w7.setCell ⟨w.heap.size + 1, 0, none⟩ (.slice a7 l2.length k7)).cell? ⟨gp, 0 + 3, none⟩ = some (.int .i64 d)) := HJ7.out.put _
          have z0 := HJ7.out.bi.out.cell 0
          have y0 := HJ7.out.bi.out.free 0
          have R0 : Hid (_ = _) := HE.out.cell
          clear hp7 hg7 hB7 hp8
          generalize l2.length = ln at *))
     all_goals go_wp2_with fail
     all_goals exact bodyPost_ret (v := .tuple #[.agg #[.slice a7 ln k7], .int .i64 d, .int .i64 0]) (by simp [results, Tryz.results163, R0.out, go_sem]) rfl ⟨_, l2, d, 0, rfl, HE.out.pw, HIS.out, HE.out.bel⟩
 ·have HI1 : Hid (Bi w w1 a n cap l) := HB0.out.next hb1
  have HN : Hid (¬ May l) := hm
  have HE : Hid (En w (w1.setCell ⟨w.heap.size + 1, 0, none⟩ (.slice none 0 0)) (.slice none 0 0) []) := En.of HI1.out (Pw.zero _ _)
  have R0 : Hid (_ = _) := HE.out.cell
  have z0 := HI1.out.out.cell 0
  have y0 := HI1.out.out.free 0
  clear hb1 hm HB0 c0
  go_wp2_with fail
  exact bodyPost_ret (v := .tuple #[.agg #[.slice none 0 0], .int .i64 0, .int .i64 5]) (by simp [results, Tryz.results163, R0.out, go_sem]) rfl ⟨_, [], 0, 5, rfl, HE.out.pw, .inl ⟨HN.out, rfl, rfl, rfl⟩, HE.out.bel⟩
end ora
end Go.Proofs.YtnpblpbohcegoaaGreatDoor
