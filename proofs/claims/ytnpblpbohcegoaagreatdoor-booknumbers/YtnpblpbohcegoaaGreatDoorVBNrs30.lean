import Derived.Test.YtnpblpbohcegoaaGreatDoorVBNrs17
import Derived.Test.YtnpblpbohcegoaaGreatDoorVBNrs18
import Derived.Test.YtnpblpbohcegoaaGreatDoorVBNrs23
import Derived.Test.YtnpblpbohcegoaaGreatDoorVBNrs29
set_option linter.unusedVariables false
set_option linter.unusedSimpArgs false
set_option maxHeartbeats 4000000
set_option maxRecDepth 100000
namespace Go.Proofs.YtnpblpbohcegoaaGreatDoor
namespace token
open words
open Go.RowKit
theorem put_wn (a b c v lo n V : Nat) (w : World) (h : WN a b c V) (hv : v < 2 ^ n) (n0 : 1 ≤ n) (n1 : n ≤ 64) (hl : lo + n ≤ 96) (h0 : V / 2 ^ lo % 2 ^ n = 0) :
  Calls Tryz.prog 132 #[.agg #[.int .u32 (a : Int), .int .u32 (b : Int), .int .u32 (c : Int)], .int .i64 (lo : Int), .int .i64 (n : Int), .int .u64 (v : Int)] w fun e w' =>
   ∃ a' b' c' : Nat, e = .returned (.tuple #[.agg #[.int .u32 (a' : Int), .int .u32 (b' : Int), .int .u32 (c' : Int)], .int .i64 0]) ∧ WN a' b' c' (V + v * 2 ^ lo) ∧ Below w.heap.size w w' := by
 refine (put_any a b c v lo n w h.a1 h.b1 h.c1 hv n0 n1 hl).mono ?_
 rintro e w' ⟨he, hb⟩
 refine ⟨_, _, _, he, ⟨put_lt _ _ _ _ h.a1, put_lt _ _ _ _ h.b1, put_lt _ _ _ _ h.c1, ?_⟩, hb⟩
 rw [put_num h.a1 h.b1 h.c1 hv n1 hl (by rw [h.val]; exact h0), h.val]
structure Pk (w wr : World) (k : Tok) (j a b c : Nat) : Prop where
 below : Below w.heap.size w wr
 fld : Blk wr (w.heap.size + 1 + 1) #[.int .i64 (k.c : Int), .int .i64 (k.i : Int), .int .i64 (k.a : Int), .int .i64 (k.t : Int)] 228
 res : Blk wr (w.heap.size + 1) #[.int .u32 0, .int .u32 0, .int .u32 0] 131
 num : Blk wr (w.heap.size + 1 + 1 + 1) #[.int .u32 (a : Int), .int .u32 (b : Int), .int .u32 (c : Int)] 131
 wn : WN a b c (pP k j)
theorem Pk.mk3 {w w2 : World} {k : Tok} {j a b c a' b' c' : Nat} (hB : Below w.heap.size w w2) (hF : Blk w2 (w.heap.size + 1 + 1) #[.int .i64 (k.c : Int), .int .i64 (k.i : Int), .int .i64 (k.a : Int), .int .i64 (k.t : Int)] 228) (hR : Blk w2 (w.heap.size + 1) #[.int .u32 0, .int .u32 0, .int .u32 0] 131)
  (hN : Blk w2 (w.heap.size + 1 + 1 + 1) #[.int .u32 (a : Int), .int .u32 (b : Int), .int .u32 (c : Int)] 131) (hwn : WN a' b' c' (pP k j)) :
  Pk w (((w2.setCell ⟨w.heap.size + 1 + 1 + 1, 0, none⟩ (.int .u32 (a' : Int))).setCell ⟨w.heap.size + 1 + 1 + 1, 1, none⟩ (.int .u32 (b' : Int))).setCell ⟨w.heap.size + 1 + 1 + 1, 2, none⟩ (.int .u32 (c' : Int))) k j a' b' c' :=
 ⟨bel_set (bel_set (bel_set hB _ _ _ (by omega)) _ _ _ (by omega)) _ _ _ (by omega), ((hF.other _ _ (by omega)).other _ _ (by omega)).other _ _ (by omega), ((hR.other _ _ (by omega)).other _ _ (by omega)).other _ _ (by omega), ((hN.set 0 _).set 1 _).set 2 _, hwn⟩
def PackPost (w : World) (k : Tok) (e : Ending) (w' : World) : Prop := ∃ a b c : Nat, e = .returned (.agg #[.int .u32 (a : Int), .int .u32 (b : Int), .int .u32 (c : Int)]) ∧ WN a b c k.num ∧ Below w.heap.size w w'
set_option maxHeartbeats 1000000 in
theorem pack_any (k : Tok) (w : World) (hk : k.ok) (ht : TTab w) :
  Calls Tryz.prog 87 #[k.v] w fun e w' => PackPost w k e w' := by
 have hb0 : Below w.heap.size w ((((w.alloc (.cells #[.int .i64 (k.c : Int), .int .i64 (k.i : Int), .int .i64 (k.a : Int), .int .i64 (k.t : Int)] 96)).alloc (.cells #[.int .u32 0, .int .u32 0, .int .u32 0] 131)).alloc (.cells #[.int .i64 (k.c : Int), .int .i64 (k.i : Int), .int .i64 (k.a : Int), .int .i64 (k.t : Int)] 228)).alloc (.cells #[.int .u32 0, .int .u32 0, .int .u32 0] 131)) :=
  ((((Below.refl _ _).alloc (Nat.le_refl _) _).alloc (by simp) _).alloc (by simp; omega) _).alloc (by simp; omega) _
 obtain ⟨q0, q1, q2, q3, q4, q5, q6, q7⟩ := (ht.places.below hb0).cell
 have HP : Hid (Pk w ((((w.alloc (.cells #[.int .i64 (k.c : Int), .int .i64 (k.i : Int), .int .i64 (k.a : Int), .int .i64 (k.t : Int)] 96)).alloc (.cells #[.int .u32 0, .int .u32 0, .int .u32 0] 131)).alloc (.cells #[.int .i64 (k.c : Int), .int .i64 (k.i : Int), .int .i64 (k.a : Int), .int .i64 (k.t : Int)] 228)).alloc (.cells #[.int .u32 0, .int .u32 0, .int .u32 0] 131)) k 0 0 0 0) :=
  ⟨hb0, (Blk.new2 _ _ _ _ _).alloc _, ((Blk.new1 _ _ _ _).alloc _).alloc _, Blk.new3 _ _ _ _ _ _, wn_zero⟩
 have HK : Hid k.ok := hk
 clear hk ht hb0
 unfold Tok.v
 go_enter Tryz.func87, Tryz.ntmps87
 go_wp2_with fail
 generalize ((((w.alloc (.cells #[.int .i64 (k.c : Int), .int .i64 (k.i : Int), .int .i64 (k.a : Int), .int .i64 (k.t : Int)] 96)).alloc (.cells #[.int .u32 0, .int .u32 0, .int .u32 0] 131)).alloc (.cells #[.int .i64 (k.c : Int), .int .i64 (k.i : Int), .int .i64 (k.a : Int), .int .i64 (k.t : Int)] 228)).alloc (.cells #[.int .u32 0, .int .u32 0, .int .u32 0] 131)) = W0 at *
 clear q0 q1 q2 q3 q4 q5 q6 q7
 go_loopw [17] (fun v wr => ∃ j a b c : Nat, j ≤ 4 ∧ v = .int .i64 (j : Int) ∧ Pk w wr k j a b c) (fun v _ => 4 - (intOf v).toNat)
 case atStart => exact ⟨0, 0, 0, 0, by omega, rfl, HP.out⟩
 case round =>
  obtain ⟨j, a, b, c, hj, rfl, hp⟩ := hrel
  by_cases hlt : j < 4
  ·have hst := step_P HK.out j hlt
   have HC : Hid (∀ W, Calls Tryz.prog 132 #[.agg #[.int .u32 (a : Int), .int .u32 (b : Int), .int .u32 (c : Int)], .int .i64 (loP j : Int), .int .i64 (nP j : Int), .int .u64 (IntKind.u64.wrap (vP k j : Int))] W fun e w' =>
     ∃ a' b' c' : Nat, e = .returned (.tuple #[.agg #[.int .u32 (a' : Int), .int .u32 (b' : Int), .int .u32 (c' : Int)], .int .i64 0]) ∧ WN a' b' c' (pP k (j + 1)) ∧ Below W.heap.size W w') := fun W => by
    rw [hst.2.2.2.2.2.1, wrap_u _ hst.2.2.2.2.2.2]
    exact put_wn a b c (vP k j) (loP j) (nP j) (pP k j) W hp.wn hst.1 hst.2.1 hst.2.2.1 hst.2.2.2.1 hst.2.2.2.2.1
   have hix := idxP j hlt
   have hv := hst.2.2.2.2.2.2
   have hf : ∀ W : World, Blk W (w.heap.size + 1 + 1) #[.int .i64 (k.c : Int), .int .i64 (k.i : Int), .int .i64 (k.a : Int), .int .i64 (k.t : Int)] 228 → W.cell? ⟨w.heap.size + 1 + 1, j, none⟩ = some (.int .i64 (vP k j : Int)) := fun W hB => by
    rw [hB.cell]
    rcases (by omega : j = 0 ∨ j = 1 ∨ j = 2 ∨ j = 3) with rfl | rfl | rfl | rfl <;> rfl
   generalize vP k j = v at *
   generalize loP j = lo at *
   generalize nP j = n at *
   clear hst
   have hjj : (j : Int) < 4 := by omega
   have hPl := Blk.new wr #[.int .i64 (lo : Int), .int .i64 (n : Int)] 230
   have hNu := hp.num.alloc (.cells #[.int .i64 (lo : Int), .int .i64 (n : Int)] 230)
   have hFi := hp.fld.alloc (.cells #[.int .i64 (lo : Int), .int .i64 (n : Int)] 230)
   have hRe := hp.res.alloc (.cells #[.int .i64 (lo : Int), .int .i64 (n : Int)] 230)
   have hBe := hp.below.alloc hp.below.size (.cells #[.int .i64 (lo : Int), .int .i64 (n : Int)] 230)
   have hne : wr.heap.size ≠ w.heap.size + 1 + 1 + 1 := by have := hp.num.lt; omega
   clear hp
   go_wp2_with fail
   generalize wr.alloc (.cells #[.int .i64 (lo : Int), .int .i64 (n : Int)] 230) = W1 at *
   have k0 : W1.drew.cell? ⟨w.heap.size + 1 + 1 + 1, 0, none⟩ = some (.int .u32 (a : Int)) := hNu.cell 0
   have k1 : W1.drew.cell? ⟨w.heap.size + 1 + 1 + 1, 1, none⟩ = some (.int .u32 (b : Int)) := hNu.cell 1
   have k2 : W1.drew.cell? ⟨w.heap.size + 1 + 1 + 1, 2, none⟩ = some (.int .u32 (c : Int)) := hNu.cell 2
   have KW : Hid (W1.drew.cell? ⟨wr.heap.size, 0, none⟩ = some (.int .i64 (lo : Int)) ∧ W1.drew.cell? ⟨wr.heap.size, 1, none⟩ = some (.int .i64 (n : Int)) ∧ W1.drew.cell? ⟨w.heap.size + 1 + 1, j, none⟩ = some (.int .i64 (v : Int))) := ⟨hPl.cell 0, hPl.cell 1, hf _ hFi⟩
   refine wp_region_held_drew (S := (fun v' => v'.cell? ⟨wr.heap.size, 0, none⟩ = some (.int .i64 (lo : Int)) ∧ v'.cell? ⟨wr.heap.size, 1, none⟩ = some (.int .i64 (n : Int)) ∧ v'.cell? ⟨w.heap.size + 1 + 1, j, none⟩ = some (.int .i64 (v : Int)))) (by kernel_rfl) KW.out (fun hHeld => ?_)
   refine wpAnyH_take (i := 1) (v := ?v1) rfl (by kernel_rfl) (by kernel_rfl) (by kernel_rfl) (fun _ _ _ h => h) (Or.inl ⟨by rfl, ?y1⟩) KW.out ?r1
   case y1 => (intro wz hSw; (try dsimp only at hSw); go_simp; try (with_reducible rfl))
   simp only [Act.put, zqa, zqb, zqc]
   refine wpAnyH_take (i := 2) (v := ?v2) rfl (by kernel_rfl) (by kernel_rfl) (by kernel_rfl) (fun _ _ _ h => h) (Or.inl ⟨by rfl, ?y2⟩) KW.out ?r2
   case y2 => (intro wz hSw; (try dsimp only at hSw); go_simp; try (with_reducible rfl))
   simp only [Act.put, zqa, zqb, zqc]
   refine wpAnyH_take (i := 3) (v := ?v3) rfl (by kernel_rfl) (by kernel_rfl) (by kernel_rfl) (fun _ _ _ h => h) (Or.inl ⟨by rfl, ?y3⟩) KW.out ?r3
   case y3 => (intro wz hSw; (try dsimp only at hSw); go_simp; try (with_reducible rfl))
   simp only [Act.put, zqa, zqb, zqc]
   refine wpAnyH_take (i := 4) (v := ?v4) rfl (by kernel_rfl) (by kernel_rfl) (by kernel_rfl) (fun _ _ _ h => h) (Or.inl ⟨by rfl, ?y4⟩) KW.out ?r4
   case y4 => (intro wz hSw; (try dsimp only at hSw); go_simp; try (with_reducible rfl))
   simp only [Act.put, zqa, zqb, zqc]
   refine wpAnyH_take (i := 5) (v := ?v5) rfl (by kernel_rfl) (by kernel_rfl) (by kernel_rfl) (fun _ _ _ h => h) (Or.inl ⟨by rfl, ?y5⟩) KW.out ?r5
   case y5 => (intro wz hSw; (try dsimp only at hSw); go_simp; try (with_reducible rfl))
   simp only [Act.put, zqa, zqb, zqc]
   refine wpAnyH_take (i := 6) (v := ?v6) rfl (by kernel_rfl) (by kernel_rfl) (by kernel_rfl) (fun _ _ _ h => h) (Or.inl ⟨by rfl, ?y6⟩) KW.out ?r6
   case y6 => (intro wz hSw; (try dsimp only at hSw); go_simp; try (with_reducible rfl))
   simp only [Act.put, zqa, zqb, zqc]
   refine wpAnyH_take (i := 7) (v := ?v7) rfl (by kernel_rfl) (by kernel_rfl) (by kernel_rfl) (fun _ _ _ h => h) (Or.inl ⟨by rfl, ?y7⟩) KW.out ?r7
   case y7 => (intro wz hSw; (try dsimp only at hSw); go_simp; try (with_reducible rfl))
   simp only [Act.put, zqa, zqb, zqc]
   refine wpAnyH_take (i := 8) (v := ?v8) rfl (by kernel_rfl) (by kernel_rfl) (by kernel_rfl) (fun _ _ _ h => h) (Or.inl ⟨by rfl, ?y8⟩) KW.out ?r8
   case y8 => (intro wz hSw; (try dsimp only at hSw); go_simp; try (with_reducible rfl))
   simp only [Act.put, zqa, zqb, zqc]
   refine wpAnyH_ready (rs := [0]) (by kernel_rfl) (by simp) ?_
   refine AllReadyH.cons rfl (fun K hK => ?_) AllReadyH.nil
   go_simp
   refine hK.out _ _ KW.out (fun _ => ?_)
   refine wpAnyH_ready (rs := [9]) (by kernel_rfl) (by simp) ?_
   refine AllReadyH.cons rfl (fun K hK => ?_) AllReadyH.nil
   go_simp
   refine (HC.out _).mono ?_
   rintro e w2 ⟨a', b', c', rfl, hwn, hb2⟩
   have hN2 : Blk w2 (w.heap.size + 1 + 1 + 1) #[.int .u32 (a : Int), .int .u32 (b : Int), .int .u32 (c : Int)] 131 := Blk.next (w := W1.drew) hNu hb2
   have hP2 : Blk w2 wr.heap.size #[.int .i64 (lo : Int), .int .i64 (n : Int)] 230 := Blk.next (w := W1.drew) hPl hb2
   have hF2 : Blk w2 (w.heap.size + 1 + 1) #[.int .i64 (k.c : Int), .int .i64 (k.i : Int), .int .i64 (k.a : Int), .int .i64 (k.t : Int)] 228 := Blk.next (w := W1.drew) hFi hb2
   have hR2 : Blk w2 (w.heap.size + 1) #[.int .u32 0, .int .u32 0, .int .u32 0] 131 := Blk.next (w := W1.drew) hRe hb2
   have hB2 : Below w.heap.size w w2 := bel_step (w := W1.drew) hBe.drew hb2
   have r0 := hN2.cell 0
   have r1 := hN2.cell 1
   have r2 := hN2.cell 2
   have f0 := hN2.free 0
   have f1 := hN2.free 1
   have f2 := hN2.free 2
   have K2 : Hid (w2.cell? ⟨wr.heap.size, 0, none⟩ = some (.int .i64 (lo : Int)) ∧ w2.cell? ⟨wr.heap.size, 1, none⟩ = some (.int .i64 (n : Int)) ∧ w2.cell? ⟨w.heap.size + 1 + 1, j, none⟩ = some (.int .i64 (v : Int))) := ⟨hP2.cell 0, hP2.cell 1, hf _ hF2⟩
   have HQ : Hid (Pk w (((w2.setCell ⟨w.heap.size + 1 + 1 + 1, 0, none⟩ (.int .u32 (a' : Int))).setCell ⟨w.heap.size + 1 + 1 + 1, 1, none⟩ (.int .u32 (b' : Int))).setCell ⟨w.heap.size + 1 + 1 + 1, 2, none⟩ (.int .u32 (c' : Int))) k (j + 1) a' b' c') := Pk.mk3 hB2 hF2 hR2 hN2 hwn
   have K3 : Hid ((((w2.setCell ⟨w.heap.size + 1 + 1 + 1, 0, none⟩ (.int .u32 (a' : Int))).setCell ⟨w.heap.size + 1 + 1 + 1, 1, none⟩ (.int .u32 (b' : Int))).setCell ⟨w.heap.size + 1 + 1 + 1, 2, none⟩ (.int .u32 (c' : Int))).cell? ⟨wr.heap.size, 0, none⟩ = some (.int .i64 (lo : Int)) ∧ (((w2.setCell ⟨w.heap.size + 1 + 1 + 1, 0, none⟩ (.int .u32 (a' : Int))).setCell ⟨w.heap.size + 1 + 1 + 1, 1, none⟩ (.int .u32 (b' : Int))).setCell ⟨w.heap.size + 1 + 1 + 1, 2, none⟩ (.int .u32 (c' : Int))).cell? ⟨wr.heap.size, 1, none⟩ = some (.int .i64 (n : Int)) ∧ (((w2.setCell ⟨w.heap.size + 1 + 1 + 1, 0, none⟩ (.int .u32 (a' : Int))).setCell ⟨w.heap.size + 1 + 1 + 1, 1, none⟩ (.int .u32 (b' : Int))).setCell ⟨w.heap.size + 1 + 1 + 1, 2, none⟩ (.int .u32 (c' : Int))).cell? ⟨w.heap.size + 1 + 1, j, none⟩ = some (.int .i64 (v : Int))) :=
    ⟨(((hP2.other _ _ (Ne.symm hne)).other _ _ (Ne.symm hne)).other _ _ (Ne.symm hne)).cell 0, (((hP2.other _ _ (Ne.symm hne)).other _ _ (Ne.symm hne)).other _ _ (Ne.symm hne)).cell 1, hf _ HQ.out.fld⟩
   clear hN2 hP2 hF2 hR2 hB2 hb2 hwn
   go_simp
   refine hK.out _ _ K2.out (fun _ => ?_)
   refine wpAnyH_take (i := 10) (v := ?v10) rfl (by kernel_rfl) (by kernel_rfl) (by kernel_rfl) (fun _ _ _ h => h) (Or.inl ⟨by rfl, ?y10⟩) K2.out ?r10
   case y10 => (intro wz hSw; (try dsimp only at hSw); go_simp; try (with_reducible rfl))
   simp only [Act.put, zqa, zqb, zqc]
   refine wpAnyH_take (i := 11) (v := ?v11) rfl (by kernel_rfl) (by kernel_rfl) (by kernel_rfl) (fun _ _ _ h => h) (Or.inl ⟨by rfl, ?y11⟩) K2.out ?r11
   case y11 => (intro wz hSw; (try dsimp only at hSw); go_simp; try (with_reducible rfl))
   simp only [Act.put, zqa, zqb, zqc]
   refine wpAnyH_take (i := 12) (v := ?v12) rfl (by kernel_rfl) (by kernel_rfl) (by kernel_rfl) (fun _ _ _ h => h) (Or.inl ⟨by rfl, ?y12⟩) K2.out ?r12
   case y12 => (intro wz hSw; (try dsimp only at hSw); go_simp; try (with_reducible rfl))
   simp only [Act.put, zqa, zqb, zqc]
   refine wpAnyH_ready (rs := [13]) (by kernel_rfl) (by simp) ?_
   refine AllReadyH.cons rfl (fun K hK => ?_) AllReadyH.nil
   go_simp
   refine hK.out _ _ K3.out (fun _ => ?_)
   refine wpAnyH_done (by kernel_rfl) ?_ _
   all_goals
    go_wp2_with fail
    go_roundw
    case rel => exact ⟨j + 1, a', b', c', by omega, by go_num, HQ.out⟩
    case measure => simp [intOf]; omega
  ·obtain rfl : j = 4 := by omega
   have r0 := hp.num.cell 0
   have r1 := hp.num.cell 1
   have r2 := hp.num.cell 2
   have s0 := hp.res.cell 0
   have s1 := hp.res.cell 1
   have s2 := hp.res.cell 2
   have f0 := hp.res.free 0
   have f1 := hp.res.free 1
   have f2 := hp.res.free 2
   have HB : Hid (Below w.heap.size w (((wr.setCell ⟨w.heap.size + 1, 0, none⟩ (.int .u32 (a : Int))).setCell ⟨w.heap.size + 1, 1, none⟩ (.int .u32 (b : Int))).setCell ⟨w.heap.size + 1, 2, none⟩ (.int .u32 (c : Int)))) := bel_set (bel_set (bel_set hp.below _ _ _ (by omega)) _ _ _ (by omega)) _ _ _ (by omega)
   have HW : Hid (WN a b c k.num) := hp.wn
   have RR : Blk (((wr.setCell ⟨w.heap.size + 1, 0, none⟩ (.int .u32 (a : Int))).setCell ⟨w.heap.size + 1, 1, none⟩ (.int .u32 (b : Int))).setCell ⟨w.heap.size + 1, 2, none⟩ (.int .u32 (c : Int))) (w.heap.size + 1) #[.int .u32 (a : Int), .int .u32 (b : Int), .int .u32 (c : Int)] 131 := ((hp.res.set 0 _).set 1 _).set 2 _
   have R0 : Hid (_ = _) := RR.cell 0
   have R1 : Hid (_ = _) := RR.cell 1
   have R2 : Hid (_ = _) := RR.cell 2
   clear hp RR
   go_wp2_with fail
   refine bodyPost_ret (v := .agg #[.int .u32 (a : Int), .int .u32 (b : Int), .int .u32 (c : Int)]) (by simp [results, Tryz.results87, R0.out, R1.out, R2.out, go_sem]) rfl ⟨a, b, c, rfl, HW.out, HB.out⟩
end token
namespace acc
open tar (Du du0 Came RowD Ld PairT)
open Go.RowKit
theorem prekey (g:Nat) (x:Ac) (p:Option Addr) (len cap:Nat) (w:World) (hw:Blk w g (wcs x bi0 p len cap) 252) (hd:deb.Fresh w (g+1) p len cap x.ds) (ha:AMay x):Calls Tryz.prog 125 #[.pointer (some ⟨g,0,none⟩)] w fun e w'=>DPost w g (Or0 (RekeyIs x)) e w':=by
 have hrv:=ha.2.2.1;have hnx:=ha.2.2.2.1;have HM:Hid (AMay x):=ha;have HI:Hid (Blk w g #[zI x.me,zI x.rv,zI x.nx,zI x.mo,zI x.bo,zI x.fr,.slice p len cap,zI 0,zI 0,zI 0,zI 0,zI 0,zI 0,zI 0] 252):=hw;have HD:Hid (deb.Fresh w (g+1) p len cap x.ds):=hd;have q1:w.cell? ⟨g,1,none⟩=some (zI x.rv):=HI.o.cell 1;clear hw hd ha;by_cases h1:x.rv<15
 ·have d1:(x.rv == 15)=false:=by simp;omega
  have hwr:IntKind.i64.wrap (x.rv+1)=x.rv+1:=by rw [IntKind.wrap_i64];omega
  have H1:Hid (x.rv<15):=h1;go_enter Tryz.func125,Tryz.ntmps125;go_wp2_with (first | (refine wp_let1 rfl 3 _ _ rfl g 1 rfl .i64 (x.rv+1) rfl (by kernel_rfl) #[zI x.me,zI x.rv,zI x.nx,zI x.mo,zI x.bo,zI x.fr,.slice p len cap,zI 0,zI 0,zI 0,zI 0,zI 0,zI 0,zI 0] 252 HI.o (by simp) ?_) | fail)
  intro W1 hU;have HI1:Hid (Blk W1 g #[zI x.me,zI (x.rv+1),zI x.nx,zI x.mo,zI x.bo,zI x.fr,.slice p len cap,zI 0,zI 0,zI 0,zI 0,zI 0,zI 0,zI 0] 252):=hU.blk;have HC1:Hid (Chg w W1 g):= .upd hU;have HD1:Hid (deb.Fresh W1 (g+1) p len cap x.ds):=fresh_chg HD.o (.upd hU);have HNU:Hid (Calls Tryz.prog 161 #[.pointer (some ⟨g,0,none⟩)] W1 fun e w'=>NumPost W1 g ⟨x.me,x.rv+1,x.nx,x.mo,x.bo,x.fr,x.ds⟩ bi0 p len cap e w'):=pnum g ⟨x.me,x.rv+1,x.nx,x.mo,x.bo,x.fr,x.ds⟩ bi0 p len cap W1 HI1.o hnx;clear hU q1 HI HD d1 h1;go_wp2_with fail;refine HNU.o.mono ?_;rintro e wN ⟨hcN,⟨hx,rfl,hiN⟩ | ⟨hx,rfl,hiN⟩⟩
  ·have HV:Hid (Or0 (RekeyIs x) ⟨x.me,x.rv+1,x.nx,x.mo,x.bo,x.fr,x.ds⟩ bi0 20):= .inl ⟨by decide,.inr (.inr (.inl ⟨HM.o,H1.o,hx,rfl,rfl,rfl⟩))⟩;have HDN:=fresh_chg HD1.o hcN;have HCN:=HC1.o.trans hcN;clear HNU hx;go_wp2_with fail;go_ret;exact ⟨⟨x.me,x.rv+1,x.nx,x.mo,x.bo,x.fr,x.ds⟩,bi0,p,len,cap,20,rfl,HV.o,hiN,HDN,HCN⟩
  ·have HV:Hid (Or0 (RekeyIs x) ⟨x.me,x.rv+1,x.nx+1,x.mo,x.bo,x.fr,x.ds⟩ ⟨x.nx,0,0,0,0,0,0⟩ 0):= .inr ⟨rfl,.inr (.inr (.inr ⟨HM.o,H1.o,hx,rfl,rfl,rfl⟩))⟩;have HDN:=fresh_chg HD1.o hcN;have HCN:=HC1.o.trans hcN;clear HNU hx;go_wp2_with fail;go_ret;exact ⟨⟨x.me,x.rv+1,x.nx+1,x.mo,x.bo,x.fr,x.ds⟩,⟨x.nx,0,0,0,0,0,0⟩,p,len,cap,0,rfl,HV.o,hiN,HDN,HCN⟩
 ·have d1:(x.rv == 15)=true:=by simp;omega
  have HV:Hid (Or0 (RekeyIs x) x bi0 24):= .inl ⟨by decide,.inr (.inl ⟨HM.o,h1,rfl,rfl,rfl⟩)⟩;clear h1 hrv hnx;go_enter Tryz.func125,Tryz.ntmps125;go_wp2_with fail;go_ret;exact ⟨x,bi0,p,len,cap,24,rfl,HV.o,HI.o,HD.o,Chg.refl _ _⟩
theorem krekey:KcRekey:=by
 intro w x p len cap ha;unfold Ac.v Ac.cs;obtain ⟨W0,HWW,H0d,H0r,H0l,H0B,hs0⟩:=sh3 w #[zI x.me,zI x.rv,zI x.nx,zI x.mo,zI x.bo,zI x.fr,.slice p len cap] 51 #[zI 0,zI 0,zI 0,zI 0,zI 0,zI 0,zS] 51 #[zI 0,zI 0,zI 0,zI 0,zI 0,zI 0,zI 0] 68;have H0R:Hid (Came W0 p len cap x.ds):=ha.ds.below H0B.o;go_enter Tryz.func79,Tryz.ntmps79;go_upto_region 1 with fail
 rw [HWW.o];clear HWW
 have HWK:Hid (Calls Tryz.prog 117 #[.agg #[zI x.me,zI x.rv,zI x.nx,zI x.mo,zI x.bo,zI x.fr,.slice p len cap],.func (.func 125) #[] #[]] W0 fun e w'=>BPost W0 (RekeyIs x) e w'):=by
  refine pwork 125 #[] (RekeyIs x) x p len cap W0 H0R.o (fun h=> .inl ⟨h,rfl,rfl,rfl⟩) (fun _ _=>by kernel_rfl) ?_;intro hm W g p' cap' hB hg hblk hld
  have HFR:deb.Fresh W (g+1) p' len cap' x.ds:=by
   obtain ⟨a0,c0,hv,hfr⟩:=deb.ld_fresh hld hm.1;injection hv with h1 h2 h3
   rw [h1,h2,h3];exact hfr
  exact (prekey g x p' len cap' W hblk HFR hm).mono fun e w' h=>h.w (Nat.le_of_lt hblk.lt)
 clear ha
 go_wp2_with (first
  | (refine zqw rfl rfl rfl H0d zqu51 ?_)
  | (refine zqw rfl rfl rfl H0r zqu51 ?_)
  | (refine zqw rfl rfl rfl H0l zqu68 ?_)
  | fail)
 refine HWK.o.mono ?_;rintro e w1 ⟨b,l,pr,lr,cr,fz,rfl,hi,hf,hb1⟩;have H1d:=shN H0d hb1;have H1r:=shN H0r hb1;have H1l:=shN H0l hb1;have H1R:Hid (Came w1 p len cap x.ds):=H0R.o.below hb1;have H1B:=shB H0B hb1;have hsw1:W0.heap.size≤w1.heap.size:=hb1.size;clear hb1 H0d H0r H0l H0R H0B;unfold Ac.v Ac.cs Bi.v;clear HWK;have H2F:Hid (deb.Fresh w1 W0.heap.size pr lr cr b.ds):=hf;have HUPF:Hid (0<lr→∀ y,pr=some y→y.block<w1.heap.size):=came_lt H2F.o.came;have HV:Hid (RekeyIs x b l fz):=hi;clear hf hi
 go_wp2_with (first
  | (refine zql rfl rfl rfl rfl zqu51 (by simp [Value.oneCell']) H1r rfl ?_)
  | (refine zqw rfl rfl rfl H1d zqu51 ?_)
  | (refine zqw rfl rfl rfl H1r zqu51 ?_)
  | (refine zqw rfl rfl rfl H1l zqu68 ?_)
  | fail)
 intro W4 hU;have H3d:=shK hU H1d (by omega);have H3r:Hid (Blk W4 (w.heap.size+1) #[zI b.me,zI b.rv,zI b.nx,zI b.mo,zI b.bo,zI b.fr,.slice pr lr cr] 51):=hU.blk;have H3l:=shK hU H1l (by omega);have H3F:Hid (deb.Fresh W4 W0.heap.size pr lr cr b.ds):=fresh_updN H2F.o hU (fun hn y hy=>by have f1:=H2F.o.new hn y hy;have f2:=HUPF.o hn y hy;omega);have H3B:=shV hU H1B (by omega);have hsW4:W4.heap.size=w1.heap.size:=hU.size;clear hU H1d H1r H1l H2F H1B
 go_wp2_with (first
  | (refine zql rfl rfl rfl rfl zqu68 (by simp [Value.oneCell']) H3l rfl ?_)
  | (refine zqw rfl rfl rfl H3d zqu51 ?_)
  | (refine zqw rfl rfl rfl H3r zqu51 ?_)
  | (refine zqw rfl rfl rfl H3l zqu68 ?_)
  | fail)
 intro W5 hU;have H4d:=shK hU H3d (by omega);have H4r:=shK hU H3r (by omega);have H4l:Hid (Blk W5 (w.heap.size+1+1) #[zI l.id,zI l.te,zI l.de,zI l.fe,zI l.pr,zI l.ch,zI l.un] 68):=hU.blk;have H4F:Hid (deb.Fresh W5 W0.heap.size pr lr cr b.ds):=fresh_updN H3F.o hU (fun hn y hy=>by have f1:=H3F.o.new hn y hy;have f2:=HUPF.o hn y hy;omega);have H4B:=shV hU H3B (by omega);have hsW5:W5.heap.size=W4.heap.size:=hU.size;clear hU H3d H3r H3l H3F H3B;obtain ⟨Rr0,Rr1,Rr2,Rr3,Rr4,Rr5,Rr6⟩:=shc7 H4r;obtain ⟨Rl0,Rl1,Rl2,Rl3,Rl4,Rl5,Rl6⟩:=shc7 H4l;go_wp2_with fail;exact bodyPost_ret (v:= .tuple #[.agg #[zI b.me,zI b.rv,zI b.nx,zI b.mo,zI b.bo,zI b.fr,.slice pr lr cr],.agg #[zI l.id,zI l.te,zI l.de,zI l.fe,zI l.pr,zI l.ch,zI l.un],zI fz]) (by simp [results,Tryz.results79,Rr0.o,Rr1.o,Rr2.o,Rr3.o,Rr4.o,Rr5.o,Rr6.o,Rl0.o,Rl1.o,Rl2.o,Rl3.o,Rl4.o,Rl5.o,Rl6.o,go_sem]) rfl ⟨b,l,pr,lr,cr,fz,rfl,HV.o,H4F.o.low (by omega),H4B.o⟩
end acc
namespace disk
open Go.RowKit cell
theorem make_wr (m:Nat) (h:m≤100000) (w:World):(Instr.makeSlice 76 (zI 0) (zI ((m:Int)+2))).run Tryz.prog w = .ok (.slice (some ⟨w.heap.size,0,none⟩) 0 (m+2)) (w.alloc (.cells (madeCells (Value.agg #[zI 0,.int .u32 0]).cells ((m+2)*2)) 122)):=by
 obtain ⟨i0,hi,hz0,hz1,hz2⟩:=info_parts info_wr;have:=run_make (P:=Tryz.prog) w 76 122 i0 (.agg #[zI 0,.int .u32 0]) Tryz.underlying76 hi hz0 .i64 .i64 0 ((m:Int)+2) (by omega) (by omega) (by rw [hz2];omega) (by omega);rw [hz1,show ((m:Int)+2).toNat=m+2 by omega] at this;exact this
theorem put_next2 (p k:Nat) (r:List Int):putW p r k++[⟨(p:Int)+1+(k:Int),r.getD k 0⟩]=putW p r (k+1):=by
 rw [putW,show ((p+k+1:Nat):Int)=(p:Int)+1+(k:Int) by omega]
theorem app_yes2 {c:List Int} {p k:Nat} {r:List Int} (hk:r.length=k) (h:p+k+1<c.length):putW p r k++[⟨(p:Int)+1+(k:Int),0⟩]++[⟨(p:Int),(k:Int)⟩]=appW c p r:=by
 subst hk;rw [← app_yes h,show (p:Int)+1+(r.length:Int)=(p:Int)+(r.length:Int)+1 by omega]
theorem app_no2 {c:List Int} {p k:Nat} {r:List Int} (hk:r.length=k) (h:¬ p+k+1<c.length):putW p r k++[⟨(p:Int),(k:Int)⟩]=appW c p r:=by
 subst hk;exact app_no h
theorem laying_any (a:Option Addr) (m cap2:Nat) (r c:List Int) (p n:Nat) (w:World) (h:RowU w a m r) (h1:1≤m) (h2:m≤64) (hp:p≤2048) (hn:n≤2048) (hc:c.length=n) :
  Calls Tryz.prog 155 #[.slice a m cap2,zI (p:Int),zI (n:Int)] w fun e w'=>∃ V,e = .returned V∧Lw w' w.heap.size V (appW c p r)∧Below w.heap.size w w':=by
 obtain ⟨b,o,rfl,lb,hcl⟩:=h.at (by omega);have HCL:Hid (∀ W,Below w.heap.size w W→∀ j,j<m→W.cell? ⟨b,o+j,none⟩=some (.int .u32 (r.getD j 0))):=fun W hB j hj=>(hB.cell (p:=⟨b,o+j,none⟩) lb).trans (hcl j hj);have HN:Hid (c.length=n∧r.length=m):=⟨hc,h.1⟩
 have hmk:=make_wr m (by omega) w;have HL0:Hid (Lw (w.alloc (.cells (madeCells (Value.agg #[zI 0,.int .u32 0]).cells ((m+2)*2)) 122)) w.heap.size (.slice (some ⟨w.heap.size,0,none⟩) 0 (m+2)) []):=World.ownsRow_made w _ (m+2) (Nat.le_refl _) (by unfold maxLen;omega) (size_madeCells _ _);have HB0:Hid (Below w.heap.size w (w.alloc (.cells (madeCells (Value.agg #[zI 0,.int .u32 0]).cells ((m+2)*2)) 122))):=(Below.refl _ _).alloc (Nat.le_refl _) _;clear h hc hcl lb;generalize (w.alloc (.cells (madeCells (Value.agg #[zI 0,.int .u32 0]).cells ((m+2)*2)) 122))=W0 at *;go_enter Tryz.func155,Tryz.ntmps155;go_wp2_with fail;clear hmk;go_loopw [7,8,19] (fun v7 v8 v19 wr=>∃ (k:Nat) (V:Value),k≤m∧V=v7∧v8=zI ((p:Int)+1+(k:Int))∧v19=zI (k:Int)∧Lw wr w.heap.size V (putW p r k)∧Below w.heap.size w wr) (fun _ _ v19 _=>m - (intOf v19).toNat)
 case atStart=>exact ⟨0,_,Nat.zero_le _,rfl,by go_num,rfl,HL0.o,HB0.o⟩
 case round=>
  obtain ⟨k,V,hk,hV,rfl,rfl,hlw,hbl⟩:=hrel;subst hV;have HBL:Hid (Below w.heap.size w wr):=hbl;have hs6:(putW p r k).length≤1000000:=by rw [put_len];omega
  have HUA:Hid (∀ o,Lw (wr.alloc o) w.heap.size V (putW p r k)):=fun o=>hlw.alloc o;have HBA:Hid (∀ o,Below w.heap.size w (wr.alloc o)):=fun o=>hbl.alloc hbl.size o;have HSA:Hid (∀ o,w.heap.size≤(wr.alloc o).heap.size):=fun o=>(hbl.alloc hbl.size o).size;clear hlw hbl HL0 HB0;by_cases hkm:k<m
  ·have k2:=HCL.o wr HBL.o k hkm;have HPN:Hid (putW p r k++[⟨(p:Int)+1+(k:Int),r.getD k 0⟩]=putW p r (k+1)):=put_next2 p k r;generalize r.getD k 0=u at *;go_wp2_with (first | (refine wp_write rfl _ _ rfl w.heap.size wr.heap.size V (putW p r k) ⟨(p:Int)+1+(k:Int),u⟩ rfl rfl (HUA.o _) ⟨(Blk.new wr _ _).cell 0,(Blk.new wr _ _).cell 1⟩ hs6 (HSA.o _) ?_;intro v3 w3 h3 hg3;have hb3:=own_bel (HUA.o _) hg3 (HBA.o _) (Nat.le_refl _) (HSA.o _);have H3:Hid (Lw w3 w.heap.size v3 (putW p r k++[(⟨(p:Int)+1+(k:Int),u⟩:Wr)])):=h3;have HB3:Hid (Below w.heap.size w w3):=hb3;clear h3 hg3 hb3) | fail)
   go_roundw
   case rel=>exact ⟨k+1,v3,by omega,rfl,by go_num,by go_num,by rw [← HPN.o];exact H3.o,HB3.o⟩
   case measure=>simp [intOf];omega
  ·obtain rfl:k=m:=by omega
   by_cases hz:(p:Int)+1+(k:Int)<(n:Int)
   ·have HQ:Hid (putW p r k++[⟨(p:Int)+1+(k:Int),0⟩]++[⟨(p:Int),(k:Int)⟩]=appW c p r):=app_yes2 HN.o.2 (by rw [HN.o.1];omega);have hs7:(putW p r k++[(⟨(p:Int)+1+(k:Int),0⟩:Wr)]).length≤1000000:=by rw [List.length_append,put_len];simp;omega
    go_upto_region 11 with (first | (refine wp_write rfl _ _ rfl w.heap.size wr.heap.size V (putW p r k) ⟨(p:Int)+1+(k:Int),0⟩ rfl rfl (HUA.o _) ⟨(Blk.new wr _ _).cell 0,(Blk.new wr _ _).cell 1⟩ hs6 (HSA.o _) ?_;intro v3 w3 h3 hg3;have hb3:=own_bel (HUA.o _) hg3 (HBA.o _) (Nat.le_refl _) (HSA.o _);have H3:Hid (Lw w3 w.heap.size v3 (putW p r k++[(⟨(p:Int)+1+(k:Int),0⟩:Wr)])):=h3;have HB3:Hid (Below w.heap.size w w3):=hb3;clear h3 hg3 hb3) | fail)
    have HU3:Hid (∀ o,Lw (w3.alloc o) w.heap.size v3 (putW p r k++[(⟨(p:Int)+1+(k:Int),0⟩:Wr)])):=fun o=>H3.o.alloc o;have HBB:Hid (∀ o,Below w.heap.size w (w3.alloc o)):=fun o=>HB3.o.alloc HB3.o.size o;have HS3:Hid (∀ o,w.heap.size≤(w3.alloc o).heap.size):=fun o=>(HB3.o.alloc HB3.o.size o).size;clear HUA HBA HSA HBL H3 HB3;go_wp2_with (first | (refine wp_write rfl _ _ rfl w.heap.size w3.heap.size v3 (putW p r k++[(⟨(p:Int)+1+(k:Int),0⟩:Wr)]) ⟨(p:Int),(k:Int)⟩ rfl rfl (HU3.o _) ⟨(Blk.new w3 _ _).cell 0,(Blk.new w3 _ _).cell 1⟩ hs7 (HS3.o _) ?_;intro v4 w4 h3 hg3;have hb3:=own_bel (HU3.o _) hg3 (HBB.o _) (Nat.le_refl _) (HS3.o _);have H4:Hid (Lw w4 w.heap.size v4 (putW p r k++[(⟨(p:Int)+1+(k:Int),0⟩:Wr)]++[(⟨(p:Int),(k:Int)⟩:Wr)])):=h3;have HB4:Hid (Below w.heap.size w w4):=hb3;clear h3 hg3 hb3) | fail)
    go_ret;exact ⟨v4,rfl,by rw [← HQ.o];exact H4.o,HB4.o⟩
   ·have HQ:Hid (putW p r k++[⟨(p:Int),(k:Int)⟩]=appW c p r):=app_no2 HN.o.2 (by rw [HN.o.1];omega);go_wp2_with (first | (refine wp_write rfl _ _ rfl w.heap.size wr.heap.size V (putW p r k) ⟨(p:Int),(k:Int)⟩ rfl rfl (HUA.o _) ⟨(Blk.new wr _ _).cell 0,(Blk.new wr _ _).cell 1⟩ hs6 (HSA.o _) ?_;intro v4 w4 h3 hg3;have hb3:=own_bel (HUA.o _) hg3 (HBA.o _) (Nat.le_refl _) (HSA.o _);have H4:Hid (Lw w4 w.heap.size v4 (putW p r k++[(⟨(p:Int),(k:Int)⟩:Wr)])):=h3;have HB4:Hid (Below w.heap.size w w4):=hb3;clear h3 hg3 hb3) | fail)
    go_ret;exact ⟨v4,rfl,by rw [← HQ.o];exact H4.o,HB4.o⟩
end disk
end Go.Proofs.YtnpblpbohcegoaaGreatDoor
