import Derived.Test.YtoepgdhiepedeaaGreatDoorVVRys17
import Derived.Test.YtoepgdhiepedeaaGreatDoorVVRys19
set_option linter.unusedVariables false
set_option linter.unusedSimpArgs false
set_option maxHeartbeats 4000000
set_option maxRecDepth 100000
namespace Go.Proofs.YtoepgdhiepedeaaGreatDoor
namespace token
open words
open Go.RowKit
theorem put_wn(a b c v lo n V : Nat)(w : World)(h : WN a b c V)(hv : v<2^n)(n0 : 1 ≤ n)(n1 : n ≤ 64)(hl : lo + n ≤ 96)(h0 : V/2^lo%2^n = 0):
  Calls Tryz.prog 160 #[.agg #[.int .u32 (a : Int), .int .u32 (b : Int), .int .u32 (c : Int)], .int .i64 (lo : Int), .int .i64 (n : Int), .int .u64 (v : Int)] w λe w' =>
   ∃a' b' c' : Nat, e=.returned (.tuple #[.agg #[.int .u32 (a' : Int), .int .u32 (b' : Int), .int .u32 (c' : Int)], .int .i64 0]) ∧ WN a' b' c' (V + v * 2^lo) ∧ zB w w' := by
 refine(put_any a b c v lo n w h.a1 h.b1 h.c1 hv n0 n1 hl).mono ?_
 rintro e w' ⟨f, d⟩
 refine⟨_, _, _, f, ⟨put_lt _ _ _ _ h.a1, put_lt _ _ _ _ h.b1, put_lt _ _ _ _ h.c1, ?_⟩, d⟩
 rw[put_num h.a1 h.b1 h.c1 hv n1 hl (by rw[h.val]; exact h0), h.val]
structure Pk (w wr : World) (k : Tok) (j a b c : Nat) : Prop where
 below : zB w wr
 fld : Blk wr (w.heap.size + 1 + 1) #[.int .i64 (k.c : Int), .int .i64 (k.i : Int), .int .i64 (k.a : Int), .int .i64 (k.t : Int)] 244
 res : Blk wr (w.heap.size + 1) #[.int .u32 0, .int .u32 0, .int .u32 0] 135
 num : Blk wr (w.heap.size + 1 + 1 + 1) #[.int .u32 (a : Int), .int .u32 (b : Int), .int .u32 (c : Int)] 135
 wn : WN a b c (pP k j)
theorem Pk.mk3{w w2 : World}{k : Tok}{j a b c a' b' c' : Nat}(hB : zB w w2)(hF : Blk w2 (w.heap.size + 1 + 1) #[.int .i64 (k.c : Int), .int .i64 (k.i : Int), .int .i64 (k.a : Int), .int .i64 (k.t : Int)] 244)(hR : Blk w2 (w.heap.size + 1) #[.int .u32 0, .int .u32 0, .int .u32 0] 135)
  (hN : Blk w2 (w.heap.size + 1 + 1 + 1) #[.int .u32 (a : Int), .int .u32 (b : Int), .int .u32 (c : Int)] 135) (hwn : WN a' b' c' (pP k j)):
  Pk w (((w2.setCell ⟨w.heap.size + 1 + 1 + 1, 0, none⟩ (.int .u32 (a' : Int))).setCell ⟨w.heap.size + 1 + 1 + 1, 1, none⟩ (.int .u32 (b' : Int))).setCell ⟨w.heap.size + 1 + 1 + 1, 2, none⟩ (.int .u32 (c' : Int))) k j a' b' c' :=
 ⟨bel_set (bel_set (bel_set hB _ _ _ (by omega)) _ _ _ (by omega)) _ _ _ (by omega), ((hF.other _ _ (by omega)).other _ _ (by omega)).other _ _ (by omega), ((hR.other _ _ (by omega)).other _ _ (by omega)).other _ _ (by omega), ((hN.set 0 _).set 1 _).set 2 _, hwn⟩
def PackPost(w : World)(k : Tok)(e : Ending)(w' : World): Prop := ∃a b c : Nat, e=.returned (.agg #[.int .u32 (a : Int), .int .u32 (b : Int), .int .u32 (c : Int)]) ∧ WN a b c k.num ∧ zB w w'
set_option maxHeartbeats 1000000 in
theorem pack_any(k : Tok)(w : World)(hk : k.ok)(ht : TTab w):
  Calls Tryz.prog 113 #[k.v] w λe w' => PackPost w k e w' := by
 have hb0 : zB w ((((w.alloc (.cells #[.int .i64 (k.c : Int), .int .i64 (k.i : Int), .int .i64 (k.a : Int), .int .i64 (k.t : Int)] 73)).alloc (.cells #[.int .u32 0, .int .u32 0, .int .u32 0] 135)).alloc (.cells #[.int .i64 (k.c : Int), .int .i64 (k.i : Int), .int .i64 (k.a : Int), .int .i64 (k.t : Int)] 244)).alloc (.cells #[.int .u32 0, .int .u32 0, .int .u32 0] 135)) :=
  (((zb.alloc zc _).alloc (by simp) _).alloc (by simp; omega) _).alloc (by simp; omega) _
 obtain⟨q0, q1, q2, q3, q4, q5, q6, q7⟩ := (ht.places.below hb0).cell
 have HP : Hid (Pk w ((((w.alloc (.cells #[.int .i64 (k.c : Int), .int .i64 (k.i : Int), .int .i64 (k.a : Int), .int .i64 (k.t : Int)] 73)).alloc (.cells #[.int .u32 0, .int .u32 0, .int .u32 0] 135)).alloc (.cells #[.int .i64 (k.c : Int), .int .i64 (k.i : Int), .int .i64 (k.a : Int), .int .i64 (k.t : Int)] 244)).alloc (.cells #[.int .u32 0, .int .u32 0, .int .u32 0] 135)) k 0 0 0 0) :=
  ⟨hb0, (Blk.new2 _ _ _ _ _).alloc _, ((Blk.new1 _ _ _ _).alloc _).alloc _, Blk.new3 _ _ _ _ _ _, wn_zero⟩
 have HK : Hid k.ok := hk
 clear hk ht hb0
 unfold Tok.v
 go_enter Tryz.func113, Tryz.ntmps113
 go_wp2_with fail
 generalize ((((w.alloc (.cells #[.int .i64 (k.c : Int), .int .i64 (k.i : Int), .int .i64 (k.a : Int), .int .i64 (k.t : Int)] 73)).alloc (.cells #[.int .u32 0, .int .u32 0, .int .u32 0] 135)).alloc (.cells #[.int .i64 (k.c : Int), .int .i64 (k.i : Int), .int .i64 (k.a : Int), .int .i64 (k.t : Int)] 244)).alloc (.cells #[.int .u32 0, .int .u32 0, .int .u32 0] 135)) = W0 at *
 clear q0 q1 q2 q3 q4 q5 q6 q7
 go_loopw [17] (λv wr => ∃j a b c : Nat, j ≤ 4 ∧ v=.int .i64 (j : Int) ∧ Pk w wr k j a b c) (λv _ => 4-(intOf v).toNat)
 case atStart => exact⟨0, 0, 0, 0, by omega, rfl, HP.out⟩
 case round =>
  obtain⟨j, a, b, c, hj, rfl, hp⟩ := hrel
  by_cases hlt : j<4
  ·have hst := step_P HK.out j hlt
   have HC : Hid (∀ W, zC 160 #[.agg #[.int .u32 (a : Int), .int .u32 (b : Int), .int .u32 (c : Int)], .int .i64 (loP j : Int), .int .i64 (nP j : Int), .int .u64 (IntKind.u64.wrap (vP k j : Int))] W fun e w' =>
     ∃ a' b' c' : Nat, e = .returned (.tuple #[.agg #[.int .u32 (a' : Int), .int .u32 (b' : Int), .int .u32 (c' : Int)], .int .i64 0]) ∧ WN a' b' c' (pP k (j + 1)) ∧ zB W w') := fun W => by
    rw[hst.2.2.2.2.2.1, wrap_u _ hst.2.2.2.2.2.2]
    exact put_wn a b c (vP k j) (loP j) (nP j) (pP k j) W hp.wn hst.1 hst.2.1 hst.2.2.1 hst.2.2.2.1 hst.2.2.2.2.1
   have hix := idxP j hlt
   have hv := hst.2.2.2.2.2.2
   have hf : ∀W : World, Blk W (w.heap.size + 1 + 1) #[.int .i64 (k.c : Int), .int .i64 (k.i : Int), .int .i64 (k.a : Int), .int .i64 (k.t : Int)] 244 → W.cell? ⟨w.heap.size + 1 + 1, j, none⟩ = some (.int .i64 (vP k j : Int)) := λW hB => by
    rw[hB.cell]
    rcases (by omega : j = 0 ∨ j = 1 ∨ j = 2 ∨ j = 3) with rfl|rfl|rfl|rfl<;>rfl
   generalize vP k j = v at *
   generalize loP j = lo at *
   generalize nP j = n at *
   clear hst
   have hjj : (j : Int)<4 := by omega
   have hPl := Blk.new wr #[.int .i64 (lo : Int), .int .i64 (n : Int)] 246
   have hNu := hp.num.alloc (.cells #[.int .i64 (lo : Int), .int .i64 (n : Int)] 246)
   have hFi := hp.fld.alloc (.cells #[.int .i64 (lo : Int), .int .i64 (n : Int)] 246)
   have hRe := hp.res.alloc (.cells #[.int .i64 (lo : Int), .int .i64 (n : Int)] 246)
   have hBe := hp.below.alloc hp.below.size (.cells #[.int .i64 (lo : Int), .int .i64 (n : Int)] 246)
   have hne : wr.heap.size≠w.heap.size + 1 + 1 + 1 := by have := hp.num.lt; omega
   clear hp
   go_wp2_with fail
   generalize wr.alloc (.cells #[.int .i64 (lo : Int), .int .i64 (n : Int)] 246) = W1 at *
   have k0 : W1.drew.cell? ⟨w.heap.size + 1 + 1 + 1, 0, none⟩ = some (.int .u32 (a : Int)) := hNu.cell 0
   have k1 : W1.drew.cell? ⟨w.heap.size + 1 + 1 + 1, 1, none⟩ = some (.int .u32 (b : Int)) := hNu.cell 1
   have k2 : W1.drew.cell? ⟨w.heap.size + 1 + 1 + 1, 2, none⟩ = some (.int .u32 (c : Int)) := hNu.cell 2
   have KW : Hid (W1.drew.cell? ⟨wr.heap.size, 0, none⟩ = some (.int .i64 (lo : Int)) ∧ W1.drew.cell? ⟨wr.heap.size, 1, none⟩ = some (.int .i64 (n : Int)) ∧ W1.drew.cell? ⟨w.heap.size + 1 + 1, j, none⟩ = some (.int .i64 (v : Int))) := ⟨hPl.cell 0, hPl.cell 1, hf _ hFi⟩
   refine wp_region_held_drew (S := (λv' => v'.cell? ⟨wr.heap.size, 0, none⟩ = some (.int .i64 (lo : Int)) ∧ v'.cell? ⟨wr.heap.size, 1, none⟩ = some (.int .i64 (n : Int)) ∧ v'.cell? ⟨w.heap.size + 1 + 1, j, none⟩ = some (.int .i64 (v : Int)))) (by kernel_rfl) KW.out (λhHeld => ?_)
   refine wpAnyH_take (i := 1) (v := ?v1) rfl (by kernel_rfl) (by kernel_rfl) (by kernel_rfl) (λ_ _ _ h => h) (Or.inl ⟨by rfl, ?y1⟩) KW.out ?r1
   case y1 => (intro wz hSw; (try dsimp only at hSw); go_simp; try (with_reducible rfl))
   simp only[Act.put, zqa, zqb, zqc]
   refine wpAnyH_take (i := 2) (v := ?v2) rfl (by kernel_rfl) (by kernel_rfl) (by kernel_rfl) (λ_ _ _ h => h) (Or.inl ⟨by rfl, ?y2⟩) KW.out ?r2
   case y2 => (intro wz hSw; (try dsimp only at hSw); go_simp; try (with_reducible rfl))
   simp only[Act.put, zqa, zqb, zqc]
   refine wpAnyH_take (i := 3) (v := ?v3) rfl (by kernel_rfl) (by kernel_rfl) (by kernel_rfl) (λ_ _ _ h => h) (Or.inl ⟨by rfl, ?y3⟩) KW.out ?r3
   case y3 => (intro wz hSw; (try dsimp only at hSw); go_simp; try (with_reducible rfl))
   simp only[Act.put, zqa, zqb, zqc]
   refine wpAnyH_take (i := 4) (v := ?v4) rfl (by kernel_rfl) (by kernel_rfl) (by kernel_rfl) (λ_ _ _ h => h) (Or.inl ⟨by rfl, ?y4⟩) KW.out ?r4
   case y4 => (intro wz hSw; (try dsimp only at hSw); go_simp; try (with_reducible rfl))
   simp only[Act.put, zqa, zqb, zqc]
   refine wpAnyH_take (i := 5) (v := ?v5) rfl (by kernel_rfl) (by kernel_rfl) (by kernel_rfl) (λ_ _ _ h => h) (Or.inl ⟨by rfl, ?y5⟩) KW.out ?r5
   case y5 => (intro wz hSw; (try dsimp only at hSw); go_simp; try (with_reducible rfl))
   simp only[Act.put, zqa, zqb, zqc]
   refine wpAnyH_take (i := 6) (v := ?v6) rfl (by kernel_rfl) (by kernel_rfl) (by kernel_rfl) (λ_ _ _ h => h) (Or.inl ⟨by rfl, ?y6⟩) KW.out ?r6
   case y6 => (intro wz hSw; (try dsimp only at hSw); go_simp; try (with_reducible rfl))
   simp only[Act.put, zqa, zqb, zqc]
   refine wpAnyH_take (i := 7) (v := ?v7) rfl (by kernel_rfl) (by kernel_rfl) (by kernel_rfl) (λ_ _ _ h => h) (Or.inl ⟨by rfl, ?y7⟩) KW.out ?r7
   case y7 => (intro wz hSw; (try dsimp only at hSw); go_simp; try (with_reducible rfl))
   simp only[Act.put, zqa, zqb, zqc]
   refine wpAnyH_take (i := 8) (v := ?v8) rfl (by kernel_rfl) (by kernel_rfl) (by kernel_rfl) (λ_ _ _ h => h) (Or.inl ⟨by rfl, ?y8⟩) KW.out ?r8
   case y8 => (intro wz hSw; (try dsimp only at hSw); go_simp; try (with_reducible rfl))
   simp only[Act.put, zqa, zqb, zqc]
   refine wpAnyH_ready (rs := [0]) (by kernel_rfl) (by simp) ?_
   refine AllReadyH.cons rfl (λK hK => ?_) AllReadyH.nil
   go_simp
   refine hK.out _ _ KW.out (λ_ => ?_)
   refine wpAnyH_ready (rs := [9]) (by kernel_rfl) (by simp) ?_
   refine AllReadyH.cons rfl (λK hK => ?_) AllReadyH.nil
   go_simp
   refine(HC.out _).mono ?_
   rintro e w2 ⟨a', b', c', rfl, hwn, hb2⟩
   have hN2 : Blk w2 (w.heap.size + 1 + 1 + 1) #[.int .u32 (a : Int), .int .u32 (b : Int), .int .u32 (c : Int)] 135 := Blk.next (w := W1.drew) hNu hb2
   have hP2 : Blk w2 wr.heap.size #[.int .i64 (lo : Int), .int .i64 (n : Int)] 246 := Blk.next (w := W1.drew) hPl hb2
   have hF2 : Blk w2 (w.heap.size + 1 + 1) #[.int .i64 (k.c : Int), .int .i64 (k.i : Int), .int .i64 (k.a : Int), .int .i64 (k.t : Int)] 244 := Blk.next (w := W1.drew) hFi hb2
   have hR2 : Blk w2 (w.heap.size + 1) #[.int .u32 0, .int .u32 0, .int .u32 0] 135 := Blk.next (w := W1.drew) hRe hb2
   have hB2 : zB w w2 := bel_step (w := W1.drew) hBe.drew hb2
   have r0 := hN2.cell 0
   have r1 := hN2.cell 1
   have r2 := hN2.cell 2
   have f0 := hN2.free 0
   have f1 := hN2.free 1
   have f2 := hN2.free 2
   have K2 : Hid (w2.cell? ⟨wr.heap.size, 0, none⟩ = some (.int .i64 (lo : Int)) ∧ w2.cell? ⟨wr.heap.size, 1, none⟩ = some (.int .i64 (n : Int)) ∧ w2.cell? ⟨w.heap.size + 1 + 1, j, none⟩ = some (.int .i64 (v : Int))) := ⟨hP2.cell 0, hP2.cell 1, hf _ hF2⟩
   have HQ : Hid (Pk w (((w2.setCell ⟨w.heap.size + 1 + 1 + 1, 0, none⟩ (.int .u32 (a' : Int))).setCell ⟨w.heap.size + 1 + 1 + 1, 1, none⟩ (.int .u32 (b' : Int))).setCell ⟨w.heap.size + 1 + 1 + 1, 2, none⟩ (.int .u32 (c' : Int))) k (j + 1) a' b' c') := Pk.mk3 hB2 hF2 hR2 hN2 hwn
   have K3 : Hid ((((w2.setCell ⟨w.heap.size + 1 + 1 + 1, 0, none⟩ (.int .u32 (a' : Int))).setCell ⟨w.heap.size + 1 + 1 + 1, 1, none⟩ (.int .u32 (b' : Int))).setCell ⟨w.heap.size + 1 + 1 + 1, 2, none⟩ (.int .u32 (c' : Int))).cell? ⟨wr.heap.size, 0, none⟩ = some (.int .i64 (lo : Int)) ∧ (((w2.setCell ⟨w.heap.size + 1 + 1 + 1, 0, none⟩ (.int .u32 (a' : Int))).setCell ⟨w.heap.size + 1 + 1 + 1, 1, none⟩ (.int .u32 (b' : Int))).setCell ⟨w.heap.size + 1 + 1 + 1, 2, none⟩ (.int .u32 (c' : Int))).cell? ⟨wr.heap.size, 1, none⟩ = some (.int .i64 (n : Int)) ∧ (((w2.setCell ⟨w.heap.size + 1 + 1 + 1, 0, none⟩ (.int .u32 (a' : Int))).setCell ⟨w.heap.size + 1 + 1 + 1, 1, none⟩ (.int .u32 (b' : Int))).setCell ⟨w.heap.size + 1 + 1 + 1, 2, none⟩ (.int .u32 (c' : Int))).cell? ⟨w.heap.size + 1 + 1, j, none⟩ = some (.int .i64 (v : Int))) :=
    ⟨(((hP2.other _ _ (Ne.symm hne)).other _ _ (Ne.symm hne)).other _ _ (Ne.symm hne)).cell 0, (((hP2.other _ _ (Ne.symm hne)).other _ _ (Ne.symm hne)).other _ _ (Ne.symm hne)).cell 1, hf _ HQ.out.fld⟩
   clear hN2 hP2 hF2 hR2 hB2 hb2 hwn
   go_simp
   refine hK.out _ _ K2.out (λ_ => ?_)
   refine wpAnyH_take (i := 10) (v := ?v10) rfl (by kernel_rfl) (by kernel_rfl) (by kernel_rfl) (λ_ _ _ h => h) (Or.inl ⟨by rfl, ?y10⟩) K2.out ?r10
   case y10 => (intro wz hSw; (try dsimp only at hSw); go_simp; try (with_reducible rfl))
   simp only[Act.put, zqa, zqb, zqc]
   refine wpAnyH_take (i := 11) (v := ?v11) rfl (by kernel_rfl) (by kernel_rfl) (by kernel_rfl) (λ_ _ _ h => h) (Or.inl ⟨by rfl, ?y11⟩) K2.out ?r11
   case y11 => (intro wz hSw; (try dsimp only at hSw); go_simp; try (with_reducible rfl))
   simp only[Act.put, zqa, zqb, zqc]
   refine wpAnyH_take (i := 12) (v := ?v12) rfl (by kernel_rfl) (by kernel_rfl) (by kernel_rfl) (λ_ _ _ h => h) (Or.inl ⟨by rfl, ?y12⟩) K2.out ?r12
   case y12 => (intro wz hSw; (try dsimp only at hSw); go_simp; try (with_reducible rfl))
   simp only[Act.put, zqa, zqb, zqc]
   refine wpAnyH_ready (rs := [13]) (by kernel_rfl) (by simp) ?_
   refine AllReadyH.cons rfl (λK hK => ?_) AllReadyH.nil
   go_simp
   refine hK.out _ _ K3.out (λ_ => ?_)
   refine wpAnyH_done (by kernel_rfl) ?_ _
   all_goals
    go_wp2_with fail
    go_roundw
    case rel => exact⟨j + 1, a', b', c', by omega, by go_num, HQ.out⟩
    case measure => simp[intOf]; omega
  ·obtain rfl : j = 4 := by omega
   have r0 := hp.num.cell 0
   have r1 := hp.num.cell 1
   have r2 := hp.num.cell 2
   have s0 := hp.res.cell 0
   have s1 := hp.res.cell 1
   have s2 := hp.res.cell 2
   have f0 := hp.res.free 0
   have f1 := hp.res.free 1
   have f2 := hp.res.free 2
   have HB : Hid (zB w (((wr.setCell ⟨w.heap.size + 1, 0, none⟩ (.int .u32 (a : Int))).setCell ⟨w.heap.size + 1, 1, none⟩ (.int .u32 (b : Int))).setCell ⟨w.heap.size + 1, 2, none⟩ (.int .u32 (c : Int)))) := bel_set (bel_set (bel_set hp.below _ _ _ (by omega)) _ _ _ (by omega)) _ _ _ (by omega)
   have HW : Hid (WN a b c k.num) := hp.wn
   have RR : Blk (((wr.setCell ⟨w.heap.size + 1, 0, none⟩ (.int .u32 (a : Int))).setCell ⟨w.heap.size + 1, 1, none⟩ (.int .u32 (b : Int))).setCell ⟨w.heap.size + 1, 2, none⟩ (.int .u32 (c : Int))) (w.heap.size + 1) #[.int .u32 (a : Int), .int .u32 (b : Int), .int .u32 (c : Int)] 135 := ((hp.res.set 0 _).set 1 _).set 2 _
   have R0 : Hid (_ = _) := RR.cell 0
   have R1 : Hid (_ = _) := RR.cell 1
   have R2 : Hid (_ = _) := RR.cell 2
   clear hp RR
   go_wp2_with fail
   refine bodyPost_ret (v :=.agg #[.int .u32 (a : Int), .int .u32 (b : Int), .int .u32 (c : Int)]) (by simp[results, Tryz.results113, R0.out, R1.out, R2.out, go_sem]) rfl ⟨a, b, c, rfl, HW.out, HB.out⟩
end token
namespace book
open Go.RowKit
open acc (Ac Tm Bi APost BPost TFault TRight OpenIs OweIs SellIs GrantIs RekeyIs wf6 ACame TCame)
theorem wf_i{z:Int}(h0:-1≤z)(h1:z≤4000000000):(Lit.int .i64 z).wf=true:=by
 have h1:IntKind.i64.min≤z:=by
  have e:IntKind.i64.min=-9223372036854775808:=by decide
  omega
 have a:z≤IntKind.i64.max:=by
  have e:IntKind.i64.max=9223372036854775807:=by decide
  omega
 show (decide (IntKind.i64.min≤z)&&decide (z≤IntKind.i64.max))=true;rw[Bool.and_eq_true];exact⟨decide_eq_true h1,decide_eq_true a⟩
theorem may_wf{a:Ac}(h:acc.AMay a):wf6 a:=by
 obtain⟨_,⟨b,c⟩,⟨d,e⟩,⟨c1,c2⟩,⟨f,g⟩,⟨i,j⟩,k,l⟩:=h;exact⟨wf_i (by omega) (by omega),wf_i (by omega) (by omega),wf_i (by omega) (by omega),wf_i (by omega) (by omega),wf_i (by omega) (by omega),wf_i (by omega) (by omega)⟩
def AWf(bk:List Cm):Prop:=∀c∈bk,wf6 c.a
theorem owe_wf{a b:Ac}{d:tar.Du}(h:OweIs a d b 0):wf6 b∧b.me=a.me:=by
 rcases h with⟨_,_,e⟩|⟨_,_,_,e⟩|⟨_,_,_,_,e⟩|⟨p,_,_,rfl,_⟩
 ·cases e
 ·cases e
 ·cases e
 ·have h:=may_wf p;exact⟨⟨h.1,h.2.1,h.2.2.1,h.2.2.2.1,h.2.2.2.2.1,h.2.2.2.2.2⟩,rfl⟩
variable{base gW B:Nat}{bk:List Cm}{w w':World}{xs:List Cu}{pt:Option Addr}{a:Option Addr}{lt ct:Nat}{t:Tm}{w0:World}{V:Value}{c:Cm}{v:Ev}
theorem tells_wf{b:Ac}{l:Bi}(h:Tells t c v b l 0)(hl:l.un≤2097151)(hl0:0≤l.un):wf6 b∧b.me=c.a.me:=by
 rcases h with⟨_,h⟩|⟨_,h⟩|⟨_,h⟩
 ·rcases h with⟨p,_,_⟩|⟨_,_,e,_⟩|⟨_,_,_,e,_⟩|⟨d,_,_,_,u,_,rfl,rfl⟩
  ·exact absurd rfl (fun (q:(0:Int)=0)=>by
    rcases p with⟨_,p⟩|⟨_,p,f⟩|⟨_,_,_,p⟩
    ·cases p
    ·exact p (f.ok.1 rfl)
    ·exact p.ne rfl)
  ·cases e
  ·cases e
  ·obtain⟨_,⟨g,i⟩,⟨j,k⟩,⟨c1,c2⟩,⟨m,n⟩,⟨o,r⟩,s,x⟩:=d.1;obtain⟨_,_,_,_,⟨D,E⟩,⟨B,C⟩,_⟩:=acc.rolled_may d.1 d.2.2;have y:=d.2.2.1;have F:u≤2097151:=hl;have A:0≤u:=hl0;refine⟨⟨wf_i (z:=c.a.me) (by omega) (by omega),wf_i (z:=c.a.rv) (by omega) (by omega),wf_i (z:=c.a.nx+1) (by omega) (by omega),wf_i (z:=v.mo) (by omega) (by omega),wf_i (z:=(acc.rolled c.a v.mo).bo+u) (by omega) (by omega),wf_i (z:=c.a.fr) (by omega) (by omega)⟩,rfl⟩
 ·rcases h with⟨p,_,_⟩|⟨_,_,e,_⟩|⟨_,_,_,e,_⟩|⟨_,_,_,_,e,_⟩|⟨d,_,_,_,_,rfl,_⟩
  ·exact absurd rfl (fun (q:(0:Int)=0)=>by
    rcases p with⟨_,p⟩|⟨_,p,f⟩|⟨_,_,_,p⟩
    ·cases p
    ·exact p (f.ok.1 rfl)
    ·exact p.ne rfl)
  ·cases e
  ·cases e
  ·cases e
  ·obtain⟨_,⟨g,i⟩,⟨j,k⟩,⟨c1,c2⟩,⟨m,n⟩,⟨o,r⟩,s,x⟩:=d.1;obtain⟨_,_,_,_,⟨D,E⟩,⟨B,C⟩,_⟩:=acc.rolled_may d.1 d.2.2;have y:=d.2.2.1;exact⟨⟨wf_i (z:=c.a.me) (by omega) (by omega),wf_i (z:=c.a.rv) (by omega) (by omega),wf_i (z:=c.a.nx+1) (by omega) (by omega),wf_i (z:=v.mo) (by omega) (by omega),wf_i (z:=(acc.rolled c.a v.mo).bo) (by omega) (by omega),wf_i (z:=v.mo) (by omega) (by omega)⟩,rfl⟩
 ·rcases h with⟨_,_,_,e⟩|⟨_,_,_,_,e⟩|⟨_,_,_,_,_,e⟩|⟨d,_,_,rfl,_,_⟩
  ·cases e
  ·cases e
  ·cases e
  ·obtain⟨_,⟨g,i⟩,⟨j,k⟩,⟨c1,c2⟩,⟨m,n⟩,⟨o,r⟩,s,x⟩:=d;exact⟨⟨wf_i (z:=c.a.me) (by omega) (by omega),wf_i (z:=c.a.rv+1) (by omega) (by omega),wf_i (z:=c.a.nx+1) (by omega) (by omega),wf_i (z:=c.a.mo) (by omega) (by omega),wf_i (z:=c.a.bo) (by omega) (by omega),wf_i (z:=c.a.fr) (by omega) (by omega)⟩,rfl⟩
theorem may_un(h:EMay v):0≤v.un∧v.un≤2097151:=by
 unfold EMay at h;omega
theorem hap_wf{c c':Cm}(h:HapIs t c v c' 0)(hm:EMay v):wf6 c'.a∧c'.a.me=c.a.me:=by
 rcases h with⟨_,b,q,r⟩|⟨_,b,l,e,q,r⟩
 ·rw[r rfl];exact owe_wf q
 ·rcases r with⟨x,y⟩|⟨_,_,y⟩|⟨x,y,_,rfl⟩
  ·exact absurd y.symm x
  ·cases y
  ·subst x;subst y;exact tells_wf q (may_un hm).2 (may_un hm).1
theorem getD_in{j:Nat}(h:j<bk.length):bk.getD j cm0∈bk:=getD_mem h
theorem AWf.set{k:Nat}(h:AWf bk)(hc:wf6 c.a):AWf (bk.set k c):=λx d=>by
 rcases List.mem_or_eq_of_mem_set d with b|rfl
 ·exact h x b
 ·exact hc
theorem AWf.snoc(h:AWf bk)(hc:wf6 c.a):AWf (bk++[c]):=λx d=>by
 rcases List.mem_append.1 d with b|b
 ·exact h x b
 ·rw[List.mem_singleton.1 b];exact hc
def wrc(V:Value)(t:Tm)(pt:Option Addr)(lt ct B:Nat):Array Value:=#[V,.slice pt lt ct,zI t.ff,zI t.fb,zI t.db,zI t.al,.map (some B)]
structure Kp (base gW B:Nat) (w w':World):Prop where
 os:w'.os=w.os
 tape:w'.tape=w.tape
 output:w'.output=w.output
 size:w.heap.size≤w'.heap.size
 block:∀k,k<base→k≠gW→k≠B→w'.heap[k]?=w.heap[k]?
theorem Kp.refl(base gW B:Nat)(w:World):Kp base gW B w w:=⟨rfl,rfl,rfl,zc,λ_ _ _ _=>rfl⟩
theorem Kp.trans{a b c:World}(h:Kp base gW B a b)(k:Kp base gW B b c):Kp base gW B a c:=⟨k.os.trans h.os,k.tape.trans h.tape,k.output.trans h.output,Nat.le_trans h.size k.size,λi d e f=>(k.block i d e f).trans (h.block i d e f)⟩
theorem Kp.of{base gW B n:Nat}{a b:World}(h:Below n a b)(hn:base≤n):Kp base gW B a b:=⟨h.os,h.tape,h.output,h.size,λi c _ _=>h.block i (by omega)⟩
theorem Kp.bel{base gW B n:Nat}{a b c:World}(k:Kp base gW B b c)(h:Below n a b)(hn:n≤base)(h1:n≤gW)(h2:n≤B):Below n a c:=⟨k.os.trans h.os,k.tape.trans h.tape,k.output.trans h.output,Nat.le_trans h.size k.size,λi d=>(k.block i (by omega) (by omega) (by omega)).trans (h.block i d)⟩
theorem Kp.keep{base gW B G:Nat}{a b:World}{cs:Array Value}{t:TypeId}(k:Kp base gW B a b)(h:Blk a G cs t)(h0:G<base)(h1:G≠gW)(h2:G≠B):Blk b G cs t:=by
 unfold Blk at *;rw[k.block G h0 h1 h2];exact h
theorem Kp.upd{base gW B g:Nat}{a b:World}{cs:Array Value}{t:TypeId}(hU:Upd a b g cs t)(hg:base≤g∨g=gW):Kp base gW B a b:=by
 have h:=hU.bel 0 a (Nat.zero_le _) zb;exact⟨h.os,h.tape,h.output,h.size,λk c d _=>hU.oth k (by omega)⟩
theorem Kp.grown{a b:World}{own:Option Nat}(hg:a.grownBy b own)(hs:base≤a.heap.size)(ho:∀g,own=some g→base≤g):Kp base gW B a b:=⟨hg.os,hg.tape,hg.output,hg.size,λk c _ _=>hg.block k (by omega) (λe=>by have:=ho k e.symm;omega)⟩
structure Wr (w0:World) (base gW B:Nat) (t:Tm) (pt:Option Addr) (lt ct:Nat) (V:Value) (xs:List Cu) (bk:List Cm) (w:World):Prop where
 blk:Blk w gW (wrc V t pt lt ct B) 170
 mp:MpI w B (mes bk)
 hold:Holds w base V xs bk
 gw:gW<base
 gb:B<base
 ne:gW≠B
 n0:w0.heap.size≤gW
 n1:w0.heap.size≤B
 sz:base≤w.heap.size
 bel:zB w0 w
 few:Small bk 120
 wf:AWf bk
theorem Wr.next(h:Wr w0 base gW B t pt lt ct V xs bk w)(hb:zB w w'):Wr w0 base gW B t pt lt ct V xs bk w':=
 ⟨h.blk.next hb,h.mp.below hb,h.hold.next hb,h.gw,h.gb,h.ne,h.n0,h.n1,Nat.le_trans h.sz hb.size,h.bel.trans (hb.mono h.bel.size),h.few,h.wf⟩
theorem Wr.kp(h:Wr w0 base gW B t pt lt ct V xs bk w)(hb:zB w w'):Kp base gW B w w':=.of hb h.sz
def WPost(w0:World)(base gW B:Nat)(t:Tm)(pt:Option Addr)(lt ct:Nat)(R:List Cm→Int→Prop)(w:World)(e:Ending)(w':World):Prop:=
 Kp base gW B w w'∧((∃V xs bk',e=.returned (.tuple #[])∧R bk' 0∧(Small bk' 120→Wr w0 base gW B t pt lt ct V xs bk' w'))∨∃f bk',f≠0∧e=.panicked (thrown f)∧R bk' f)
theorem WPost.back{R R':List Cm→Int→Prop}{w1 w:World}{e:Ending}{w':World}(h:WPost w0 base gW B t pt lt ct R w e w')(hk:Kp base gW B w1 w)(hR:∀b f,R b f→R' b f):WPost w0 base gW B t pt lt ct R' w1 e w':=by
 refine⟨hk.trans h.1,?_⟩;rcases h.2 with⟨V,i,a,c,d,g⟩|⟨f,a,c,d,g⟩
 ·exact .inl ⟨V,i,a,c,hR _ _ d,g⟩
 ·exact .inr ⟨f,a,c,d,hR _ _ g⟩
theorem rowD_same{n:Nat}{zs:List tar.Du}(h:tar.RowD w a n zs)(he:0<n→∀x,a=some x→w'.heap[x.block]?=w.heap[x.block]?):tar.RowD w' a n zs:=by
 refine⟨h.1,?_⟩;rcases h.2 with d|⟨b,c,rfl,j⟩
 ·exact .inl d
 ·refine .inr ⟨b,c,rfl,λi k=>?_⟩;have f:=j i k;have g:w'.heap[b]?=w.heap[b]?:=he (by omega) _ rfl;have e:∀o,w'.cell? ⟨b,o,none⟩=w.cell? ⟨b,o,none⟩:=λo=>by simp[World.cell?,g]
  rw[e,e];exact f
theorem came_same{n cap:Nat}{zs:List tar.Du}(h:tar.Came w a n cap zs)(he:0<n→∀x,a=some x→w'.heap[x.block]?=w.heap[x.block]?):tar.Came w' a n cap zs:=⟨rowD_same h.row he,h.nil,h.room,h.bytes,h.wf⟩
theorem lo_same{base:Nat}{v:Value}{l:List So}(h:Lo w base v l)(he:∀g,v.ownBlock=some g→w'.heap[g]?=w.heap[g]?):Lo w' base v l:=by
 refine⟨h.1,?_⟩;rcases h.2 with i|⟨c,a,b,d,e,f,rest⟩
 ·exact .inl i
 ·exact .inr ⟨c,a,b,d,e,by rw[he c (by rw[d];rfl)];exact f,rest⟩
theorem Has.same{base:Nat}{x:Cu}(h:Has w base x c)(h1:∀g,x.sold.ownBlock=some g→w'.heap[g]?=w.heap[g]?)(h2:0<x.dn→∀p,x.dp=some p→w'.heap[p.block]?=w.heap[p.block]?):Has w' base x c:=⟨h.num,⟨came_same h.ds.came h2,h.ds.new⟩,lo_same h.so h1⟩
theorem Holds.put2{w w4:World}{base:Nat}{k:Nat}{x':Cu}{c':Cm}(h:Holds w base V xs bk)(hk:k<xs.length)
  (hO:∀g,g<w.heap.size→V.ownBlock≠some g→(xs.getD k cu0).sold.ownBlock≠some g→w4.heap[g]?=w.heap[g]?) (has:Has w4 base x' c')
  (own:∀g,x'.sold.ownBlock=some g→(xs.getD k cu0).sold.ownBlock=some g∨w.heap.size≤g) (new:0<x'.dn→∀p,x'.dp=some p→w.heap.size≤p.block) (self:∀g,x'.sold.ownBlock=some g→0<x'.dn→∀p,x'.dp=some p→p.block≠g)
  (hr:Lc w4 base V (xs.set k x')):Holds w4 base V (xs.set k x') (bk.set k c'):=by
 have A:k<bk.length:=by rw[← h.len];exact hk
 have m:∀i,i<xs.length→∀g,(xs.getD i cu0).sold.ownBlock=some g→g<w.heap.size:=λi a g f=>(World.ownsRow.lt (h.has i a).so g f).2
 have r:∀i,i<xs.length→0<(xs.getD i cu0).dn→∀p,(xs.getD i cu0).dp=some p→p.block<w.heap.size:=λi a c p d=>by
  obtain⟨b,E,e,D,_⟩:=(h.has i a).ds.came.row.at c;rw[d] at e;rw[Option.some.inj e];exact D
 have s:∀g,V.ownBlock=some g→g<w.heap.size:=λg f=>(World.ownsRow.lt h.row g f).2
 have t:Off x' V.ownBlock:=⟨fun g f q=>by
  rcases own g f with e|e
  ·exact(h.off k hk).1 g e q
  ·have:=s g q;omega,λc p d q=>by
  have l:=new c p d;have C:=s p.block q.symm
  omega⟩
 have n:∀i,i<xs.length→i≠k→Apart (xs.getD i cu0) x':=λi a o=>by
  refine⟨λg l C=>?_,λg l c p d q=>?_,λg l c p d q=>?_⟩
  ·rcases own g C with e|e
   ·exact(h.apart i k a hk o).1 g l e
   ·have:=m i a g l;omega
  ·have F:=new c p d;have G:=m i a g l;omega
  ·rcases own g l with e|e
   ·exact(h.apart i k a hk o).2.2 g e c p d q
   ·have:=r i a c p d;omega
 refine⟨hr,by rw[List.length_set,List.length_set,h.len],λi a=>?_,λi a=>?_,λi a=>?_,λi j a z y=>?_⟩
 all_goals rw[List.length_set] at a
 ·rw[getD_put xs x' cu0 k i hk,getD_put bk c' cm0 k i A];by_cases q:i=k
  ·rw[if_pos q,if_pos q];exact has
  ·rw[if_neg q,if_neg q];have B:=h.apart i k a hk q;refine(h.has i a).same (λg x=>hO g (m i a g x) (λe=>(h.off i a).1 g x e) (λe=>B.1 g x e)) (λc p d=>hO p.block (r i a c p d) (λe=>(h.off i a).2 c p d e.symm) (λe=>B.2.2 p.block e c p d rfl))
 ·rw[getD_put xs x' cu0 k i hk];by_cases q:i=k
  ·rw[if_pos q];exact t
  ·rw[if_neg q];exact h.off i a
 ·rw[getD_put xs x' cu0 k i hk];by_cases q:i=k
  ·rw[if_pos q];exact self
  ·rw[if_neg q];exact h.self i a
 ·rw[List.length_set] at z;rw[getD_put xs x' cu0 k i hk,getD_put xs x' cu0 k j hk];by_cases q:i=k<;>by_cases u:j=k
  ·omega
  ·rw[if_pos q,if_neg u];exact(n j z u).symm
  ·rw[if_neg q,if_pos u];exact n i a q
  ·rw[if_neg q,if_neg u];exact h.apart i j a z y
theorem lc_put2{w W:World}{base g n cap k:Nat}{x':Cu}{cur:Array Value}(h:Lc w base (.slice (some ⟨g,0,none⟩) n cap) xs)(hB:Blk w g cur 71)(hk:k<xs.length)(hW:Blk W g (putAll cur (k*8) x'.cs) 71):Lc W base (.slice (some ⟨g,0,none⟩) n cap) (xs.set k x'):=by
 unfold Lc at *;rw[List.length_set];refine⟨by rw[cellsC_len,List.length_set],?_⟩;rcases h.2 with⟨p,_⟩|⟨u,f,a,m,q,b,s,r,o,t⟩
 ·cases p
 ·simp only[Value.slice.injEq,Option.some.injEq,Addr.mk.injEq,and_true] at m;obtain⟨rfl,rfl,rfl⟩:=m
  have e:a=cur:=by
   have d:=hB;rw[d] at b;injection b with b
   injection b with b
   exact b.symm
  subst e;refine .inr ⟨g,cap,_,rfl,q,hW,s,r,by rw[putAll_size];exact o,?_⟩;apply List.ext_getElem?;intro j;have l:x'.cs.length=8:=rfl;rw[cellsC_get,List.length_set,getD_put xs x' cu0 k (j/8) hk];by_cases c:j<xs.length*8
  ·rw[if_pos c,List.getElem?_take_of_lt c,Array.getElem?_toList,putAll_get _ _ _ _ (by rw[o,l];omega),l];by_cases d:k*8≤j∧j<k*8+8
   ·rw[if_pos d,if_pos (by omega),show j-k*8=j%8 by omega]
   ·rw[if_neg d,if_neg (by omega)];have i:a.toList[j]?=(cellsC xs)[j]?:=by rw[← t,List.getElem?_take_of_lt c]
    rw[Array.getElem?_toList] at i;rw[i,cellsC_get,if_pos c]
  ·rw[if_neg c,List.getElem?_eq_none (by rw[List.length_take];omega)]
theorem putAll_more(cs:Array Value):∀(l:List Value)(o:Nat)(v:Value),(putAll cs o l).setIfInBounds (o+l.length) v=putAll cs o (l++[v])
 |[],o,v=>rfl
 |x::l,o,v=>by
  have:=putAll_more (cs.setIfInBounds o x) l (o+1) v;rw[List.cons_append,putAll,putAll,← this,List.length_cons,show o+(l.length+1)=o+1+l.length by omega]
theorem at_cust{w:World}{base n cap k:Nat}(h:Lc w base (.slice a n cap) xs)(hk:k<xs.length):∃g cur,a=some ⟨g,0,none⟩∧base≤g∧Blk w g cur 71∧k*8+8≤cur.size∧∀j,j<8→cur[k*8+j]?=(xs.getD k cu0).cs[j]?:=by
 have q:xs.length=n:=by
  obtain⟨m,o,l,_⟩:=h.row;injection l with _ e _
  exact e.symm
 obtain⟨g,cur,b,c,d,p,f⟩:=lc_lies h (by omega);exact⟨g,cur,b,c,d,by omega,λj i=>f k j hk i⟩
end book
end Go.Proofs.YtoepgdhiepedeaaGreatDoor
