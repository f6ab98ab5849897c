import Derived.Test.YtoepgdhiepedeaaGreatDoorVVSls29
set_option linter.unusedVariables false
set_option linter.unusedSimpArgs false
set_option maxHeartbeats 4000000
set_option maxRecDepth 100000
namespace Go.Proofs.YtoepgdhiepedeaaGreatDoor
namespace token
open words
open Go.RowKit
theorem put_wn(a b c v lo n V : Nat)(w : World)(h : WN a b c V)(hv : v<2^n)(n0 : 1 ≤ n)(n1 : n ≤ 64)(hl : lo + n ≤ 96)(h0 : V/2^lo%2^n = 0):
  Calls Tryz.prog 160 #[.agg #[.int .u32 (a : Int), .int .u32 (b : Int), .int .u32 (c : Int)], .int .i64 (lo : Int), .int .i64 (n : Int), .int .u64 (v : Int)] w λe w' =>
   ∃a' b' c' : Nat, e=.returned (.tuple #[.agg #[.int .u32 (a' : Int), .int .u32 (b' : Int), .int .u32 (c' : Int)], .int .i64 0]) ∧ WN a' b' c' (V + v * 2^lo) ∧ zB w w' := by
 refine(put_any a b c v lo n w h.a1 h.b1 h.c1 hv n0 n1 hl).mono ?_
 rintro e w' ⟨f, d⟩
 refine⟨_, _, _, f, ⟨put_lt _ _ _ _ h.a1, put_lt _ _ _ _ h.b1, put_lt _ _ _ _ h.c1, ?_⟩, d⟩
 rw[put_num h.a1 h.b1 h.c1 hv n1 hl (by rw[h.val]; exact h0), h.val]
structure Pk (w wr : World) (k : Tok) (j a b c : Nat) : Prop where
 below : zB w wr
 fld : Blk wr (w.heap.size + 1 + 1) #[.int .i64 (k.c : Int), .int .i64 (k.i : Int), .int .i64 (k.a : Int), .int .i64 (k.t : Int)] 244
 res : Blk wr (w.heap.size + 1) #[.int .u32 0, .int .u32 0, .int .u32 0] 135
 num : Blk wr (w.heap.size + 1 + 1 + 1) #[.int .u32 (a : Int), .int .u32 (b : Int), .int .u32 (c : Int)] 135
 wn : WN a b c (pP k j)
theorem Pk.mk3{w w2 : World}{k : Tok}{j a b c a' b' c' : Nat}(hB : zB w w2)(hF : Blk w2 (w.heap.size + 1 + 1) #[.int .i64 (k.c : Int), .int .i64 (k.i : Int), .int .i64 (k.a : Int), .int .i64 (k.t : Int)] 244)(hR : Blk w2 (w.heap.size + 1) #[.int .u32 0, .int .u32 0, .int .u32 0] 135)
  (hN : Blk w2 (w.heap.size + 1 + 1 + 1) #[.int .u32 (a : Int), .int .u32 (b : Int), .int .u32 (c : Int)] 135) (hwn : WN a' b' c' (pP k j)):
  Pk w (((w2.setCell ⟨w.heap.size + 1 + 1 + 1, 0, none⟩ (.int .u32 (a' : Int))).setCell ⟨w.heap.size + 1 + 1 + 1, 1, none⟩ (.int .u32 (b' : Int))).setCell ⟨w.heap.size + 1 + 1 + 1, 2, none⟩ (.int .u32 (c' : Int))) k j a' b' c' :=
 ⟨bel_set (bel_set (bel_set hB _ _ _ (by omega)) _ _ _ (by omega)) _ _ _ (by omega), ((hF.other _ _ (by omega)).other _ _ (by omega)).other _ _ (by omega), ((hR.other _ _ (by omega)).other _ _ (by omega)).other _ _ (by omega), ((hN.set 0 _).set 1 _).set 2 _, hwn⟩
def PackPost(w : World)(k : Tok)(e : Ending)(w' : World): Prop := ∃a b c : Nat, e=.returned (.agg #[.int .u32 (a : Int), .int .u32 (b : Int), .int .u32 (c : Int)]) ∧ WN a b c k.num ∧ zB w w'
set_option maxHeartbeats 1000000 in
theorem pack_any(k : Tok)(w : World)(hk : k.ok)(ht : TTab w):
  Calls Tryz.prog 113 #[k.v] w λe w' => PackPost w k e w' := by
 have hb0 : zB w ((((w.alloc (.cells #[.int .i64 (k.c : Int), .int .i64 (k.i : Int), .int .i64 (k.a : Int), .int .i64 (k.t : Int)] 73)).alloc (.cells #[.int .u32 0, .int .u32 0, .int .u32 0] 135)).alloc (.cells #[.int .i64 (k.c : Int), .int .i64 (k.i : Int), .int .i64 (k.a : Int), .int .i64 (k.t : Int)] 244)).alloc (.cells #[.int .u32 0, .int .u32 0, .int .u32 0] 135)) :=
  (((zb.alloc zc _).alloc (by simp) _).alloc (by simp; omega) _).alloc (by simp; omega) _
 obtain⟨q0, q1, q2, q3, q4, q5, q6, q7⟩ := (ht.places.below hb0).cell
 have HP : Hid (Pk w ((((w.alloc (.cells #[.int .i64 (k.c : Int), .int .i64 (k.i : Int), .int .i64 (k.a : Int), .int .i64 (k.t : Int)] 73)).alloc (.cells #[.int .u32 0, .int .u32 0, .int .u32 0] 135)).alloc (.cells #[.int .i64 (k.c : Int), .int .i64 (k.i : Int), .int .i64 (k.a : Int), .int .i64 (k.t : Int)] 244)).alloc (.cells #[.int .u32 0, .int .u32 0, .int .u32 0] 135)) k 0 0 0 0) :=
  ⟨hb0, (Blk.new2 _ _ _ _ _).alloc _, ((Blk.new1 _ _ _ _).alloc _).alloc _, Blk.new3 _ _ _ _ _ _, wn_zero⟩
 have HK : Hid k.ok := hk
 clear hk ht hb0
 unfold Tok.v
 go_enter Tryz.func113, Tryz.ntmps113
 go_wp2_with fail
 generalize ((((w.alloc (.cells #[.int .i64 (k.c : Int), .int .i64 (k.i : Int), .int .i64 (k.a : Int), .int .i64 (k.t : Int)] 73)).alloc (.cells #[.int .u32 0, .int .u32 0, .int .u32 0] 135)).alloc (.cells #[.int .i64 (k.c : Int), .int .i64 (k.i : Int), .int .i64 (k.a : Int), .int .i64 (k.t : Int)] 244)).alloc (.cells #[.int .u32 0, .int .u32 0, .int .u32 0] 135)) = W0 at *
 clear q0 q1 q2 q3 q4 q5 q6 q7
 go_loopw [17] (λv wr => ∃j a b c : Nat, j ≤ 4 ∧ v=.int .i64 (j : Int) ∧ Pk w wr k j a b c) (λv _ => 4-(intOf v).toNat)
 case atStart => exact⟨0, 0, 0, 0, by omega, rfl, HP.out⟩
 case round =>
  obtain⟨j, a, b, c, hj, rfl, hp⟩ := hrel
  by_cases hlt : j<4
  ·have hst := step_P HK.out j hlt
   have HC : Hid (∀ W, zC 160 #[.agg #[.int .u32 (a : Int), .int .u32 (b : Int), .int .u32 (c : Int)], .int .i64 (loP j : Int), .int .i64 (nP j : Int), .int .u64 (IntKind.u64.wrap (vP k j : Int))] W fun e w' =>
     ∃ a' b' c' : Nat, e = .returned (.tuple #[.agg #[.int .u32 (a' : Int), .int .u32 (b' : Int), .int .u32 (c' : Int)], .int .i64 0]) ∧ WN a' b' c' (pP k (j + 1)) ∧ zB W w') := fun W => by
    rw[hst.2.2.2.2.2.1, wrap_u _ hst.2.2.2.2.2.2]
    exact put_wn a b c (vP k j) (loP j) (nP j) (pP k j) W hp.wn hst.1 hst.2.1 hst.2.2.1 hst.2.2.2.1 hst.2.2.2.2.1
   have hix := idxP j hlt
   have hv := hst.2.2.2.2.2.2
   have hf : ∀W : World, Blk W (w.heap.size + 1 + 1) #[.int .i64 (k.c : Int), .int .i64 (k.i : Int), .int .i64 (k.a : Int), .int .i64 (k.t : Int)] 244 → W.cell? ⟨w.heap.size + 1 + 1, j, none⟩ = some (.int .i64 (vP k j : Int)) := λW hB => by
    rw[hB.cell]
    rcases (by omega : j = 0 ∨ j = 1 ∨ j = 2 ∨ j = 3) with rfl|rfl|rfl|rfl<;>rfl
   generalize vP k j = v at *
   generalize loP j = lo at *
   generalize nP j = n at *
   clear hst
   have hjj : (j : Int)<4 := by omega
   have hPl := Blk.new wr #[.int .i64 (lo : Int), .int .i64 (n : Int)] 246
   have hNu := hp.num.alloc (.cells #[.int .i64 (lo : Int), .int .i64 (n : Int)] 246)
   have hFi := hp.fld.alloc (.cells #[.int .i64 (lo : Int), .int .i64 (n : Int)] 246)
   have hRe := hp.res.alloc (.cells #[.int .i64 (lo : Int), .int .i64 (n : Int)] 246)
   have hBe := hp.below.alloc hp.below.size (.cells #[.int .i64 (lo : Int), .int .i64 (n : Int)] 246)
   have hne : wr.heap.size≠w.heap.size + 1 + 1 + 1 := by have := hp.num.lt; omega
   clear hp
   go_wp2_with fail
   generalize wr.alloc (.cells #[.int .i64 (lo : Int), .int .i64 (n : Int)] 246) = W1 at *
   have k0 : W1.drew.cell? ⟨w.heap.size + 1 + 1 + 1, 0, none⟩ = some (.int .u32 (a : Int)) := hNu.cell 0
   have k1 : W1.drew.cell? ⟨w.heap.size + 1 + 1 + 1, 1, none⟩ = some (.int .u32 (b : Int)) := hNu.cell 1
   have k2 : W1.drew.cell? ⟨w.heap.size + 1 + 1 + 1, 2, none⟩ = some (.int .u32 (c : Int)) := hNu.cell 2
   have KW : Hid (W1.drew.cell? ⟨wr.heap.size, 0, none⟩ = some (.int .i64 (lo : Int)) ∧ W1.drew.cell? ⟨wr.heap.size, 1, none⟩ = some (.int .i64 (n : Int)) ∧ W1.drew.cell? ⟨w.heap.size + 1 + 1, j, none⟩ = some (.int .i64 (v : Int))) := ⟨hPl.cell 0, hPl.cell 1, hf _ hFi⟩
   refine wp_region_held_drew (S := (λv' => v'.cell? ⟨wr.heap.size, 0, none⟩ = some (.int .i64 (lo : Int)) ∧ v'.cell? ⟨wr.heap.size, 1, none⟩ = some (.int .i64 (n : Int)) ∧ v'.cell? ⟨w.heap.size + 1 + 1, j, none⟩ = some (.int .i64 (v : Int)))) (by kernel_rfl) KW.out (λhHeld => ?_)
   refine wpAnyH_take (i := 1) (v := ?v1) rfl (by kernel_rfl) (by kernel_rfl) (by kernel_rfl) (λ_ _ _ h => h) (Or.inl ⟨by rfl, ?y1⟩) KW.out ?r1
   case y1 => (intro wz hSw; (try dsimp only at hSw); go_simp; try (with_reducible rfl))
   simp only[Act.put, zqa, zqb, zqc]
   refine wpAnyH_take (i := 2) (v := ?v2) rfl (by kernel_rfl) (by kernel_rfl) (by kernel_rfl) (λ_ _ _ h => h) (Or.inl ⟨by rfl, ?y2⟩) KW.out ?r2
   case y2 => (intro wz hSw; (try dsimp only at hSw); go_simp; try (with_reducible rfl))
   simp only[Act.put, zqa, zqb, zqc]
   refine wpAnyH_take (i := 3) (v := ?v3) rfl (by kernel_rfl) (by kernel_rfl) (by kernel_rfl) (λ_ _ _ h => h) (Or.inl ⟨by rfl, ?y3⟩) KW.out ?r3
   case y3 => (intro wz hSw; (try dsimp only at hSw); go_simp; try (with_reducible rfl))
   simp only[Act.put, zqa, zqb, zqc]
   refine wpAnyH_take (i := 4) (v := ?v4) rfl (by kernel_rfl) (by kernel_rfl) (by kernel_rfl) (λ_ _ _ h => h) (Or.inl ⟨by rfl, ?y4⟩) KW.out ?r4
   case y4 => (intro wz hSw; (try dsimp only at hSw); go_simp; try (with_reducible rfl))
   simp only[Act.put, zqa, zqb, zqc]
   refine wpAnyH_take (i := 5) (v := ?v5) rfl (by kernel_rfl) (by kernel_rfl) (by kernel_rfl) (λ_ _ _ h => h) (Or.inl ⟨by rfl, ?y5⟩) KW.out ?r5
   case y5 => (intro wz hSw; (try dsimp only at hSw); go_simp; try (with_reducible rfl))
   simp only[Act.put, zqa, zqb, zqc]
   refine wpAnyH_take (i := 6) (v := ?v6) rfl (by kernel_rfl) (by kernel_rfl) (by kernel_rfl) (λ_ _ _ h => h) (Or.inl ⟨by rfl, ?y6⟩) KW.out ?r6
   case y6 => (intro wz hSw; (try dsimp only at hSw); go_simp; try (with_reducible rfl))
   simp only[Act.put, zqa, zqb, zqc]
   refine wpAnyH_take (i := 7) (v := ?v7) rfl (by kernel_rfl) (by kernel_rfl) (by kernel_rfl) (λ_ _ _ h => h) (Or.inl ⟨by rfl, ?y7⟩) KW.out ?r7
   case y7 => (intro wz hSw; (try dsimp only at hSw); go_simp; try (with_reducible rfl))
   simp only[Act.put, zqa, zqb, zqc]
   refine wpAnyH_take (i := 8) (v := ?v8) rfl (by kernel_rfl) (by kernel_rfl) (by kernel_rfl) (λ_ _ _ h => h) (Or.inl ⟨by rfl, ?y8⟩) KW.out ?r8
   case y8 => (intro wz hSw; (try dsimp only at hSw); go_simp; try (with_reducible rfl))
   simp only[Act.put, zqa, zqb, zqc]
   refine wpAnyH_ready (rs := [0]) (by kernel_rfl) (by simp) ?_
   refine AllReadyH.cons rfl (λK hK => ?_) AllReadyH.nil
   go_simp
   refine hK.out _ _ KW.out (λ_ => ?_)
   refine wpAnyH_ready (rs := [9]) (by kernel_rfl) (by simp) ?_
   refine AllReadyH.cons rfl (λK hK => ?_) AllReadyH.nil
   go_simp
   refine(HC.out _).mono ?_
   rintro e w2 ⟨a', b', c', rfl, hwn, hb2⟩
   have hN2 : Blk w2 (w.heap.size + 1 + 1 + 1) #[.int .u32 (a : Int), .int .u32 (b : Int), .int .u32 (c : Int)] 135 := Blk.next (w := W1.drew) hNu hb2
   have hP2 : Blk w2 wr.heap.size #[.int .i64 (lo : Int), .int .i64 (n : Int)] 246 := Blk.next (w := W1.drew) hPl hb2
   have hF2 : Blk w2 (w.heap.size + 1 + 1) #[.int .i64 (k.c : Int), .int .i64 (k.i : Int), .int .i64 (k.a : Int), .int .i64 (k.t : Int)] 244 := Blk.next (w := W1.drew) hFi hb2
   have hR2 : Blk w2 (w.heap.size + 1) #[.int .u32 0, .int .u32 0, .int .u32 0] 135 := Blk.next (w := W1.drew) hRe hb2
   have hB2 : zB w w2 := bel_step (w := W1.drew) hBe.drew hb2
   have r0 := hN2.cell 0
   have r1 := hN2.cell 1
   have r2 := hN2.cell 2
   have f0 := hN2.free 0
   have f1 := hN2.free 1
   have f2 := hN2.free 2
   have K2 : Hid (w2.cell? ⟨wr.heap.size, 0, none⟩ = some (.int .i64 (lo : Int)) ∧ w2.cell? ⟨wr.heap.size, 1, none⟩ = some (.int .i64 (n : Int)) ∧ w2.cell? ⟨w.heap.size + 1 + 1, j, none⟩ = some (.int .i64 (v : Int))) := ⟨hP2.cell 0, hP2.cell 1, hf _ hF2⟩
   have HQ : Hid (Pk w (((w2.setCell ⟨w.heap.size + 1 + 1 + 1, 0, none⟩ (.int .u32 (a' : Int))).setCell ⟨w.heap.size + 1 + 1 + 1, 1, none⟩ (.int .u32 (b' : Int))).setCell ⟨w.heap.size + 1 + 1 + 1, 2, none⟩ (.int .u32 (c' : Int))) k (j + 1) a' b' c') := Pk.mk3 hB2 hF2 hR2 hN2 hwn
   have K3 : Hid ((((w2.setCell ⟨w.heap.size + 1 + 1 + 1, 0, none⟩ (.int .u32 (a' : Int))).setCell ⟨w.heap.size + 1 + 1 + 1, 1, none⟩ (.int .u32 (b' : Int))).setCell ⟨w.heap.size + 1 + 1 + 1, 2, none⟩ (.int .u32 (c' : Int))).cell? ⟨wr.heap.size, 0, none⟩ = some (.int .i64 (lo : Int)) ∧ (((w2.setCell ⟨w.heap.size + 1 + 1 + 1, 0, none⟩ (.int .u32 (a' : Int))).setCell ⟨w.heap.size + 1 + 1 + 1, 1, none⟩ (.int .u32 (b' : Int))).setCell ⟨w.heap.size + 1 + 1 + 1, 2, none⟩ (.int .u32 (c' : Int))).cell? ⟨wr.heap.size, 1, none⟩ = some (.int .i64 (n : Int)) ∧ (((w2.setCell ⟨w.heap.size + 1 + 1 + 1, 0, none⟩ (.int .u32 (a' : Int))).setCell ⟨w.heap.size + 1 + 1 + 1, 1, none⟩ (.int .u32 (b' : Int))).setCell ⟨w.heap.size + 1 + 1 + 1, 2, none⟩ (.int .u32 (c' : Int))).cell? ⟨w.heap.size + 1 + 1, j, none⟩ = some (.int .i64 (v : Int))) :=
    ⟨(((hP2.other _ _ (Ne.symm hne)).other _ _ (Ne.symm hne)).other _ _ (Ne.symm hne)).cell 0, (((hP2.other _ _ (Ne.symm hne)).other _ _ (Ne.symm hne)).other _ _ (Ne.symm hne)).cell 1, hf _ HQ.out.fld⟩
   clear hN2 hP2 hF2 hR2 hB2 hb2 hwn
   go_simp
   refine hK.out _ _ K2.out (λ_ => ?_)
   refine wpAnyH_take (i := 10) (v := ?v10) rfl (by kernel_rfl) (by kernel_rfl) (by kernel_rfl) (λ_ _ _ h => h) (Or.inl ⟨by rfl, ?y10⟩) K2.out ?r10
   case y10 => (intro wz hSw; (try dsimp only at hSw); go_simp; try (with_reducible rfl))
   simp only[Act.put, zqa, zqb, zqc]
   refine wpAnyH_take (i := 11) (v := ?v11) rfl (by kernel_rfl) (by kernel_rfl) (by kernel_rfl) (λ_ _ _ h => h) (Or.inl ⟨by rfl, ?y11⟩) K2.out ?r11
   case y11 => (intro wz hSw; (try dsimp only at hSw); go_simp; try (with_reducible rfl))
   simp only[Act.put, zqa, zqb, zqc]
   refine wpAnyH_take (i := 12) (v := ?v12) rfl (by kernel_rfl) (by kernel_rfl) (by kernel_rfl) (λ_ _ _ h => h) (Or.inl ⟨by rfl, ?y12⟩) K2.out ?r12
   case y12 => (intro wz hSw; (try dsimp only at hSw); go_simp; try (with_reducible rfl))
   simp only[Act.put, zqa, zqb, zqc]
   refine wpAnyH_ready (rs := [13]) (by kernel_rfl) (by simp) ?_
   refine AllReadyH.cons rfl (λK hK => ?_) AllReadyH.nil
   go_simp
   refine hK.out _ _ K3.out (λ_ => ?_)
   refine wpAnyH_done (by kernel_rfl) ?_ _
   all_goals
    go_wp2_with fail
    go_roundw
    case rel => exact⟨j + 1, a', b', c', by omega, by go_num, HQ.out⟩
    case measure => simp[intOf]; omega
  ·obtain rfl : j = 4 := by omega
   have r0 := hp.num.cell 0
   have r1 := hp.num.cell 1
   have r2 := hp.num.cell 2
   have s0 := hp.res.cell 0
   have s1 := hp.res.cell 1
   have s2 := hp.res.cell 2
   have f0 := hp.res.free 0
   have f1 := hp.res.free 1
   have f2 := hp.res.free 2
   have HB : Hid (zB w (((wr.setCell ⟨w.heap.size + 1, 0, none⟩ (.int .u32 (a : Int))).setCell ⟨w.heap.size + 1, 1, none⟩ (.int .u32 (b : Int))).setCell ⟨w.heap.size + 1, 2, none⟩ (.int .u32 (c : Int)))) := bel_set (bel_set (bel_set hp.below _ _ _ (by omega)) _ _ _ (by omega)) _ _ _ (by omega)
   have HW : Hid (WN a b c k.num) := hp.wn
   have RR : Blk (((wr.setCell ⟨w.heap.size + 1, 0, none⟩ (.int .u32 (a : Int))).setCell ⟨w.heap.size + 1, 1, none⟩ (.int .u32 (b : Int))).setCell ⟨w.heap.size + 1, 2, none⟩ (.int .u32 (c : Int))) (w.heap.size + 1) #[.int .u32 (a : Int), .int .u32 (b : Int), .int .u32 (c : Int)] 135 := ((hp.res.set 0 _).set 1 _).set 2 _
   have R0 : Hid (_ = _) := RR.cell 0
   have R1 : Hid (_ = _) := RR.cell 1
   have R2 : Hid (_ = _) := RR.cell 2
   clear hp RR
   go_wp2_with fail
   refine bodyPost_ret (v :=.agg #[.int .u32 (a : Int), .int .u32 (b : Int), .int .u32 (c : Int)]) (by simp[results, Tryz.results113, R0.out, R1.out, R2.out, go_sem]) rfl ⟨a, b, c, rfl, HW.out, HB.out⟩
end token
namespace acc
open tar (Du du0 Came RowD Ld PairT)
open Go.RowKit
theorem psell(g:Nat)(x:Ac)(p:Option Addr)(len cap:Nat)(t:Tm)(pt:Option Addr)(lt ct:Nat)(te m:Int)(w:World)(hw:Blk w g (wcs x bi0 p len cap) 132)(hd:deb.Fresh w (g+1) p len cap x.ds)(ha:AMay x)(ht:Came w pt lt ct t.ts)(hwf:wf4 t)(hfar:Far pt lt g):Calls Tryz.prog 34 #[.pointer (some ⟨g,0,none⟩),.agg #[.slice pt lt ct,zI t.ff,zI t.fb,zI t.db,zI t.al],zI te,zI m] w λe w'=>DPost w g (Or0 (SellIs x t te m)) e w':=by
 have R:Hid (∀W,zC 66 #[zI 1,zI 100000000,zI te] W λe w'=>e=.returned (.bool (decide (1≤te∧te≤100000000)))∧w'=W):=λW=>awithin 1 100000000 te W;have bw:=hw.lt;have a0:Hid (zB w (w.alloc (.cells #[.slice pt lt ct,zI t.ff,zI t.fb,zI t.db,zI t.al] 24))):=(Below.refl w.heap.size w).alloc (by simp) _;have aD:Hid (Chg w (w.alloc (.cells #[.slice pt lt ct,zI t.ff,zI t.fb,zI t.db,zI t.al] 24)) g):=.of a0.o;have aG:=zye w #[.slice pt lt ct,zI t.ff,zI t.fb,zI t.db,zI t.al] 24;have aF:Hid (Blk (w.alloc (.cells #[.slice pt lt ct,zI t.ff,zI t.fb,zI t.db,zI t.al] 24)) g (wcs x bi0 p len cap) 132):=hw.alloc _;have aE:=zh (hd.below a0.o);have ab:=zh (ht.below a0.o);have A:=zh hfar;have aX:Hid (∀W,Blk W g (wcs x bi0 p len cap) 132→deb.Fresh W (g+1) p len cap x.ds→Came W pt lt ct t.ts→zC 65 #[.pointer (some ⟨g,0,none⟩),.agg #[.slice pt lt ct,zI t.ff,zI t.fb,zI t.db,zI t.al],zI m] W λe w'=>DPost W g (BeginR x t m bi0) e w'):=λW M U h3=>pbegin g x p len cap t pt lt ct bi0 m W M U ha h3 hwf hfar;have HM:=zh ha;have bf:=ha.2.2.2.1;clear hw hd ht hwf hfar ha;generalize au:(w.alloc (.cells #[.slice pt lt ct,zI t.ff,zI t.fb,zI t.db,zI t.al] 24))=W0 at *;have b7:=zh au;clear au;go_enter Tryz.func34,Tryz.ntmps34;go_upto_region 1 with fail
 rw[b7.o];go_wp2_with refine zw ?_;refine(aX.o _ aF.o aE.o ab.o).mono ?_;rintro e w1 ⟨y,b2,q,n,c,f,rfl,⟨hr,bb⟩,az,ax,V⟩;subst bb;have P:=zh ax;have H:=zh az;have ac:Hid (Blk w1 (w.heap.size) #[.slice pt lt ct,zI t.ff,zI t.fb,zI t.db,zI t.al] 24):=Chg.keep (g:=g) (V) aG.o (by omega);have aH:=zh (came_chg ab.o (V) A.o);have a1:=zh (aD.o.trans (V));clear ax V az;by_cases h0:f=0
 ·skip
  subst h0
  have j:TRight t∧RMay x m∧y=rolled x m:=by
   rcases hr with⟨M,U,_⟩|⟨_,_,h3,_⟩|⟨M,U,h3,_⟩
   ·exact absurd (U.ok.1 rfl) M
   ·exact absurd rfl h3.ne
   ·exact⟨M,U,h3⟩
  have J:Hid (Ready x t m):=⟨HM.o,j.1,j.2.1⟩
  have HT:=zh j.1;have E:=zh j.2.2;have O:=rolled_same x m;rw[← j.2.2] at O;have N:=(rolled_may HM.o j.2.1).2.2.2.2.2.1;rw[← j.2.2] at N;have aw:deb.Mays y.ds:=by rw[j.2.2];exact(rolled_may HM.o j.2.1).1
  have a9:=zh O.2.2.1;have bk:1≤y.nx∧y.nx≤1048576:=by rw[O.2.2.1];exact bf
  have I:=zh O;clear j hr O;by_cases h5:1≤te∧te≤100000000
  ·rw[decide_eq_true h5] at R;go_wp2_with fail;refine(R.o _).mono ?_;rintro e wz ⟨rfl,bj⟩;subst wz;go_wp2_with fail;have h:=HT.o.2;have ar:Hid (deb.TMay te t.db):=⟨⟨by omega,h5.2⟩,h.2.2.1⟩
   have b5:Hid (zC 67 #[.slice q n c,zI te,zI t.db] w1.drew λe w'=>deb.RecPost w1.drew y.ds te t.db e w'):=deb.krec _ q n c y.ds te t.db (fresh_drew P.o).came (tar.wf_mid (by omega) (by omega)) (tar.wf_mid h.2.2.1.1 (by have:=h.2.2.1.2;omega));have b3:Hid (∀W,zC 68 #[zI te,zI t.fb] W λe w'=>e=.returned (.tuple #[zI (te*t.fb/10000),zI 0])∧zB W w'):=λW=>cents.part_yes te t.fb W (by omega) (by omega) h.2.1.1 h.2.1.2;have bx:=deb.share_bd (t:=te) (bp:=t.fb) ⟨⟨by omega,h5.2⟩,h.2.1⟩;have bz:=deb.share_bd ar.o;refine wp_region_held_drew (S:=λv=>Blk v (g) #[zI y.me,zI y.rv,zI y.nx,zI y.mo,zI y.bo,zI y.fr,.slice q n c,zI 0,zI 0,zI 0,zI 0,zI 0,zI 0,zI 0] 132∧Blk v (w.heap.size) #[.slice pt lt ct,zI t.ff,zI t.fb,zI t.db,zI t.al] 24) (by kernel_rfl) ⟨Blk.drew H.o 1,Blk.drew ac.o 1⟩ (λi=>?_);refine zt' 0 (.pointer (some ⟨g,0,none⟩)) ?_;refine zt' 1 (.pointer (some ⟨g,0,none⟩)) ?_;refine zt' 2 (.pointer (some ⟨g,0,none⟩)) ?_;refine zt' 3 (.pointer (some ⟨g,6,none⟩)) ?_;refine zu' 4 (.slice q n c) rfl rfl (Or.inl ⟨by rfl,λv G=>by have g0:=G.1.cell 6;clear G;go_simp⟩) ?_;refine zt' 5 (zI te) ?_;refine zt' 6 (.pointer (some ⟨w.heap.size,3,none⟩)) ?_;refine zu' 7 (zI t.db) rfl rfl (Or.inl ⟨by rfl,λv G=>by have g0:=G.2.cell 3;clear G;go_simp⟩) ?_;refine zo 8 λK hK=>?_;rw[if_pos (by rfl)];refine wp_callOp 39 rfl (by clear hK;go_simp) b5.o ?_;rintro e w5 ⟨D,C,B,z,a,fz,rfl,aA,ay,F⟩;obtain⟨rfl,hz,Z⟩:=aA.got aw ar.o;have b8:Hid (deb.Fresh w5 (g+1) D C B z):=ay.low (by show g+1≤w1.heap.size;have:=H.o.lt;omega);have ba:=(deb.sumD_pos (deb.mem_fits aw.2)).1;have br:0≤a:=by rw[Z];omega
   have bs:a≤100000000:=by rw[Z];omega
   have ao:Hid (a=paid x t te m):=by show _=_;rw[Z];unfold paid share;rw[← E.o]
   have b9:Hid (z=deb.recK (rolled x m).ds (share t te) (rolled x m).ds.length):=by show _=_;rw[hz];unfold share;rw[← E.o]
   have am:Hid (t.ff+te*t.fb/10000=fee t te):=rfl;clear Z hz ba aA ay;have ad:=zh ((Blk.drew H.o 1).next F);have a2:Hid (Blk w5 (w.heap.size) #[.slice pt lt ct,zI t.ff,zI t.fb,zI t.db,zI t.al] 24):=Chg.keep (g:=g) ((Chg.of (bel_drew zb 1)).trans (.of F)) ac.o (by omega);have aK:Hid (Came w5 pt lt ct t.ts):=came_chg aH.o ((Chg.of (bel_drew zb 1)).trans (.of F)) A.o;have aJ:Hid (deb.Fresh w5 (g+1) q n c y.ds):=fresh_chg P.o ((Chg.of (bel_drew zb 1)).trans (.of F));have aI:Hid (Chg w w5 g):=a1.o.trans ((Chg.of (bel_drew zb 1)).trans (.of F));refine⟨_,rfl,hK.o _ _ ⟨ad.o,a2.o⟩ (λi=>?_)⟩;clear hK K F;simp only[Act.put,zq];refine zt' 9 (.tuple #[.slice D C B,zI a,zI 0]) ?_;refine zt' 10 (.slice D C B) ?_;refine zt' 11 (zI a) ?_;refine zt' 12 (zI 0) ?_;refine zt' 13 (.slice D C B) ?_;refine zt' 14 (zI a) ?_;refine zt' 15 (zI 0) ?_;refine wpAnyH_done (by kernel_rfl) ?_ _;clear i;have bm:=zy2 a2;go_wp2_with fail;refine(b3.o _).mono ?_;rintro e w6 ⟨rfl,r⟩;have a3:=shN ad r;have Q:Hid (Blk w6 (w.heap.size) #[.slice pt lt ct,zI t.ff,zI t.fb,zI t.db,zI t.al] 24):=Chg.keep (g:=g) (.of r) a2.o (by omega);have ag:=zh (came_chg aK.o (.of r) A.o);have af:=zh (fresh_chg aJ.o (.of r));have aL:=zh (fresh_chg b8.o (.of r));have ae:=zh (aI.o.trans (.of r));clear r bm;generalize te*t.fb/10000=b at *;have bv:=h.1;have T:Hid (te-a-(t.ff+b)=rest x t te m):=by show _=_;unfold rest;rw[ao.o,am.o]
   have a8:=zh HT.o.1;clear h;by_cases h6:te-a-(t.ff+b)<0
   ·have d6:decide (te-a-(t.ff+b)<0)=true:=decide_eq_true h6;have L:Hid (Or0 (SellIs x t te m) y bi0 19):=.inl ⟨by decide,.inr (.inl ⟨J.o,λhh=>by have:=hh.2.1;rw[← T.o] at this;omega,rfl,rfl,rfl⟩)⟩;have aC:=zy1 Q;go_wp2_with fail;go_ret;exact⟨y,bi0,q,n,c,19,rfl,L.o,a3.o,af.o,ae.o⟩
   ·have d6:decide (te-a-(t.ff+b)<0)=false:=decide_eq_false h6;have b0:Hid (zC 69 #[.slice pt lt ct,zI y.bo,zI (te-a-(t.ff+b))] w6.drew λe w'=>tar.ThreePost w6.drew (tar.MostIs t.ts y.bo (te-a-(t.ff+b))) e w'):=tar.kmost _ pt lt ct t.ts y.bo _ (ag.o.below (bel_drew zb 1)) (tar.wf_mid N.1 (by omega)) (tar.wf_mid (by omega) (by omega));have aZ:Hid (tar.MayMost y.bo (te-a-(t.ff+b))):=⟨N,by omega,by omega⟩
    have aC:=zy1 Q;go_wp2_with fail;clear aC;refine wp_region_held_drew (S:=λv=>Blk v (g) #[zI y.me,zI y.rv,zI y.nx,zI y.mo,zI y.bo,zI y.fr,.slice q n c,zI 0,zI 0,zI 0,zI 0,zI 0,zI 0,zI 0] 132∧Blk v (w.heap.size) #[.slice pt lt ct,zI t.ff,zI t.fb,zI t.db,zI t.al] 24) (by kernel_rfl) ⟨Blk.drew a3.o 1,Blk.drew Q.o 1⟩ (λi=>?_);refine zt' 0 (.pointer (some ⟨w.heap.size,0,none⟩)) ?_;refine zu' 1 (.slice pt lt ct) rfl rfl (Or.inl ⟨by rfl,λv G=>by have g0:=G.2.cell 0;clear G;go_simp⟩) ?_;refine zt' 2 (.pointer (some ⟨g,0,none⟩)) ?_;refine zt' 3 (.pointer (some ⟨g,0,none⟩)) ?_;refine zt' 4 (.pointer (some ⟨g,0,none⟩)) ?_;refine zt' 5 (.pointer (some ⟨g,4,none⟩)) ?_;refine zu' 6 (zI y.bo) rfl rfl (Or.inl ⟨by rfl,λv G=>by have g0:=G.1.cell 4;clear G;go_simp⟩) ?_;refine zt' 7 (zI (te-a-(t.ff+b))) ?_;refine zo 8 λK hK=>?_;rw[if_pos (by rfl)];refine wp_callOp 70 rfl (by clear hK;go_simp) b0.o ?_;rintro e w7 ⟨u,d,fm,rfl,aB,s⟩;obtain⟨rfl,k,Y⟩:=aB.got a8.o aZ.o;have bA:=k.1.1;have bB:u≤2097151:=by have:=k.1.2;unfold tar.Top at this;omega
    have bg:y.bo+u≤10000000:=by have:=k.1.2;unfold tar.Top at this;omega
    have av:=tar.cost_bd a8.o y.bo (y.bo+u) N.1 (by omega) bg;rw[← Y] at av;have bq:d≤(te-a-(t.ff+b)):=by rw[Y];exact k.2.1
    have bn:0≤d:=by omega
    have a7:Hid (tar.MostOf t.ts (rolled x m).bo (rest x t te m) u):=by show tar.MostOf _ _ _ _;rw[← E.o,← T.o];exact k
    have b4:Hid (d=tar.cost t.ts (rolled x m).bo ((rolled x m).bo+u)):=by show _=_;rw[← E.o];exact Y
    have an:Hid (∀v,tar.MostOf t.ts (rolled x m).bo (rest x t te m) v→v=u):=λv G=>by
     have be:0≤(rolled x m).bo:=by rw[← E.o];exact N.1
     exact G.one a8.o be a7.o
    clear k Y av aB;have a4:=zh ((Blk.drew a3.o 1).next s);have ai:Hid (Blk w7 (w.heap.size) #[.slice pt lt ct,zI t.ff,zI t.fb,zI t.db,zI t.al] 24):=Chg.keep (g:=g) ((Chg.of (bel_drew zb 1)).trans (.of s)) Q.o (by omega);have bt:Hid (Came w7 pt lt ct t.ts):=came_chg ag.o ((Chg.of (bel_drew zb 1)).trans (.of s)) A.o;have aM:Hid (deb.Fresh w7 (g+1) q n c y.ds):=fresh_chg af.o ((Chg.of (bel_drew zb 1)).trans (.of s));have aN:Hid (deb.Fresh w7 (g+1) D C B z):=fresh_chg aL.o ((Chg.of (bel_drew zb 1)).trans (.of s));have ah:Hid (Chg w w7 g):=ae.o.trans ((Chg.of (bel_drew zb 1)).trans (.of s));refine⟨_,rfl,hK.o _ _ ⟨a4.o,ai.o⟩ (λi=>?_)⟩;clear hK K s;simp only[Act.put,zq];refine zt' 9 (.tuple #[zI u,zI d,zI 0]) ?_;refine zt' 10 (zI u) ?_;refine zt' 11 (zI d) ?_;refine zt' 12 (zI 0) ?_;refine zt' 13 (zI u) ?_;refine zt' 14 (zI d) ?_;refine zt' 15 (zI 0) ?_;refine wpAnyH_done (by kernel_rfl) ?_ _;clear i;by_cases h7:u=0
    ·have d7:(u==0)=true:=by simpa using h7
     have L:Hid (Or0 (SellIs x t te m) y bi0 19):=.inl ⟨by decide,.inr (.inl ⟨J.o,λhh=>hh.2.2 (by rw[← h7];exact a7.o),rfl,rfl,rfl⟩)⟩;clear h7;go_wp2_with fail;go_ret;exact⟨y,bi0,q,n,c,19,rfl,L.o,a4.o,aM.o,ah.o⟩
    ·have d7:(u==0)=false:=by simpa using h7
     have aq:Hid (TenOk x t te m):=⟨h5,by rw[← T.o];omega,λhh=>h7 (an.o 0 hh).symm⟩
     clear h7;go_wp2_with (first|(refine wp_letS rfl 53 _ _ rfl g 6 rfl D C B rfl (by kernel_rfl) #[zI y.me,zI y.rv,zI y.nx,zI y.mo,zI y.bo,zI y.fr,.slice q n c,zI 0,zI 0,zI 0,zI 0,zI 0,zI 0,zI 0] 132 a4.o (by simp) ?_)|fail)
     intro W8 l;have aQ:=zyb l;have aR:Hid (Blk W8 (w.heap.size) #[.slice pt lt ct,zI t.ff,zI t.fb,zI t.db,zI t.al] 24):=Chg.keep (g:=g) (.upd l) ai.o (by omega);have aP:=zh (fresh_chg aN.o (.upd l));have aO:=zh (ah.o.trans (.upd l));clear l d7;have bl:=zy4 aQ;have bh:IntKind.i64.wrap (y.bo+u)=y.bo+u:=by rw[IntKind.wrap_i64];omega
     go_wp2_with refine zl ?_;intro W9 l;have aU:=zyb l;have aV:Hid (Blk W9 (w.heap.size) #[.slice pt lt ct,zI t.ff,zI t.fb,zI t.db,zI t.al] 24):=Chg.keep (g:=g) (.upd l) aR.o (by omega);have aT:=zh (fresh_chg aP.o (.upd l));have aS:=zh (aO.o.trans (.upd l));clear l bl bh;have bi:IntKind.i64.wrap ((te-a-(t.ff+b))-d)=(te-a-(t.ff+b))-d:=by rw[IntKind.wrap_i64];omega
     have ap:Hid (putAll #[zI y.me,zI y.rv,zI y.nx,zI y.mo,zI (y.bo+u),zI y.fr,.slice D C B,zI 0,zI 0,zI 0,zI 0,zI 0,zI 0,zI 0] 7 (#[zI 0,zI te,zI a,zI (t.ff+b),zI d,zI ((te-a-(t.ff+b))-d),zI u]:Array Value).toList=#[zI y.me,zI y.rv,zI y.nx,zI y.mo,zI (y.bo+u),zI y.fr,.slice D C B,zI 0,zI te,zI a,zI (t.ff+b),zI d,zI ((te-a-(t.ff+b))-d),zI u]):=by show _=_;kernel_rfl
     go_wp2_with (first|(refine wp_let rfl 33 _ _ rfl g 7 rfl (.agg #[zI 0,zI te,zI a,zI (t.ff+b),zI d,zI ((te-a-(t.ff+b))-d),zI u]) rfl #[zI 0,zI te,zI a,zI (t.ff+b),zI d,zI ((te-a-(t.ff+b))-d),zI u] rfl (by kernel_rfl) (by simp[Value.oneCell']) #[zI y.me,zI y.rv,zI y.nx,zI y.mo,zI (y.bo+u),zI y.fr,.slice D C B,zI 0,zI 0,zI 0,zI 0,zI 0,zI 0,zI 0] 132 aU.o (by simp) #[zI y.me,zI y.rv,zI y.nx,zI y.mo,zI (y.bo+u),zI y.fr,.slice D C B,zI 0,zI te,zI a,zI (t.ff+b),zI d,zI ((te-a-(t.ff+b))-d),zI u] ap.o ?_)|fail)
     intro WA l;have aW:=zyb l;have bu:Hid (Blk WA (w.heap.size) #[.slice pt lt ct,zI t.ff,zI t.fb,zI t.db,zI t.al] 24):=Chg.keep (g:=g) (.upd l) aV.o (by omega);have ak:=zh (fresh_chg aT.o (.upd l));have aj:=zh (aS.o.trans (.upd l));clear l bi
     have b6:Hid (⟨y.me,y.rv,y.nx+1,y.mo,y.bo+u,y.fr,z⟩=sold x t te m u):=by
      show _=_;unfold sold;rw[b9.o,← E.o,I.o.1,I.o.2.1,I.o.2.2.1,I.o.2.2.2.1,I.o.2.2.2.2]
     have aY:Hid (⟨y.nx,te,a,(t.ff+b),d,(te-a-(t.ff+b))-d,u⟩=bill x t te m u):=by
      show _=_;unfold bill;rw[← b4.o,← T.o,← ao.o,← am.o,a9.o]
     have b1:Hid (zC 70 #[.pointer (some ⟨g,0,none⟩)] WA λe w'=>NumPost WA g ⟨y.me,y.rv,y.nx,y.mo,y.bo+u,y.fr,z⟩ ⟨0,te,a,(t.ff+b),d,(te-a-(t.ff+b))-d,u⟩ D C B e w'):=pnum g ⟨y.me,y.rv,y.nx,y.mo,y.bo+u,y.fr,z⟩ ⟨0,te,a,(t.ff+b),d,(te-a-(t.ff+b))-d,u⟩ D C B WA aW.o bk;go_wp2_with fail;refine b1.o.mono ?_;rintro e wN ⟨X,⟨hx,rfl,aa⟩|⟨hx,rfl,aa⟩⟩
     ·have L:Hid (Or0 (SellIs x t te m) ⟨y.me,y.rv,y.nx,y.mo,y.bo+u,y.fr,z⟩ ⟨0,te,a,(t.ff+b),d,(te-a-(t.ff+b))-d,u⟩ 20):=.inl ⟨by decide,.inr (.inr (.inl ⟨J.o,aq.o,by rw[← a9.o];exact hx,rfl,rfl,rfl⟩))⟩;have a6:=fresh_chg ak.o X;have a5:=aj.o.trans X;clear hx;go_wp2_with fail;go_ret;exact⟨⟨y.me,y.rv,y.nx,y.mo,y.bo+u,y.fr,z⟩,⟨0,te,a,(t.ff+b),d,(te-a-(t.ff+b))-d,u⟩,D,C,B,20,rfl,L.o,aa,a6,a5⟩
     ·have L:Hid (Or0 (SellIs x t te m) ⟨y.me,y.rv,y.nx+1,y.mo,y.bo+u,y.fr,z⟩ ⟨y.nx,te,a,(t.ff+b),d,(te-a-(t.ff+b))-d,u⟩ 0):=.inr ⟨rfl,.inr (.inr (.inr ⟨J.o,aq.o,by rw[← a9.o];exact hx,rfl,u,a7.o,b6.o,aY.o⟩))⟩;have a6:=fresh_chg ak.o X;have a5:=aj.o.trans X;clear hx;go_wp2_with fail;go_ret;exact⟨⟨y.me,y.rv,y.nx+1,y.mo,y.bo+u,y.fr,z⟩,⟨y.nx,te,a,(t.ff+b),d,(te-a-(t.ff+b))-d,u⟩,D,C,B,0,rfl,L.o,aa,a6,a5⟩
  ·rw[decide_eq_false h5] at R;have L:Hid (Or0 (SellIs x t te m) y bi0 19):=.inl ⟨by decide,.inr (.inl ⟨J.o,λhh=>h5 hh.1,rfl,rfl,rfl⟩)⟩;clear h5;go_wp2_with fail;refine(R.o _).mono ?_;rintro e wz ⟨rfl,bj⟩;subst wz;go_wp2_with fail;go_ret;exact⟨y,bi0,q,n,c,19,rfl,L.o,H.o,P.o,a1.o⟩
 ·skip
  have d0:(f != 0)=true:=by simpa using h0
  have L:Hid (Or0 (SellIs x t te m) y bi0 f):=by
   refine .inl ⟨h0,.inl ⟨?_,rfl,rfl⟩⟩;rcases hr with⟨M,U,_⟩|⟨M,U,h3,_⟩|⟨_,_,_,M⟩
   ·exact .inr (.inl ⟨HM.o,M,U⟩)
   ·exact .inr (.inr ⟨HM.o,M,U,h3⟩)
   ·exact absurd M h0
  clear hr h0;go_wp2_with fail;go_ret;exact⟨y,bi0,q,n,c,f,rfl,L.o,H.o,P.o,a1.o⟩
end acc
end Go.Proofs.YtoepgdhiepedeaaGreatDoor
