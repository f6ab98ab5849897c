/- A token that may be, made of raw numbers. -/
import Derived.Test.YtlicdeppfhmfjaaGreatDoorTkTab
import Derived.Test.YtlicdeppfhmfjaaGreatDoorTkRaw
import Derived.Test.YtlicdeppfhmfjaaGreatDoorTkN
import Derived.Test.YtlicdeppfhmfjaaGreatDoorBlk
import Derived.Test.YtlicdeppfhmfjaaGreatDoorCkPick
import Derived.OwnWalk
import Derived.BigRegion
import Derived.Deep.RegionHeld
namespace Go.Proofs.YtlicdeppfhmfjaaGreatDoor.token
open Go.Proofs.YtlicdeppfhmfjaaGreatDoor.check
open Go.RowKit
set_option linter.unusedSimpArgs false
set_option linter.unusedVariables false

/-- The amount that made picks. -/
def madeA (x z : Int) : Nat := if pick x 4 = 0 then 1 + (pick z 2097151).toNat else if pick x 4 = 2 then 1 + (pick z 15).toNat else 0
def madeT (x y z u : Int) : Tok := ⟨(pick x 4).toNat, 1 + (pick y 1048575).toNat, madeA x z, (pick u 65536).toNat⟩
theorem made_ok (x y z u : Int) : (madeT x y z u).ok := by
  have a1 := pick_nonneg x 4 (by omega); have a2 := pick_lt x 4 (by omega)
  have b1 := pick_nonneg y 1048575 (by omega); have b2 := pick_lt y 1048575 (by omega)
  have c1 := pick_nonneg u 65536 (by omega); have c2 := pick_lt u 65536 (by omega)
  have d1 := pick_nonneg z 2097151 (by omega); have d2 := pick_lt z 2097151 (by omega)
  have e1 := pick_nonneg z 15 (by omega); have e2 := pick_lt z 15 (by omega)
  have h : madeA x z ≤ 2097151 ∧ (pick x 4 = 0 → 1 ≤ madeA x z) ∧ (pick x 4 = 2 → 1 ≤ madeA x z ∧ madeA x z ≤ 15) ∧ (pick x 4 = 1 ∨ pick x 4 = 3 → madeA x z = 0) := by
    unfold madeA
    by_cases h0 : pick x 4 = 0
    · rw [if_pos h0]; omega
    · rw [if_neg h0]
      by_cases h2 : pick x 4 = 2
      · rw [if_pos h2]; omega
      · rw [if_neg h2]; omega
  exact ⟨by show (pick x 4).toNat ≤ 3; omega, by show 1 ≤ 1 + (pick y 1048575).toNat; omega, by show 1 + (pick y 1048575).toNat ≤ 1048575; omega, by show (pick u 65536).toNat ≤ 65535; omega, h.1,
    fun hh => h.2.1 (by have : (pick x 4).toNat = 0 := hh; omega), fun hh => h.2.2.1 (by have : (pick x 4).toNat = 2 := hh; omega), fun hh => h.2.2.2 (by have : (pick x 4).toNat = 1 ∨ (pick x 4).toNat = 3 := hh; omega)⟩

set_option maxHeartbeats 4000000 in
/-- What made gives back: p, q, r, m, n are what is picked. -/
theorem made_abs (x y z u : Int) (p q r m n A : Int) (w : World) (hA0 : p = 0 → A = 1 + m) (hA2 : p = 2 → A = 1 + n) (hA1 : p ≠ 0 → p ≠ 2 → A = 0) (p0 : 0 ≤ p) (p1 : p < 4) (q0 : 0 ≤ q) (q1 : q < 1048575) (r0 : 0 ≤ r) (r1 : r < 65536) (m0 : 0 ≤ m) (m1 : m < 2097151) (n0 : 0 ≤ n) (n1 : n < 15)
    (HX : Hid (∀ W, Calls Tryz.prog 24 #[.int .i64 x, .int .i64 4] W fun e w' => e = .returned (.int .i64 p) ∧ w' = W))
    (HY : Hid (∀ W, Calls Tryz.prog 24 #[.int .i64 y, .int .i64 1048575] W fun e w' => e = .returned (.int .i64 q) ∧ w' = W))
    (HU : Hid (∀ W, Calls Tryz.prog 24 #[.int .i64 u, .int .i64 65536] W fun e w' => e = .returned (.int .i64 r) ∧ w' = W))
    (HZ : Hid (∀ W, Calls Tryz.prog 24 #[.int .i64 z, .int .i64 2097151] W fun e w' => e = .returned (.int .i64 m) ∧ w' = W))
    (HN : Hid (∀ W, Calls Tryz.prog 24 #[.int .i64 z, .int .i64 15] W fun e w' => e = .returned (.int .i64 n) ∧ w' = W)) :
    Calls Tryz.prog 22 #[.agg #[.int .i64 x, .int .i64 y, .int .i64 z, .int .i64 u]] w fun e w' => e = .returned (.agg #[.int .i64 p, .int .i64 (1 + q), .int .i64 A, .int .i64 r]) ∧ Below w.heap.size w w' := by
  have hb0 : Below w.heap.size w ((w.alloc (.cells #[.int .i64 x, .int .i64 y, .int .i64 z, .int .i64 u] 34)).alloc (.cells #[.int .i64 0, .int .i64 0, .int .i64 0, .int .i64 0] 51)) := ((Below.refl _ _).alloc (Nat.le_refl _) _).alloc (by simp) _
  have hX := (Blk.new w #[.int .i64 x, .int .i64 y, .int .i64 z, .int .i64 u] 34).alloc (.cells #[.int .i64 0, .int .i64 0, .int .i64 0, .int .i64 0] 51)
  have hR := Blk.new1 w (.cells #[.int .i64 x, .int .i64 y, .int .i64 z, .int .i64 u] 34) #[.int .i64 0, .int .i64 0, .int .i64 0, .int .i64 0] 51
  have hwq : IntKind.i64.wrap (1 + q) = 1 + q := by rw [IntKind.wrap_i64]; omega
  have hwm : IntKind.i64.wrap (1 + m) = 1 + m := by rw [IntKind.wrap_i64]; omega
  have hwn : IntKind.i64.wrap (1 + n) = 1 + n := by rw [IntKind.wrap_i64]; omega
  go_enter Tryz.func22, Tryz.ntmps22
  go_wp2_with fail
  generalize hW : ((w.alloc (.cells #[.int .i64 x, .int .i64 y, .int .i64 z, .int .i64 u] 34)).alloc (.cells #[.int .i64 0, .int .i64 0, .int .i64 0, .int .i64 0] 51)) = W at *
  have hsz : W.heap.size = w.heap.size + 1 + 1 := by rw [← hW]; simp
  clear hW
  have x0 : W.drew.cell? ⟨w.heap.size, 0, none⟩ = some (.int .i64 x) := hX.cell 0
  have x1 : W.drew.cell? ⟨w.heap.size, 1, none⟩ = some (.int .i64 y) := hX.cell 1
  have x3 : W.drew.cell? ⟨w.heap.size, 3, none⟩ = some (.int .i64 u) := hX.cell 3
  have HF : Hid (Below w.heap.size w (W.alloc (.cells #[.int .i64 p, .int .i64 (1 + q), .int .i64 0, .int .i64 r] 51)).drew ∧ Blk (W.alloc (.cells #[.int .i64 p, .int .i64 (1 + q), .int .i64 0, .int .i64 r] 51)).drew w.heap.size #[.int .i64 x, .int .i64 y, .int .i64 z, .int .i64 u] 34 ∧ Blk (W.alloc (.cells #[.int .i64 p, .int .i64 (1 + q), .int .i64 0, .int .i64 r] 51)).drew (w.heap.size + 1) #[.int .i64 0, .int .i64 0, .int .i64 0, .int .i64 0] 51 ∧ Blk (W.alloc (.cells #[.int .i64 p, .int .i64 (1 + q), .int .i64 0, .int .i64 r] 51)).drew (w.heap.size + 1 + 1) #[.int .i64 p, .int .i64 (1 + q), .int .i64 0, .int .i64 r] 51) := by
    refine ⟨(hb0.alloc hb0.size _).drew, hX.alloc _, hR.alloc _, ?_⟩
    have := Blk.new W #[.int .i64 p, .int .i64 (1 + q), .int .i64 0, .int .i64 r] 51
    rw [hsz] at this
    exact this
  go_region_held (fun v => v.cell? ⟨w.heap.size, 0, none⟩ = some (.int .i64 x) ∧ v.cell? ⟨w.heap.size, 1, none⟩ = some (.int .i64 y) ∧ v.cell? ⟨w.heap.size, 3, none⟩ = some (.int .i64 u))
    (first | exact ⟨x0, x1, x3⟩ | exact ⟨(hX.alloc _).cell 0, (hX.alloc _).cell 1, (hX.alloc _).cell 3⟩ | (go_keep))
    (first
      | (go_at_call_of 24 (Value.int .i64 x); refine (HX.out _).mono ?_; rintro e w' ⟨rfl, rfl⟩)
      | (go_at_call_of 24 (Value.int .i64 y); refine (HY.out _).mono ?_; rintro e w' ⟨rfl, rfl⟩)
      | (go_at_call_of 24 (Value.int .i64 u); refine (HU.out _).mono ?_; rintro e w' ⟨rfl, rfl⟩))
  all_goals
    clear x0 x1 x3 hX hR hb0 HX HY HU hsz
    generalize (W.alloc (.cells #[.int .i64 p, .int .i64 (1 + q), .int .i64 0, .int .i64 r] 51)).drew = Wt at *
    obtain ⟨hB, hXt, hRt, hTt⟩ := HF.out
    clear HF
    by_cases e0 : p = 0
    · subst e0
      have EA : Hid (A = 1 + m) := hA0 rfl
      clear hA0 hA1 hA2 HN hwn
      have a2 := hXt.cell 2
      have t0 := hTt.cell 0
      have t2 := hTt.cell 2
      have u2 := hTt.free 2
      have hT2 := hTt.set 2 (.int .i64 (1 + m))
      have s0 := hT2.cell 0
      have s1 := hT2.cell 1
      have s2 := hT2.cell 2
      have s3 := hT2.cell 3
      have hR2 := hRt.other (G' := w.heap.size + 1 + 1) 2 (.int .i64 (1 + m)) (by omega)
      have hB2 := bel_set hB (w.heap.size + 1 + 1) 2 (.int .i64 (1 + m)) (by omega)
      have p0' := hR2.cell 0
      have p1' := hR2.cell 1
      have p2' := hR2.cell 2
      have p3' := hR2.cell 3
      have f0 := hR2.free 0
      have f1 := hR2.free 1
      have f2 := hR2.free 2
      have f3 := hR2.free 3
      have RR : Blk (((((Wt.setCell ⟨w.heap.size + 1 + 1, 2, none⟩ (.int .i64 (1 + m))).setCell ⟨w.heap.size + 1, 0, none⟩ (.int .i64 0)).setCell ⟨w.heap.size + 1, 1, none⟩ (.int .i64 (1 + q))).setCell ⟨w.heap.size + 1, 2, none⟩ (.int .i64 (1 + m))).setCell ⟨w.heap.size + 1, 3, none⟩ (.int .i64 r)) (w.heap.size + 1) #[.int .i64 0, .int .i64 (1 + q), .int .i64 (1 + m), .int .i64 r] 51 := (((hR2.set 0 _).set 1 _).set 2 _).set 3 _
      have HBB : Hid (Below w.heap.size w (((((Wt.setCell ⟨w.heap.size + 1 + 1, 2, none⟩ (.int .i64 (1 + m))).setCell ⟨w.heap.size + 1, 0, none⟩ (.int .i64 0)).setCell ⟨w.heap.size + 1, 1, none⟩ (.int .i64 (1 + q))).setCell ⟨w.heap.size + 1, 2, none⟩ (.int .i64 (1 + m))).setCell ⟨w.heap.size + 1, 3, none⟩ (.int .i64 r))) := bel_set (bel_set (bel_set (bel_set hB2 _ _ _ (by omega)) _ _ _ (by omega)) _ _ _ (by omega)) _ _ _ (by omega)
      have R0 : Hid (_ = _) := RR.cell 0
      have R1 : Hid (_ = _) := RR.cell 1
      have R2 : Hid (_ = _) := RR.cell 2
      have R3 : Hid (_ = _) := RR.cell 3
      clear RR hR2 hB2 hRt hB
      clear hT2 hTt hXt
      go_wp2_with fail
      refine (HZ.out _).mono ?_
      rintro e w' ⟨rfl, rfl⟩
      go_wp2_with fail
      refine bodyPost_ret (v := .agg #[.int .i64 0, .int .i64 (1 + q), .int .i64 (1 + m), .int .i64 r]) (by simp [results, Tryz.results22, R0.out, R1.out, R2.out, R3.out, go_sem]) rfl ⟨by rw [EA.out], HBB.out⟩
    · by_cases e2 : p = 2
      · subst e2
        have EA : Hid (A = 1 + n) := hA2 rfl
        clear hA0 hA1 hA2 HZ hwm
        have a2 := hXt.cell 2
        have t0 := hTt.cell 0
        have t2 := hTt.cell 2
        have u2 := hTt.free 2
        have hT2 := hTt.set 2 (.int .i64 (1 + n))
        have s0 := hT2.cell 0
        have s1 := hT2.cell 1
        have s2 := hT2.cell 2
        have s3 := hT2.cell 3
        have hR2 := hRt.other (G' := w.heap.size + 1 + 1) 2 (.int .i64 (1 + n)) (by omega)
        have hB2 := bel_set hB (w.heap.size + 1 + 1) 2 (.int .i64 (1 + n)) (by omega)
        have p0' := hR2.cell 0
        have p1' := hR2.cell 1
        have p2' := hR2.cell 2
        have p3' := hR2.cell 3
        have f0 := hR2.free 0
        have f1 := hR2.free 1
        have f2 := hR2.free 2
        have f3 := hR2.free 3
        have RR : Blk (((((Wt.setCell ⟨w.heap.size + 1 + 1, 2, none⟩ (.int .i64 (1 + n))).setCell ⟨w.heap.size + 1, 0, none⟩ (.int .i64 2)).setCell ⟨w.heap.size + 1, 1, none⟩ (.int .i64 (1 + q))).setCell ⟨w.heap.size + 1, 2, none⟩ (.int .i64 (1 + n))).setCell ⟨w.heap.size + 1, 3, none⟩ (.int .i64 r)) (w.heap.size + 1) #[.int .i64 2, .int .i64 (1 + q), .int .i64 (1 + n), .int .i64 r] 51 := (((hR2.set 0 _).set 1 _).set 2 _).set 3 _
        have HBB : Hid (Below w.heap.size w (((((Wt.setCell ⟨w.heap.size + 1 + 1, 2, none⟩ (.int .i64 (1 + n))).setCell ⟨w.heap.size + 1, 0, none⟩ (.int .i64 2)).setCell ⟨w.heap.size + 1, 1, none⟩ (.int .i64 (1 + q))).setCell ⟨w.heap.size + 1, 2, none⟩ (.int .i64 (1 + n))).setCell ⟨w.heap.size + 1, 3, none⟩ (.int .i64 r))) := bel_set (bel_set (bel_set (bel_set hB2 _ _ _ (by omega)) _ _ _ (by omega)) _ _ _ (by omega)) _ _ _ (by omega)
        have R0 : Hid (_ = _) := RR.cell 0
        have R1 : Hid (_ = _) := RR.cell 1
        have R2 : Hid (_ = _) := RR.cell 2
        have R3 : Hid (_ = _) := RR.cell 3
        clear RR hR2 hB2 hRt hB
        clear hT2 hTt hXt
        go_wp2_with fail
        refine (HN.out _).mono ?_
        rintro e w' ⟨rfl, rfl⟩
        go_wp2_with fail
        refine bodyPost_ret (v := .agg #[.int .i64 2, .int .i64 (1 + q), .int .i64 (1 + n), .int .i64 r]) (by simp [results, Tryz.results22, R0.out, R1.out, R2.out, R3.out, go_sem]) rfl ⟨by rw [EA.out], HBB.out⟩
      · have EA : Hid (A = 0) := hA1 e0 e2
        have d0 : (p == 0) = false := beq_eq_false_iff_ne.2 e0
        have d2 : (p == 2) = false := beq_eq_false_iff_ne.2 e2
        clear hA0 hA1 hA2 HZ hwm HN hwn e0 e2
        have s0 := hTt.cell 0
        have s1 := hTt.cell 1
        have s2 := hTt.cell 2
        have s3 := hTt.cell 3
        have hR2 := hRt
        have hB2 := hB
        have p0' := hR2.cell 0
        have p1' := hR2.cell 1
        have p2' := hR2.cell 2
        have p3' := hR2.cell 3
        have f0 := hR2.free 0
        have f1 := hR2.free 1
        have f2 := hR2.free 2
        have f3 := hR2.free 3
        have RR : Blk (((((Wt).setCell ⟨w.heap.size + 1, 0, none⟩ (.int .i64 p)).setCell ⟨w.heap.size + 1, 1, none⟩ (.int .i64 (1 + q))).setCell ⟨w.heap.size + 1, 2, none⟩ (.int .i64 0)).setCell ⟨w.heap.size + 1, 3, none⟩ (.int .i64 r)) (w.heap.size + 1) #[.int .i64 p, .int .i64 (1 + q), .int .i64 0, .int .i64 r] 51 := (((hR2.set 0 _).set 1 _).set 2 _).set 3 _
        have HBB : Hid (Below w.heap.size w (((((Wt).setCell ⟨w.heap.size + 1, 0, none⟩ (.int .i64 p)).setCell ⟨w.heap.size + 1, 1, none⟩ (.int .i64 (1 + q))).setCell ⟨w.heap.size + 1, 2, none⟩ (.int .i64 0)).setCell ⟨w.heap.size + 1, 3, none⟩ (.int .i64 r))) := bel_set (bel_set (bel_set (bel_set hB2 _ _ _ (by omega)) _ _ _ (by omega)) _ _ _ (by omega)) _ _ _ (by omega)
        have R0 : Hid (_ = _) := RR.cell 0
        have R1 : Hid (_ = _) := RR.cell 1
        have R2 : Hid (_ = _) := RR.cell 2
        have R3 : Hid (_ = _) := RR.cell 3
        clear RR hR2 hB2 hRt hB
        clear hTt hXt
        go_wp2_with fail
        refine bodyPost_ret (v := .agg #[.int .i64 p, .int .i64 (1 + q), .int .i64 0, .int .i64 r]) (by simp [results, Tryz.results22, R0.out, R1.out, R2.out, R3.out, go_sem]) rfl ⟨by rw [EA.out], HBB.out⟩

theorem made_any (x y z u : Int) (w : World) (hw : wf4 x y z u) :
    Calls Tryz.prog 22 #[.agg #[.int .i64 x, .int .i64 y, .int .i64 z, .int .i64 u]] w fun e w' => e = .returned (madeT x y z u).v ∧ Below w.heap.size w w' := by
  have a1 := pick_nonneg x 4 (by omega); have a2 := pick_lt x 4 (by omega)
  have b1 := pick_nonneg y 1048575 (by omega); have b2 := pick_lt y 1048575 (by omega)
  have c1 := pick_nonneg u 65536 (by omega); have c2 := pick_lt u 65536 (by omega)
  have d1 := pick_nonneg z 2097151 (by omega); have d2 := pick_lt z 2097151 (by omega)
  have e1 := pick_nonneg z 15 (by omega); have e2 := pick_lt z 15 (by omega)
  have h := made_abs x y z u (pick x 4) (pick y 1048575) (pick u 65536) (pick z 2097151) (pick z 15) (madeA x z) w
    (fun h => by unfold madeA; rw [if_pos h]; omega) (fun h => by unfold madeA; rw [if_neg (by omega), if_pos h]; omega) (fun h0 h2 => by unfold madeA; rw [if_neg h0, if_neg h2]; rfl)
    a1 a2 b1 b2 c1 c2 d1 d2 e1 e2 (fun W => picked_any x 4 W hw.1 (by omega) (by omega)) (fun W => picked_any y 1048575 W hw.2.1 (by omega) (by omega)) (fun W => picked_any u 65536 W hw.2.2.2 (by omega) (by omega)) (fun W => picked_any z 2097151 W hw.2.2.1 (by omega) (by omega)) (fun W => picked_any z 15 W hw.2.2.1 (by omega) (by omega))
  have hv : (madeT x y z u).v = .agg #[.int .i64 (pick x 4), .int .i64 (1 + pick y 1048575), .int .i64 (madeA x z : Int), .int .i64 (pick u 65536)] := by
    show Value.agg #[.int .i64 (((pick x 4).toNat : Nat) : Int), .int .i64 ((1 + (pick y 1048575).toNat : Nat) : Int), .int .i64 (madeA x z : Int), .int .i64 (((pick u 65536).toNat : Nat) : Int)] = _
    rw [show (((pick x 4).toNat : Nat) : Int) = pick x 4 by omega, show ((1 + (pick y 1048575).toNat : Nat) : Int) = 1 + pick y 1048575 by omega, show (((pick u 65536).toNat : Nat) : Int) = pick u 65536 by omega]
  rw [hv]
  exact h

end Go.Proofs.YtlicdeppfhmfjaaGreatDoor.token
