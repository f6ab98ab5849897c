/- A number, unpacked into a token's fields. -/
import Derived.Test.YtlicdeppfhmfjaaGreatDoorTkBits
namespace Go.Proofs.YtlicdeppfhmfjaaGreatDoor.token
open Go.Proofs.YtlicdeppfhmfjaaGreatDoor.words
open Go.RowKit
set_option linter.unusedSimpArgs false

/-- The fields of a number. -/
def fP (V : Nat) : Nat → Nat
  | 0 => (tokOf V).c
  | 1 => (tokOf V).i
  | 2 => (tokOf V).a
  | _ => (tokOf V).t
theorem step_F (V j : Nat) (hj : j < 4) : 1 ≤ nP j ∧ nP j ≤ 64 ∧ loP j + nP j ≤ 96 ∧ V / 2 ^ loP j % 2 ^ nP j = fP V j ∧ fP V j < 9223372036854775808 := by
  match j, hj with
  | 0, _ => exact ⟨by decide, by decide, by decide, rfl, by show V / 144115188075855872 % 8 < _; omega⟩
  | 1, _ => exact ⟨by decide, by decide, by decide, rfl, by show V / 137438953472 % 1048576 < _; omega⟩
  | 2, _ => exact ⟨by decide, by decide, by decide, rfl, by show V / 65536 % 2097152 < _; omega⟩
  | 3, _ => exact ⟨by decide, by decide, by decide, by show V / 1 % 65536 = V % 65536; rw [Nat.div_one], by show V % 65536 < _; omega⟩
/-- The field that is unpacked, and those that are not yet. -/
def gP (V j i : Nat) : Nat := if i < j then fP V i else 0
/-- While the fields are unpacked: j of them are. -/
structure Uk (w wr : World) (V j a b c : Nat) : Prop where
  below : Below w.heap.size w wr
  num : Blk wr w.heap.size #[.int .u32 (a : Int), .int .u32 (b : Int), .int .u32 (c : Int)] 85
  res : Blk wr (w.heap.size + 1) #[.int .i64 0, .int .i64 0, .int .i64 0, .int .i64 0] 51
  fld : Blk wr (w.heap.size + 1 + 1) #[.int .i64 (gP V j 0 : Int), .int .i64 (gP V j 1 : Int), .int .i64 (gP V j 2 : Int), .int .i64 (gP V j 3 : Int)] 132

theorem uk_next {w wr : World} {V j a b c : Nat} (hj : j < 4) (hB : Below w.heap.size w wr) (hN : Blk wr w.heap.size #[.int .u32 (a : Int), .int .u32 (b : Int), .int .u32 (c : Int)] 85) (hR : Blk wr (w.heap.size + 1) #[.int .i64 0, .int .i64 0, .int .i64 0, .int .i64 0] 51)
    (hF : Blk wr (w.heap.size + 1 + 1) #[.int .i64 (gP V j 0 : Int), .int .i64 (gP V j 1 : Int), .int .i64 (gP V j 2 : Int), .int .i64 (gP V j 3 : Int)] 132) : Uk w (wr.setCell ⟨w.heap.size + 1 + 1, j, none⟩ (.int .i64 (fP V j : Int))) V (j + 1) a b c := by
  refine ⟨bel_set hB _ _ _ (by omega), hN.other _ _ (by omega), hR.other _ _ (by omega), ?_⟩
  have h := hF.set j (.int .i64 (fP V j : Int))
  rcases (by omega : j = 0 ∨ j = 1 ∨ j = 2 ∨ j = 3) with rfl | rfl | rfl | rfl <;> exact h

set_option maxHeartbeats 1000000 in
theorem unpack_any (a b c V : Nat) (w : World) (hw : WN a b c V) (ht : TTab w) :
    Calls Tryz.prog 56 #[.agg #[.int .u32 (a : Int), .int .u32 (b : Int), .int .u32 (c : Int)]] w fun e w' => e = .returned (tokOf V).v ∧ Below w.heap.size w w' := by
  have hb0 : Below w.heap.size w (((w.alloc (.cells #[.int .u32 (a : Int), .int .u32 (b : Int), .int .u32 (c : Int)] 85)).alloc (.cells #[.int .i64 0, .int .i64 0, .int .i64 0, .int .i64 0] 51)).alloc (.cells #[.int .i64 0, .int .i64 0, .int .i64 0, .int .i64 0] 132)) :=
    (((Below.refl _ _).alloc (Nat.le_refl _) _).alloc (by simp) _).alloc (by simp; omega) _
  obtain ⟨q0, q1, q2, q3, q4, q5, q6, q7⟩ := (ht.places.below hb0).cell
  have HP : Hid (Uk w (((w.alloc (.cells #[.int .u32 (a : Int), .int .u32 (b : Int), .int .u32 (c : Int)] 85)).alloc (.cells #[.int .i64 0, .int .i64 0, .int .i64 0, .int .i64 0] 51)).alloc (.cells #[.int .i64 0, .int .i64 0, .int .i64 0, .int .i64 0] 132)) V 0 a b c) :=
    ⟨hb0, ((Blk.new _ _ _).alloc _).alloc _, (Blk.new1 _ _ _ _).alloc _, Blk.new2 _ _ _ _ _⟩
  have HW : Hid (WN a b c V) := hw
  clear hw ht hb0
  go_enter Tryz.func56, Tryz.ntmps56
  go_wp2_with fail
  generalize (((w.alloc (.cells #[.int .u32 (a : Int), .int .u32 (b : Int), .int .u32 (c : Int)] 85)).alloc (.cells #[.int .i64 0, .int .i64 0, .int .i64 0, .int .i64 0] 51)).alloc (.cells #[.int .i64 0, .int .i64 0, .int .i64 0, .int .i64 0] 132)) = W0 at *
  clear q0 q1 q2 q3 q4 q5 q6 q7
  go_loopw [9] (fun v wr => ∃ j : Nat, j ≤ 4 ∧ v = .int .i64 (j : Int) ∧ Uk w wr V j a b c) (fun v _ => 4 - (intOf v).toNat)
  case atStart => exact ⟨0, by omega, rfl, HP.out⟩
  case round =>
    obtain ⟨j, hj, rfl, hp⟩ := hrel
    by_cases hlt : j < 4
    · have hst := step_F V j hlt
      have HC : Hid (∀ W, Calls Tryz.prog 94 #[.agg #[.int .u32 (a : Int), .int .u32 (b : Int), .int .u32 (c : Int)], .int .i64 (loP j : Int), .int .i64 (nP j : Int)] W fun e w' => e = .returned (.tuple #[.int .u64 (fP V j : Nat), .int .i64 0]) ∧ Below W.heap.size W w') := fun W => by
        have := bits_wn a b c (loP j) (nP j) V W HW.out hst.1 hst.2.1 hst.2.2.1
        rwa [hst.2.2.2.1] at this
      have hix := idxP j hlt
      have hwr : IntKind.i64.wrap (fP V j : Int) = (fP V j : Int) := wrap_i _ hst.2.2.2.2
      have HU : Hid (∀ W, Below wr.heap.size wr W → Uk w (W.setCell ⟨w.heap.size + 1 + 1, j, none⟩ (.int .i64 (fP V j : Int))) V (j + 1) a b c) := fun W hb => uk_next hlt (bel_step hp.below hb) (hp.num.next hb) (hp.res.next hb) (hp.fld.next hb)
      have HF : Hid (∀ W, Below wr.heap.size wr W → W.cell? ⟨w.heap.size + 1 + 1, j, none⟩ = some (.int .i64 (gP V j j : Int)) ∧ W.frozen? ⟨w.heap.size + 1 + 1, j, none⟩ = false) := fun W hb => by
        have h := hp.fld.next hb
        refine ⟨?_, h.free j⟩
        rw [h.cell]
        rcases (by omega : j = 0 ∨ j = 1 ∨ j = 2 ∨ j = 3) with rfl | rfl | rfl | rfl <;> rfl
      generalize fP V j = v at *
      generalize gP V j j = v0 at *
      generalize loP j = lo at *
      generalize nP j = n at *
      clear hst
      have hjj : (j : Int) < 4 := by omega
      have hPl := Blk.new wr #[.int .i64 (lo : Int), .int .i64 (n : Int)] 134
      have hNu := hp.num.alloc (.cells #[.int .i64 (lo : Int), .int .i64 (n : Int)] 134)
      have hBe : Below wr.heap.size wr (wr.alloc (.cells #[.int .i64 (lo : Int), .int .i64 (n : Int)] 134)) := (Below.refl _ _).alloc (Nat.le_refl _) _
      have k0 := hNu.cell 0
      have k1 := hNu.cell 1
      have k2 := hNu.cell 2
      have k3 := hPl.cell 0
      have k4 := hPl.cell 1
      have HB : Hid (Below wr.heap.size wr (wr.alloc (.cells #[.int .i64 (lo : Int), .int .i64 (n : Int)] 134))) := hBe
      clear hp hPl hNu hBe
      go_wp2_with fail
      refine (HC.out _).mono ?_
      rintro e w2 ⟨rfl, hb2⟩
      have hB2 := bel_step HB.out hb2
      obtain ⟨c0, f0⟩ := HF.out w2 hB2
      have HQ : Hid _ := HU.out w2 hB2
      clear hB2 hb2 HB k0 k1 k2 k3 k4 HC HF HU
      go_wp2_with fail
      go_roundw
      case rel => exact ⟨j + 1, by omega, by go_num, HQ.out⟩
      case measure => simp [intOf]; omega
    · obtain rfl : j = 4 := by omega
      have r0 := hp.fld.cell 0
      have r1 := hp.fld.cell 1
      have r2 := hp.fld.cell 2
      have r3 := hp.fld.cell 3
      have s0 := hp.res.cell 0
      have s1 := hp.res.cell 1
      have s2 := hp.res.cell 2
      have s3 := hp.res.cell 3
      have f0 := hp.res.free 0
      have f1 := hp.res.free 1
      have f2 := hp.res.free 2
      have f3 := hp.res.free 3
      have HV : Hid ((tokOf V).v = .agg #[.int .i64 (gP V 4 0 : Int), .int .i64 (gP V 4 1 : Int), .int .i64 (gP V 4 2 : Int), .int .i64 (gP V 4 3 : Int)]) := rfl
      generalize ((gP V 4 0 : Nat) : Int) = v0 at *
      generalize ((gP V 4 1 : Nat) : Int) = v1 at *
      generalize ((gP V 4 2 : Nat) : Int) = v2 at *
      generalize ((gP V 4 3 : Nat) : Int) = v3 at *
      have HB : Hid (Below w.heap.size w ((((wr.setCell ⟨w.heap.size + 1, 0, none⟩ (.int .i64 v0)).setCell ⟨w.heap.size + 1, 1, none⟩ (.int .i64 v1)).setCell ⟨w.heap.size + 1, 2, none⟩ (.int .i64 v2)).setCell ⟨w.heap.size + 1, 3, none⟩ (.int .i64 v3))) := bel_set (bel_set (bel_set (bel_set hp.below _ _ _ (by omega)) _ _ _ (by omega)) _ _ _ (by omega)) _ _ _ (by omega)
      have RR : Blk ((((wr.setCell ⟨w.heap.size + 1, 0, none⟩ (.int .i64 v0)).setCell ⟨w.heap.size + 1, 1, none⟩ (.int .i64 v1)).setCell ⟨w.heap.size + 1, 2, none⟩ (.int .i64 v2)).setCell ⟨w.heap.size + 1, 3, none⟩ (.int .i64 v3)) (w.heap.size + 1) #[.int .i64 v0, .int .i64 v1, .int .i64 v2, .int .i64 v3] 51 := (((hp.res.set 0 _).set 1 _).set 2 _).set 3 _
      have R0 : Hid (_ = _) := RR.cell 0
      have R1 : Hid (_ = _) := RR.cell 1
      have R2 : Hid (_ = _) := RR.cell 2
      have R3 : Hid (_ = _) := RR.cell 3
      clear hp RR
      go_wp2_with fail
      refine bodyPost_ret (v := .agg #[.int .i64 v0, .int .i64 v1, .int .i64 v2, .int .i64 v3]) (by simp [results, Tryz.results56, R0.out, R1.out, R2.out, R3.out, go_sem]) rfl ⟨by rw [HV.out], HB.out⟩

end Go.Proofs.YtlicdeppfhmfjaaGreatDoor.token
