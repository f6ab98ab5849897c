import Derived.Test.YtlicdeppfhmfjaaGreatDoorShift
import Derived.Test.YtlicdeppfhmfjaaGreatDoorTkFlaw
import Derived.Test.YtlicdeppfhmfjaaGreatDoorBlk
import Derived.OwnWalk
import Derived.Test.YtlicdeppfhmfjaaGreatDoorTkBx
import Derived.Test.YtlicdeppfhmfjaaGreatDoorTkFlaw2
import Derived.Test.YtlicdeppfhmfjaaGreatDoorTimes
import Derived.Test.YtlicdeppfhmfjaaGreatDoorPlus
import Derived.Test.YtlicdeppfhmfjaaGreatDoorBlk2
import Derived.Test.YtlicdeppfhmfjaaGreatDoorOver
import Derived.Test.YtlicdeppfhmfjaaGreatDoorCmp
import Derived.Test.YtlicdeppfhmfjaaGreatDoorBigLongW
import Derived.WalkKit
import Derived.Below
import Derived.Laws.RangeAny
import Derived.WalkSpells
import Derived.WalkLawsBesides
import Derived.Lib.Bytealg
import Derived.Lib.IndexBytes
import Derived.Lib.ItoaNum
import Derived.Test.YtlicdeppfhmfjaaGreatDoorCkTxt
import Derived.Test.YtlicdeppfhmfjaaGreatDoorChk
import Derived.Lib.OthersKept
import Derived.Test.YtlicdeppfhmfjaaGreatDoorTkN
import Derived.Test.YtlicdeppfhmfjaaGreatDoorProg
import Derived.Laws.IdiomCopy
import Derived.Laws.Rows
import Derived.Laws.Tables
import Derived.Deep.MidRow
import Derived.Deep.RegionHeld
import Derived.Laws.StructEq
import Derived.Laws.BytesString
import Derived.Deep.DeepCutAuto

/- What words.Bits gives back. -/
namespace Go.Proofs.YtlicdeppfhmfjaaGreatDoor.words
open Go.RowKit

theorem sh_lt (v : Nat) (k : Int) (hv : v < 2 ^ 64) : sh v k < 2 ^ 64 := by
  unfold sh
  split
  · exact Nat.lt_of_le_of_lt (Nat.div_le_self _ _) hv
  · exact Nat.mod_lt _ (by decide)

theorem ones_lt (n : Nat) (h : n ≤ 64) : onesN n < 2 ^ 64 := by
  unfold onesN
  have := Nat.pow_le_pow_right (show 0 < 2 by decide) h
  have h2 : 0 < 2 ^ n := Nat.two_pow_pos _
  omega

theorem idx0 (x y z : Int) (w : World) : (Instr.index 85 (.agg #[.int .u32 x, .int .u32 y, .int .u32 z]) (.int .i64 0)).run Tryz.prog w = .ok (.int .u32 x) w := by kernel_rfl
theorem idx1 (x y z : Int) (w : World) : (Instr.index 85 (.agg #[.int .u32 x, .int .u32 y, .int .u32 z]) (.int .i64 1)).run Tryz.prog w = .ok (.int .u32 y) w := by kernel_rfl
theorem idx2 (x y z : Int) (w : World) : (Instr.index 85 (.agg #[.int .u32 x, .int .u32 y, .int .u32 z]) (.int .i64 2)).run Tryz.prog w = .ok (.int .u32 z) w := by kernel_rfl

set_option maxHeartbeats 1000000 in
theorem bits_any (a b c lo n : Nat) (w : World) (ha : a < 2 ^ 32) (hb : b < 2 ^ 32) (hc : c < 2 ^ 32) (n0 : 1 ≤ n) (n1 : n ≤ 64) (hl : lo + n ≤ 96) :
    Calls Tryz.prog 94 #[.agg #[.int .u32 (a : Int), .int .u32 (b : Int), .int .u32 (c : Int)], .int .i64 (lo : Int), .int .i64 (n : Int)] w fun e w' => e = .returned (.tuple #[.int .u64 (bitsN a b c lo n : Nat), .int .i64 0]) ∧ Below w.heap.size w w' := by
  have a1 : (a : Int) < 4294967296 := by omega
  have b1 : (b : Int) < 4294967296 := by omega
  have c1 : (c : Int) < 4294967296 := by omega
  have HB : Hid (Below w.heap.size w (w.alloc (.cells #[.int .u32 (a : Int), .int .u32 (b : Int), .int .u32 (c : Int)] 85))) := (Below.refl _ w).alloc (Nat.le_refl _) _
  have hE : bitsN a b c lo n = (sh a (-(lo : Int)) ||| sh b (32 - (lo : Int)) ||| sh c (64 - (lo : Int))) &&& onesN n := by unfold bitsN; rw [Int.zero_sub]
  have HE : Hid (bitsN a b c lo n = (sh a (-(lo : Int)) ||| sh b (32 - (lo : Int)) ||| sh c (64 - (lo : Int))) &&& onesN n) := hE
  clear hE
  have i0 := idx0 (a : Int) (b : Int) (c : Int)
  have i1 := idx1 (a : Int) (b : Int) (c : Int)
  have i2 := idx2 (a : Int) (b : Int) (c : Int)
  go_enter Tryz.func94, Tryz.ntmps94
  go_wp2_with fail
  refine (isField_yes _ _ _ (by omega) (by omega) (by omega) (by omega)).mono ?_
  rintro e wr ⟨rfl, rfl⟩
  go_wp2_with fail
  refine wp_loop_rounds 4 ?_
  rw [rounds_succ]
  go_wp2_with fail
  refine (shift_any a _ _ (by omega) (by omega) (by omega)).mono ?_
  rintro e wr ⟨rfl, rfl⟩
  have o1 : bits .or .u64 0 ((sh a (-(lo : Int)) : Nat) : Int) = ((sh a (-(lo : Int)) : Nat) : Int) := by
    have := or64 0 (sh a (-(lo : Int))) (by decide) (sh_lt _ _ (by omega))
    simpa using this
  have l0 : sh a (-(lo : Int)) < 2 ^ 64 := sh_lt _ _ (by omega)
  generalize sh a (-(lo : Int)) = s0 at *
  go_wp2_with fail
  rw [rounds_succ]
  go_wp2_with fail
  refine (shift_any b _ _ (by omega) (by omega) (by omega)).mono ?_
  rintro e wr ⟨rfl, rfl⟩
  have l1 : sh b (32 - (lo : Int)) < 2 ^ 64 := sh_lt _ _ (by omega)
  have o2 := or64 s0 (sh b (32 - (lo : Int))) l0 l1
  have l01 := Nat.or_lt_two_pow l0 l1
  clear o1
  generalize sh b (32 - (lo : Int)) = s1 at *
  go_wp2_with fail
  rw [rounds_succ]
  go_wp2_with fail
  refine (shift_any c _ _ (by omega) (by omega) (by omega)).mono ?_
  rintro e wr ⟨rfl, rfl⟩
  have l2 : sh c (64 - (lo : Int)) < 2 ^ 64 := sh_lt _ _ (by omega)
  have o3 := or64 (s0 ||| s1) (sh c (64 - (lo : Int))) l01 l2
  have l02 := Nat.or_lt_two_pow l01 l2
  clear o2
  generalize sh c (64 - (lo : Int)) = s2 at *
  go_wp2_with fail
  rw [rounds_succ]
  go_wp2_with fail
  refine (ones_any n _ (by omega) (by omega)).mono ?_
  rintro e wr ⟨rfl, rfl⟩
  have ln : onesN n < 2 ^ 64 := ones_lt n (by omega)
  have o4 := and64 (s0 ||| s1 ||| s2) (onesN n) l02 ln
  clear o3
  go_wp2_with fail
  go_ret2
  exact ⟨by rw [HE.out]; rfl, HB.out⟩

end Go.Proofs.YtlicdeppfhmfjaaGreatDoor.words

/- A token's fields, and where they lie: plain facts. -/
namespace Go.Proofs.YtlicdeppfhmfjaaGreatDoor.token
open Go.Proofs.YtlicdeppfhmfjaaGreatDoor.words
open Go.RowKit
set_option linter.unusedSimpArgs false

/-- Three words, and the number that they are. -/
structure WN (a b c V : Nat) : Prop where
  a1 : a < 2 ^ 32
  b1 : b < 2 ^ 32
  c1 : c < 2 ^ 32
  val : bigV a b c = V
theorem wn_zero : WN 0 0 0 0 := ⟨by decide, by decide, by decide, rfl⟩

/-- Where each field lies; its value; what is packed till then. -/
def loP : Nat → Nat
  | 0 => 57
  | 1 => 37
  | 2 => 16
  | _ => 0
def nP : Nat → Nat
  | 0 => 3
  | 1 => 20
  | 2 => 21
  | _ => 16
def vP (k : Tok) : Nat → Nat
  | 0 => k.c
  | 1 => k.i
  | 2 => k.a
  | _ => k.t
def pP (k : Tok) : Nat → Nat
  | 0 => 0
  | 1 => k.c * 144115188075855872
  | 2 => k.c * 144115188075855872 + k.i * 137438953472
  | 3 => k.c * 144115188075855872 + k.i * 137438953472 + k.a * 65536
  | _ => k.num
theorem step_P {k : Tok} (h : k.ok) (j : Nat) (hj : j < 4) : vP k j < 2 ^ nP j ∧ 1 ≤ nP j ∧ nP j ≤ 64 ∧ loP j + nP j ≤ 96 ∧ pP k j / 2 ^ loP j % 2 ^ nP j = 0 ∧ pP k (j + 1) = pP k j + vP k j * 2 ^ loP j ∧ vP k j < 9223372036854775808 := by
  have := h.c3; have := h.i2; have := h.t2; have := h.a2
  match j, hj with
  | 0, _ => exact ⟨by show k.c < 8; omega, by decide, by decide, by decide, by show 0 / _ % _ = 0; simp, by show k.c * 144115188075855872 = 0 + k.c * 144115188075855872; omega, by show k.c < _; omega⟩
  | 1, _ => exact ⟨by show k.i < 1048576; omega, by decide, by decide, by decide, by show k.c * 144115188075855872 / 137438953472 % 1048576 = 0; omega, by show k.c * 144115188075855872 + k.i * 137438953472 = k.c * 144115188075855872 + k.i * 137438953472; rfl, by show k.i < _; omega⟩
  | 2, _ => exact ⟨by show k.a < 2097152; omega, by decide, by decide, by decide, by show (k.c * 144115188075855872 + k.i * 137438953472) / 65536 % 2097152 = 0; omega, by show k.c * 144115188075855872 + k.i * 137438953472 + k.a * 65536 = k.c * 144115188075855872 + k.i * 137438953472 + k.a * 65536; rfl, by show k.a < _; omega⟩
  | 3, _ => exact ⟨by show k.t < 65536; omega, by decide, by decide, by decide, by show (k.c * 144115188075855872 + k.i * 137438953472 + k.a * 65536) / 1 % 65536 = 0; omega, by show k.num = k.c * 144115188075855872 + k.i * 137438953472 + k.a * 65536 + k.t * 1; unfold Tok.num; omega, by show k.t < _; omega⟩

theorem wrap_u (v : Nat) (h : v < 9223372036854775808) : IntKind.u64.wrap (v : Int) = (v : Int) := by rw [IntKind.wrap_u64]; omega

theorem idxP (j : Nat) (hj : j < 4) (w : World) :
    (Instr.index 135 (.agg #[.int .i64 57, .int .i64 3, .int .i64 37, .int .i64 20, .int .i64 16, .int .i64 21, .int .i64 0, .int .i64 16]) (.int .i64 (j : Int))).run Tryz.prog w = .ok (.agg #[.int .i64 (loP j : Int), .int .i64 (nP j : Int)]) w := by
  rcases (by omega : j = 0 ∨ j = 1 ∨ j = 2 ∨ j = 3) with rfl | rfl | rfl | rfl
  · kernel_rfl
  · kernel_rfl
  · kernel_rfl
  · kernel_rfl

end Go.Proofs.YtlicdeppfhmfjaaGreatDoor.token

/- A field of a wide number. -/
namespace Go.Proofs.YtlicdeppfhmfjaaGreatDoor.token
open Go.Proofs.YtlicdeppfhmfjaaGreatDoor.words
open Go.RowKit
set_option linter.unusedSimpArgs false

theorem bits_wn (a b c lo n V : Nat) (w : World) (h : WN a b c V) (n0 : 1 ≤ n) (n1 : n ≤ 64) (hl : lo + n ≤ 96) :
    Calls Tryz.prog 94 #[.agg #[.int .u32 (a : Int), .int .u32 (b : Int), .int .u32 (c : Int)], .int .i64 (lo : Int), .int .i64 (n : Int)] w fun e w' => e = .returned (.tuple #[.int .u64 (V / 2 ^ lo % 2 ^ n : Nat), .int .i64 0]) ∧ Below w.heap.size w w' := by
  have := bits_any a b c lo n w h.a1 h.b1 h.c1 n0 n1 hl
  rwa [bits_num h.a1 h.b1 h.c1 n1, h.val] at this

theorem wrap_i (v : Nat) (h : v < 9223372036854775808) : IntKind.i64.wrap (v : Int) = (v : Int) := by rw [IntKind.wrap_i64]; omega

end Go.Proofs.YtlicdeppfhmfjaaGreatDoor.token

/- A number, unpacked into a token's fields. -/
namespace Go.Proofs.YtlicdeppfhmfjaaGreatDoor.token
open Go.Proofs.YtlicdeppfhmfjaaGreatDoor.words
open Go.RowKit
set_option linter.unusedSimpArgs false

/-- The fields of a number. -/
def fP (V : Nat) : Nat → Nat
  | 0 => (tokOf V).c
  | 1 => (tokOf V).i
  | 2 => (tokOf V).a
  | _ => (tokOf V).t
theorem step_F (V j : Nat) (hj : j < 4) : 1 ≤ nP j ∧ nP j ≤ 64 ∧ loP j + nP j ≤ 96 ∧ V / 2 ^ loP j % 2 ^ nP j = fP V j ∧ fP V j < 9223372036854775808 := by
  match j, hj with
  | 0, _ => exact ⟨by decide, by decide, by decide, rfl, by show V / 144115188075855872 % 8 < _; omega⟩
  | 1, _ => exact ⟨by decide, by decide, by decide, rfl, by show V / 137438953472 % 1048576 < _; omega⟩
  | 2, _ => exact ⟨by decide, by decide, by decide, rfl, by show V / 65536 % 2097152 < _; omega⟩
  | 3, _ => exact ⟨by decide, by decide, by decide, by show V / 1 % 65536 = V % 65536; rw [Nat.div_one], by show V % 65536 < _; omega⟩
/-- The field that is unpacked, and those that are not yet. -/
def gP (V j i : Nat) : Nat := if i < j then fP V i else 0
/-- While the fields are unpacked: j of them are. -/
structure Uk (w wr : World) (V j a b c : Nat) : Prop where
  below : Below w.heap.size w wr
  num : Blk wr w.heap.size #[.int .u32 (a : Int), .int .u32 (b : Int), .int .u32 (c : Int)] 85
  res : Blk wr (w.heap.size + 1) #[.int .i64 0, .int .i64 0, .int .i64 0, .int .i64 0] 51
  fld : Blk wr (w.heap.size + 1 + 1) #[.int .i64 (gP V j 0 : Int), .int .i64 (gP V j 1 : Int), .int .i64 (gP V j 2 : Int), .int .i64 (gP V j 3 : Int)] 132

theorem uk_next {w wr : World} {V j a b c : Nat} (hj : j < 4) (hB : Below w.heap.size w wr) (hN : Blk wr w.heap.size #[.int .u32 (a : Int), .int .u32 (b : Int), .int .u32 (c : Int)] 85) (hR : Blk wr (w.heap.size + 1) #[.int .i64 0, .int .i64 0, .int .i64 0, .int .i64 0] 51)
    (hF : Blk wr (w.heap.size + 1 + 1) #[.int .i64 (gP V j 0 : Int), .int .i64 (gP V j 1 : Int), .int .i64 (gP V j 2 : Int), .int .i64 (gP V j 3 : Int)] 132) : Uk w (wr.setCell ⟨w.heap.size + 1 + 1, j, none⟩ (.int .i64 (fP V j : Int))) V (j + 1) a b c := by
  refine ⟨bel_set hB _ _ _ (by omega), hN.other _ _ (by omega), hR.other _ _ (by omega), ?_⟩
  have h := hF.set j (.int .i64 (fP V j : Int))
  rcases (by omega : j = 0 ∨ j = 1 ∨ j = 2 ∨ j = 3) with rfl | rfl | rfl | rfl <;> exact h

set_option maxHeartbeats 1000000 in
theorem unpack_any (a b c V : Nat) (w : World) (hw : WN a b c V) (ht : TTab w) :
    Calls Tryz.prog 56 #[.agg #[.int .u32 (a : Int), .int .u32 (b : Int), .int .u32 (c : Int)]] w fun e w' => e = .returned (tokOf V).v ∧ Below w.heap.size w w' := by
  have hb0 : Below w.heap.size w (((w.alloc (.cells #[.int .u32 (a : Int), .int .u32 (b : Int), .int .u32 (c : Int)] 85)).alloc (.cells #[.int .i64 0, .int .i64 0, .int .i64 0, .int .i64 0] 51)).alloc (.cells #[.int .i64 0, .int .i64 0, .int .i64 0, .int .i64 0] 132)) :=
    (((Below.refl _ _).alloc (Nat.le_refl _) _).alloc (by simp) _).alloc (by simp; omega) _
  obtain ⟨q0, q1, q2, q3, q4, q5, q6, q7⟩ := (ht.places.below hb0).cell
  have HP : Hid (Uk w (((w.alloc (.cells #[.int .u32 (a : Int), .int .u32 (b : Int), .int .u32 (c : Int)] 85)).alloc (.cells #[.int .i64 0, .int .i64 0, .int .i64 0, .int .i64 0] 51)).alloc (.cells #[.int .i64 0, .int .i64 0, .int .i64 0, .int .i64 0] 132)) V 0 a b c) :=
    ⟨hb0, ((Blk.new _ _ _).alloc _).alloc _, (Blk.new1 _ _ _ _).alloc _, Blk.new2 _ _ _ _ _⟩
  have HW : Hid (WN a b c V) := hw
  clear hw ht hb0
  go_enter Tryz.func56, Tryz.ntmps56
  go_wp2_with fail
  generalize (((w.alloc (.cells #[.int .u32 (a : Int), .int .u32 (b : Int), .int .u32 (c : Int)] 85)).alloc (.cells #[.int .i64 0, .int .i64 0, .int .i64 0, .int .i64 0] 51)).alloc (.cells #[.int .i64 0, .int .i64 0, .int .i64 0, .int .i64 0] 132)) = W0 at *
  clear q0 q1 q2 q3 q4 q5 q6 q7
  go_loopw [9] (fun v wr => ∃ j : Nat, j ≤ 4 ∧ v = .int .i64 (j : Int) ∧ Uk w wr V j a b c) (fun v _ => 4 - (intOf v).toNat)
  case atStart => exact ⟨0, by omega, rfl, HP.out⟩
  case round =>
    obtain ⟨j, hj, rfl, hp⟩ := hrel
    by_cases hlt : j < 4
    · have hst := step_F V j hlt
      have HC : Hid (∀ W, Calls Tryz.prog 94 #[.agg #[.int .u32 (a : Int), .int .u32 (b : Int), .int .u32 (c : Int)], .int .i64 (loP j : Int), .int .i64 (nP j : Int)] W fun e w' => e = .returned (.tuple #[.int .u64 (fP V j : Nat), .int .i64 0]) ∧ Below W.heap.size W w') := fun W => by
        have := bits_wn a b c (loP j) (nP j) V W HW.out hst.1 hst.2.1 hst.2.2.1
        rwa [hst.2.2.2.1] at this
      have hix := idxP j hlt
      have hwr : IntKind.i64.wrap (fP V j : Int) = (fP V j : Int) := wrap_i _ hst.2.2.2.2
      have HU : Hid (∀ W, Below wr.heap.size wr W → Uk w (W.setCell ⟨w.heap.size + 1 + 1, j, none⟩ (.int .i64 (fP V j : Int))) V (j + 1) a b c) := fun W hb => uk_next hlt (bel_step hp.below hb) (hp.num.next hb) (hp.res.next hb) (hp.fld.next hb)
      have HF : Hid (∀ W, Below wr.heap.size wr W → W.cell? ⟨w.heap.size + 1 + 1, j, none⟩ = some (.int .i64 (gP V j j : Int)) ∧ W.frozen? ⟨w.heap.size + 1 + 1, j, none⟩ = false) := fun W hb => by
        have h := hp.fld.next hb
        refine ⟨?_, h.free j⟩
        rw [h.cell]
        rcases (by omega : j = 0 ∨ j = 1 ∨ j = 2 ∨ j = 3) with rfl | rfl | rfl | rfl <;> rfl
      generalize fP V j = v at *
      generalize gP V j j = v0 at *
      generalize loP j = lo at *
      generalize nP j = n at *
      clear hst
      have hjj : (j : Int) < 4 := by omega
      have hPl := Blk.new wr #[.int .i64 (lo : Int), .int .i64 (n : Int)] 134
      have hNu := hp.num.alloc (.cells #[.int .i64 (lo : Int), .int .i64 (n : Int)] 134)
      have hBe : Below wr.heap.size wr (wr.alloc (.cells #[.int .i64 (lo : Int), .int .i64 (n : Int)] 134)) := (Below.refl _ _).alloc (Nat.le_refl _) _
      have k0 := hNu.cell 0
      have k1 := hNu.cell 1
      have k2 := hNu.cell 2
      have k3 := hPl.cell 0
      have k4 := hPl.cell 1
      have HB : Hid (Below wr.heap.size wr (wr.alloc (.cells #[.int .i64 (lo : Int), .int .i64 (n : Int)] 134))) := hBe
      clear hp hPl hNu hBe
      go_wp2_with fail
      refine (HC.out _).mono ?_
      rintro e w2 ⟨rfl, hb2⟩
      have hB2 := bel_step HB.out hb2
      obtain ⟨c0, f0⟩ := HF.out w2 hB2
      have HQ : Hid _ := HU.out w2 hB2
      clear hB2 hb2 HB k0 k1 k2 k3 k4 HC HF HU
      go_wp2_with fail
      go_roundw
      case rel => exact ⟨j + 1, by omega, by go_num, HQ.out⟩
      case measure => simp [intOf]; omega
    · obtain rfl : j = 4 := by omega
      have r0 := hp.fld.cell 0
      have r1 := hp.fld.cell 1
      have r2 := hp.fld.cell 2
      have r3 := hp.fld.cell 3
      have s0 := hp.res.cell 0
      have s1 := hp.res.cell 1
      have s2 := hp.res.cell 2
      have s3 := hp.res.cell 3
      have f0 := hp.res.free 0
      have f1 := hp.res.free 1
      have f2 := hp.res.free 2
      have f3 := hp.res.free 3
      have HV : Hid ((tokOf V).v = .agg #[.int .i64 (gP V 4 0 : Int), .int .i64 (gP V 4 1 : Int), .int .i64 (gP V 4 2 : Int), .int .i64 (gP V 4 3 : Int)]) := rfl
      generalize ((gP V 4 0 : Nat) : Int) = v0 at *
      generalize ((gP V 4 1 : Nat) : Int) = v1 at *
      generalize ((gP V 4 2 : Nat) : Int) = v2 at *
      generalize ((gP V 4 3 : Nat) : Int) = v3 at *
      have HB : Hid (Below w.heap.size w ((((wr.setCell ⟨w.heap.size + 1, 0, none⟩ (.int .i64 v0)).setCell ⟨w.heap.size + 1, 1, none⟩ (.int .i64 v1)).setCell ⟨w.heap.size + 1, 2, none⟩ (.int .i64 v2)).setCell ⟨w.heap.size + 1, 3, none⟩ (.int .i64 v3))) := bel_set (bel_set (bel_set (bel_set hp.below _ _ _ (by omega)) _ _ _ (by omega)) _ _ _ (by omega)) _ _ _ (by omega)
      have RR : Blk ((((wr.setCell ⟨w.heap.size + 1, 0, none⟩ (.int .i64 v0)).setCell ⟨w.heap.size + 1, 1, none⟩ (.int .i64 v1)).setCell ⟨w.heap.size + 1, 2, none⟩ (.int .i64 v2)).setCell ⟨w.heap.size + 1, 3, none⟩ (.int .i64 v3)) (w.heap.size + 1) #[.int .i64 v0, .int .i64 v1, .int .i64 v2, .int .i64 v3] 51 := (((hp.res.set 0 _).set 1 _).set 2 _).set 3 _
      have R0 : Hid (_ = _) := RR.cell 0
      have R1 : Hid (_ = _) := RR.cell 1
      have R2 : Hid (_ = _) := RR.cell 2
      have R3 : Hid (_ = _) := RR.cell 3
      clear hp RR
      go_wp2_with fail
      refine bodyPost_ret (v := .agg #[.int .i64 v0, .int .i64 v1, .int .i64 v2, .int .i64 v3]) (by simp [results, Tryz.results56, R0.out, R1.out, R2.out, R3.out, go_sem]) rfl ⟨by rw [HV.out], HB.out⟩

end Go.Proofs.YtlicdeppfhmfjaaGreatDoor.token

/- Wide numbers, times a small one. -/
namespace Go.Proofs.YtlicdeppfhmfjaaGreatDoor.token
open Go.Proofs.YtlicdeppfhmfjaaGreatDoor.words
open Go.RowKit
set_option linter.unusedSimpArgs false

/-- Three words as a wide number, and back. -/
theorem wn_ok {a b c V : Nat} (h : WN a b c V) : W3.ok ⟨a, b, c⟩ ∧ W3.val ⟨a, b, c⟩ = V := by
  have h1 := h.a1; have h2 := h.b1; have h3 := h.c1
  have h4 := h.val
  refine ⟨⟨⟨by show (0 : Int) ≤ a; omega, by show (a : Int) < _; omega⟩, ⟨by show (0 : Int) ≤ b; omega, by show (b : Int) < _; omega⟩, by show (0 : Int) ≤ c; omega, by show (c : Int) < _; omega⟩, ?_⟩
  unfold bigV at h4
  unfold W3.val
  simp only
  omega
theorem wn_of {X : W3} (h : X.ok) {V : Nat} (hV : X.val = V) : ∃ a b c : Nat, X = ⟨a, b, c⟩ ∧ WN a b c V := by
  obtain ⟨x, y, z⟩ := X
  obtain ⟨⟨h0, h0'⟩, ⟨h1, h1'⟩, h2, h2'⟩ := h
  simp only at *
  obtain ⟨a, rfl⟩ := Int.eq_ofNat_of_zero_le h0
  obtain ⟨b, rfl⟩ := Int.eq_ofNat_of_zero_le h1
  obtain ⟨c, rfl⟩ := Int.eq_ofNat_of_zero_le h2
  refine ⟨a, b, c, rfl, by omega, by omega, by omega, ?_⟩
  unfold W3.val at hV
  unfold bigV
  simp only at hV
  omega
theorem times_wn (a b c V m : Nat) (w : World) (h : WN a b c V) (hm : m < 4294967296) (hv : V * m < 79228162514264337593543950336) :
    Calls Tryz.prog 84 #[.agg #[.int .u32 (a : Int), .int .u32 (b : Int), .int .u32 (c : Int)], .int .u32 (m : Int)] w fun e w' =>
      ∃ (a' b' c' : Nat) (o : Int), e = .returned (.tuple #[.agg #[.int .u32 (a' : Int), .int .u32 (b' : Int), .int .u32 (c' : Int)], .int .u32 o]) ∧ WN a' b' c' (V * m) ∧ Below w.heap.size w w' := by
  have hk := wn_ok h
  have ht := times_any ⟨a, b, c⟩ m w hk.1 (by omega) (by omega)
  obtain ⟨a', b', c', he, hn⟩ := wn_of (X := timesW ⟨a, b, c⟩ m) (carry3_ok _ _ _) (V := V * m) (by
    rw [times_mod, hk.2]
    unfold top
    rw [← Int.natCast_mul, Int.emod_eq_of_lt (by omega) (by omega)])
  refine ht.mono ?_
  rintro e w' ⟨rfl, hb⟩
  exact ⟨a', b', c', _, by rw [he], hn, hb⟩

end Go.Proofs.YtlicdeppfhmfjaaGreatDoor.token

/- Twenty digits, read. -/
namespace Go.Proofs.YtlicdeppfhmfjaaGreatDoor.token
open Go.Proofs.YtlicdeppfhmfjaaGreatDoor.words Go.Proofs.YtlicdeppfhmfjaaGreatDoor.check
open Go.RowKit
set_option linter.unusedSimpArgs false

theorem plus_wn (a b c V m : Nat) (w : World) (h : WN a b c V) (hm : m < 4294967296) (hv : V + m < 79228162514264337593543950336) :
    Calls Tryz.prog 90 #[.agg #[.int .u32 (a : Int), .int .u32 (b : Int), .int .u32 (c : Int)], .int .u32 (m : Int)] w fun e w' =>
      ∃ (a' b' c' : Nat) (o : Int), e = .returned (.tuple #[.agg #[.int .u32 (a' : Int), .int .u32 (b' : Int), .int .u32 (c' : Int)], .int .u32 o]) ∧ WN a' b' c' (V + m) ∧ Below w.heap.size w w' := by
  have hk := wn_ok h
  have ht := plus_any ⟨a, b, c⟩ m w hk.1 (by omega) (by omega)
  obtain ⟨a', b', c', he, hn⟩ := wn_of (X := plusW ⟨a, b, c⟩ m) (carry3_ok _ _ _) (V := V + m) (by
    have h1 := plus_val ⟨a, b, c⟩ m
    have h2 := plus_over hk.1 (x := (m : Int)) (by omega) (by omega)
    have h3 := W3.bd (carry3_ok ((m : Int) + (a : Int)) b c)
    rw [hk.2] at h1
    have h4 : 0 ≤ (plusW ⟨a, b, c⟩ m).val := h3.1
    unfold top at h1
    omega)
  refine ht.mono ?_
  rintro e w' ⟨rfl, hb⟩
  exact ⟨a', b', c', _, by rw [he], hn, hb⟩

/-- While digits are read: k of them are. -/
structure Rd (w wr : World) (s : ByteArray) (k a b c : Nat) : Prop where
  below : Below w.heap.size w wr
  res : Blk wr w.heap.size #[.int .u32 0, .int .u32 0, .int .u32 0] 85
  num : Blk wr (w.heap.size + 1) #[.int .u32 (a : Int), .int .u32 (b : Int), .int .u32 (c : Int)] 85
  it : It wr (w.heap.size + 1 + 1) s k
  wn : WN a b c (dv (s.data.toList.take k))

/-- What read gives back for twenty bytes. -/
def ReadPost (w : World) (s : ByteArray) (e : Ending) (w' : World) : Prop :=
  Below w.heap.size w w' ∧ ((allD s.data.toList = true ∧ ∃ a b c : Nat, e = .returned (.tuple #[.agg #[.int .u32 (a : Int), .int .u32 (b : Int), .int .u32 (c : Int)], .int .i64 0]) ∧ WN a b c (dv s.data.toList)) ∨
    (allD s.data.toList = false ∧ e = .returned (.tuple #[.agg #[.int .u32 0, .int .u32 0, .int .u32 0], .int .i64 7])))

set_option maxHeartbeats 400000 in
theorem read_len (s : ByteArray) (w : World) (h : s.size ≠ 20) :
    Calls Tryz.prog 53 #[.string s] w fun e w' => e = .returned (.tuple #[.agg #[.int .u32 0, .int .u32 0, .int .u32 0], .int .i64 6]) ∧ Below w.heap.size w w' := by
  have hd : ((s.size : Int) != 20) = true := by simp; omega
  have hX := Blk.new w #[.int .u32 0, .int .u32 0, .int .u32 0] 85
  have HB : Hid (Below w.heap.size w (w.alloc (.cells #[.int .u32 0, .int .u32 0, .int .u32 0] 85))) := bel_box _ _
  have R0 : Hid (_ = _) := hX.cell 0
  have R1 : Hid (_ = _) := hX.cell 1
  have R2 : Hid (_ = _) := hX.cell 2
  clear h hX
  go_enter Tryz.func53, Tryz.ntmps53
  go_wp2_with fail
  refine bodyPost_ret (v := .tuple #[.agg #[.int .u32 0, .int .u32 0, .int .u32 0], .int .i64 6]) (by simp [results, Tryz.results53, R0.out, R1.out, R2.out, go_sem]) rfl ⟨rfl, HB.out⟩

set_option maxHeartbeats 2000000 in
theorem read_any (s : ByteArray) (w : World) (h : s.size = 20) :
    Calls Tryz.prog 53 #[.string s] w fun e w' => ReadPost w s e w' := by
  have hd : ((s.size : Int) != 20) = false := by simp; omega
  have hb0 : Below w.heap.size w (((w.alloc (.cells #[.int .u32 0, .int .u32 0, .int .u32 0] 85)).alloc (.cells #[.int .u32 0, .int .u32 0, .int .u32 0] 85)).iter s 0) := ((bel_box _ _).alloc (by simp) _).alloc (by simp; omega) _
  have HR0 : Hid (Rd w (((w.alloc (.cells #[.int .u32 0, .int .u32 0, .int .u32 0] 85)).alloc (.cells #[.int .u32 0, .int .u32 0, .int .u32 0] 85)).iter s 0) s 0 0 0 0) :=
    ⟨hb0, ((Blk.new _ _ _).alloc _).alloc _, (Blk.new1 _ _ _ _).alloc _, by
      have := World.iter_heap ((w.alloc (.cells #[.int .u32 0, .int .u32 0, .int .u32 0] 85)).alloc (.cells #[.int .u32 0, .int .u32 0, .int .u32 0] 85)) s 0
      rwa [show ((w.alloc (.cells #[.int .u32 0, .int .u32 0, .int .u32 0] 85)).alloc (.cells #[.int .u32 0, .int .u32 0, .int .u32 0] 85)).heap.size = w.heap.size + 1 + 1 by simp] at this, wn_zero⟩
  have HS : Hid (s.size = 20) := h
  clear h hb0
  go_enter Tryz.func53, Tryz.ntmps53
  go_wp2_with fail
  generalize (((w.alloc (.cells #[.int .u32 0, .int .u32 0, .int .u32 0] 85)).alloc (.cells #[.int .u32 0, .int .u32 0, .int .u32 0] 85)).iter s 0) = W0 at *
  go_loopw [] (fun wr => ∃ k a b c : Nat, k ≤ s.size ∧ allD (s.data.toList.take k) = true ∧ Rd w wr s k a b c) (fun wr => s.size - wr.iterPos (w.heap.size + 1 + 1))
  case atStart => exact ⟨0, 0, 0, 0, Nat.zero_le _, rfl, HR0.out⟩
  case round =>
    obtain ⟨k, a, b, c, hk, hok, hl⟩ := hrel
    have HK : Hid (allD (s.data.toList.take k) = true) := hok
    have HP0 : Hid (wr.iterPos (w.heap.size + 1 + 1) = k) := hl.it.pos
    clear hok
    by_cases hp : k < s.size
    · by_cases ha : (s[k]'hp).toNat < 128
      · have hnx : ∀ ty, (Instr.next (.pointer (some ⟨w.heap.size + 1 + 1, 0, none⟩)) true ty).run Tryz.prog wr = _ := fun ty => Lib.run_next_ascii_at wr (w.heap.size + 1 + 1) s k ty hl.it hp ha
        have HN : Hid (isD s[k] = false → allD s.data.toList = false) := allD_take_no s k hp
        have HL : Hid (((s[k].toNat : Nat) : Int) < 48 → isD s[k] = false) := fun a => isD_lo a
        have HH : Hid (57 < ((s[k].toNat : Nat) : Int) → isD s[k] = false) := fun a => isD_hi a
        have BN := Lib.below_iterAt hl.below (k := w.heap.size + 1 + 1) (by omega) s (k + 1)
        have IT : It (wr.iterAt (w.heap.size + 1 + 1) s (k + 1)) (w.heap.size + 1 + 1) s (k + 1) := Lib.iterAt_heap wr (w.heap.size + 1 + 1) s k (k + 1) hl.it
        have RN := hl.res.iter (I := w.heap.size + 1 + 1) s (k + 1) (by omega)
        have NN := hl.num.iter (I := w.heap.size + 1 + 1) s (k + 1) (by omega)
        have HW : Hid (WN a b c (dv (s.data.toList.take k))) := hl.wn
        have HD : Hid (dv (s.data.toList.take (k + 1)) = dv (s.data.toList.take k) * 10 + (s[k].toNat - 48)) := by
          show _ = _
          rw [take_snoc s k hp, dv_snoc]
        have HA : Hid (48 ≤ ((s[k].toNat : Nat) : Int) → ((s[k].toNat : Nat) : Int) ≤ 57 → allD (s.data.toList.take (k + 1)) = true) := fun h1 h2 => by
          rw [take_snoc s k hp, allD_append, HK.out]; simp [allD, isD_yes h1 h2]
        have HV : Hid (dv (s.data.toList.take k) < 100000000000000000000) := by
          have h1 := dv_lt _ HK.out
          have h2 : (s.data.toList.take k).length ≤ 20 := by
            rw [List.length_take, len_eq, HS.out]; omega
          exact Nat.lt_of_lt_of_le h1 (Nat.pow_le_pow_right (by decide) h2)
        clear ha hl
        generalize hwn : wr.iterAt (w.heap.size + 1 + 1) s (k + 1) = wn at *
        clear hwn
        have r0 := RN.cell 0
        have r1 := RN.cell 1
        have r2 := RN.cell 2
        have g0 := RN.free 0
        have g1 := RN.free 1
        have g2 := RN.free 2
        have HZ : Hid (Below w.heap.size w (set3 wn w.heap.size 0 0 0) ∧ Blk (set3 wn w.heap.size 0 0 0) w.heap.size #[.int .u32 0, .int .u32 0, .int .u32 0] 85) := ⟨bel_set3 BN _ _ _ _ (Nat.le_refl _), RN.put3 0 0 0⟩
        have c0 := NN.cell 0
        have c1 := NN.cell 1
        have c2 := NN.cell 2
        generalize s[k] = ch at *
        generalize dv (s.data.toList.take k) = V at *
        have HI : Hid (It wn (w.heap.size + 1 + 1) s (k + 1)) := IT
        have HRN : Hid (Blk wn w.heap.size #[.int .u32 0, .int .u32 0, .int .u32 0] 85) := RN
        have HNN : Hid (Blk wn (w.heap.size + 1) #[.int .u32 (a : Int), .int .u32 (b : Int), .int .u32 (c : Int)] 85) := NN
        have HBN : Hid (Below w.heap.size w wn) := BN
        clear IT RN NN BN
        generalize hcc : ch.toNat = z at *
        clear hcc
        by_cases h1 : (z : Int) < 48
        · have R0 : Hid (_ = _) := HZ.out.2.cell 0
          have R1 : Hid (_ = _) := HZ.out.2.cell 1
          have R2 : Hid (_ = _) := HZ.out.2.cell 2
          unfold set3 at *
          go_wp2_with fail
          refine bodyPost_ret (v := .tuple #[.agg #[.int .u32 0, .int .u32 0, .int .u32 0], .int .i64 7]) (by simp [results, Tryz.results53, R0.out, R1.out, R2.out, go_sem]) rfl ⟨HZ.out.1, .inr ⟨HN.out (HL.out h1), rfl⟩⟩
        · by_cases h2 : 57 < (z : Int)
          · have R0 : Hid (_ = _) := HZ.out.2.cell 0
            have R1 : Hid (_ = _) := HZ.out.2.cell 1
            have R2 : Hid (_ = _) := HZ.out.2.cell 2
            unfold set3 at *
            go_wp2_with fail
            refine bodyPost_ret (v := .tuple #[.agg #[.int .u32 0, .int .u32 0, .int .u32 0], .int .i64 7]) (by simp [results, Tryz.results53, R0.out, R1.out, R2.out, go_sem]) rfl ⟨HZ.out.1, .inr ⟨HN.out (HH.out h2), rfl⟩⟩
          · clear r0 r1 r2 g0 g1 g2 HZ HN HL HH
            obtain ⟨d, rfl⟩ : ∃ d : Nat, z = d + 48 := ⟨z - 48, by omega⟩
            have hd9 : (d : Int) ≤ 9 := by omega
            have ez : (((d + 48 : Nat) : Int)) = (d : Int) + 48 := by omega
            have ed : (d : Int) + 48 - 48 = (d : Int) := by omega
            have hwz : IntKind.u32.wrap (d : Int) = (d : Int) := by rw [IntKind.wrap_u32]; omega
            have HA' : Hid (allD (s.data.toList.take (k + 1)) = true) := HA.out (by omega) (by omega)
            have HD' : Hid (dv (s.data.toList.take (k + 1)) = V * 10 + d) := by
              have := HD.out
              rwa [show d + 48 - 48 = d by omega] at this
            have HT : Hid (∀ W, Calls Tryz.prog 84 #[.agg #[.int .u32 (a : Int), .int .u32 (b : Int), .int .u32 (c : Int)], .int .u32 10] W fun e w' => ∃ (a' b' c' : Nat) (o : Int), e = .returned (.tuple #[.agg #[.int .u32 (a' : Int), .int .u32 (b' : Int), .int .u32 (c' : Int)], .int .u32 o]) ∧ WN a' b' c' (V * 10) ∧ Below W.heap.size W w') := fun W => times_wn a b c V 10 W HW.out (by omega) (by have := HV.out; omega)
            have HPl : Hid (∀ (x y z : Nat) W, WN x y z (V * 10) → Calls Tryz.prog 90 #[.agg #[.int .u32 (x : Int), .int .u32 (y : Int), .int .u32 (z : Int)], .int .u32 (d : Int)] W fun e w' => ∃ (a' b' c' : Nat) (o : Int), e = .returned (.tuple #[.agg #[.int .u32 (a' : Int), .int .u32 (b' : Int), .int .u32 (c' : Int)], .int .u32 o]) ∧ WN a' b' c' (V * 10 + d) ∧ Below W.heap.size W w') := fun x y z W hW => plus_wn x y z (V * 10) d W hW (by omega) (by have := HV.out; omega)
            rw [ez] at h1 h2
            simp only [ez] at hnx
            clear HA HD HW HV ez
            go_wp2_with fail
            refine (HT.out _).mono ?_
            clear c0 c1 c2
            rintro e w2 ⟨a2, b2, c2, o2, rfl, hw2, hb2⟩
            have HW2 : Hid (WN a2 b2 c2 (V * 10)) := hw2
            have HB2 : Hid (Below w.heap.size w w2) := bel_step HBN.out hb2
            have HI2 : Hid (It w2 (w.heap.size + 1 + 1) s (k + 1)) := HI.out.next hb2
            have HR2 : Hid (Blk w2 w.heap.size #[.int .u32 0, .int .u32 0, .int .u32 0] 85) := HRN.out.next hb2
            have hN2 := HNN.out.next hb2
            have HN3 : Hid (Blk (set3 w2 (w.heap.size + 1) a2 b2 c2) (w.heap.size + 1) #[.int .u32 (a2 : Int), .int .u32 (b2 : Int), .int .u32 (c2 : Int)] 85) := hN2.put3 a2 b2 c2
            have HB3 : Hid (Below w.heap.size w (set3 w2 (w.heap.size + 1) a2 b2 c2)) := bel_set3 HB2.out _ _ _ _ (by omega)
            have HI3 : Hid (It (set3 w2 (w.heap.size + 1) a2 b2 c2) (w.heap.size + 1 + 1) s (k + 1)) := HI2.out.off3 (by omega) _ _ _
            have HR3 : Hid (Blk (set3 w2 (w.heap.size + 1) a2 b2 c2) w.heap.size #[.int .u32 0, .int .u32 0, .int .u32 0] 85) := HR2.out.off3 (by omega) _ _ _
            have t0 := hN2.cell 0
            have t1 := hN2.cell 1
            have t2 := hN2.cell 2
            have u0 := hN2.free 0
            have u1 := hN2.free 1
            have u2 := hN2.free 2
            clear hw2 hb2 hN2 HBN HI HRN HNN HB2 HI2 HR2 HT
            unfold set3 at HN3 HB3 HI3 HR3
            go_wp2_with fail
            generalize (((w2.setCell ⟨w.heap.size + 1, 0, none⟩ (.int .u32 (a2 : Int))).setCell ⟨w.heap.size + 1, 1, none⟩ (.int .u32 (b2 : Int))).setCell ⟨w.heap.size + 1, 2, none⟩ (.int .u32 (c2 : Int))) = W3 at *
            clear t0 t1 t2 u0 u1 u2
            refine (HPl.out _ _ _ _ HW2.out).mono ?_
            rintro e w4 ⟨a4, b4, c4, o4, rfl, hw4, hb4⟩
            have HB4 : Hid (Below w.heap.size w w4) := bel_step HB3.out hb4
            have hN4 := HN3.out.next hb4
            have HL : Hid (Rd w (set3 w4 (w.heap.size + 1) a4 b4 c4) s (k + 1) a4 b4 c4) := by
              refine ⟨bel_set3 HB4.out _ _ _ _ (by omega), (HR3.out.next hb4).off3 (by omega) _ _ _, hN4.put3 _ _ _, (HI3.out.next hb4).off3 (by omega) _ _ _, ?_⟩
              rw [HD'.out]; exact hw4
            have t0 := hN4.cell 0
            have t1 := hN4.cell 1
            have t2 := hN4.cell 2
            have u0 := hN4.free 0
            have u1 := hN4.free 1
            have u2 := hN4.free 2
            clear hw4 hb4 hN4 HB3 HI3 HR3 HN3 HB4 HPl HW2
            unfold set3 at HL
            go_wp2_with fail
            go_roundw
            case rel => exact ⟨k + 1, a4, b4, c4, by omega, HA'.out, HL.out⟩
            case measure =>
              rw [HP0.out, HL.out.it.pos]
              omega
      · have hd := (decode_high s k hp (by omega)).1
        have hnx : ∀ ty, (Instr.next (.pointer (some ⟨w.heap.size + 1 + 1, 0, none⟩)) true ty).run Tryz.prog wr = _ := fun ty => Lib.run_next_any_at wr (w.heap.size + 1 + 1) s k ty hl.it hp
        have HN : Hid (allD s.data.toList = false) := allD_take_no s k hp (isD_hi (by omega))
        have BN := fun p => Lib.below_iterAt hl.below (k := w.heap.size + 1 + 1) (by omega) s p
        have RN := fun p => hl.res.iter (I := w.heap.size + 1 + 1) s p (by omega)
        clear ha hl
        have hd2 := decode_le s k
        generalize (Utf8.decode s k).1 = r at *
        generalize (Utf8.decode s k).2 = n at *
        have BN := BN (k + n)
        have RN := RN (k + n)
        generalize hwn : wr.iterAt (w.heap.size + 1 + 1) s (k + n) = wn at *
        clear hwn
        have r0 := RN.cell 0
        have r1 := RN.cell 1
        have r2 := RN.cell 2
        have g0 := RN.free 0
        have g1 := RN.free 1
        have g2 := RN.free 2
        have HZ : Hid (Below w.heap.size w (set3 wn w.heap.size 0 0 0) ∧ Blk (set3 wn w.heap.size 0 0 0) w.heap.size #[.int .u32 0, .int .u32 0, .int .u32 0] 85) := ⟨bel_set3 BN _ _ _ _ (Nat.le_refl _), RN.put3 0 0 0⟩
        have R0 : Hid (_ = _) := HZ.out.2.cell 0
        have R1 : Hid (_ = _) := HZ.out.2.cell 1
        have R2 : Hid (_ = _) := HZ.out.2.cell 2
        clear BN RN
        unfold set3 at *
        go_wp2_with fail
        refine bodyPost_ret (v := .tuple #[.agg #[.int .u32 0, .int .u32 0, .int .u32 0], .int .i64 7]) (by simp [results, Tryz.results53, R0.out, R1.out, R2.out, go_sem]) rfl ⟨HZ.out.1, .inr ⟨HN.out, rfl⟩⟩
    · have hnx : ∀ ty, (Instr.next (.pointer (some ⟨w.heap.size + 1 + 1, 0, none⟩)) true ty).run Tryz.prog wr = _ := fun ty => Lib.run_next_end_at wr (w.heap.size + 1 + 1) s k ty hl.it hp
      have hkt : s.data.toList.take k = s.data.toList := List.take_of_length_le (by rw [len_eq]; omega)
      have HP : Hid (allD s.data.toList = true ∧ WN a b c (dv s.data.toList)) := by
        have h1 := HK.out
        have h2 := hl.wn
        rw [hkt] at h1 h2
        exact ⟨h1, h2⟩
      have r0 := hl.res.cell 0
      have r1 := hl.res.cell 1
      have r2 := hl.res.cell 2
      have g0 := hl.res.free 0
      have g1 := hl.res.free 1
      have g2 := hl.res.free 2
      have c0 := hl.num.cell 0
      have c1 := hl.num.cell 1
      have c2 := hl.num.cell 2
      have HZ : Hid (Below w.heap.size w (set3 wr w.heap.size a b c) ∧ Blk (set3 wr w.heap.size a b c) w.heap.size #[.int .u32 (a : Int), .int .u32 (b : Int), .int .u32 (c : Int)] 85) := ⟨bel_set3 hl.below _ _ _ _ (Nat.le_refl _), hl.res.put3 a b c⟩
      have R0 : Hid (_ = _) := HZ.out.2.cell 0
      have R1 : Hid (_ = _) := HZ.out.2.cell 1
      have R2 : Hid (_ = _) := HZ.out.2.cell 2
      clear hl hkt
      unfold set3 at *
      go_wp2_with fail
      refine bodyPost_ret (v := .tuple #[.agg #[.int .u32 (a : Int), .int .u32 (b : Int), .int .u32 (c : Int)], .int .i64 0]) (by simp [results, Tryz.results53, R0.out, R1.out, R2.out, go_sem]) rfl ⟨HZ.out.1, .inl ⟨HP.out.1, a, b, c, rfl, HP.out.2⟩⟩

end Go.Proofs.YtlicdeppfhmfjaaGreatDoor.token

/- What Parse gives back. -/
namespace Go.Proofs.YtlicdeppfhmfjaaGreatDoor.token
open Go.Proofs.YtlicdeppfhmfjaaGreatDoor.words Go.Proofs.YtlicdeppfhmfjaaGreatDoor.check
open Go.RowKit
set_option linter.unusedSimpArgs false

theorem over_wn (a b c V : Nat) (w : World) (h : WN a b c V) :
    Calls Tryz.prog 55 #[.agg #[.int .u32 (a : Int), .int .u32 (b : Int), .int .u32 (c : Int)], .int .u32 97] w fun e w' =>
      ∃ a' b' c' : Nat, e = .returned (.tuple #[.agg #[.int .u32 (a' : Int), .int .u32 (b' : Int), .int .u32 (c' : Int)], .int .u32 ((V % 97 : Nat) : Int), .int .i64 0]) ∧ WN a' b' c' (V / 97) ∧ Below w.heap.size w w' := by
  have hk := wn_ok h
  have ho := over_any ⟨a, b, c⟩ 97 w hk.1 (by omega) (by omega)
  have h1 := over_val ⟨a, b, c⟩ 97
  have h2 := over_left (w := ⟨a, b, c⟩) 97 (by omega)
  rw [hk.2] at h1
  have hr : overR ⟨a, b, c⟩ 97 = ((V % 97 : Nat) : Int) := by omega
  obtain ⟨a', b', c', he, hn⟩ := wn_of (over_ok hk.1 (d := 97) (by omega)) (V := V / 97) (by omega)
  refine ho.mono ?_
  rintro e w' ⟨rfl, hb⟩
  exact ⟨a', b', c', by rw [he, hr], hn, hb⟩
theorem cmp_wn (a b c V : Nat) (w : World) (h : WN a b c V) :
    Calls Tryz.prog 54 #[.agg #[.int .u32 (a : Int), .int .u32 (b : Int), .int .u32 (c : Int)], .agg #[.int .u32 0, .int .u32 0, .int .u32 4]] w fun e w' => e = .returned (.int .i64 (cmp3 (V : Int) 73786976294838206464)) ∧ Below w.heap.size w w' := by
  have hk := wn_ok h
  have hc := cmp_any ⟨a, b, c⟩ ⟨0, 0, 4⟩ w hk.1 (by unfold W3.ok; decide)
  rwa [hk.2, show W3.val ⟨0, 0, 4⟩ = 73786976294838206464 by unfold W3.val; decide] at hc

theorem bel_set4 {w w' : World} (h : Below w.heap.size w w') (x y z u : Int) : Below w.heap.size w (((((w').setCell ⟨w.heap.size, 0, none⟩ (.int .i64 x)).setCell ⟨w.heap.size, 1, none⟩ (.int .i64 y)).setCell ⟨w.heap.size, 2, none⟩ (.int .i64 z)).setCell ⟨w.heap.size, 3, none⟩ (.int .i64 u)) := bel_set (bel_set (bel_set (bel_set h _ _ _ (Nat.le_refl _)) _ _ _ (Nat.le_refl _)) _ _ _ (Nat.le_refl _)) _ _ _ (Nat.le_refl _)
theorem blk_set4 {w w' : World} {p q r v : Value} (h : Blk w' w.heap.size #[p, q, r, v] 51) (x y z u : Int) : Blk (((((w').setCell ⟨w.heap.size, 0, none⟩ (.int .i64 x)).setCell ⟨w.heap.size, 1, none⟩ (.int .i64 y)).setCell ⟨w.heap.size, 2, none⟩ (.int .i64 z)).setCell ⟨w.heap.size, 3, none⟩ (.int .i64 u)) w.heap.size #[.int .i64 x, .int .i64 y, .int .i64 z, .int .i64 u] 51 := (((h.set 0 _).set 1 _).set 2 _).set 3 _

set_option maxHeartbeats 400000 in
theorem parse_6 (s : ByteArray) (w : World) (h : s.size ≠ 20) :
    Calls Tryz.prog 27 #[.string s] w fun e w' => e = .returned (.tuple #[noTok, .int .i64 6]) ∧ Below w.heap.size w w' := by
  have HF : Hid (∀ W, Calls Tryz.prog 53 #[.string s] W fun e w' => e = .returned (.tuple #[.agg #[.int .u32 0, .int .u32 0, .int .u32 0], .int .i64 6]) ∧ Below W.heap.size W w') := fun W => read_len s W h
  have hR0 := Blk.new w #[.int .i64 0, .int .i64 0, .int .i64 0, .int .i64 0] 51
  have HR0 : Hid (Blk (w.alloc (.cells #[.int .i64 0, .int .i64 0, .int .i64 0, .int .i64 0] 51)) w.heap.size #[.int .i64 0, .int .i64 0, .int .i64 0, .int .i64 0] 51) := hR0
  have HB0 : Hid (Below w.heap.size w (w.alloc (.cells #[.int .i64 0, .int .i64 0, .int .i64 0, .int .i64 0] 51))) := bel_box _ _
  clear hR0
  clear h
  go_enter Tryz.func27, Tryz.ntmps27
  go_wp2_with fail
  refine (HF.out _).mono ?_
  rintro e w1 ⟨rfl, hb1⟩
  have hR := (HR0.out.next hb1).alloc (.cells #[.int .u32 0, .int .u32 0, .int .u32 0] 85)
  have hB := (bel_step HB0.out hb1).alloc (bel_step HB0.out hb1).size (.cells #[.int .u32 0, .int .u32 0, .int .u32 0] 85)
  clear hb1 HF HR0 HB0
  have RR := blk_set4 (w := w) hR (0) (0) (0) (0)
  have HBB : Hid (Below w.heap.size w (((((w1.alloc (.cells #[.int .u32 0, .int .u32 0, .int .u32 0] 85)).setCell ⟨w.heap.size, 0, none⟩ (.int .i64 0)).setCell ⟨w.heap.size, 1, none⟩ (.int .i64 0)).setCell ⟨w.heap.size, 2, none⟩ (.int .i64 0)).setCell ⟨w.heap.size, 3, none⟩ (.int .i64 0))) := bel_set4 hB (0) (0) (0) (0)
  have R0 : Hid (_ = _) := RR.cell 0
  have R1 : Hid (_ = _) := RR.cell 1
  have R2 : Hid (_ = _) := RR.cell 2
  have R3 : Hid (_ = _) := RR.cell 3
  have p0 := hR.cell 0
  have p1 := hR.cell 1
  have p2 := hR.cell 2
  have p3 := hR.cell 3
  have f0 := hR.free 0
  have f1 := hR.free 1
  have f2 := hR.free 2
  have f3 := hR.free 3
  clear RR hR hB
  go_wp2_with fail
  refine bodyPost_ret (v := .tuple #[.agg #[.int .i64 0, .int .i64 0, .int .i64 0, .int .i64 0], .int .i64 6]) (by simp [results, Tryz.results27, R0.out, R1.out, R2.out, R3.out, go_sem]) rfl ⟨rfl, HBB.out⟩

set_option maxHeartbeats 400000 in
theorem parse_7 (s : ByteArray) (w : World) (h : s.size = 20) (h1 : allD s.data.toList = false) :
    Calls Tryz.prog 27 #[.string s] w fun e w' => e = .returned (.tuple #[noTok, .int .i64 7]) ∧ Below w.heap.size w w' := by
  have HF : Hid (∀ W, Calls Tryz.prog 53 #[.string s] W fun e w' => e = .returned (.tuple #[.agg #[.int .u32 0, .int .u32 0, .int .u32 0], .int .i64 7]) ∧ Below W.heap.size W w') := fun W => (read_any s W h).mono fun e w' hp => by
    rcases hp.2 with ⟨hx, _⟩ | ⟨_, hx⟩
    · rw [h1] at hx; cases hx
    · exact ⟨hx, hp.1⟩
  have hR0 := Blk.new w #[.int .i64 0, .int .i64 0, .int .i64 0, .int .i64 0] 51
  have HR0 : Hid (Blk (w.alloc (.cells #[.int .i64 0, .int .i64 0, .int .i64 0, .int .i64 0] 51)) w.heap.size #[.int .i64 0, .int .i64 0, .int .i64 0, .int .i64 0] 51) := hR0
  have HB0 : Hid (Below w.heap.size w (w.alloc (.cells #[.int .i64 0, .int .i64 0, .int .i64 0, .int .i64 0] 51))) := bel_box _ _
  clear hR0
  clear h h1
  go_enter Tryz.func27, Tryz.ntmps27
  go_wp2_with fail
  refine (HF.out _).mono ?_
  rintro e w1 ⟨rfl, hb1⟩
  have hR := (HR0.out.next hb1).alloc (.cells #[.int .u32 0, .int .u32 0, .int .u32 0] 85)
  have hB := (bel_step HB0.out hb1).alloc (bel_step HB0.out hb1).size (.cells #[.int .u32 0, .int .u32 0, .int .u32 0] 85)
  clear hb1 HF HR0 HB0
  have RR := blk_set4 (w := w) hR (0) (0) (0) (0)
  have HBB : Hid (Below w.heap.size w (((((w1.alloc (.cells #[.int .u32 0, .int .u32 0, .int .u32 0] 85)).setCell ⟨w.heap.size, 0, none⟩ (.int .i64 0)).setCell ⟨w.heap.size, 1, none⟩ (.int .i64 0)).setCell ⟨w.heap.size, 2, none⟩ (.int .i64 0)).setCell ⟨w.heap.size, 3, none⟩ (.int .i64 0))) := bel_set4 hB (0) (0) (0) (0)
  have R0 : Hid (_ = _) := RR.cell 0
  have R1 : Hid (_ = _) := RR.cell 1
  have R2 : Hid (_ = _) := RR.cell 2
  have R3 : Hid (_ = _) := RR.cell 3
  have p0 := hR.cell 0
  have p1 := hR.cell 1
  have p2 := hR.cell 2
  have p3 := hR.cell 3
  have f0 := hR.free 0
  have f1 := hR.free 1
  have f2 := hR.free 2
  have f3 := hR.free 3
  clear RR hR hB
  go_wp2_with fail
  refine bodyPost_ret (v := .tuple #[.agg #[.int .i64 0, .int .i64 0, .int .i64 0, .int .i64 0], .int .i64 7]) (by simp [results, Tryz.results27, R0.out, R1.out, R2.out, R3.out, go_sem]) rfl ⟨rfl, HBB.out⟩

set_option maxHeartbeats 1000000 in
theorem parse_big2 (s : ByteArray) (V : Nat) (w : World) (ht : TTab w) (h : s.size = 20) (h1 : allD s.data.toList = true) (hV : dv s.data.toList = V) (h2 : 73786976294838206464 ≤ V) :
    Calls Tryz.prog 27 #[.string s] w fun e w' => e = .returned (.tuple #[noTok, .int .i64 2]) ∧ Below w.heap.size w w' := by
  have HF : Hid (∀ W, Calls Tryz.prog 53 #[.string s] W fun e w' => ∃ a b c : Nat, e = .returned (.tuple #[.agg #[.int .u32 (a : Int), .int .u32 (b : Int), .int .u32 (c : Int)], .int .i64 0]) ∧ WN a b c V ∧ Below W.heap.size W w') := fun W => (read_any s W h).mono fun e w' hp => by
    rcases hp.2 with ⟨_, a, b, c, he, hw⟩ | ⟨hx, _⟩
    · rw [hV] at hw; exact ⟨a, b, c, he, hw, hp.1⟩
    · rw [h1] at hx; cases hx
  have hR0 := Blk.new w #[.int .i64 0, .int .i64 0, .int .i64 0, .int .i64 0] 51
  have HR0 : Hid (Blk (w.alloc (.cells #[.int .i64 0, .int .i64 0, .int .i64 0, .int .i64 0] 51)) w.heap.size #[.int .i64 0, .int .i64 0, .int .i64 0, .int .i64 0] 51) := hR0
  have HB0 : Hid (Below w.heap.size w (w.alloc (.cells #[.int .i64 0, .int .i64 0, .int .i64 0, .int .i64 0] 51))) := bel_box _ _
  clear hR0
  have HT0 : Hid (TTab w) := ht
  have HC : Hid (cmp3 (V : Int) 73786976294838206464 = (if (73786976294838206464 : Int) < V then 1 else 0) ∧ True) := ⟨by unfold cmp3; rw [if_neg (by omega)], trivial⟩
  have hcc : (0 : Int) ≤ (if (73786976294838206464 : Int) < V then 1 else 0) := by split <;> omega
  generalize (if (73786976294838206464 : Int) < (V : Int) then (1 : Int) else 0) = cc at *
  clear h2
  clear h h1 hV ht
  go_enter Tryz.func27, Tryz.ntmps27
  go_wp2_with fail
  refine (HF.out _).mono ?_
  rintro e w1 ⟨a, b, c, rfl, hw1, hb1⟩
  have HR1 : Hid (Blk (w1.alloc (.cells #[.int .u32 (a : Int), .int .u32 (b : Int), .int .u32 (c : Int)] 85)) w.heap.size #[.int .i64 0, .int .i64 0, .int .i64 0, .int .i64 0] 51) := (HR0.out.next hb1).alloc _
  have HB1 : Hid (Below w.heap.size w (w1.alloc (.cells #[.int .u32 (a : Int), .int .u32 (b : Int), .int .u32 (c : Int)] 85))) := (bel_step HB0.out hb1).alloc (bel_step HB0.out hb1).size _
  have hN1 := Blk.new w1 #[.int .u32 (a : Int), .int .u32 (b : Int), .int .u32 (c : Int)] 85
  have HN1 : Hid (Blk (w1.alloc (.cells #[.int .u32 (a : Int), .int .u32 (b : Int), .int .u32 (c : Int)] 85)) w1.heap.size #[.int .u32 (a : Int), .int .u32 (b : Int), .int .u32 (c : Int)] 85) := hN1
  have HW : Hid (WN a b c V) := hw1
  have c0 := hN1.cell 0
  have c1 := hN1.cell 1
  have c2 := hN1.cell 2
  clear hb1 HF HR0 HB0 hw1 hN1
  go_wp2_with fail
  refine (cmp_wn a b c V _ HW.out).mono ?_
  rintro e w2 ⟨rfl, hb2⟩
  have HR2 : Hid (Blk w2 w.heap.size #[.int .i64 0, .int .i64 0, .int .i64 0, .int .i64 0] 51) := HR1.out.next hb2
  have HB2 : Hid (Below w.heap.size w w2) := bel_step HB1.out hb2
  have hN2 := HN1.out.next hb2
  have n0 := hN2.cell 0
  have n1 := hN2.cell 1
  have n2 := hN2.cell 2
  clear hb2 c0 c1 c2 HR1 HB1 HN1 hN2
  rw [HC.out.1]
  have hR := HR2.out
  have hB := HB2.out
  clear HR2 HB2
  have RR := blk_set4 (w := w) hR (0) (0) (0) (0)
  have HBB : Hid (Below w.heap.size w (((((w2).setCell ⟨w.heap.size, 0, none⟩ (.int .i64 0)).setCell ⟨w.heap.size, 1, none⟩ (.int .i64 0)).setCell ⟨w.heap.size, 2, none⟩ (.int .i64 0)).setCell ⟨w.heap.size, 3, none⟩ (.int .i64 0))) := bel_set4 hB (0) (0) (0) (0)
  have R0 : Hid (_ = _) := RR.cell 0
  have R1 : Hid (_ = _) := RR.cell 1
  have R2 : Hid (_ = _) := RR.cell 2
  have R3 : Hid (_ = _) := RR.cell 3
  have p0 := hR.cell 0
  have p1 := hR.cell 1
  have p2 := hR.cell 2
  have p3 := hR.cell 3
  have f0 := hR.free 0
  have f1 := hR.free 1
  have f2 := hR.free 2
  have f3 := hR.free 3
  clear RR hR hB
  go_wp2_with fail
  refine bodyPost_ret (v := .tuple #[.agg #[.int .i64 0, .int .i64 0, .int .i64 0, .int .i64 0], .int .i64 2]) (by simp [results, Tryz.results27, R0.out, R1.out, R2.out, R3.out, go_sem]) rfl ⟨rfl, HBB.out⟩

set_option maxHeartbeats 1000000 in
theorem parse_8 (s : ByteArray) (V : Nat) (w : World) (ht : TTab w) (h : s.size = 20) (h1 : allD s.data.toList = true) (hV : dv s.data.toList = V) (h2 : V < 73786976294838206464) (h3 : V % 97 ≠ 0) :
    Calls Tryz.prog 27 #[.string s] w fun e w' => e = .returned (.tuple #[noTok, .int .i64 8]) ∧ Below w.heap.size w w' := by
  have HF : Hid (∀ W, Calls Tryz.prog 53 #[.string s] W fun e w' => ∃ a b c : Nat, e = .returned (.tuple #[.agg #[.int .u32 (a : Int), .int .u32 (b : Int), .int .u32 (c : Int)], .int .i64 0]) ∧ WN a b c V ∧ Below W.heap.size W w') := fun W => (read_any s W h).mono fun e w' hp => by
    rcases hp.2 with ⟨_, a, b, c, he, hw⟩ | ⟨hx, _⟩
    · rw [hV] at hw; exact ⟨a, b, c, he, hw, hp.1⟩
    · rw [h1] at hx; cases hx
  have hR0 := Blk.new w #[.int .i64 0, .int .i64 0, .int .i64 0, .int .i64 0] 51
  have HR0 : Hid (Blk (w.alloc (.cells #[.int .i64 0, .int .i64 0, .int .i64 0, .int .i64 0] 51)) w.heap.size #[.int .i64 0, .int .i64 0, .int .i64 0, .int .i64 0] 51) := hR0
  have HB0 : Hid (Below w.heap.size w (w.alloc (.cells #[.int .i64 0, .int .i64 0, .int .i64 0, .int .i64 0] 51))) := bel_box _ _
  clear hR0
  have HT0 : Hid (TTab w) := ht
  have HC : Hid (cmp3 (V : Int) 73786976294838206464 = -1) := (by unfold cmp3; rw [if_pos (by omega)] : cmp3 (V : Int) 73786976294838206464 = -1)
  obtain ⟨rr, hrr⟩ : ∃ rr : Int, ((V % 97 : Nat) : Int) = rr := ⟨_, rfl⟩
  have hr : (rr != 0) = true := by simp; omega
  have HRR : Hid (((V % 97 : Nat) : Int) = rr) := hrr
  clear h2 h3 hrr
  clear h h1 hV ht
  go_enter Tryz.func27, Tryz.ntmps27
  go_wp2_with fail
  refine (HF.out _).mono ?_
  rintro e w1 ⟨a, b, c, rfl, hw1, hb1⟩
  have HR1 : Hid (Blk (w1.alloc (.cells #[.int .u32 (a : Int), .int .u32 (b : Int), .int .u32 (c : Int)] 85)) w.heap.size #[.int .i64 0, .int .i64 0, .int .i64 0, .int .i64 0] 51) := (HR0.out.next hb1).alloc _
  have HB1 : Hid (Below w.heap.size w (w1.alloc (.cells #[.int .u32 (a : Int), .int .u32 (b : Int), .int .u32 (c : Int)] 85))) := (bel_step HB0.out hb1).alloc (bel_step HB0.out hb1).size _
  have hN1 := Blk.new w1 #[.int .u32 (a : Int), .int .u32 (b : Int), .int .u32 (c : Int)] 85
  have HN1 : Hid (Blk (w1.alloc (.cells #[.int .u32 (a : Int), .int .u32 (b : Int), .int .u32 (c : Int)] 85)) w1.heap.size #[.int .u32 (a : Int), .int .u32 (b : Int), .int .u32 (c : Int)] 85) := hN1
  have HW : Hid (WN a b c V) := hw1
  have c0 := hN1.cell 0
  have c1 := hN1.cell 1
  have c2 := hN1.cell 2
  clear hb1 HF HR0 HB0 hw1 hN1
  go_wp2_with fail
  refine (cmp_wn a b c V _ HW.out).mono ?_
  rintro e w2 ⟨rfl, hb2⟩
  have HR2 : Hid (Blk w2 w.heap.size #[.int .i64 0, .int .i64 0, .int .i64 0, .int .i64 0] 51) := HR1.out.next hb2
  have HB2 : Hid (Below w.heap.size w w2) := bel_step HB1.out hb2
  have hN2 := HN1.out.next hb2
  have n0 := hN2.cell 0
  have n1 := hN2.cell 1
  have n2 := hN2.cell 2
  clear hb2 c0 c1 c2 HR1 HB1 HN1 hN2
  rw [HC.out]
  go_wp2_with fail
  refine (over_wn a b c V _ HW.out).mono ?_
  rintro e w3 ⟨a', b', c', rfl, hw3, hb3⟩
  rw [HRR.out]
  have HR3 : Hid (Blk (w3.alloc (.cells #[.int .u32 (a' : Int), .int .u32 (b' : Int), .int .u32 (c' : Int)] 85)) w.heap.size #[.int .i64 0, .int .i64 0, .int .i64 0, .int .i64 0] 51) := (HR2.out.next hb3).alloc _
  have HB3 : Hid (Below w.heap.size w (w3.alloc (.cells #[.int .u32 (a' : Int), .int .u32 (b' : Int), .int .u32 (c' : Int)] 85))) := (bel_step HB2.out hb3).alloc (bel_step HB2.out hb3).size _
  have hN3 := Blk.new w3 #[.int .u32 (a' : Int), .int .u32 (b' : Int), .int .u32 (c' : Int)] 85
  have HW3 : Hid (WN a' b' c' (V / 97)) := hw3
  clear hb3 n0 n1 n2 HR2 HB2 HW HC hw3
  clear HW3 hN3 HRR
  have hR := HR3.out
  have hB := HB3.out
  clear HR3 HB3
  have RR := blk_set4 (w := w) hR (0) (0) (0) (0)
  have HBB : Hid (Below w.heap.size w (((((w3.alloc (.cells #[.int .u32 (a' : Int), .int .u32 (b' : Int), .int .u32 (c' : Int)] 85)).setCell ⟨w.heap.size, 0, none⟩ (.int .i64 0)).setCell ⟨w.heap.size, 1, none⟩ (.int .i64 0)).setCell ⟨w.heap.size, 2, none⟩ (.int .i64 0)).setCell ⟨w.heap.size, 3, none⟩ (.int .i64 0))) := bel_set4 hB (0) (0) (0) (0)
  have R0 : Hid (_ = _) := RR.cell 0
  have R1 : Hid (_ = _) := RR.cell 1
  have R2 : Hid (_ = _) := RR.cell 2
  have R3 : Hid (_ = _) := RR.cell 3
  have p0 := hR.cell 0
  have p1 := hR.cell 1
  have p2 := hR.cell 2
  have p3 := hR.cell 3
  have f0 := hR.free 0
  have f1 := hR.free 1
  have f2 := hR.free 2
  have f3 := hR.free 3
  clear RR hR hB
  go_wp2_with fail
  refine bodyPost_ret (v := .tuple #[.agg #[.int .i64 0, .int .i64 0, .int .i64 0, .int .i64 0], .int .i64 8]) (by simp [results, Tryz.results27, R0.out, R1.out, R2.out, R3.out, go_sem]) rfl ⟨rfl, HBB.out⟩

set_option maxHeartbeats 1000000 in
theorem parse_2 (s : ByteArray) (V : Nat) (w : World) (ht : TTab w) (h : s.size = 20) (h1 : allD s.data.toList = true) (hV : dv s.data.toList = V) (h2 : V < 73786976294838206464) (h3 : V % 97 = 0) (k : Tok) (hk : tokOf (V / 97) = k) (h4 : ¬ k.ok) :
    Calls Tryz.prog 27 #[.string s] w fun e w' => e = .returned (.tuple #[noTok, .int .i64 2]) ∧ Below w.heap.size w w' := by
  have HF : Hid (∀ W, Calls Tryz.prog 53 #[.string s] W fun e w' => ∃ a b c : Nat, e = .returned (.tuple #[.agg #[.int .u32 (a : Int), .int .u32 (b : Int), .int .u32 (c : Int)], .int .i64 0]) ∧ WN a b c V ∧ Below W.heap.size W w') := fun W => (read_any s W h).mono fun e w' hp => by
    rcases hp.2 with ⟨_, a, b, c, he, hw⟩ | ⟨hx, _⟩
    · rw [hV] at hw; exact ⟨a, b, c, he, hw, hp.1⟩
    · rw [h1] at hx; cases hx
  have hR0 := Blk.new w #[.int .i64 0, .int .i64 0, .int .i64 0, .int .i64 0] 51
  have HR0 : Hid (Blk (w.alloc (.cells #[.int .i64 0, .int .i64 0, .int .i64 0, .int .i64 0] 51)) w.heap.size #[.int .i64 0, .int .i64 0, .int .i64 0, .int .i64 0] 51) := hR0
  have HB0 : Hid (Below w.heap.size w (w.alloc (.cells #[.int .i64 0, .int .i64 0, .int .i64 0, .int .i64 0] 51))) := bel_box _ _
  clear hR0
  have HT0 : Hid (TTab w) := ht
  have HC : Hid (cmp3 (V : Int) 73786976294838206464 = -1) := (by unfold cmp3; rw [if_pos (by omega)] : cmp3 (V : Int) 73786976294838206464 = -1)
  have hff : (flawT k.c k.i k.a k.t != 0) = true := by
    simp only [bne_iff_ne, ne_eq]
    exact fun h => h4 (flaw_tok.1 h)
  have hrz : V % 97 = 0 := h3
  have HFL : Hid (∀ W, TTab W → Calls Tryz.prog 57 #[.agg #[.int .i64 (k.c : Int), .int .i64 (k.i : Int), .int .i64 (k.a : Int), .int .i64 (k.t : Int)]] W fun e w' => e = .returned (.int .i64 (flawT k.c k.i k.a k.t)) ∧ Below W.heap.size W w') := fun W hW => flaw_any k.c k.i k.a k.t W hW
  have HK : Hid (tokOf (V / 97) = k) := hk
  clear h2 h3 h4 hk
  generalize flawT k.c k.i k.a k.t = ff at *
  clear h h1 hV ht
  go_enter Tryz.func27, Tryz.ntmps27
  go_wp2_with fail
  refine (HF.out _).mono ?_
  rintro e w1 ⟨a, b, c, rfl, hw1, hb1⟩
  have HR1 : Hid (Blk (w1.alloc (.cells #[.int .u32 (a : Int), .int .u32 (b : Int), .int .u32 (c : Int)] 85)) w.heap.size #[.int .i64 0, .int .i64 0, .int .i64 0, .int .i64 0] 51) := (HR0.out.next hb1).alloc _
  have HB1 : Hid (Below w.heap.size w (w1.alloc (.cells #[.int .u32 (a : Int), .int .u32 (b : Int), .int .u32 (c : Int)] 85))) := (bel_step HB0.out hb1).alloc (bel_step HB0.out hb1).size _
  have hN1 := Blk.new w1 #[.int .u32 (a : Int), .int .u32 (b : Int), .int .u32 (c : Int)] 85
  have HN1 : Hid (Blk (w1.alloc (.cells #[.int .u32 (a : Int), .int .u32 (b : Int), .int .u32 (c : Int)] 85)) w1.heap.size #[.int .u32 (a : Int), .int .u32 (b : Int), .int .u32 (c : Int)] 85) := hN1
  have HW : Hid (WN a b c V) := hw1
  have c0 := hN1.cell 0
  have c1 := hN1.cell 1
  have c2 := hN1.cell 2
  clear hb1 HF HR0 HB0 hw1 hN1
  go_wp2_with fail
  refine (cmp_wn a b c V _ HW.out).mono ?_
  rintro e w2 ⟨rfl, hb2⟩
  have HR2 : Hid (Blk w2 w.heap.size #[.int .i64 0, .int .i64 0, .int .i64 0, .int .i64 0] 51) := HR1.out.next hb2
  have HB2 : Hid (Below w.heap.size w w2) := bel_step HB1.out hb2
  have hN2 := HN1.out.next hb2
  have n0 := hN2.cell 0
  have n1 := hN2.cell 1
  have n2 := hN2.cell 2
  clear hb2 c0 c1 c2 HR1 HB1 HN1 hN2
  rw [HC.out]
  go_wp2_with fail
  refine (over_wn a b c V _ HW.out).mono ?_
  rintro e w3 ⟨a', b', c', rfl, hw3, hb3⟩
  rw [hrz]
  have HR3 : Hid (Blk (w3.alloc (.cells #[.int .u32 (a' : Int), .int .u32 (b' : Int), .int .u32 (c' : Int)] 85)) w.heap.size #[.int .i64 0, .int .i64 0, .int .i64 0, .int .i64 0] 51) := (HR2.out.next hb3).alloc _
  have HB3 : Hid (Below w.heap.size w (w3.alloc (.cells #[.int .u32 (a' : Int), .int .u32 (b' : Int), .int .u32 (c' : Int)] 85))) := (bel_step HB2.out hb3).alloc (bel_step HB2.out hb3).size _
  have hN3 := Blk.new w3 #[.int .u32 (a' : Int), .int .u32 (b' : Int), .int .u32 (c' : Int)] 85
  have HW3 : Hid (WN a' b' c' (V / 97)) := hw3
  clear hb3 n0 n1 n2 HR2 HB2 HW HC hw3
  have HT3 : Hid (TTab (w3.alloc (.cells #[.int .u32 (a' : Int), .int .u32 (b' : Int), .int .u32 (c' : Int)] 85))) := HT0.out.below HB3.out
  have m0 := hN3.cell 0
  have m1 := hN3.cell 1
  have m2 := hN3.cell 2
  clear hN3
  go_wp2_with fail
  refine (unpack_any a' b' c' (V / 97) _ HW3.out HT3.out).mono ?_
  rintro e w4 ⟨he4, hb4⟩
  have HE4 : Hid (e = .returned (tokOf (V / 97)).v) := he4
  clear he4
  rw [HK.out] at HE4
  unfold Tok.v at HE4
  obtain rfl := HE4.out
  clear HE4
  have HR4 : Hid (Blk (w4.alloc (.cells #[.int .i64 (k.c : Int), .int .i64 (k.i : Int), .int .i64 (k.a : Int), .int .i64 (k.t : Int)] 51)) w.heap.size #[.int .i64 0, .int .i64 0, .int .i64 0, .int .i64 0] 51) := (HR3.out.next hb4).alloc _
  have HB4 : Hid (Below w.heap.size w (w4.alloc (.cells #[.int .i64 (k.c : Int), .int .i64 (k.i : Int), .int .i64 (k.a : Int), .int .i64 (k.t : Int)] 51))) := (bel_step HB3.out hb4).alloc (bel_step HB3.out hb4).size _
  have hK4 := Blk.new w4 #[.int .i64 (k.c : Int), .int .i64 (k.i : Int), .int .i64 (k.a : Int), .int .i64 (k.t : Int)] 51
  have HK4 : Hid (Blk (w4.alloc (.cells #[.int .i64 (k.c : Int), .int .i64 (k.i : Int), .int .i64 (k.a : Int), .int .i64 (k.t : Int)] 51)) w4.heap.size #[.int .i64 (k.c : Int), .int .i64 (k.i : Int), .int .i64 (k.a : Int), .int .i64 (k.t : Int)] 51) := hK4
  have HT4 : Hid (TTab (w4.alloc (.cells #[.int .i64 (k.c : Int), .int .i64 (k.i : Int), .int .i64 (k.a : Int), .int .i64 (k.t : Int)] 51))) := HT0.out.below HB4.out
  have k0 := hK4.cell 0
  have k1 := hK4.cell 1
  have k2 := hK4.cell 2
  have k3 := hK4.cell 3
  clear hb4 m0 m1 m2 HR3 HB3 HT3 HW3 hK4
  go_wp2_with fail
  refine (HFL.out _ HT4.out).mono ?_
  rintro e w5 ⟨rfl, hb5⟩
  have hR := HR4.out.next hb5
  have hB := bel_step HB4.out hb5
  have hK5 := HK4.out.next hb5
  clear hb5 k0 k1 k2 k3 HR4 HB4 HT4 HK4 HFL hK5
  have RR := blk_set4 (w := w) hR (0) (0) (0) (0)
  have HBB : Hid (Below w.heap.size w (((((w5).setCell ⟨w.heap.size, 0, none⟩ (.int .i64 0)).setCell ⟨w.heap.size, 1, none⟩ (.int .i64 0)).setCell ⟨w.heap.size, 2, none⟩ (.int .i64 0)).setCell ⟨w.heap.size, 3, none⟩ (.int .i64 0))) := bel_set4 hB (0) (0) (0) (0)
  have R0 : Hid (_ = _) := RR.cell 0
  have R1 : Hid (_ = _) := RR.cell 1
  have R2 : Hid (_ = _) := RR.cell 2
  have R3 : Hid (_ = _) := RR.cell 3
  have p0 := hR.cell 0
  have p1 := hR.cell 1
  have p2 := hR.cell 2
  have p3 := hR.cell 3
  have f0 := hR.free 0
  have f1 := hR.free 1
  have f2 := hR.free 2
  have f3 := hR.free 3
  clear RR hR hB
  go_wp2_with fail
  refine bodyPost_ret (v := .tuple #[.agg #[.int .i64 0, .int .i64 0, .int .i64 0, .int .i64 0], .int .i64 2]) (by simp [results, Tryz.results27, R0.out, R1.out, R2.out, R3.out, go_sem]) rfl ⟨rfl, HBB.out⟩

set_option maxHeartbeats 1000000 in
theorem parse_0 (s : ByteArray) (V : Nat) (w : World) (ht : TTab w) (h : s.size = 20) (h1 : allD s.data.toList = true) (hV : dv s.data.toList = V) (h2 : V < 73786976294838206464) (h3 : V % 97 = 0) (k : Tok) (hk : tokOf (V / 97) = k) (h4 : k.ok) :
    Calls Tryz.prog 27 #[.string s] w fun e w' => e = .returned (.tuple #[k.v, .int .i64 0]) ∧ Below w.heap.size w w' := by
  have HF : Hid (∀ W, Calls Tryz.prog 53 #[.string s] W fun e w' => ∃ a b c : Nat, e = .returned (.tuple #[.agg #[.int .u32 (a : Int), .int .u32 (b : Int), .int .u32 (c : Int)], .int .i64 0]) ∧ WN a b c V ∧ Below W.heap.size W w') := fun W => (read_any s W h).mono fun e w' hp => by
    rcases hp.2 with ⟨_, a, b, c, he, hw⟩ | ⟨hx, _⟩
    · rw [hV] at hw; exact ⟨a, b, c, he, hw, hp.1⟩
    · rw [h1] at hx; cases hx
  have hR0 := Blk.new w #[.int .i64 0, .int .i64 0, .int .i64 0, .int .i64 0] 51
  have HR0 : Hid (Blk (w.alloc (.cells #[.int .i64 0, .int .i64 0, .int .i64 0, .int .i64 0] 51)) w.heap.size #[.int .i64 0, .int .i64 0, .int .i64 0, .int .i64 0] 51) := hR0
  have HB0 : Hid (Below w.heap.size w (w.alloc (.cells #[.int .i64 0, .int .i64 0, .int .i64 0, .int .i64 0] 51))) := bel_box _ _
  clear hR0
  have HT0 : Hid (TTab w) := ht
  have HC : Hid (cmp3 (V : Int) 73786976294838206464 = -1) := (by unfold cmp3; rw [if_pos (by omega)] : cmp3 (V : Int) 73786976294838206464 = -1)
  have hrz : V % 97 = 0 := h3
  have HFL : Hid (∀ W, TTab W → Calls Tryz.prog 57 #[.agg #[.int .i64 (k.c : Int), .int .i64 (k.i : Int), .int .i64 (k.a : Int), .int .i64 (k.t : Int)]] W fun e w' => e = .returned (.int .i64 0) ∧ Below W.heap.size W w') := fun W hW => by
    have := flaw_any k.c k.i k.a k.t W hW
    rwa [flaw_tok.2 h4] at this
  have HK : Hid (tokOf (V / 97) = k) := hk
  clear h2 h3 h4 hk
  clear h h1 hV ht
  go_enter Tryz.func27, Tryz.ntmps27
  go_wp2_with fail
  refine (HF.out _).mono ?_
  rintro e w1 ⟨a, b, c, rfl, hw1, hb1⟩
  have HR1 : Hid (Blk (w1.alloc (.cells #[.int .u32 (a : Int), .int .u32 (b : Int), .int .u32 (c : Int)] 85)) w.heap.size #[.int .i64 0, .int .i64 0, .int .i64 0, .int .i64 0] 51) := (HR0.out.next hb1).alloc _
  have HB1 : Hid (Below w.heap.size w (w1.alloc (.cells #[.int .u32 (a : Int), .int .u32 (b : Int), .int .u32 (c : Int)] 85))) := (bel_step HB0.out hb1).alloc (bel_step HB0.out hb1).size _
  have hN1 := Blk.new w1 #[.int .u32 (a : Int), .int .u32 (b : Int), .int .u32 (c : Int)] 85
  have HN1 : Hid (Blk (w1.alloc (.cells #[.int .u32 (a : Int), .int .u32 (b : Int), .int .u32 (c : Int)] 85)) w1.heap.size #[.int .u32 (a : Int), .int .u32 (b : Int), .int .u32 (c : Int)] 85) := hN1
  have HW : Hid (WN a b c V) := hw1
  have c0 := hN1.cell 0
  have c1 := hN1.cell 1
  have c2 := hN1.cell 2
  clear hb1 HF HR0 HB0 hw1 hN1
  go_wp2_with fail
  refine (cmp_wn a b c V _ HW.out).mono ?_
  rintro e w2 ⟨rfl, hb2⟩
  have HR2 : Hid (Blk w2 w.heap.size #[.int .i64 0, .int .i64 0, .int .i64 0, .int .i64 0] 51) := HR1.out.next hb2
  have HB2 : Hid (Below w.heap.size w w2) := bel_step HB1.out hb2
  have hN2 := HN1.out.next hb2
  have n0 := hN2.cell 0
  have n1 := hN2.cell 1
  have n2 := hN2.cell 2
  clear hb2 c0 c1 c2 HR1 HB1 HN1 hN2
  rw [HC.out]
  go_wp2_with fail
  refine (over_wn a b c V _ HW.out).mono ?_
  rintro e w3 ⟨a', b', c', rfl, hw3, hb3⟩
  rw [hrz]
  have HR3 : Hid (Blk (w3.alloc (.cells #[.int .u32 (a' : Int), .int .u32 (b' : Int), .int .u32 (c' : Int)] 85)) w.heap.size #[.int .i64 0, .int .i64 0, .int .i64 0, .int .i64 0] 51) := (HR2.out.next hb3).alloc _
  have HB3 : Hid (Below w.heap.size w (w3.alloc (.cells #[.int .u32 (a' : Int), .int .u32 (b' : Int), .int .u32 (c' : Int)] 85))) := (bel_step HB2.out hb3).alloc (bel_step HB2.out hb3).size _
  have hN3 := Blk.new w3 #[.int .u32 (a' : Int), .int .u32 (b' : Int), .int .u32 (c' : Int)] 85
  have HW3 : Hid (WN a' b' c' (V / 97)) := hw3
  clear hb3 n0 n1 n2 HR2 HB2 HW HC hw3
  have HT3 : Hid (TTab (w3.alloc (.cells #[.int .u32 (a' : Int), .int .u32 (b' : Int), .int .u32 (c' : Int)] 85))) := HT0.out.below HB3.out
  have m0 := hN3.cell 0
  have m1 := hN3.cell 1
  have m2 := hN3.cell 2
  clear hN3
  go_wp2_with fail
  refine (unpack_any a' b' c' (V / 97) _ HW3.out HT3.out).mono ?_
  rintro e w4 ⟨he4, hb4⟩
  have HE4 : Hid (e = .returned (tokOf (V / 97)).v) := he4
  clear he4
  rw [HK.out] at HE4
  unfold Tok.v at HE4
  obtain rfl := HE4.out
  clear HE4
  have HR4 : Hid (Blk (w4.alloc (.cells #[.int .i64 (k.c : Int), .int .i64 (k.i : Int), .int .i64 (k.a : Int), .int .i64 (k.t : Int)] 51)) w.heap.size #[.int .i64 0, .int .i64 0, .int .i64 0, .int .i64 0] 51) := (HR3.out.next hb4).alloc _
  have HB4 : Hid (Below w.heap.size w (w4.alloc (.cells #[.int .i64 (k.c : Int), .int .i64 (k.i : Int), .int .i64 (k.a : Int), .int .i64 (k.t : Int)] 51))) := (bel_step HB3.out hb4).alloc (bel_step HB3.out hb4).size _
  have hK4 := Blk.new w4 #[.int .i64 (k.c : Int), .int .i64 (k.i : Int), .int .i64 (k.a : Int), .int .i64 (k.t : Int)] 51
  have HK4 : Hid (Blk (w4.alloc (.cells #[.int .i64 (k.c : Int), .int .i64 (k.i : Int), .int .i64 (k.a : Int), .int .i64 (k.t : Int)] 51)) w4.heap.size #[.int .i64 (k.c : Int), .int .i64 (k.i : Int), .int .i64 (k.a : Int), .int .i64 (k.t : Int)] 51) := hK4
  have HT4 : Hid (TTab (w4.alloc (.cells #[.int .i64 (k.c : Int), .int .i64 (k.i : Int), .int .i64 (k.a : Int), .int .i64 (k.t : Int)] 51))) := HT0.out.below HB4.out
  have k0 := hK4.cell 0
  have k1 := hK4.cell 1
  have k2 := hK4.cell 2
  have k3 := hK4.cell 3
  clear hb4 m0 m1 m2 HR3 HB3 HT3 HW3 hK4
  go_wp2_with fail
  refine (HFL.out _ HT4.out).mono ?_
  rintro e w5 ⟨rfl, hb5⟩
  have hR := HR4.out.next hb5
  have hB := bel_step HB4.out hb5
  have hK5 := HK4.out.next hb5
  have l0 := hK5.cell 0
  have l1 := hK5.cell 1
  have l2 := hK5.cell 2
  have l3 := hK5.cell 3
  clear hb5 k0 k1 k2 k3 HR4 HB4 HT4 HK4 HFL hK5
  have RR := blk_set4 (w := w) hR ((k.c : Int)) ((k.i : Int)) ((k.a : Int)) ((k.t : Int))
  have HBB : Hid (Below w.heap.size w (((((w5).setCell ⟨w.heap.size, 0, none⟩ (.int .i64 (k.c : Int))).setCell ⟨w.heap.size, 1, none⟩ (.int .i64 (k.i : Int))).setCell ⟨w.heap.size, 2, none⟩ (.int .i64 (k.a : Int))).setCell ⟨w.heap.size, 3, none⟩ (.int .i64 (k.t : Int)))) := bel_set4 hB ((k.c : Int)) ((k.i : Int)) ((k.a : Int)) ((k.t : Int))
  have R0 : Hid (_ = _) := RR.cell 0
  have R1 : Hid (_ = _) := RR.cell 1
  have R2 : Hid (_ = _) := RR.cell 2
  have R3 : Hid (_ = _) := RR.cell 3
  have p0 := hR.cell 0
  have p1 := hR.cell 1
  have p2 := hR.cell 2
  have p3 := hR.cell 3
  have f0 := hR.free 0
  have f1 := hR.free 1
  have f2 := hR.free 2
  have f3 := hR.free 3
  clear RR hR hB
  go_wp2_with fail
  refine bodyPost_ret (v := .tuple #[.agg #[.int .i64 (k.c : Int), .int .i64 (k.i : Int), .int .i64 (k.a : Int), .int .i64 (k.t : Int)], .int .i64 0]) (by simp [results, Tryz.results27, R0.out, R1.out, R2.out, R3.out, go_sem]) rfl ⟨rfl, HBB.out⟩

/-- What Parse answers, at every text. -/
theorem parse_any (s : ByteArray) (w : World) (ht : TTab w) :
    Calls Tryz.prog 27 #[.string s] w fun e w' => e = .returned (.tuple #[parseV s.data.toList, .int .i64 (parseE s.data.toList)]) ∧ Below w.heap.size w w' := by
  have hl := len_eq s
  by_cases h : s.size = 20
  · cases h1 : allD s.data.toList with
    | false =>
      obtain ⟨e1, e2⟩ := parse_dig (l := s.data.toList) (by omega) h1
      rw [e1, e2]; exact parse_7 s w h h1
    | true =>
      by_cases h2 : dv s.data.toList < 73786976294838206464
      · by_cases h3 : dv s.data.toList % 97 = 0
        · cases h4 : okB (tokOf (dv s.data.toList / 97)) with
          | false =>
            obtain ⟨e1, e2⟩ := parse_no (l := s.data.toList) (by omega) h1 h2 h3 h4
            rw [e1, e2]
            exact parse_2 s _ w ht h h1 rfl h2 h3 _ rfl (fun hk => by rw [okB_ok.2 hk] at h4; cases h4)
          | true =>
            obtain ⟨e1, e2⟩ := Go.Proofs.YtlicdeppfhmfjaaGreatDoor.token.parse_ok (l := s.data.toList) (by omega) h1 h2 h3 h4
            rw [e1, e2]
            exact parse_0 s _ w ht h h1 rfl h2 h3 _ rfl (okB_ok.1 h4)
        · obtain ⟨e1, e2⟩ := parse_chk (l := s.data.toList) (by omega) h1 h2 h3
          rw [e1, e2]; exact parse_8 s _ w ht h h1 rfl h2 h3
      · obtain ⟨e1, e2⟩ := parse_big (l := s.data.toList) (by omega) h1 (by omega)
        rw [e1, e2]; exact parse_big2 s _ w ht h h1 rfl (by omega)
  · obtain ⟨e1, e2⟩ := parse_len (l := s.data.toList) (by omega)
    rw [e1, e2]; exact parse_6 s w h

end Go.Proofs.YtlicdeppfhmfjaaGreatDoor.token

/- Division by 2^32; the number as a uint64. -/
namespace Go.Proofs.YtlicdeppfhmfjaaGreatDoor.words
open Go.RowKit
set_option maxRecDepth 100000

theorem dig_base : (dig 4294967296).length = 2 := by
  rw [dig_pos (by decide), List.length_cons]
  have e : 4294967296 / 4294967296 = 1 := by decide
  rw [e, dig_pos (by decide), List.length_cons]
  have e2 : 1 / 4294967296 = 0 := by decide
  rw [e2, dig_zero]
  rfl

theorem div_base (a b : Option Addr) (n ca cb M : Nat) (w : World) (ha : Ru w a n ca (dig M)) (hb : Ru w b 2 cb (dig 4294967296)) (hn : n ≤ 60) :
    Calls Tryz.prog 106 #[.slice a n ca, .slice b 2 cb] w fun e w' => DivGives w (M / 4294967296) (M % 4294967296) e w' := by
  by_cases h : M < 4294967296
  · have := div_less a b n 2 ca cb M 4294967296 w ha hb (by omega) (by omega) h
    rw [Nat.div_eq_of_lt h, Nat.mod_eq_of_lt h]
    exact this
  · by_cases h2 : n ≤ 2
    · exact div_two a b n 2 ca cb M 4294967296 w ha hb h2 (by decide) (by omega)
    · exact div_long a b n 2 ca cb M 4294967296 31 33 w ha hb hn (by omega) (Nat.le_refl _) (by omega) (by decide) (by decide) (by omega) ⟨by decide, by decide, by decide⟩ (by decide)

set_option maxHeartbeats 1000000 in
theorem uint64_any (z m : Nat) (w : World) (hg : Bg w z m) (hm : m < 18446744073709551616) :
    Calls Tryz.prog 107 #[.pointer (some ⟨z, 0, none⟩)] w fun e w' => e = .returned (.int .u64 (m : Int)) ∧ w' = w := by
  obtain ⟨a, n, c, hcz, ha⟩ := hg
  have c1 := (ob_cells hcz).2.1
  have hn : n ≤ 2 := by
    rw [← ha.len]
    exact dig_len 2 (by omega)
  have el := ha.len
  have hp := plain_val (m := m) (by omega)
  have hx := ha.word 0
  have hy := ha.word 1
  have h1 : n < 2 → (dig m).getD 1 0 = 0 := fun h => by simp [List.getD, List.getElem?_eq_none (show (dig m).length ≤ 1 by omega)]
  have h0 : n < 1 → (dig m).getD 0 0 = 0 := fun h => by simp [List.getD, List.getElem?_eq_none (show (dig m).length ≤ 0 by omega)]
  rcases (by omega : n = 0 ∨ n = 1 ∨ n = 2) with rfl | rfl | rfl
  · have hm0 : m = 0 := by rw [h0 (by omega), h1 (by omega)] at hp; omega
    subst hm0
    clear ha el hp hx hy h0 h1 hcz
    go_enter Tryz.func107, Tryz.ntmps107
    go_wp2_with fail
    go_ret
    exact ⟨rfl, rfl⟩
  · obtain ⟨ba, oa, rfl, hca⟩ := ha.at (i := 0) (by omega)
    rw [h1 (by omega)] at hp
    have hp' : (dig m).getD 0 0 = m := by omega
    rw [hp', Nat.add_zero] at hca
    rw [hp'] at hx
    clear ha el hp hy h0 h1 hp' hcz
    go_enter Tryz.func107, Tryz.ntmps107
    go_wp2_with fail
    go_ret
    exact ⟨rfl, rfl⟩
  · obtain ⟨ba, oa, rfl, hca⟩ := ha.at (i := 0) (by omega)
    obtain ⟨bb, ob, hab, hcb⟩ := ha.at (i := 1) (by omega)
    simp only [Option.some.injEq, Addr.mk.injEq, and_true] at hab
    obtain ⟨rfl, rfl⟩ := hab
    obtain ⟨x, hxx⟩ : ∃ x, (dig m).getD 0 0 = x := ⟨_, rfl⟩
    obtain ⟨y, hyy⟩ : ∃ y, (dig m).getD 1 0 = y := ⟨_, rfl⟩
    rw [hxx, Nat.add_zero] at hca
    rw [hxx] at hx hp
    rw [hyy] at hcb hy hp
    have hor := or_words' y x (by omega) (by omega) (by omega) (by omega)
    have ev : (y : Int) * 4294967296 + (x : Int) = (m : Int) := by omega
    rw [ev] at hor
    clear ha el hp h0 h1 hxx hyy ev hcz
    go_enter Tryz.func107, Tryz.ntmps107
    go_wp2_with fail
    go_ret
    exact ⟨rfl, rfl⟩

end Go.Proofs.YtlicdeppfhmfjaaGreatDoor.words

/- (*Int).QuoRem, whatever way the division goes. -/
namespace Go.Proofs.YtlicdeppfhmfjaaGreatDoor.words
open Go.RowKit
set_option maxRecDepth 100000

/-- Every block that was there, but z and r, is as it was. -/
structure Ex2 (w w' : World) (z r : Nat) : Prop where
  os : w'.os = w.os
  tape : w'.tape = w.tape
  output : w'.output = w.output
  size : w.heap.size ≤ w'.heap.size
  block : ∀ k, k < w.heap.size → k ≠ z → k ≠ r → w'.heap[k]? = w.heap[k]?
theorem Ex2.of {w w1 w2 : World} {z r : Nat} (h : Ex w w1 z) (h' : Ex w1 w2 r) : Ex2 w w2 z r :=
  ⟨h'.os.trans h.os, h'.tape.trans h.tape, h'.output.trans h.output, Nat.le_trans h.size h'.size, fun k hk hz hr => (h'.block k (Nat.lt_of_lt_of_le hk h.size) hr).trans (h.block k hk hz)⟩
theorem Ob.ex {w w' : World} {z r : Nat} (h : Ob w r) (he : Ex w w' z) (hne : r ≠ z) : Ob w' r := by
  have hl := h.lt
  obtain ⟨s, a, n, c, h1⟩ := h
  exact ⟨s, a, n, c, by rw [he.block r hl hne]; exact h1⟩

/-- A quotient behind z and a rest behind r were given back. -/
def QuoPost (w : World) (z r q t : Nat) (e : Ending) (w' : World) : Prop := e = .returned (.tuple #[.pointer (some ⟨z, 0, none⟩), .pointer (some ⟨r, 0, none⟩)]) ∧ Bg w' z q ∧ Bg w' r t ∧ Ex2 w w' z r

set_option maxHeartbeats 2000000 in
theorem quo_of (z x y r q t : Nat) (xa ya : Option Addr) (xn xc yn yc : Nat) (w : World) (x0 : w.cell? ⟨x, 0, none⟩ = some (.bool false)) (x1 : w.cell? ⟨x, 1, none⟩ = some (.slice xa xn xc)) (y0 : w.cell? ⟨y, 0, none⟩ = some (.bool false)) (y1 : w.cell? ⟨y, 1, none⟩ = some (.slice ya yn yc))
    (hz : Ob w z) (hr : Ob w r) (hzr : r ≠ z) (hd : ∀ w', Below w.heap.size w w' → Calls Tryz.prog 106 #[.slice xa xn xc, .slice ya yn yc] w' fun e w'' => DivGives w' q t e w'') :
    Calls Tryz.prog 68 #[.pointer (some ⟨z, 0, none⟩), .pointer (some ⟨x, 0, none⟩), .pointer (some ⟨y, 0, none⟩), .pointer (some ⟨r, 0, none⟩)] w fun e w' => QuoPost w z r q t e w' := by
  have HD : Hid (∀ w', Below w.heap.size w w' → Calls Tryz.prog 106 #[.slice xa xn xc, .slice ya yn yc] w' fun e w'' => DivGives w' q t e w'') := hd
  have HZ : Hid (Ob w z ∧ Ob w r) := ⟨hz, hr⟩
  have hne : (false != false) = false := rfl
  have KW : Hid (∀ q, Below w.heap.size w (w.drewN q).drew) := fun q => (below_drewN (Below.refl _ w) q).drew
  have KS : Hid (∀ q, (w.drewN q).drew.cell? ⟨x, 1, none⟩ = some (.slice xa xn xc) ∧ (w.drewN q).drew.cell? ⟨y, 1, none⟩ = some (.slice ya yn yc)) := fun q => ⟨x1, y1⟩
  clear hz hr hd
  go_enter Tryz.func68, Tryz.ntmps68
  go_wp2_with fail
  go_quiet (fail)
  go_wp2_with fail
  go_region_held (fun v => v.cell? ⟨x, 1, none⟩ = some (.slice xa xn xc) ∧ v.cell? ⟨y, 1, none⟩ = some (.slice ya yn yc))
    (first | exact K1.out | exact KS.out _)
    (first
      | (go_at_call 106; refine (HD.out _ (KW.out _)).mono ?_; rintro e w1 ⟨qa, qn, qc, ta, tn, tc, rfl, hq, ht, hb⟩
         have B1 : Hid (Below w.heap.size w w1) := (KW.out _).trans (hb.mono (KW.out _).size)
         have K1 : Hid (w1.cell? ⟨x, 1, none⟩ = some (.slice xa xn xc) ∧ w1.cell? ⟨y, 1, none⟩ = some (.slice ya yn yc)) := ⟨cell_bel hb (KS.out _).1, cell_bel hb (KS.out _).2⟩
         have R1 : Hid (Ru w1 qa qn qc (dig q) ∧ Ru w1 ta tn tc (dig t)) := ⟨hq, ht⟩
         clear hb hq ht))
  all_goals
    go_wp2_with fail
    refine (give_any z _ _ _ _ (HZ.out.1.below B1.out)).mono ?_
    rintro e w2 ⟨rfl, h2, hex⟩
    have G2 : Hid (Bg w2 z q) := ⟨_, _, _, h2, R1.out.1.ex (HZ.out.1.below B1.out) hex⟩
    have T2 : Hid (Ru w2 ta tn tc (dig t)) := R1.out.2.ex (HZ.out.1.below B1.out) hex
    have O2 : Hid (Ob w2 r) := (HZ.out.2.below B1.out).ex hex hzr
    have E2 : Hid (Ex w w2 z) := Ex.of B1.out hex
    clear h2 hex
    go_wp2_with fail
    refine (give_any r _ _ _ _ O2.out).mono ?_
    rintro e w3 ⟨rfl, h3, hex3⟩
    have F3 : Hid (Bg w3 z q ∧ Bg w3 r t ∧ Ex2 w w3 z r) := ⟨G2.out.ex O2.out hex3 (Ne.symm hzr), ⟨_, _, _, h3, T2.out.ex O2.out hex3⟩, Ex2.of E2.out hex3⟩
    clear h3 hex3
    go_wp2_with fail
    refine bodyPost_ret (v := .tuple #[.pointer (some ⟨z, 0, none⟩), .pointer (some ⟨r, 0, none⟩)]) (by simp [results, Tryz.results68, go_sem]) rfl ⟨rfl, F3.out.1, F3.out.2.1, F3.out.2.2⟩

end Go.Proofs.YtlicdeppfhmfjaaGreatDoor.words

/- Digits: plain facts. -/
namespace Go.Proofs.YtlicdeppfhmfjaaGreatDoor.cents
open Go.RowKit

def isD (c : UInt8) : Bool := decide (48 ≤ c.toNat) && decide (c.toNat ≤ 57)
def allD (l : List UInt8) : Bool := l.all isD
/-- The number that digits make. -/
def dval (l : List UInt8) : Int := l.foldl (fun n c => n * 10 + ((c.toNat : Int) - 48)) 0
/-- The same, but that nothing more is added once it is above a million millions. -/
def cval (l : List UInt8) : Int := l.foldl (fun n c => if n ≤ 1000000000000 then n * 10 + ((c.toNat : Int) - 48) else n) 0

theorem allD_append (a b : List UInt8) : allD (a ++ b) = (allD a && allD b) := by simp [allD]
theorem dval_snoc (l : List UInt8) (c : UInt8) : dval (l ++ [c]) = dval l * 10 + ((c.toNat : Int) - 48) := by simp [dval, List.foldl_append]
theorem cval_snoc (l : List UInt8) (c : UInt8) : cval (l ++ [c]) = if cval l ≤ 1000000000000 then cval l * 10 + ((c.toNat : Int) - 48) else cval l := by unfold cval; rw [List.foldl_append]; rfl

theorem snoc_ind {P : List UInt8 → Prop} (h0 : P []) (h1 : ∀ l c, P l → P (l ++ [c])) (l : List UInt8) : P l := by
  have : ∀ n, ∀ l : List UInt8, l.length = n → P l := by
    intro n
    induction n with
    | zero => intro l hl; rw [List.eq_nil_of_length_eq_zero hl]; exact h0
    | succ n ih =>
      intro l hl
      have hne : l ≠ [] := by intro e; rw [e] at hl; cases hl
      rw [← List.dropLast_concat_getLast hne]
      exact h1 _ _ (ih _ (by simp [hl]))
  exact this _ l rfl

theorem isD_bd {c : UInt8} (h : isD c = true) : 48 ≤ (c.toNat : Int) ∧ (c.toNat : Int) ≤ 57 := by
  simp [isD] at h; omega

/-- Where the number is not too great the two are the same; else both are above the bound. -/
theorem cval_eq (l : List UInt8) (h : allD l = true) : 0 ≤ dval l ∧ 0 ≤ cval l ∧ cval l ≤ 10000000000009 ∧ (dval l ≤ 1000000000000 → cval l = dval l) ∧ (1000000000000 < dval l → 1000000000000 < cval l) := by
  induction l using snoc_ind with
  | h0 => simp [dval, cval]
  | h1 l c ih =>
    rw [allD_append, Bool.and_eq_true] at h
    obtain ⟨a1, a2, a3, a4, a5⟩ := ih h.1
    have hc := isD_bd (c := c) (by simpa [allD] using h.2)
    rw [dval_snoc, cval_snoc]
    by_cases hd : dval l ≤ 1000000000000
    · have e := a4 hd
      rw [e, if_pos hd]
      omega
    · have e := a5 (by omega)
      rw [if_neg (by omega)]
      omega

theorem take_snoc (s : ByteArray) (k : Nat) (h : k < s.size) : s.data.toList.take (k + 1) = s.data.toList.take k ++ [s[k]] := by
  rw [List.take_succ_eq_append_getElem (by simpa using h)]; rfl

theorem allD_take_no (s : ByteArray) (k : Nat) (h : k < s.size) (hn : isD s[k] = false) : allD s.data.toList = false := by
  have e : s.data.toList = s.data.toList.take k ++ [s[k]] ++ s.data.toList.drop (k + 1) := by rw [← take_snoc s k h, List.take_append_drop]
  rw [e, allD_append, allD_append]
  simp [allD, hn]

theorem isD_yes {c : UInt8} (h1 : 48 ≤ (c.toNat : Int)) (h2 : (c.toNat : Int) ≤ 57) : isD c = true := by simp [isD]; omega
theorem isD_lo {c : UInt8} (h1 : (c.toNat : Int) < 48) : isD c = false := by simp [isD]; omega
theorem isD_hi {c : UInt8} (h1 : 57 < (c.toNat : Int)) : isD c = false := by simp [isD]; omega

end Go.Proofs.YtlicdeppfhmfjaaGreatDoor.cents

/- A text cut: plain facts. -/
namespace Go.Proofs.YtlicdeppfhmfjaaGreatDoor.cents
open Go.RowKit

theorem ix_lt (l : List UInt8) (c : UInt8) : Lib.indexByte l c = -1 ∨ (0 ≤ Lib.indexByte l c ∧ Lib.indexByte l c < l.length) := by
  induction l with
  | nil => exact .inl rfl
  | cons b r ih =>
    simp only [Lib.indexByte]
    by_cases h : (b == c) = true
    · rw [if_pos h]; right; simp
    · rw [if_neg h]
      rcases ih with ih | ih
      · rw [if_pos (by simp [ih])]; exact .inl rfl
      · rw [if_neg (by simp; omega)]; right; simp; omega

theorem ix_self : Lib.indexByte [46] 46 = 0 := by simp [Lib.indexByte]

theorem ix_bd {s : ByteArray} {i : Nat} (h : Lib.indexByte s.data.toList 46 = i) : i < s.size := by
  rcases ix_lt s.data.toList 46 with h1 | h1
  · omega
  · have := h1.2; simp at this; omega

/-- Does a text open with a minus? -/
def neg (l : List UInt8) : Bool := l.head? == some 45

theorem len_eq (s : ByteArray) : s.data.toList.length = s.size := Array.length_toList

theorem neg_size {s : ByteArray} (h : neg s.data.toList = true) : 0 < s.size := by
  by_cases h0 : 0 < s.size
  · exact h0
  · have : s.data.toList = [] := List.eq_nil_of_length_eq_zero (by rw [len_eq]; omega)
    rw [this] at h; cases h

theorem neg_take {s : ByteArray} (h0 : 0 < s.size) : ((s.extract 0 1).toList == [45]) = neg s.data.toList := by
  rw [ByteArray.toList_eq, Lib.extract_data]
  have : 0 < s.data.toList.length := by simpa using h0
  unfold neg
  cases hl : s.data.toList with
  | nil => rw [hl] at this; cases this
  | cons a r => simp

/-- A whole number in digits, without noughts ahead. -/
def whole (l : List UInt8) : Bool := l == [48] || (l != [] && l.head? != some 48 && allD l)

end Go.Proofs.YtlicdeppfhmfjaaGreatDoor.cents

/- What is read of a text: plain facts. -/
namespace Go.Proofs.YtlicdeppfhmfjaaGreatDoor.cents
open Go.RowKit

/-- The text without its sign. -/
def body (l : List UInt8) : List UInt8 := if neg l then l.drop 1 else l
/-- Ahead of the first dot, and behind it. -/
def units (t : List UInt8) : List UInt8 := t.take (Lib.indexByte t 46).toNat
def rests (t : List UInt8) : List UInt8 := t.drop ((Lib.indexByte t 46).toNat + 1)
def form (t : List UInt8) : Bool := decide (0 ≤ Lib.indexByte t 46) && (whole (units t) && ((rests t).length == 2 && allD (rests t)))
/-- What P1.5 says: the amount, and the error's number. -/
def readR (l : List UInt8) : Int × Int :=
  if 20 < l.length then (0, 1)
  else if form (body l) = false ∨ l = [45, 48, 46, 48, 48] then (0, 3)
  else if 1000000000000 < dval (units (body l) ++ rests (body l)) then (0, 2)
  else (if neg l then -dval (units (body l) ++ rests (body l)) else dval (units (body l) ++ rests (body l)), 0)

theorem whole_D {l : List UInt8} (h : whole l = true) : allD l = true := by
  unfold whole at h
  rw [Bool.or_eq_true] at h
  rcases h with h | h
  · rw [show l = [48] by simpa using h]; rfl
  · rw [Bool.and_eq_true] at h; exact h.2

def cutT (s : ByteArray) : ByteArray := if neg s.data.toList then s.extract 1 s.size else s
theorem cutT_list (s : ByteArray) : (cutT s).data.toList = body s.data.toList := by
  unfold cutT body
  cases neg s.data.toList
  · rfl
  · exact Lib.extract_to_end s 1
theorem cutT_size (s : ByteArray) : (cutT s).size ≤ s.size := by
  rw [← len_eq, cutT_list, ← len_eq]
  unfold body
  split
  · simp
  · exact Nat.le_refl _

theorem ret_err {x : Int} {p : Int × Int} (h : p = (0, x)) : Ending.returned (.tuple #[.int .i64 0, .int .i64 x]) = .returned (.tuple #[.int .i64 p.1, .int .i64 p.2]) := by rw [h]

theorem ret_pair' {a b : Int} {p : Int × Int} (h : p = (a, b)) : Ending.returned (.tuple #[.int .i64 a, .int .i64 b]) = .returned (.tuple #[.int .i64 p.1, .int .i64 p.2]) := by rw [h]

theorem readR_form {l : List UInt8} (h1 : ¬ 20 < l.length) (h : form (body l) = false) : readR l = (0, 3) := by
  unfold readR; rw [if_neg h1, if_pos (.inl h)]
theorem readR_zero {l : List UInt8} (h1 : ¬ 20 < l.length) (h : l = [45, 48, 46, 48, 48]) : readR l = (0, 3) := by
  unfold readR; rw [if_neg h1, if_pos (.inr h)]
theorem readR_good {l : List UInt8} (h1 : ¬ 20 < l.length) (h2 : form (body l) = true) (h3 : ¬ l = [45, 48, 46, 48, 48]) :
    readR l = if 1000000000000 < dval (units (body l) ++ rests (body l)) then (0, 2) else (if neg l then -dval (units (body l) ++ rests (body l)) else dval (units (body l) ++ rests (body l)), 0) := by
  unfold readR; rw [if_neg h1, if_neg (by simp [h2, h3])]

theorem form_no {t : List UInt8} (h : Lib.indexByte t 46 = -1) : form t = false := by unfold form; simp [h]
theorem form_eq {t : List UInt8} {i : Nat} (h : Lib.indexByte t 46 = i) : form t = (whole (t.take i) && ((t.drop (i + 1)).length == 2 && allD (t.drop (i + 1)))) := by
  unfold form units rests; simp [h]

end Go.Proofs.YtlicdeppfhmfjaaGreatDoor.cents

/- Plain facts on the texts of amounts: no program in sight but the words of the module before. -/
namespace Go.Proofs.YtlicdeppfhmfjaaGreatDoor.cents

theorem D_not46 {u : List UInt8} (h : allD u = true) : (46 : UInt8) ∉ u := by
  intro hm
  have := List.all_eq_true.1 h 46 hm
  simp [isD] at this

theorem ix_split (u r : List UInt8) (h : (46 : UInt8) ∉ u) : Lib.indexByte (u ++ 46 :: r) 46 = u.length := by
  induction u with
  | nil => simp [Lib.indexByte]
  | cons a t ih =>
    have ha : ¬ a = 46 := fun e => h (by simp [e])
    have hi := ih (fun e => h (List.mem_cons_of_mem _ e))
    simp only [List.cons_append, Lib.indexByte]
    rw [if_neg (by simpa using ha), hi, if_neg (by simp)]
    simp

theorem ix_some (t : List UInt8) (i : Nat) (h : Lib.indexByte t 46 = i) : t = t.take i ++ 46 :: t.drop (i + 1) := by
  induction t generalizing i with
  | nil => simp [Lib.indexByte] at h
  | cons a t ih =>
    simp only [Lib.indexByte] at h
    by_cases ha : (a == 46) = true
    · rw [if_pos ha] at h
      have : i = 0 := by omega
      subst this
      have : a = 46 := by simpa using ha
      simp [this]
    · rw [if_neg ha] at h
      by_cases hb : (Lib.indexByte t 46 == -1) = true
      · rw [if_pos hb] at h; omega
      · rw [if_neg hb] at h
        rcases ix_lt t 46 with h1 | h1
        · exact absurd (by simp [h1]) hb
        · obtain ⟨j, hj⟩ := Int.eq_ofNat_of_zero_le h1.1
          have : i = j + 1 := by omega
          subst this
          have := ih j hj
          simp only [List.take_succ_cons, List.drop_succ_cons, List.cons_append]
          rw [← this]

theorem form_mk {u r : List UInt8} (h1 : whole u = true) (h2 : r.length = 2) (h3 : allD r = true) : form (u ++ 46 :: r) = true ∧ units (u ++ 46 :: r) = u ∧ rests (u ++ 46 :: r) = r := by
  have hi := ix_split u r (D_not46 (whole_D h1))
  refine ⟨?_, ?_, ?_⟩
  · have hdr : (u ++ 46 :: r).drop (u.length + 1) = r := by rw [List.drop_append, List.drop_of_length_le (by omega)]; simp
    rw [form_eq hi, hdr]
    simp [h1, h2, h3]
  · unfold units; rw [hi]; simp
  · unfold rests; rw [hi]; simp [List.drop_append]

theorem form_split {t : List UInt8} (h : form t = true) : ∃ u r, t = u ++ 46 :: r ∧ r.length = 2 ∧ whole u = true ∧ allD r = true ∧ units t = u ∧ rests t = r := by
  rcases ix_lt t 46 with h1 | h1
  · rw [form_no h1] at h; cases h
  · obtain ⟨i, hi⟩ := Int.eq_ofNat_of_zero_le h1.1
    rw [form_eq hi] at h
    simp only [Bool.and_eq_true, beq_iff_eq] at h
    exact ⟨t.take i, t.drop (i + 1), ix_some t i hi, h.2.1, h.1, h.2.2, by unfold units; rw [hi]; rfl, by unfold rests; rw [hi]; rfl⟩

theorem whole_ne {u : List UInt8} (h : whole u = true) : 0 < u.length := by
  cases u with
  | nil => simp [whole] at h
  | cons a t => simp

/-- The digits that are read up to place k: from place f on, and without what stands three places ahead of the end. -/
def seen (l : List UInt8) (f : Nat) : Nat → List UInt8
  | 0 => []
  | k + 1 => if k < f ∨ k + 3 = l.length then seen l f k else seen l f k ++ [l.getD k 0]

theorem seen_skip {l : List UInt8} {f k : Nat} (h : k + 3 = l.length) : seen l f (k + 1) = seen l f k := by simp [seen, h]
theorem seen_next {l : List UInt8} {f k : Nat} (h1 : f ≤ k) (h2 : ¬ k + 3 = l.length) : seen l f (k + 1) = seen l f k ++ [l.getD k 0] := by
  simp only [seen]; rw [if_neg (by omega)]

theorem seen_lo (l : List UInt8) (f k : Nat) (h : k + 3 ≤ l.length) : seen l f k = (l.take k).drop f := by
  induction k with
  | zero => simp [seen]
  | succ k ih =>
    have ih := ih (by omega)
    by_cases hf : k < f
    · simp only [seen]
      rw [if_pos (.inl hf), ih, List.drop_of_length_le (by simp; omega), List.drop_of_length_le (by simp; omega)]
    · rw [seen_next (by omega) (by omega), ih, List.take_succ_eq_append_getElem (by omega), List.drop_append_of_le_length (by simp; omega)]
      congr 2
      simp [List.getD, List.getElem?_eq_getElem (show k < l.length by omega)]

theorem seen_all (l : List UInt8) (f : Nat) (h : f + 3 ≤ l.length) : seen l f l.length = (l.take (l.length - 3)).drop f ++ l.drop (l.length - 2) := by
  obtain ⟨p, hp⟩ : ∃ p, l.length = p + 3 := ⟨l.length - 3, by omega⟩
  have e1 : seen l f (p + 1) = (l.take p).drop f := by rw [seen_skip (by omega), seen_lo l f p (by omega)]
  have e2 : seen l f (p + 2) = (l.take p).drop f ++ [l.getD (p + 1) 0] := by rw [seen_next (by omega) (by omega), e1]
  have e3 : seen l f (p + 3) = (l.take p).drop f ++ [l.getD (p + 1) 0] ++ [l.getD (p + 2) 0] := by rw [seen_next (by omega) (by omega), e2]
  rw [hp, e3, show p + 3 - 3 = p by omega, show p + 3 - 2 = p + 1 by omega, List.append_assoc]
  congr 1
  rw [List.drop_eq_getElem_cons (by omega), List.drop_eq_getElem_cons (by omega), List.drop_of_length_le (by omega)]
  simp [List.getD, List.getElem?_eq_getElem (show p + 1 < l.length by omega), List.getElem?_eq_getElem (show p + 2 < l.length by omega)]

theorem form_parts {l : List UInt8} {f : Nat} (hb : body l = l.drop f) (hf : f ≤ l.length) (h : form (body l) = true) : 4 ≤ l.length - f ∧ l.getD (l.length - 3) 0 = 46 ∧ (l.getD f 0 = 48 → ¬ 4 < l.length - f) ∧ ∀ k, f ≤ k → k < l.length → ¬ k + 3 = l.length → isD (l.getD k 0) = true := by
  obtain ⟨u, r, e, hr, hu, hd, _, _⟩ := form_split h
  rw [hb] at e
  have hl : l.length - f = u.length + 3 := by
    have := congrArg List.length e
    simp [hr] at this; omega
  have h1 := whole_ne hu
  have get : ∀ k, f ≤ k → l.getD k 0 = (u ++ 46 :: r).getD (k - f) 0 := by
    intro k hk
    rw [← e]
    simp only [List.getD, List.getElem?_drop]
    rw [show f + (k - f) = k by omega]
  refine ⟨by omega, ?_, ?_, ?_⟩
  · rw [get _ (by omega), show l.length - 3 - f = u.length by omega]
    simp [List.getD]
  · intro h0
    rw [get f (Nat.le_refl _), show f - f = 0 by omega] at h0
    cases u with
    | nil => simp at h1
    | cons a t =>
      simp at h0
      subst h0
      have ht : t = [] := by simpa [whole] using hu
      subst ht
      simp at hl; omega
  · intro k hk hk2 hk3
    rw [get k hk]
    by_cases hlt : k - f < u.length
    · have := List.all_eq_true.1 (whole_D hu) (u[k - f]) (List.getElem_mem hlt)
      simpa [List.getD, List.getElem?_append_left hlt, List.getElem?_eq_getElem hlt] using this
    · have hlt2 : k - f - u.length - 1 < r.length := by omega
      have := List.all_eq_true.1 hd (r[k - f - u.length - 1]) (List.getElem_mem hlt2)
      have hq : (u ++ 46 :: r)[k - f]? = some (r[k - f - u.length - 1]) := by
        rw [List.getElem?_append_right (by omega)]
        obtain ⟨q, hq⟩ : ∃ q, k - f - u.length = q + 1 := ⟨k - f - u.length - 1, by omega⟩
        have hq2 : k - f - u.length - 1 = q := by omega
        simp only [hq, List.getElem?_cons_succ, Nat.add_sub_cancel]
        exact List.getElem?_eq_getElem (by omega)
      simpa [List.getD, hq] using this

theorem form_whole {l : List UInt8} {f : Nat} (hb : body l = l.drop f) (h4 : 4 ≤ l.length - f) (h46 : l.getD (l.length - 3) 0 = 46) (hz : l.getD f 0 = 48 → ¬ 4 < l.length - f) (hd : allD (seen l f l.length) = true) :
    form (body l) = true ∧ units (body l) ++ rests (body l) = seen l f l.length := by
  rw [seen_all l f (by omega), allD_append, Bool.and_eq_true] at hd
  rw [seen_all l f (by omega)]
  have hdr : l.drop (l.length - 3) = 46 :: l.drop (l.length - 2) := by
    rw [List.drop_eq_getElem_cons (by omega), show l.length - 3 + 1 = l.length - 2 by omega]
    congr 1
    simpa [List.getD, List.getElem?_eq_getElem (show l.length - 3 < l.length by omega)] using h46
  have e : body l = (l.take (l.length - 3)).drop f ++ 46 :: l.drop (l.length - 2) := by
    rw [hb, ← hdr]
    conv => lhs; rw [← List.take_append_drop (l.length - 3) l]
    rw [List.drop_append_of_le_length (by simp; omega)]
  have hw : whole ((l.take (l.length - 3)).drop f) = true := by
    have hlen : ((l.take (l.length - 3)).drop f).length = l.length - 3 - f := by simp
    have hhead : ((l.take (l.length - 3)).drop f).head? = some (l.getD f 0) := by
      rw [List.head?_eq_getElem?, List.getElem?_drop, List.getElem?_take]
      simp [List.getD, List.getElem?_eq_getElem (show f < l.length by omega)]
      omega
    generalize (l.take (l.length - 3)).drop f = u at *
    unfold whole
    by_cases h0 : l.getD f 0 = 48
    · have h1 := hz h0
      rw [h0] at hhead
      cases u with
      | nil => simp at hhead
      | cons a t =>
        simp at hhead hlen
        have : t = [] := List.eq_nil_of_length_eq_zero (by omega)
        simp [hhead, this]
    · cases u with
      | nil => simp at hhead
      | cons a t =>
        simp only [List.head?_cons, Option.some.injEq] at hhead
        rw [← hhead] at h0
        simp [h0, hd.1]
  obtain ⟨f1, f2, f3⟩ := form_mk hw (show (l.drop (l.length - 2)).length = 2 by simp; omega) hd.2
  rw [← e] at f1 f2 f3
  exact ⟨f1, by rw [f2, f3]⟩

theorem dval_zero (l : List UInt8) (h : allD l = true) (h0 : dval l = 0) : ∀ c ∈ l, c = 48 := by
  induction l using snoc_ind with
  | h0 => intro c hc; cases hc
  | h1 l c ih =>
    rw [allD_append, Bool.and_eq_true] at h
    have hn := (cval_eq l h.1).1
    have hc := isD_bd (c := c) (by simpa [allD] using h.2)
    rw [dval_snoc] at h0
    have hz := ih h.1 (by omega)
    intro d hd
    rw [List.mem_append] at hd
    rcases hd with hd | hd
    · exact hz d hd
    · rw [List.mem_singleton.1 hd]
      apply UInt8.toNat_inj.1
      show c.toNat = 48
      omega

/-- A minus ahead of nothing: just one text. -/
theorem neg_zero {l : List UInt8} (hn : neg l = true) (h : form (body l) = true) : dval (units (body l) ++ rests (body l)) = 0 ↔ l = [45, 48, 46, 48, 48] := by
  constructor
  · intro h0
    obtain ⟨u, r, e, hr, hu, hd, e1, e2⟩ := form_split h
    rw [e1, e2] at h0
    have hz := dval_zero (u ++ r) (by rw [allD_append, whole_D hu, hd]; rfl) h0
    have hu1 : u = [48] := by
      cases u with
      | nil => simp [whole] at hu
      | cons a t =>
        have ha : a = 48 := hz a (by simp)
        subst ha
        have ht : t = [] := by simpa [whole] using hu
        rw [ht]
    have hr1 : r = [48, 48] := by
      match r, hr with
      | [x, y], _ => rw [hz x (by simp), hz y (by simp)]
    subst hu1 hr1
    have hb : body l = l.drop 1 := by unfold body; rw [hn]; rfl
    rw [hb] at e
    cases l with
    | nil => simp at e
    | cons a t =>
      simp at e
      have ha : a = 45 := by simpa [neg] using hn
      rw [ha, e]
  · intro e
    subst e
    decide

/-- The number that digits make, but not above the bound and one. -/
def satv (l : List UInt8) : Int := l.foldl (fun v c => if 1000000000000 < 10 * v + ((c.toNat : Int) - 48) then 1000000000001 else 10 * v + ((c.toNat : Int) - 48)) 0
theorem satv_snoc (l : List UInt8) (c : UInt8) : satv (l ++ [c]) = if 1000000000000 < 10 * satv l + ((c.toNat : Int) - 48) then 1000000000001 else 10 * satv l + ((c.toNat : Int) - 48) := by unfold satv; rw [List.foldl_append]; rfl
theorem satv_eq (l : List UInt8) (h : allD l = true) : satv l = if 1000000000000 < dval l then 1000000000001 else dval l := by
  induction l using snoc_ind with
  | h0 => simp [satv, dval]
  | h1 l c ih =>
    rw [allD_append, Bool.and_eq_true] at h
    have hn := (cval_eq l h.1).1
    have hc := isD_bd (c := c) (by simpa [allD] using h.2)
    rw [satv_snoc, dval_snoc, ih h.1]
    by_cases hd : 1000000000000 < dval l
    · rw [if_pos hd, if_pos (by omega), if_pos (by omega)]
    · rw [if_neg hd]
      by_cases h2 : 1000000000000 < 10 * dval l + ((c.toNat : Int) - 48)
      · rw [if_pos h2, if_pos (by omega)]
      · rw [if_neg h2, if_neg (by omega)]; omega
theorem satv_bd (l : List UInt8) (h : allD l = true) : 0 ≤ satv l ∧ satv l ≤ 1000000000001 := by
  have := (cval_eq l h).1
  rw [satv_eq l h]
  split <;> omega

end Go.Proofs.YtlicdeppfhmfjaaGreatDoor.cents

/- The text of an amount, as the document says it. -/
namespace Go.Proofs.YtlicdeppfhmfjaaGreatDoor.cents
open Go.RowKit

theorem str_cat (x y : List UInt8) : ((⟨x.toArray⟩ : ByteArray) ++ ⟨y.toArray⟩) = ⟨(x ++ y).toArray⟩ := by
  apply ByteArray.ext
  simp

theorem ndig16 (u : Nat) (h : u ≤ 1000000000000000) : Lib.nDigits u ≤ 16 := by
  have step : ∀ k u, u < 10 ^ (k + 1) → Lib.nDigits u ≤ k + 1 := by
    intro k
    induction k with
    | zero => intro u hu; rw [Lib.nDigits, dif_pos (by omega)]; omega
    | succ k ih =>
      intro u hu
      rw [Lib.nDigits]
      split
      · omega
      · have := ih (u / 10) (by rw [Nat.pow_succ] at hu; omega)
        omega
  exact step 15 u (by omega)

theorem ndig_le (u : Nat) (h : u ≤ 1000000000000000) : Lib.nDigits u ≤ 20 := by
  have := ndig16 u h
  omega

/-- The text of an amount that is not below 0. -/
def showP (m : Int) : List UInt8 := Lib.decDigits (m / 100).toNat ++ [46] ++ Lib.decDigits (m / 10 % 10).toNat ++ Lib.decDigits (m % 10).toNat
/-- What P1.4 says. -/
def showT (n : Int) : List UInt8 := if n < 0 then 45 :: showP (-n) else showP n

theorem dec_len (u : Nat) (hu : u ≤ 1000000000000000) : (Lib.decDigits u).length ≤ 20 := by
  rw [Lib.decDigits_length]; exact ndig_le u hu

theorem ret_str {x y : ByteArray} {k : Int} (h : x = y) : Ending.returned (.tuple #[.string x, .int .i64 k]) = .returned (.tuple #[.string y, .int .i64 k]) := by rw [h]

end Go.Proofs.YtlicdeppfhmfjaaGreatDoor.cents

/- What is shown is read, and what is read is shown as it was: plain facts on the two texts. -/
namespace Go.Proofs.YtlicdeppfhmfjaaGreatDoor.cents

theorem dg_toNat {d : Nat} (h : d < 10) : (UInt8.ofNat (48 + d)).toNat = 48 + d := by
  simp [UInt8.toNat_ofNat']; omega

theorem dg_isD {d : Nat} (h : d < 10) : isD (UInt8.ofNat (48 + d)) = true := by
  unfold isD; rw [dg_toNat h]; simp; omega

theorem allD_one {c : UInt8} (h : isD c = true) : allD [c] = true := by unfold allD; rw [List.all_cons, h]; rfl
theorem allD_two {c d : UInt8} (h : isD c = true) (h2 : isD d = true) : allD [c, d] = true := by unfold allD; rw [List.all_cons, List.all_cons, h, h2]; rfl
theorem head_app {x y : List UInt8} (h : x ≠ []) : (x ++ y).head? = x.head? := by
  cases x with
  | nil => exact absurd rfl h
  | cons a t => rfl

theorem dval_one (c : UInt8) : dval [c] = (c.toNat : Int) - 48 := by simp [dval]

theorem dec_step {u : Nat} (h : ¬ u < 10) : Lib.decDigits u = Lib.decDigits (u / 10) ++ [UInt8.ofNat (48 + u % 10)] := by
  rw [Lib.decDigits, dif_neg h]

theorem dec_facts (k : Nat) : ∀ u, u ≤ k → allD (Lib.decDigits u) = true ∧ dval (Lib.decDigits u) = u ∧ Lib.decDigits u ≠ [] ∧ (0 < u → (Lib.decDigits u).head? ≠ some 48) := by
  induction k with
  | zero =>
    intro u hu
    obtain rfl : u = 0 := by omega
    rw [Lib.decDigits_one (by omega)]
    exact ⟨rfl, rfl, by simp, by omega⟩
  | succ k ih =>
    intro u hu
    by_cases h : u < 10
    · rw [Lib.decDigits_one h]
      refine ⟨allD_one (dg_isD h), ?_, by simp, fun h0 => ?_⟩
      · rw [dval_one, dg_toNat h]; omega
      · simp only [List.head?_cons, ne_eq, Option.some.injEq]
        intro e
        have := congrArg UInt8.toNat e
        rw [dg_toNat h] at this
        have e2 : (48 : UInt8).toNat = 48 := rfl
        omega
    · obtain ⟨i1, i2, i3, i4⟩ := ih (u / 10) (by omega)
      rw [dec_step h]
      have hd : u % 10 < 10 := by omega
      refine ⟨by rw [allD_append, i1, allD_one (dg_isD hd)]; rfl, ?_, by simp, fun _ => ?_⟩
      · rw [dval_snoc, i2, dg_toNat hd]; omega
      · rw [head_app i3]
        exact i4 (by omega)

theorem dec_whole (u : Nat) : whole (Lib.decDigits u) = true := by
  obtain ⟨h1, _, h3, h4⟩ := dec_facts u u (Nat.le_refl _)
  unfold whole
  by_cases h0 : u = 0
  · subst h0
    rw [Lib.decDigits_one (by omega)]
    rfl
  · have h5 := h4 (by omega)
    have e2 : (Lib.decDigits u != []) = true := by simpa using h3
    have e3 : ((Lib.decDigits u).head? != some 48) = true := by simpa using h5
    rw [e2, e3, h1]
    simp

/-- Digits without noughts ahead are those of their number. -/
theorem dec_back (u : List UInt8) (h : whole u = true) : Lib.decDigits (dval u).toNat = u := by
  have key : ∀ u : List UInt8, allD u = true → u ≠ [] → (u.head? ≠ some 48 ∨ u = [48]) → Lib.decDigits (dval u).toNat = u ∧ (u.head? ≠ some 48 → 0 < dval u) := by
    intro u
    induction u using snoc_ind with
    | h0 => intro _ h; exact absurd rfl h
    | h1 v c ih =>
      intro hD _ hh
      rw [allD_append, Bool.and_eq_true] at hD
      have hc := isD_bd (c := c) (by simpa [allD] using hD.2)
      by_cases hv : v = []
      · subst hv
        rw [List.nil_append, dval_one]
        refine ⟨?_, fun h0 => ?_⟩
        · rw [Lib.decDigits_one (by omega)]
          have e : 48 + ((c.toNat : Int) - 48).toNat = c.toNat := by omega
          rw [e, UInt8.ofNat_toNat]
        · have : c.toNat ≠ 48 := by
            intro e
            apply h0
            have : c = 48 := UInt8.toNat_inj.1 e
            simp [this]
          omega
      · have hh2 : v.head? ≠ some 48 := by
          rcases hh with hh | hh
          · rwa [head_app hv] at hh
          · exfalso
            have := congrArg List.length hh
            simp at this
            exact hv this
        obtain ⟨i1, i2⟩ := ih hD.1 hv (.inl hh2)
        have hp := i2 hh2
        rw [dval_snoc]
        refine ⟨?_, fun _ => by omega⟩
        rw [dec_step (by omega)]
        have e1 : (dval v * 10 + ((c.toNat : Int) - 48)).toNat / 10 = (dval v).toNat := by omega
        have e2 : 48 + (dval v * 10 + ((c.toNat : Int) - 48)).toNat % 10 = c.toNat := by omega
        rw [e1, e2, i1, UInt8.ofNat_toNat]
  refine (key u (whole_D h) ?_ ?_).1
  · intro e; rw [e] at h; simp [whole] at h
  · unfold whole at h
    rw [Bool.or_eq_true] at h
    rcases h with h | h
    · right; simpa using h
    · left
      rw [Bool.and_eq_true, Bool.and_eq_true] at h
      simpa using h.1.2

/-- The two digits of the cents. -/
theorem showP_eq (m : Int) : showP m = Lib.decDigits (m / 100).toNat ++ 46 :: [UInt8.ofNat (48 + (m / 10 % 10).toNat), UInt8.ofNat (48 + (m % 10).toNat)] := by
  unfold showP
  rw [Lib.decDigits_one (i := (m / 10 % 10).toNat) (by omega), Lib.decDigits_one (i := (m % 10).toNat) (by omega)]
  simp

theorem showP_form (m : Int) (h : 0 ≤ m) : form (showP m) = true ∧ dval (units (showP m) ++ rests (showP m)) = m := by
  rw [showP_eq m]
  have d1 : (m / 10 % 10).toNat < 10 := by omega
  have d2 : (m % 10).toNat < 10 := by omega
  obtain ⟨f1, f2, f3⟩ := form_mk (u := Lib.decDigits (m / 100).toNat) (r := [UInt8.ofNat (48 + (m / 10 % 10).toNat), UInt8.ofNat (48 + (m % 10).toNat)]) (dec_whole _) rfl (allD_two (dg_isD d1) (dg_isD d2))
  refine ⟨f1, ?_⟩
  rw [f2, f3]
  have e : Lib.decDigits (m / 100).toNat ++ [UInt8.ofNat (48 + (m / 10 % 10).toNat), UInt8.ofNat (48 + (m % 10).toNat)] = (Lib.decDigits (m / 100).toNat ++ [UInt8.ofNat (48 + (m / 10 % 10).toNat)]) ++ [UInt8.ofNat (48 + (m % 10).toNat)] := by simp
  rw [e, dval_snoc, dval_snoc, dg_toNat d1, dg_toNat d2, (dec_facts _ _ (Nat.le_refl _)).2.1]
  omega

theorem showP_pos (m : Int) : neg (showP m) = false := by
  rw [showP_eq m]
  obtain ⟨h1, _, h3, _⟩ := dec_facts (m / 100).toNat _ (Nat.le_refl _)
  unfold neg
  rw [head_app h3]
  cases hd : Lib.decDigits (m / 100).toNat with
  | nil => exact absurd hd h3
  | cons a t =>
    rw [hd] at h1
    have ha : isD a = true := by simp [allD] at h1; exact h1.1
    simp only [List.head?_cons]
    rw [beq_eq_false_iff_ne]
    intro e
    rw [Option.some.inj e] at ha
    cases ha

theorem showP_len (m : Int) (h : 0 ≤ m) (h2 : m ≤ 1000000000000) : (showP m).length ≤ 19 := by
  rw [showP_eq m]
  have : (Lib.decDigits (m / 100).toNat).length ≤ 16 := by rw [Lib.decDigits_length]; exact ndig16 _ (by omega)
  simp; omega

theorem read_shown (n : Int) (h0 : -1000000000000 ≤ n) (h1 : n ≤ 1000000000000) : readR (showT n) = (n, 0) := by
  unfold showT
  by_cases hn : n < 0
  · rw [if_pos hn]
    have hl := showP_len (-n) (by omega) (by omega)
    obtain ⟨hf, hd⟩ := showP_form (-n) (by omega)
    have hng : neg (45 :: showP (-n)) = true := rfl
    have hb : body (45 :: showP (-n)) = showP (-n) := rfl
    have hz : ¬ (45 :: showP (-n)) = [45, 48, 46, 48, 48] := by
      intro e
      have := (neg_zero hng (by rw [hb]; exact hf)).2 e
      rw [hb, hd] at this
      omega
    rw [readR_good (by simp; omega) (by rw [hb]; exact hf) hz, hb, hd, if_neg (by omega), hng]
    simp
  · rw [if_neg hn]
    have hl := showP_len n (by omega) (by omega)
    obtain ⟨hf, hd⟩ := showP_form n (by omega)
    have hng := showP_pos n
    have hb : body (showP n) = showP n := by unfold body; rw [hng]; rfl
    have hz : ¬ showP n = [45, 48, 46, 48, 48] := by
      intro e; rw [e] at hng; cases hng
    rw [readR_good (by omega) (by rw [hb]; exact hf) hz, hb, hd, if_neg (by omega), hng]
    simp

theorem form_shown {t : List UInt8} (h : form t = true) : 0 ≤ dval (units t ++ rests t) ∧ showP (dval (units t ++ rests t)) = t := by
  obtain ⟨u, r, e, hr, hu, hd, e1, e2⟩ := form_split h
  rw [e1, e2]
  match r, hr with
  | [x, y], _ =>
    have hx := isD_bd (c := x) (by simp [allD] at hd; exact hd.1)
    have hy := isD_bd (c := y) (by simp [allD] at hd; exact hd.2)
    have hn := (cval_eq u (whole_D hu)).1
    have ed : dval (u ++ [x, y]) = (dval u * 10 + ((x.toNat : Int) - 48)) * 10 + ((y.toNat : Int) - 48) := by
      have : u ++ [x, y] = (u ++ [x]) ++ [y] := by simp
      rw [this, dval_snoc, dval_snoc]
    rw [ed]
    refine ⟨by omega, ?_⟩
    rw [showP_eq _, e]
    have a1 : ((dval u * 10 + ((x.toNat : Int) - 48)) * 10 + ((y.toNat : Int) - 48)) / 100 = dval u := by omega
    have a2 : 48 + (((dval u * 10 + ((x.toNat : Int) - 48)) * 10 + ((y.toNat : Int) - 48)) / 10 % 10).toNat = x.toNat := by omega
    have a3 : 48 + (((dval u * 10 + ((x.toNat : Int) - 48)) * 10 + ((y.toNat : Int) - 48)) % 10).toNat = y.toNat := by omega
    rw [a1, a2, a3, UInt8.ofNat_toNat, UInt8.ofNat_toNat, dec_back u hu]

/-- Where something was read, it is in range, and shown as it was; else the number is 0. -/
theorem shown_read (l : List UInt8) : ((readR l).2 = 0 ∧ -1000000000000 ≤ (readR l).1 ∧ (readR l).1 ≤ 1000000000000 ∧ showT (readR l).1 = l) ∨ (¬ (readR l).2 = 0 ∧ (readR l).1 = 0) := by
  by_cases h1 : 20 < l.length
  · right; unfold readR; rw [if_pos h1]; simp
  · cases hf : form (body l)
    · right; rw [readR_form h1 hf]; simp
    · by_cases hz : l = [45, 48, 46, 48, 48]
      · right; rw [readR_zero h1 hz]; simp
      · rw [readR_good h1 hf hz]
        obtain ⟨hp, hs⟩ := form_shown hf
        have hnz := fun hn => neg_zero (l := l) hn hf
        generalize dval (units (body l) ++ rests (body l)) = d at *
        by_cases hM : 1000000000000 < d
        · right; rw [if_pos hM]; simp
        · left
          rw [if_neg hM]
          cases hn : neg l
          · have hb : body l = l := by unfold body; rw [hn]; rfl
            refine ⟨rfl, ?_, ?_, ?_⟩
            · simp; omega
            · simp; omega
            · simp only [Bool.false_eq_true, if_false]
              unfold showT
              rw [if_neg (by omega), hs, hb]
          · have hb : body l = l.drop 1 := by unfold body; rw [hn]; rfl
            have hd : ¬ d = 0 := fun e => hz ((hnz hn).1 e)
            refine ⟨rfl, ?_, ?_, ?_⟩
            · simp; omega
            · simp; omega
            · simp only [if_true]
              unfold showT
              rw [if_pos (by omega), Int.neg_neg, hs, hb]
              cases l with
              | nil => cases hn
              | cons a t =>
                have : a = 45 := by simpa [neg] using hn
                rw [this]; rfl

end Go.Proofs.YtlicdeppfhmfjaaGreatDoor.cents

/- What is wrong with a text of digits: plain facts. -/
namespace Go.Proofs.YtlicdeppfhmfjaaGreatDoor.check
open Go.RowKit

theorem flawR_zero {l : List UInt8} (h : flawR l = 0) : (1 ≤ l.length ∧ l.length ≤ 200) ∧ allD l = true := by
  unfold flawR at h
  by_cases h1 : l.length = 0 ∨ 200 < l.length
  · rw [if_pos h1] at h; omega
  · rw [if_neg h1] at h
    cases h2 : allD l
    · rw [h2] at h; simp at h
    · exact ⟨by omega, rfl⟩

end Go.Proofs.YtlicdeppfhmfjaaGreatDoor.check

/- Digits turned round. -/
namespace Go.Proofs.YtlicdeppfhmfjaaGreatDoor.check
open Go.RowKit

theorem AllD.rev {l : List Nat} (h : AllD l) : AllD l.reverse := fun d hd => h d (by simpa using hd)

end Go.Proofs.YtlicdeppfhmfjaaGreatDoor.check

/- Sums of digits: plain facts. -/
namespace Go.Proofs.YtlicdeppfhmfjaaGreatDoor.check
open Go.RowKit

/-- The sum of a text whose last digit stands at a place (P3.3). -/
def sumR (l : List UInt8) (last : Nat) : Nat := foldN last 0 (digs l).reverse
/-- What P3.4 says. -/
def digitR (l : List UInt8) : Int := if flawR l = 0 then ((invN (sumR l 1) : Nat) : Int) else 0
/-- What P3.5 says. -/
def goodR (l : List UInt8) : Bool := decide (2 ≤ l.length) && (flawR l == 0) && (sumR l 0 == 0)
theorem sumR_lt {l : List UInt8} (h : allD l = true) (last : Nat) : sumR l last < 10 := foldN_lt _ _ _ (by decide) (digs_ok h).rev

end Go.Proofs.YtlicdeppfhmfjaaGreatDoor.check

/- Receipts: plain facts. -/
namespace Go.Proofs.YtlicdeppfhmfjaaGreatDoor.rcp
open Go.Proofs.YtlicdeppfhmfjaaGreatDoor.cents (showT readR read_shown)
open Go.Proofs.YtlicdeppfhmfjaaGreatDoor.check (digitR goodR flawR)
open Go.Proofs.YtlicdeppfhmfjaaGreatDoor.token (parseE tokOf dv)
set_option linter.unusedVariables false

/-- Decimal digits, with noughts ahead. -/
def pad (n : Nat) (k : Nat) : List UInt8 := List.replicate (k - (Lib.decDigits n).length) 48 ++ Lib.decDigits n
/-- A meter's number on paper. -/
def numL (m : Nat) : List UInt8 := pad m 10 ++ Lib.decDigits (digitR (pad m 10)).toNat
def MMay (m : Int) : Prop := 0 ≤ m ∧ m ≤ 49
def NumIs (m : Int) (l : List UInt8) (e : Int) : Prop := (MMay m ∧ l = numL m.toNat ∧ e = 0) ∨ (¬ MMay m ∧ l = [] ∧ e = 18)
theorem NumIs.one {m e e' : Int} {l l' : List UInt8} (h : NumIs m l e) (h' : NumIs m l' e') : l = l' ∧ e = e' := by
  rcases h with ⟨a, rfl, rfl⟩ | ⟨a, rfl, rfl⟩ <;> rcases h' with ⟨a', rfl, rfl⟩ | ⟨a', rfl, rfl⟩ <;> first | exact ⟨rfl, rfl⟩ | contradiction
theorem num_all : ∀ m, m < 50 → (numL m).length = 11 ∧ flawR (numL m) = 0 ∧ goodR (numL m) = true ∧ dv ((numL m).take 10) = m ∧ (numL m).all (fun c => c != 10) = true := by decide +kernel
/-- The meter of a number. -/
def Named (l : List UInt8) (m : Nat) : Prop := m < 50 ∧ numL m = l
theorem Named.one {l : List UInt8} {m k : Nat} (h : Named l m) (h' : Named l k) : m = k := by
  have a := (num_all m h.1).2.2.2.1
  have b := (num_all k h'.1).2.2.2.1
  rw [h.2] at a
  rw [h'.2] at b
  omega
def MeterIs (l : List UInt8) (m e : Int) : Prop :=
  (l.length ≠ 11 ∧ m = 0 ∧ e = 6) ∨ (l.length = 11 ∧ flawR l ≠ 0 ∧ m = 0 ∧ e = flawR l) ∨ (l.length = 11 ∧ flawR l = 0 ∧ goodR l = false ∧ m = 0 ∧ e = 8) ∨
  (l.length = 11 ∧ flawR l = 0 ∧ goodR l = true ∧ (∀ k, ¬ Named l k) ∧ m = 0 ∧ e = 18) ∨ (l.length = 11 ∧ flawR l = 0 ∧ goodR l = true ∧ ∃ k : Nat, Named l k ∧ m = (k : Int) ∧ e = 0)
theorem MeterIs.one {l : List UInt8} {m e m' e' : Int} (h : MeterIs l m e) (h' : MeterIs l m' e') : m = m' ∧ e = e' := by
  rcases h with ⟨a, rfl, rfl⟩ | ⟨a, b, rfl, rfl⟩ | ⟨a, b, c, rfl, rfl⟩ | ⟨a, b, c, d, rfl, rfl⟩ | ⟨a, b, c, k, d, rfl, rfl⟩ <;> rcases h' with ⟨a', rfl, rfl⟩ | ⟨a', b', rfl, rfl⟩ | ⟨a', b', c', rfl, rfl⟩ | ⟨a', b', c', d', rfl, rfl⟩ | ⟨a', b', c', k', d', rfl, rfl⟩ <;> first | exact ⟨rfl, rfl⟩ | contradiction | (rw [c] at c'; exact absurd c' (by decide)) | exact absurd d' (d _) | exact absurd d (d' _) | (obtain rfl := d.one d'; exact ⟨rfl, rfl⟩)
theorem meter_back {k : Nat} (hk : k < 50) {m e : Int} (h : MeterIs (numL k) m e) : m = (k : Int) ∧ e = 0 := by
  obtain ⟨a, b, c, _⟩ := num_all k hk
  exact h.one (.inr (.inr (.inr (.inr ⟨a, b, c, k, ⟨hk, rfl⟩, rfl, rfl⟩))))
/-- A receipt. -/
structure Rc where
  me : Int
  id : Int
  te : Int
  de : Int
  fe : Int
  pr : Int
  ch : Int
  un : Int
  tk : List UInt8
def rc0 : Rc := ⟨0, 0, 0, 0, 0, 0, 0, 0, []⟩
def Ten (z : Int) : Prop := 0 ≤ z ∧ z ≤ 100000000
def RRange (r : Rc) : Prop := (Ten r.te ∧ Ten r.de ∧ Ten r.fe ∧ Ten r.pr) ∧ Ten r.ch ∧ (1 ≤ r.id ∧ r.id ≤ 1048575) ∧ 0 ≤ r.un ∧ r.un ≤ 2097151
def RSum (r : Rc) : Prop := r.te - r.de - r.fe - r.pr - r.ch = 0
def tokR (r : Rc) : token.Tok := tokOf (dv r.tk / 97)
def RTok (r : Rc) : Prop := ((tokR r).i : Int) = r.id ∧ ((tokR r).c = 0 → ((tokR r).a : Int) = r.un) ∧ ((tokR r).c ≠ 0 → r.un = 0)
/-- What is wrong with a receipt. -/
def FaultIs (r : Rc) (e : Int) : Prop :=
  (¬ MMay r.me ∧ e = 18) ∨ (MMay r.me ∧ ¬ RRange r ∧ e = 2) ∨ (MMay r.me ∧ RRange r ∧ ¬ RSum r ∧ e = 19) ∨ (MMay r.me ∧ RRange r ∧ RSum r ∧ parseE r.tk ≠ 0 ∧ e = parseE r.tk) ∨
  (MMay r.me ∧ RRange r ∧ RSum r ∧ parseE r.tk = 0 ∧ ¬ RTok r ∧ e = 8) ∨ (MMay r.me ∧ RRange r ∧ RSum r ∧ parseE r.tk = 0 ∧ RTok r ∧ e = 0)
theorem FaultIs.one {r : Rc} {e f : Int} (h : FaultIs r e) (h' : FaultIs r f) : e = f := by
  rcases h with ⟨a, rfl⟩ | ⟨a, b, rfl⟩ | ⟨a, b, c, rfl⟩ | ⟨a, b, c, d, rfl⟩ | ⟨a, b, c, d, g, rfl⟩ | ⟨a, b, c, d, g, rfl⟩ <;> rcases h' with ⟨a', rfl⟩ | ⟨a', b', rfl⟩ | ⟨a', b', c', rfl⟩ | ⟨a', b', c', d', rfl⟩ | ⟨a', b', c', d', g', rfl⟩ | ⟨a', b', c', d', g', rfl⟩ <;> first | rfl | contradiction
def Right (r : Rc) : Prop := MMay r.me ∧ RRange r ∧ RSum r ∧ parseE r.tk = 0 ∧ RTok r
theorem FaultIs.ok {r : Rc} {e : Int} (h : FaultIs r e) : e = 0 ↔ Right r := by
  rcases h with ⟨a, rfl⟩ | ⟨a, b, rfl⟩ | ⟨a, b, c, rfl⟩ | ⟨a, b, c, d, rfl⟩ | ⟨a, b, c, d, g, rfl⟩ | ⟨a, b, c, d, g, rfl⟩
  · exact ⟨fun h => absurd h (by decide), fun h => absurd h.1 a⟩
  · exact ⟨fun h => absurd h (by decide), fun h => absurd h.2.1 b⟩
  · exact ⟨fun h => absurd h (by decide), fun h => absurd h.2.2.1 c⟩
  · exact ⟨fun h => absurd h d, fun h => absurd h.2.2.2.1 d⟩
  · exact ⟨fun h => absurd h (by decide), fun h => absurd h.2.2.2.2 g⟩
  · exact ⟨fun _ => ⟨a, b, c, d, g⟩, fun _ => rfl⟩
theorem parse_len {l : List UInt8} (h : parseE l = 0) : l.length = 20 ∧ check.allD l = true := by
  unfold parseE at h
  by_cases a : l.length = 20
  · refine ⟨a, ?_⟩
    rw [if_neg (by omega)] at h
    by_cases b : check.allD l = false
    · rw [if_pos b] at h; exact absurd h (by decide)
    · simpa using b
  · rw [if_pos a] at h; exact absurd h (by decide)
/-- A line: a name, a blank, a text, a line feed. -/
def line (n v : List UInt8) : List UInt8 := n ++ 32 :: (v ++ [10])
def nMETER : List UInt8 := [77, 69, 84, 69, 82]
def nNUMBER : List UInt8 := [78, 85, 77, 66, 69, 82]
def nTENDER : List UInt8 := [84, 69, 78, 68, 69, 82]
def nDEBT : List UInt8 := [68, 69, 66, 84]
def nFEE : List UInt8 := [70, 69, 69]
def nPRICE : List UInt8 := [80, 82, 73, 67, 69]
def nCHANGE : List UInt8 := [67, 72, 65, 78, 71, 69]
def nUNITS : List UInt8 := [85, 78, 73, 84, 83]
def nTOKEN : List UInt8 := [84, 79, 75, 69, 78]
/-- Twenty digits, four by four. -/
def four (k : List UInt8) : List UInt8 := k.take 4 ++ 32 :: ((k.drop 4).take 4 ++ 32 :: ((k.drop 8).take 4 ++ 32 :: ((k.drop 12).take 4 ++ 32 :: (k.drop 16).take 4)))
/-- What stands behind the first blank of each line. -/
def vals (r : Rc) : List (List UInt8) := [numL r.me.toNat, Lib.decDigits r.id.toNat, showT r.te, showT r.de, showT r.fe, showT r.pr, showT r.ch, Lib.decDigits r.un.toNat, four r.tk]
def paper (r : Rc) : List UInt8 :=
  line nMETER (numL r.me.toNat) ++ (line nNUMBER (Lib.decDigits r.id.toNat) ++ (line nTENDER (showT r.te) ++ (line nDEBT (showT r.de) ++ (line nFEE (showT r.fe) ++ (line nPRICE (showT r.pr) ++ (line nCHANGE (showT r.ch) ++ (line nUNITS (Lib.decDigits r.un.toNat) ++ line nTOKEN (four r.tk))))))))
/-- The values of a text, byte by byte: those that are whole; whether a line begins; what has come behind the blank. -/
def valG : List UInt8 → List (List UInt8) → Bool → Option (List UInt8) → List (List UInt8) × Bool
  | [], out, b, _ => (out, decide (out.length = 9) && b)
  | c :: t, out, b, cur =>
    if c = 10 then match cur with
      | none => ([], false)
      | some v => valG t (out ++ [v]) true none
    else valG t out false (match cur with
      | none => if c = 32 then some [] else none
      | some v => some (v ++ [c]))
def valsOf (l : List UInt8) : List (List UInt8) × Bool := valG l [] true none
theorem valG_skip {c : UInt8} (h : c ≠ 10) (t : List UInt8) (out : List (List UInt8)) (b : Bool) (cur : Option (List UInt8)) : valG (c :: t) out b cur = valG t out false (match cur with
      | none => if c = 32 then some [] else none
      | some v => some (v ++ [c])) := by
  conv => lhs; unfold valG
  rw [if_neg h]
theorem val_name (n t : List UInt8) (out : List (List UInt8)) (b : Bool) (h : n.all (fun c => c != 10 && c != 32) = true) : valG (n ++ 32 :: t) out b none = valG t out false (some []) := by
  induction n generalizing b with
  | nil => rfl
  | cons c n ih =>
    rw [List.all_cons, Bool.and_eq_true] at h
    obtain ⟨h1, h2⟩ := h
    rw [Bool.and_eq_true] at h1
    have c1 : c ≠ 10 := by simpa using h1.1
    have c2 : c ≠ 32 := by simpa using h1.2
    show valG (c :: (n ++ 32 :: t)) out b none = _
    rw [valG_skip c1]
    dsimp only
    rw [if_neg c2]
    exact ih false h2
theorem val_text (v u t : List UInt8) (out : List (List UInt8)) (h : v.all (fun c => c != 10) = true) : valG (v ++ 10 :: t) out false (some u) = valG t (out ++ [u ++ v]) true none := by
  induction v generalizing u with
  | nil => rw [List.append_nil]; rfl
  | cons c v ih =>
    rw [List.all_cons, Bool.and_eq_true] at h
    have c1 : c ≠ 10 := by simpa using h.1
    show valG (c :: (v ++ 10 :: t)) out false (some u) = _
    rw [valG_skip c1]
    dsimp only
    rw [ih (u ++ [c]) h.2, List.append_assoc]
    rfl
theorem val_line (n v t : List UInt8) (out : List (List UInt8)) (b : Bool) (hn : n.all (fun c => c != 10 && c != 32) = true) (hv : v.all (fun c => c != 10) = true) : valG (line n v ++ t) out b none = valG t (out ++ [v]) true none := by
  unfold line
  rw [List.append_assoc, List.cons_append, val_name n _ out b hn, List.append_assoc]
  exact val_text v [] t out hv
theorem dec_no10 (u : Nat) : (Lib.decDigits u).all (fun c => c != 10) = true := by
  have h := (cents.dec_facts u u (Nat.le_refl _)).1
  refine List.all_eq_true.2 fun c hc => ?_
  have := List.all_eq_true.1 h c hc
  simp [cents.isD] at this
  simp
  intro e
  subst e
  exact absurd this.1 (by decide)
theorem all_app (l m : List UInt8) (f : UInt8 → Bool) : (l ++ m).all f = (l.all f && m.all f) := List.all_append
theorem show_no10 (n : Int) (h : 0 ≤ n) : (showT n).all (fun c => c != 10) = true := by
  unfold showT
  rw [if_neg (by omega)]
  unfold cents.showP
  rw [all_app, all_app, all_app, dec_no10, dec_no10, dec_no10]
  decide
theorem four_no10 {k : List UInt8} (h : check.allD k = true) : (four k).all (fun c => c != 10) = true := by
  have hk : ∀ c ∈ k, (c != 10) = true := fun c hc => by
    have := List.all_eq_true.1 h c hc
    simp [check.isD] at this
    simp
    intro e
    subst e
    exact absurd this.1 (by decide)
  have ht : ∀ (l : List UInt8), (∀ c ∈ l, c ∈ k) → l.all (fun c => c != 10) = true := fun l hl => List.all_eq_true.2 fun c hc => hk c (hl c hc)
  have e : ((32 : UInt8) != 10) = true := by decide
  unfold four
  simp only [all_app, List.all_cons, Bool.and_eq_true, e]
  exact ⟨ht _ fun c hc => List.mem_of_mem_take hc, trivial, ht _ fun c hc => List.mem_of_mem_drop (List.mem_of_mem_take hc), trivial, ht _ fun c hc => List.mem_of_mem_drop (List.mem_of_mem_take hc), trivial, ht _ fun c hc => List.mem_of_mem_drop (List.mem_of_mem_take hc), trivial, ht _ fun c hc => List.mem_of_mem_drop (List.mem_of_mem_take hc)⟩
/-- The lines of a receipt that is right are read off its paper. -/
theorem vals_paper {r : Rc} (h : Right r) : valsOf (paper r) = (vals r, true) := by
  obtain ⟨⟨m0, m1⟩, ⟨⟨⟨t0, _⟩, ⟨d0, _⟩, ⟨f0, _⟩, p0, _⟩, ⟨c0, _⟩, _⟩, _, hp, _⟩ := h
  have hn := (num_all r.me.toNat (by omega)).2.2.2.2
  unfold valsOf paper
  rw [val_line _ _ _ _ _ (by decide) hn, val_line _ _ _ _ _ (by decide) (dec_no10 _), val_line _ _ _ _ _ (by decide) (show_no10 _ t0), val_line _ _ _ _ _ (by decide) (show_no10 _ d0), val_line _ _ _ _ _ (by decide) (show_no10 _ f0), val_line _ _ _ _ _ (by decide) (show_no10 _ p0), val_line _ _ _ _ _ (by decide) (show_no10 _ c0), val_line _ _ _ _ _ (by decide) (dec_no10 _)]
  have e := val_line nTOKEN (four r.tk) [] ([] ++ [numL r.me.toNat] ++ [Lib.decDigits r.id.toNat] ++ [showT r.te] ++ [showT r.de] ++ [showT r.fe] ++ [showT r.pr] ++ [showT r.ch] ++ [Lib.decDigits r.un.toNat]) true (by decide) (four_no10 (parse_len hp).2)
  rw [List.append_nil] at e
  rw [e]
  rfl
/-- A whole number of at most seven digits. -/
def wholeR (l : List UInt8) : Int := if l.length < 1 ∨ 7 < l.length then -1 else if cents.allD l = true then cents.dval l else -1
theorem dec_len7 (u : Nat) (h : u ≤ 2097151) : 1 ≤ (Lib.decDigits u).length ∧ (Lib.decDigits u).length ≤ 7 := by
  have hne := (cents.dec_facts u u (Nat.le_refl _)).2.2.1
  refine ⟨by cases e : Lib.decDigits u with
    | nil => exact absurd e hne
    | cons a l => simp, ?_⟩
  have step : ∀ v : Nat, ∀ k : Nat, v < 10 ^ (k + 1) → (Lib.decDigits v).length ≤ k + 1 := fun v k => by
    induction k generalizing v with
    | zero =>
      intro hv
      have : ∀ x, x < 10 → (Lib.decDigits x).length ≤ 0 + 1 := by decide +kernel
      exact this v (by omega)
    | succ k ih =>
      intro hv
      by_cases h10 : v < 10
      · have : ∀ x, x < 10 → (Lib.decDigits x).length ≤ 1 := by decide +kernel
        have := this v h10
        omega
      · rw [cents.dec_step h10, List.length_append]
        have := ih (v / 10) (by rw [Nat.pow_succ] at hv; omega)
        simp
        omega
  have := step u 6 (by omega)
  omega
theorem whole_dec {u : Nat} (h : u ≤ 2097151) : wholeR (Lib.decDigits u) = (u : Int) := by
  have h1 := dec_len7 u h
  have h2 := cents.dec_facts u u (Nat.le_refl _)
  unfold wholeR
  rw [if_neg (by omega), if_pos h2.1, h2.2.1]
/-- The twenty digits out of their line. -/
def unfour (t : List UInt8) : List UInt8 := t.take 4 ++ ((t.drop 5).take 4 ++ ((t.drop 10).take 4 ++ ((t.drop 15).take 4 ++ (t.drop 20).take 4)))
theorem four_len {k : List UInt8} (h : k.length = 20) : (four k).length = 24 := by
  unfold four
  simp only [List.length_append, List.length_cons, List.length_take, List.length_drop]
  omega
theorem un_four {k : List UInt8} (h : k.length = 20) : unfour (four k) = k := by
  match k, h with
  | [a, b, c, d, e, f, g, i, j, l, m, n, o, p, q, r, s, t, u, v], _ => rfl
/-- The receipt that the lines tell of. -/
def MeterV (l : List UInt8) (m : Int) : Prop := ∃ e, MeterIs l m e
def Cand (l : List (List UInt8)) (r : Rc) : Prop := MeterV (l.getD 0 []) r.me ∧ r = ⟨r.me, wholeR (l.getD 1 []), (readR (l.getD 2 [])).1, (readR (l.getD 3 [])).1, (readR (l.getD 4 [])).1, (readR (l.getD 5 [])).1, (readR (l.getD 6 [])).1, wholeR (l.getD 7 []), unfour (l.getD 8 [])⟩
theorem Cand.one {l : List (List UInt8)} {r s : Rc} (h : Cand l r) (h' : Cand l s) : r = s := by
  obtain ⟨⟨e, a⟩, b⟩ := h
  obtain ⟨⟨e', a'⟩, b'⟩ := h'
  rw [b, b', (a.one a').1]
theorem cand_right {r : Rc} (h : Right r) : Cand (vals r) r := by
  obtain ⟨⟨m0, m1⟩, ⟨⟨⟨t0, t1⟩, ⟨d0, d1⟩, ⟨f0, f1⟩, p0, p1⟩, ⟨c0, c1⟩, ⟨i0, i1⟩, u0, u1⟩, _, hp, _⟩ := h
  obtain ⟨na, nb, nc, _⟩ := num_all r.me.toNat (by omega)
  refine ⟨⟨0, .inr (.inr (.inr (.inr ⟨na, nb, nc, r.me.toNat, ⟨by omega, rfl⟩, by omega, rfl⟩)))⟩, ?_⟩
  show r = ⟨r.me, wholeR (Lib.decDigits r.id.toNat), (readR (showT r.te)).1, (readR (showT r.de)).1, (readR (showT r.fe)).1, (readR (showT r.pr)).1, (readR (showT r.ch)).1, wholeR (Lib.decDigits r.un.toNat), unfour (four r.tk)⟩
  rw [whole_dec (by omega), whole_dec (by omega), read_shown _ (by omega) (by omega), read_shown _ (by omega) (by omega), read_shown _ (by omega) (by omega), read_shown _ (by omega) (by omega), read_shown _ (by omega) (by omega), un_four (parse_len hp).1]
  rw [Int.toNat_of_nonneg (by omega), Int.toNat_of_nonneg (by omega)]
theorem paper_inj {r s : Rc} (hr : Right r) (hs : Right s) (h : paper r = paper s) : r = s := by
  have a := vals_paper hr
  rw [h, vals_paper hs] at a
  have b : vals s = vals r := congrArg Prod.fst a
  have c := cand_right hr
  rw [← b] at c
  exact c.one (cand_right hs)
def ShowIs (r : Rc) (l : List UInt8) (e : Int) : Prop := FaultIs r e ∧ ((e = 0 ∧ l = paper r) ∨ (e ≠ 0 ∧ l = []))
theorem ShowIs.one {r : Rc} {l l' : List UInt8} {e e' : Int} (h : ShowIs r l e) (h' : ShowIs r l' e') : l = l' ∧ e = e' := by
  obtain ⟨a, b⟩ := h
  obtain ⟨a', b'⟩ := h'
  obtain rfl := a.one a'
  rcases b with ⟨_, rfl⟩ | ⟨c, rfl⟩ <;> rcases b' with ⟨_, rfl⟩ | ⟨c', rfl⟩ <;> first | exact ⟨rfl, rfl⟩ | contradiction
def ReadIs (l : List UInt8) (r : Rc) (e : Int) : Prop :=
  (400 < l.length ∧ r = rc0 ∧ e = 1) ∨ (¬ 400 < l.length ∧ (∀ s, Right s → paper s ≠ l) ∧ r = rc0 ∧ e = 3) ∨ (¬ 400 < l.length ∧ Right r ∧ paper r = l ∧ e = 0)
theorem ReadIs.one {l : List UInt8} {r s : Rc} {e f : Int} (h : ReadIs l r e) (h' : ReadIs l s f) : r = s ∧ e = f := by
  rcases h with ⟨a, rfl, rfl⟩ | ⟨a, b, rfl, rfl⟩ | ⟨a, b, c, rfl⟩ <;> rcases h' with ⟨a', rfl, rfl⟩ | ⟨a', b', rfl, rfl⟩ | ⟨a', b', c', rfl⟩ <;> first | exact ⟨rfl, rfl⟩ | contradiction | exact absurd c' (b _ b') | exact absurd c (b' _ ‹_›) | exact ⟨paper_inj b b' (c.trans c'.symm), rfl⟩

end Go.Proofs.YtlicdeppfhmfjaaGreatDoor.rcp

/- What the five of the receipts give back. -/
namespace Go.Proofs.YtlicdeppfhmfjaaGreatDoor.rcp
open Go.RowKit

/-- A text. -/
def tx (l : List UInt8) : Value := .string ⟨l.toArray⟩
def Rc.cs (r : Rc) : Array Value := #[.int .i64 r.me, .int .i64 r.id, .int .i64 r.te, .int .i64 r.de, .int .i64 r.fe, .int .i64 r.pr, .int .i64 r.ch, .int .i64 r.un, .string ⟨r.tk.toArray⟩]
def wf8 (r : Rc) : Prop := ((Lit.int .i64 r.me).wf = true ∧ (Lit.int .i64 r.id).wf = true ∧ (Lit.int .i64 r.te).wf = true ∧ (Lit.int .i64 r.de).wf = true) ∧ (Lit.int .i64 r.fe).wf = true ∧ (Lit.int .i64 r.pr).wf = true ∧ (Lit.int .i64 r.ch).wf = true ∧ (Lit.int .i64 r.un).wf = true
def Rc.v (r : Rc) : Value := .agg r.cs
def NumPost (w : World) (m : Int) (e : Ending) (w' : World) : Prop := ∃ l f, e = .returned (.tuple #[.string ⟨l.toArray⟩, .int .i64 f]) ∧ NumIs m l f ∧ Below w.heap.size w w'
def MeterPost (w : World) (l : List UInt8) (e : Ending) (w' : World) : Prop := ∃ m f, e = .returned (.tuple #[.int .i64 m, .int .i64 f]) ∧ MeterIs l m f ∧ Below w.heap.size w w'
def FaultPost (w : World) (r : Rc) (e : Ending) (w' : World) : Prop := ∃ f, e = .returned (.int .i64 f) ∧ FaultIs r f ∧ Below w.heap.size w w'
def ShowPost (w : World) (r : Rc) (e : Ending) (w' : World) : Prop := ∃ l f, e = .returned (.tuple #[.string ⟨l.toArray⟩, .int .i64 f]) ∧ ShowIs r l f ∧ Below w.heap.size w w'
def ReadPost (w : World) (l : List UInt8) (e : Ending) (w' : World) : Prop := ∃ r f, e = .returned (.tuple #[Rc.v r, .int .i64 f]) ∧ ReadIs l r f ∧ Below w.heap.size w w'

end Go.Proofs.YtlicdeppfhmfjaaGreatDoor.rcp

/- receipt.Read: what is asked of it. -/
namespace Go.Proofs.YtlicdeppfhmfjaaGreatDoor.rcp
open Go.RowKit

def KrRead (w0 : World) : Prop := ∀ (W : World) (s : ByteArray), Below w0.heap.size w0 W →  Calls Tryz.prog 8 #[.string s] W fun e w' => ReadPost W s.data.toList e w'

end Go.Proofs.YtlicdeppfhmfjaaGreatDoor.rcp

/- A store behind which the world is a letter: what it changed, and that nothing else did. -/
namespace Go.Proofs.YtlicdeppfhmfjaaGreatDoor
open Go.RowKit

/-- The cells with these ones from a place on. -/
def putAll (cs : Array Value) : Nat → List Value → Array Value
  | _, [] => cs
  | o, v :: r => putAll (cs.setIfInBounds o v) (o + 1) r
/-- The block g holds these cells now; nothing else is changed. -/
structure Upd (w W : World) (g : Nat) (cs : Array Value) (t : TypeId) : Prop where
  blk : Blk W g cs t
  oth : ∀ G, G ≠ g → W.heap[G]? = w.heap[G]?
  bel : ∀ B w0, B ≤ g → Below B w0 w → Below B w0 W
  size : W.heap.size = w.heap.size
theorem Upd.keep {w W : World} {g G : Nat} {cs cs' : Array Value} {t t' : TypeId} (h : Upd w W g cs t) (hb : Blk w G cs' t') (hne : G ≠ g) : Blk W G cs' t' := by
  unfold Blk at *; rw [h.oth G hne]; exact hb
theorem Upd.cell {w W : World} {g : Nat} {cs : Array Value} {t : TypeId} (h : Upd w W g cs t) (x : Addr) (hne : x.block ≠ g) (hs : x.spot = none) : W.cell? x = w.cell? x := by
  obtain ⟨b, o, s⟩ := x
  simp only at hs hne
  subst hs
  simp only [World.cell?, h.oth b hne]
theorem upd_cells (g : Nat) (t : TypeId) : ∀ (vs : List Value) (o : Nat) (w : World) (cs : Array Value), Blk w g cs t → Upd w (w.setCells g o vs) g (putAll cs o vs) t
  | [], o, w, cs, h => ⟨h, fun _ _ => rfl, fun _ _ _ hb => hb, rfl⟩
  | v :: r, o, w, cs, h => by
    have ih := upd_cells g t r (o + 1) (w.setCell ⟨g, o, none⟩ v) (cs.setIfInBounds o v) (h.set o v)
    refine ⟨ih.blk, fun G hG => ?_, fun B w0 hB hb => ih.bel B w0 hB (bel_set hb g o v hB), ?_⟩
    · show ((w.setCell ⟨g, o, none⟩ v).setCells g (o + 1) r).heap[G]? = _
      rw [ih.oth G hG]
      simp only [World.setCell, Array.getElem?_modify]
      rw [if_neg (fun e => hG e.symm)]
    · show ((w.setCell ⟨g, o, none⟩ v).setCells g (o + 1) r).heap.size = _
      rw [ih.size]; simp [World.setCell]
theorem run_storeVar_let {P : Program} {w : World} {g off : Nat} {ty t : TypeId} {v : Value} {cells cs : Array Value} (hv : v.cells = cells) (hi : (P.info? ty).map (·.size) = some cells.size) (h1 : cells.all (·.oneCell') = true)
    (hB : Blk w g cs t) (hin : off + cells.size ≤ cs.size) : (storeVar ty ⟨g, off, none⟩ v).run P w = .ok () (w.setCells g off cells.toList) := by
  have := run_storeCells_cells (P := P) g off cells.toList 0 w (fun j hj => by
      have hj' : j < cells.size := by simpa using hj
      rw [Nat.add_zero, hB.cell (off + j), Array.getElem?_eq_getElem (by omega)]; rfl)
    (fun j hj => hB.free _) (fun v hv => (Array.all_eq_true_iff_forall_mem.1 h1) v (by simpa using hv))
  cases hq : P.info? ty with
  | none => simp [hq] at hi
  | some i =>
    have hs : cells.size = i.size := by simp [hq] at hi; omega
    simp only [Nat.add_zero] at this
    simp [storeVar, sizeOf, typeInfo, hq, hv, hs, this]
/-- THE STORE. -/
theorem wp_let {P : Program} {ops : Array Oper} {rest : List Oper} {o : Oper} {a : Act} {w : World} {Q : Exit → Act → World → Prop} (hgd : o.guard = none) (ty : TypeId) (x y : Operand) (ho : o.op = .store ty x y)
    (g off : Nat) (hx : a.eval x = .pointer (some ⟨g, off, none⟩)) (v : Value) (hy : a.eval y = v) (cells : Array Value) (hv : v.cells = cells) (hi : (P.info? ty).map (·.size) = some cells.size) (h1 : cells.all (·.oneCell') = true)
    (cs : Array Value) (t : TypeId) (hB : Blk w g cs t) (hin : off + cells.size ≤ cs.size) (new : Array Value) (hnew : putAll cs off cells.toList = new)
    (h : ∀ W, Upd w W g new t → wpList P ops Q rest (a.put o.dst undef) W) : wpList P ops Q (o :: rest) a w :=
  wpList_plain hgd fun _ hK => by
    unfold Oper.wp execOp
    simp only [ho, hx, hy, Instr.storeAt, Instr.sureAddr, Sem.run_bind, Sem.run_pure, Result.andThen_ok, run_storeVar_let hv hi h1 hB hin]
    refine hK _ _ (h _ ?_)
    rw [← hnew]
    exact upd_cells g t cells.toList off w cs hB
theorem putAll_all : ∀ (vs : List Value) (o : Nat) (cs : Array Value), o + vs.length = cs.size → (putAll cs o vs).toList = cs.toList.take o ++ vs
  | [], o, cs, h => by simp [putAll]; rw [List.take_of_length_le (by simpa using (by simp at h; omega))]
  | v :: r, o, cs, h => by
    rw [putAll, putAll_all r (o + 1) (cs.setIfInBounds o v) (by simp at h ⊢; omega)]
    have ho : o < cs.toList.length := by simp at h ⊢; omega
    rw [Array.toList_setIfInBounds, List.take_set, List.take_succ_eq_append_getElem ho]
    have ho' : o < cs.size := by simpa using ho
    have hm : min o cs.size = o := by omega
    simp [hm]
/-- The whole block is stored. -/
theorem wp_letAll {P : Program} {ops : Array Oper} {rest : List Oper} {o : Oper} {a : Act} {w : World} {Q : Exit → Act → World → Prop} (hgd : o.guard = none) (ty : TypeId) (x y : Operand) (ho : o.op = .store ty x y)
    (g : Nat) (hx : a.eval x = .pointer (some ⟨g, 0, none⟩)) (cells : Array Value) (hy : a.eval y = .agg cells) (hi : (P.info? ty).map (·.size) = some cells.size) (h1 : cells.all (·.oneCell') = true)
    (cs : Array Value) (t : TypeId) (hB : Blk w g cs t) (hin : cells.size = cs.size)
    (h : ∀ W, Upd w W g cells t → wpList P ops Q rest (a.put o.dst undef) W) : wpList P ops Q (o :: rest) a w :=
  wp_let hgd ty x y ho g 0 hx _ hy cells rfl hi h1 cs t hB (by omega) cells (by
    have := putAll_all cells.toList 0 cs (by simpa using hin)
    rw [List.take_zero, List.nil_append] at this
    rw [← Array.toList_inj]; exact this) h
/-- One cell is stored. -/
theorem wp_let1 {P : Program} {ops : Array Oper} {rest : List Oper} {o : Oper} {a : Act} {w : World} {Q : Exit → Act → World → Prop} (hgd : o.guard = none) (ty : TypeId) (x y : Operand) (ho : o.op = .store ty x y)
    (g off : Nat) (hx : a.eval x = .pointer (some ⟨g, off, none⟩)) (k : IntKind) (n : Int) (hy : a.eval y = .int k n) (hi : (P.info? ty).map (·.size) = some 1)
    (cs : Array Value) (t : TypeId) (hB : Blk w g cs t) (hin : off < cs.size)
    (h : ∀ W, Upd w W g (cs.setIfInBounds off (.int k n)) t → wpList P ops Q rest (a.put o.dst undef) W) : wpList P ops Q (o :: rest) a w :=
  wp_let hgd ty x y ho g off hx _ hy #[.int k n] rfl hi (by simp [Value.oneCell']) cs t hB (by simp; omega) _ rfl h
/-- THE LOAD of a whole block. -/
theorem wp_whole {P : Program} {ops : Array Oper} {rest : List Oper} {o : Oper} {a : Act} {w : World} {Q : Exit → Act → World → Prop} (hgd : o.guard = none) (ty : TypeId) (x : Operand) (ho : o.op = .load ty x)
    (g : Nat) (hx : a.eval x = .pointer (some ⟨g, 0, none⟩)) (t : TypeId) (cs : Array Value) (d : TypeDesc) (hB : Blk w g cs t)
    (hu : P.underlying ty = some d) (hd : (match d with | .struct _ | .array _ _ => true | _ => false) = true) (hi : (P.info? ty).map (·.size) = some cs.size)
    (h : wpList P ops Q rest (a.put o.dst (.agg cs)) w) : wpList P ops Q (o :: rest) a w := wpList_load_row hgd ty x ho g hx t cs (0, 0) d hB hu hd hi h

/-- A store and a load as what they run to, where the order is open. -/
theorem store_let {P : Program} {w : World} {g : Nat} {ty t : TypeId} {cells cs : Array Value} (hi : (P.info? ty).map (·.size) = some cells.size) (h1 : cells.all (·.oneCell') = true)
    (hB : Blk w g cs t) (hin : cells.size = cs.size) : ∃ W, (Instr.storeAt ty (.pointer (some ⟨g, 0, none⟩)) (.agg cells)).run P w = .ok () W ∧ Upd w W g cells t := by
  refine ⟨w.setCells g 0 cells.toList, ?_, ?_⟩
  · have hs := run_storeVar_let (P := P) (v := .agg cells) (cells := cells) (off := 0) rfl hi h1 hB (by omega)
    simp only [Instr.storeAt, Instr.sureAddr, Sem.run_bind, Sem.run_pure, Result.andThen_ok, hs]
  · have h := upd_cells g t cells.toList 0 w cs hB
    have := putAll_all cells.toList 0 cs (by simpa using hin)
    rw [List.take_zero, List.nil_append] at this
    rw [show putAll cs 0 cells.toList = cells by rw [← Array.toList_inj]; exact this] at h
    exact h
theorem load_let {P : Program} {w : World} {g : Nat} {ty t : TypeId} {cs : Array Value} {d : TypeDesc} (hB : Blk w g cs t) (hu : P.underlying ty = some d) (hd : d.isRow = true) (hi : (P.info? ty).map (·.size) = some cs.size) :
    (Instr.loadAt ty (.pointer (some ⟨g, 0, none⟩))).run P w = .ok (.agg cs) w := by
  have := run_loadAt_mid (P := P) w g 0 ty cs.toList d (fun j v hv => by rw [Nat.zero_add, hB.cell j]; simpa using hv) hu hd (by simpa using hi)
  simpa using this
/-- A whole block is read, whatever comes ahead. -/
theorem yieldsIf_whole {P : Program} {ops : Array Oper} {S : World → Prop} {op : Oper} {a : Act} (hw : Region.wanted op (yielded ops a.tmps) = true) (ty : TypeId) (x : Operand) (ho : op.op = .load ty x)
    (g : Nat) (hx : a.eval x = .pointer (some ⟨g, 0, none⟩)) (t : TypeId) (cs : Array Value) (d : TypeDesc) (hS : ∀ w, S w → Blk w g cs t)
    (hu : P.underlying ty = some d) (hd : d.isRow = true) (hi : (P.info? ty).map (·.size) = some cs.size) : YieldsIf P ops S op (.agg cs) a := by
  have := yieldsIf_load_mid (P := P) (S := S) hw ty x ho g 0 hx cs.toList d (fun w hSw j v hv => by rw [Nat.zero_add, (hS w hSw).cell j]; simpa using hv) hu hd (by simpa using hi)
  simpa using this
/-- An operation is taken first: where its answer goes is said. -/
theorem take_at {P : Program} {ops : Array Oper} {Q : Exit → Act → World → Prop} {md : Region.Mode} {S : World → Prop} {fuel : Nat} {listed : Array Bool} {a : Act} {w : World} (i d : Nat) (v : Value) (oi : Oper) (hi : ops[i]? = some oi) (hd : oi.dst = some d)
    (hs : Region.noSelect ops = true) (hf : Region.free md ops listed i = true) (hr : (Region.ready md ops listed).contains i = true)
    (hQ : ∀ c a w, Q (.panic c) (a.put oi.dst v) w → Q (.panic c) a w) (hy : YieldsIf P ops S oi v a) (hS : S w)
    (h : wpAnyH P md ops Q S fuel (listed.setIfInBounds i true) (a.put (some d) v) w) : wpAnyH P md ops Q S (fuel + 1) listed a w :=
  wpAnyH_take hi hs hf hr hQ hy hS (by rw [hd]; exact h)
/-- A whole block is stored, where the order is open. -/
theorem wp_letOp {P : Program} {o : Oper} {a : Act} {w : World} {K : Act → World → Prop} {Q : Exit → Act → World → Prop} (ty : TypeId) (x y : Operand) (ho : o.op = .store ty x y)
    (g : Nat) (hx : a.eval x = .pointer (some ⟨g, 0, none⟩)) (cells : Array Value) (hy : a.eval y = .agg cells) (hi : (P.info? ty).map (·.size) = some cells.size) (h1 : cells.all (·.oneCell') = true)
    (cs : Array Value) (t : TypeId) (hB : Blk w g cs t) (hin : cells.size = cs.size) (hd : o.dst = none)
    (h : ∀ W, Upd w W g cells t → K a W) : o.wp P a w K Q := by
  obtain ⟨W, hst, hU⟩ := store_let (P := P) (ty := ty) hi h1 hB hin
  unfold Oper.wp execOp
  simp only [ho, hx, hy, Sem.run_bind, hst, Result.andThen_ok]
  have := h W hU
  have e : a.put o.dst undef = a := by rw [hd]; rfl
  rw [← e] at this
  exact this
theorem Upd.drew {w W : World} {g : Nat} {cs : Array Value} {t : TypeId} (h : Upd w W g cs t) (q : Nat) : Upd w (W.drewN q) g cs t := ⟨h.blk, h.oth, fun B w0 hB hb => bel_drew (h.bel B w0 hB hb) q, h.size⟩

end Go.Proofs.YtlicdeppfhmfjaaGreatDoor

/- The load of a whole block, under a test that came out so. -/
namespace Go.Proofs.YtlicdeppfhmfjaaGreatDoor
open Go.RowKit

theorem wp_wholeG {P : Program} {ops : Array Oper} {rest : List Oper} {o : Oper} {a : Act} {w : World} {Q : Exit → Act → World → Prop} (hw : Region.wanted o (yielded ops a.tmps) = true) (ty : TypeId) (x : Operand) (ho : o.op = .load ty x)
    (g : Nat) (hx : a.eval x = .pointer (some ⟨g, 0, none⟩)) (t : TypeId) (cs : Array Value) (d : TypeDesc) (hB : Blk w g cs t)
    (hu : P.underlying ty = some d) (hd : d.isRow = true) (hi : (P.info? ty).map (·.size) = some cs.size)
    (h : wpList P ops Q rest (a.put o.dst (.agg cs)) w) : wpList P ops Q (o :: rest) a w :=
  wpList_step fun K hK => by
    rw [if_pos hw]
    exact wp_load_mid (P := P) (op := o) (a := a) (w := w) (K := K) (Q := Q) ty x ho g 0 hx cs.toList d (fun j v hv => by rw [Nat.zero_add, hB.cell j]; simpa using hv) hu hd (by simpa using hi) (by simpa using hK _ _ h)

end Go.Proofs.YtlicdeppfhmfjaaGreatDoor

/- Receipts compared. -/
namespace Go.Proofs.YtlicdeppfhmfjaaGreatDoor.rcp
open Go.RowKit
set_option maxRecDepth 100000
set_option linter.unusedVariables false
set_option linter.unusedSimpArgs false

theorem reI (d : Nat) (a a' : Int) (w : World) : (Op.equalIn (d + 1) 3 (.int .i64 a) (.int .i64 a')).run Tryz.prog w = .ok (a == a') w := run_equalIn_int w d _ _ _ a a' Tryz.underlying3
theorem rp0 (a b c d e f g h : Int) (t : ByteArray) (w : World) : (part 3 #[.int .i64 a, .int .i64 b, .int .i64 c, .int .i64 d, .int .i64 e, .int .i64 f, .int .i64 g, .int .i64 h, .string t] 0).run Tryz.prog w = .ok (.int .i64 a) w := by kernel_rfl
theorem rp1 (a b c d e f g h : Int) (t : ByteArray) (w : World) : (part 23 #[.int .i64 a, .int .i64 b, .int .i64 c, .int .i64 d, .int .i64 e, .int .i64 f, .int .i64 g, .int .i64 h, .string t] 1).run Tryz.prog w = .ok (.agg #[.int .i64 b, .int .i64 c, .int .i64 d, .int .i64 e, .int .i64 f, .int .i64 g, .int .i64 h]) w := by kernel_rfl
theorem rp8 (a b c d e f g h : Int) (t : ByteArray) (w : World) : (part 9 #[.int .i64 a, .int .i64 b, .int .i64 c, .int .i64 d, .int .i64 e, .int .i64 f, .int .i64 g, .int .i64 h, .string t] 8).run Tryz.prog w = .ok (.string t) w := by kernel_rfl
theorem rb0 (b c d e f g h : Int) (w : World) : (part 3 #[.int .i64 b, .int .i64 c, .int .i64 d, .int .i64 e, .int .i64 f, .int .i64 g, .int .i64 h] 0).run Tryz.prog w = .ok (.int .i64 b) w := by kernel_rfl
theorem rb1 (b c d e f g h : Int) (w : World) : (part 3 #[.int .i64 b, .int .i64 c, .int .i64 d, .int .i64 e, .int .i64 f, .int .i64 g, .int .i64 h] 1).run Tryz.prog w = .ok (.int .i64 c) w := by kernel_rfl
theorem rb2 (b c d e f g h : Int) (w : World) : (part 3 #[.int .i64 b, .int .i64 c, .int .i64 d, .int .i64 e, .int .i64 f, .int .i64 g, .int .i64 h] 2).run Tryz.prog w = .ok (.int .i64 d) w := by kernel_rfl
theorem rb3 (b c d e f g h : Int) (w : World) : (part 3 #[.int .i64 b, .int .i64 c, .int .i64 d, .int .i64 e, .int .i64 f, .int .i64 g, .int .i64 h] 3).run Tryz.prog w = .ok (.int .i64 e) w := by kernel_rfl
theorem rb4 (b c d e f g h : Int) (w : World) : (part 3 #[.int .i64 b, .int .i64 c, .int .i64 d, .int .i64 e, .int .i64 f, .int .i64 g, .int .i64 h] 4).run Tryz.prog w = .ok (.int .i64 f) w := by kernel_rfl
theorem rb5 (b c d e f g h : Int) (w : World) : (part 3 #[.int .i64 b, .int .i64 c, .int .i64 d, .int .i64 e, .int .i64 f, .int .i64 g, .int .i64 h] 5).run Tryz.prog w = .ok (.int .i64 g) w := by kernel_rfl
theorem rb6 (b c d e f g h : Int) (w : World) : (part 3 #[.int .i64 b, .int .i64 c, .int .i64 d, .int .i64 e, .int .i64 f, .int .i64 g, .int .i64 h] 6).run Tryz.prog w = .ok (.int .i64 h) w := by kernel_rfl
theorem eqB (k : Nat) (b c d e f g h : Int) (w : World) : (Op.equalIn (k + 2) 23 (.agg #[.int .i64 b, .int .i64 c, .int .i64 d, .int .i64 e, .int .i64 f, .int .i64 g, .int .i64 h]) (.agg #[.int .i64 b, .int .i64 c, .int .i64 d, .int .i64 e, .int .i64 f, .int .i64 g, .int .i64 h])).run Tryz.prog w = .ok true w := by
  rw [show k + 2 = (k + 1) + 1 from rfl, run_equalIn_agg w (k + 1) 23 _ _ (by kernel_rfl) (by kernel_rfl)]
  simp only [Program.fieldsOf, Tryz.underlying23, Op.eqFields, Sem.run_bind, Sem.run_ite]
  simp [rb0, rb1, rb2, rb3, rb4, rb5, rb6, reI]
theorem reS (d : Nat) (t : ByteArray) (w : World) : (Op.equalIn (d + 1) 9 (.string t) (.string t)).run Tryz.prog w = .ok true w := by
  have h : (t == t) = true := by
    first
      | exact beq_self_eq_true t
      | exact BEq.rfl
      | (cases t with | mk d => exact beq_self_eq_true d)
      | (cases t with | mk d => simp [BEq.beq])
  simp [Op.equalIn, Tryz.underlying9, go_sem, h]
theorem eqRc (a b c d e f g h : Int) (t : ByteArray) (w : World) : (Op.equalIn 10000 25 (.agg #[.int .i64 a, .int .i64 b, .int .i64 c, .int .i64 d, .int .i64 e, .int .i64 f, .int .i64 g, .int .i64 h, .string t]) (.agg #[.int .i64 a, .int .i64 b, .int .i64 c, .int .i64 d, .int .i64 e, .int .i64 f, .int .i64 g, .int .i64 h, .string t])).run Tryz.prog w = .ok true w := by
  rw [show (10000 : Nat) = 9999 + 1 from rfl, run_equalIn_agg w 9999 25 _ _ (by kernel_rfl) (by kernel_rfl)]
  simp only [Program.fieldsOf, Tryz.underlying25, Op.eqFields, Sem.run_bind, Sem.run_ite]
  simp [rp0, rp1, rp8, show (9999 : Nat) = 9998 + 1 from rfl, show (9999 : Nat) = 9997 + 2 from rfl, reI, reS, eqB]

end Go.Proofs.YtlicdeppfhmfjaaGreatDoor.rcp

/- A slice is stored into one cell of a block. -/
namespace Go.Proofs.YtlicdeppfhmfjaaGreatDoor
open Go.RowKit

theorem wp_letS {P : Program} {ops : Array Oper} {rest : List Oper} {o : Oper} {a : Act} {w : World} {Q : Exit → Act → World → Prop} (hgd : o.guard = none) (ty : TypeId) (x y : Operand) (ho : o.op = .store ty x y)
    (g off : Nat) (hx : a.eval x = .pointer (some ⟨g, off, none⟩)) (p : Option Addr) (n c : Nat) (hy : a.eval y = .slice p n c) (hi : (P.info? ty).map (·.size) = some 1)
    (cs : Array Value) (t : TypeId) (hB : Blk w g cs t) (hin : off < cs.size)
    (h : ∀ W, Upd w W g (cs.setIfInBounds off (.slice p n c)) t → wpList P ops Q rest (a.put o.dst undef) W) : wpList P ops Q (o :: rest) a w :=
  wp_let hgd ty x y ho g off hx _ hy #[.slice p n c] rfl hi (by simp [Value.oneCell']) cs t hB (by simp; omega) _ rfl h

end Go.Proofs.YtlicdeppfhmfjaaGreatDoor

/- One digit's text, and what it makes behind another one. -/
namespace Go.Proofs.YtlicdeppfhmfjaaGreatDoor.check
open Go.RowKit

/-- One digit's text. -/
def digT (d : Nat) : ByteArray := ⟨#[UInt8.ofNat (48 + d)]⟩
theorem digT_list (d : Nat) : (digT d).data.toList = [UInt8.ofNat (48 + d)] := rfl
theorem digT_D {d : Nat} (h : d < 10) : isD (UInt8.ofNat (48 + d)) = true := by
  simp only [isD, UInt8.toNat_ofNat', Bool.and_eq_true, decide_eq_true_eq]; omega
theorem digT_val {d : Nat} (h : d < 10) : (UInt8.ofNat (48 + d)).toNat - 48 = d := by
  simp only [UInt8.toNat_ofNat']; omega

theorem sum_behind {s : ByteArray} (hd : allD s.data.toList = true) {d : Nat} (h : d < 10) : allD (s ++ digT d).data.toList = true ∧ (sumR (s ++ digT d).data.toList 0 = 0 ↔ d = invN (sumR s.data.toList 1)) := by
  have e : (s ++ digT d).data.toList = s.data.toList ++ [UInt8.ofNat (48 + d)] := by simp [digT]
  rw [e]
  refine ⟨by rw [allD_append, hd]; show (isD _ && true) = true; rw [digT_D h]; rfl, ?_⟩
  unfold sumR
  rw [digs_append, List.reverse_append, show digs [UInt8.ofNat (48 + d)] = [d] by simp only [digs, List.map]; rw [digT_val h]]
  exact fold_zero _ d h (digs_ok hd).rev
theorem flaw_good {l : List UInt8} (h1 : 1 ≤ l.length) (h2 : l.length ≤ 200) (h3 : allD l = true) : flawR l = 0 := flawR_ok (by omega) h3
theorem good_iff {l : List UInt8} (h2 : 2 ≤ l.length) (h0 : flawR l = 0) : goodR l = (sumR l 0 == 0) := by unfold goodR; rw [h0]; simp [h2]

end Go.Proofs.YtlicdeppfhmfjaaGreatDoor.check

/- The document's answer: whether a text is one of digits. -/
namespace Go.Proofs.YtlicdeppfhmfjaaGreatDoor.check
open Go.RowKit

theorem digit_yes (z : Int) (w : World) (h1 : 48 ≤ z) (h2 : z ≤ 57) :
    Calls Tryz.prog 49 #[.int .u8 z] w fun e w' => e = .returned (.bool true) ∧ w' = w := by
  go_enter Tryz.func49, Tryz.ntmps49
  go_wp2
  go_ret
  exact ⟨rfl, rfl⟩
theorem digit_no (z : Int) (w : World) (h : z < 48 ∨ 57 < z) :
    Calls Tryz.prog 49 #[.int .u8 z] w fun e w' => e = .returned (.bool false) ∧ w' = w := by
  by_cases h0 : z < 48
  · clear h
    go_enter Tryz.func49, Tryz.ntmps49
    go_wp2
    go_ret
    exact ⟨rfl, rfl⟩
  · have h1 : 48 ≤ z := by omega
    have h2 : decide (z ≤ 57) = false := by simp; omega
    clear h h0
    go_enter Tryz.func49, Tryz.ntmps49
    go_wp2
    go_ret
    exact ⟨rfl, rfl⟩

set_option maxHeartbeats 1000000 in
theorem may_any (s : ByteArray) (w : World) :
    Calls Tryz.prog 47 #[.string s] w fun e w' => e = .returned (.int .i64 (flawR s.data.toList)) ∧ w' = w := by
  have ln := len_eq s
  by_cases h0 : s.size = 0
  · rw [flawR_size (.inl (by omega))]
    have h1 : (s.size : Int) < 1 := by omega
    clear ln
    go_enter Tryz.func47, Tryz.ntmps47
    go_wp2
    go_ret
    exact ⟨rfl, rfl⟩
  · have h1 : ¬ (s.size : Int) < 1 := by omega
    by_cases h2 : 200 < s.size
    · rw [flawR_size (.inr (by omega))]
      have h3 : (200 : Int) < (s.size : Int) := by omega
      clear ln
      go_enter Tryz.func47, Tryz.ntmps47
      go_wp2
      go_ret
      exact ⟨rfl, rfl⟩
    · have h3 : ¬ (200 : Int) < (s.size : Int) := by omega
      have HS : Hid (¬ (s.data.toList.length = 0 ∨ 200 < s.data.toList.length)) := by intro h; omega
      clear ln
      go_enter Tryz.func47, Tryz.ntmps47
      go_wp2_with fail
      go_loop [3] (fun v => ∃ k : Nat, k ≤ s.size ∧ v = .int .i64 (k : Int) ∧ allD (s.data.toList.take k) = true) (fun v => s.size - (intOf v).toNat)
      case atStart => exact ⟨0, Nat.zero_le _, rfl, rfl⟩
      case round =>
        obtain ⟨k, hk, rfl, hok⟩ := hrel
        have HK : Hid (allD (s.data.toList.take k) = true) := hok
        clear hok
        by_cases hp : k < s.size
        · have HT : Hid (s.data.toList.take (k + 1) = s.data.toList.take k ++ [s[k]]) := take_snoc s k hp
          have HN : Hid (isD s[k] = false → allD s.data.toList = false) := allD_take_no s k hp
          have HY : Hid (48 ≤ ((s[k].toNat : Nat) : Int) → ((s[k].toNat : Nat) : Int) ≤ 57 → isD s[k] = true) := fun a b => isD_yes a b
          have HL : Hid (((s[k].toNat : Nat) : Int) < 48 ∨ 57 < ((s[k].toNat : Nat) : Int) → isD s[k] = false) := fun a => a.elim isD_lo isD_hi
          by_cases h1 : ((s[k].toNat : Nat) : Int) < 48 ∨ 57 < ((s[k].toNat : Nat) : Int)
          · have HX : Hid (((s[k].toNat : Nat) : Int) < 48 ∨ 57 < ((s[k].toNat : Nat) : Int)) := h1
            clear h1
            go_wp2_with fail
            refine (digit_no _ _ HX.out).mono ?_
            rintro e w' ⟨rfl, rfl⟩
            go_wp2_with fail
            go_ret
            exact ⟨ret_int (flawR_no HS.out (HN.out (HL.out HX.out))).symm, rfl⟩
          · have HX : Hid (48 ≤ ((s[k].toNat : Nat) : Int) ∧ ((s[k].toNat : Nat) : Int) ≤ 57) := by constructor <;> omega
            clear h1
            go_wp2_with fail
            refine (digit_yes _ _ HX.out.1 HX.out.2).mono ?_
            rintro e w' ⟨rfl, rfl⟩
            go_wp2_with fail
            go_round
            case rel => exact ⟨k + 1, by omega, by go_num, by rw [HT.out, allD_append, HK.out]; simp [allD, HY.out HX.out.1 HX.out.2]⟩
            case measure => simp [intOf]; omega
        · go_wp2_with fail
          go_ret
          refine ⟨ret_int ?_, rfl⟩
          have := HK.out
          rw [List.take_of_length_le (by simp; omega)] at this
          exact (flawR_ok HS.out this).symm

end Go.Proofs.YtlicdeppfhmfjaaGreatDoor.check

/- What the document's answers to Mul and Inv give back. -/
namespace Go.Proofs.YtlicdeppfhmfjaaGreatDoor.check
open Go.RowKit

theorem in_yes (n lo hi : Int) (w : World) (h1 : lo ≤ n) (h2 : n ≤ hi) :
    Calls Tryz.prog 36 #[.int .i64 n, .int .i64 lo, .int .i64 hi] w fun e w' => e = .returned (.bool true) ∧ w' = w := by
  go_enter Tryz.func36, Tryz.ntmps36
  go_wp2
  go_ret
  exact ⟨rfl, rfl⟩
theorem in_no (n lo hi : Int) (w : World) (h : n < lo ∨ hi < n) :
    Calls Tryz.prog 36 #[.int .i64 n, .int .i64 lo, .int .i64 hi] w fun e w' => e = .returned (.bool false) ∧ w' = w := by
  by_cases h0 : n < lo
  · clear h
    go_enter Tryz.func36, Tryz.ntmps36
    go_wp2
    go_ret
    exact ⟨rfl, rfl⟩
  · have h1 : lo ≤ n := by omega
    have h2 : decide (n ≤ hi) = false := by simp; omega
    clear h h0
    go_enter Tryz.func36, Tryz.ntmps36
    go_wp2
    go_ret
    exact ⟨rfl, rfl⟩

/-- Where a corner comes to lie. -/
def cornerN (a x : Nat) : Nat := if a < 5 then (x + a) % 5 else (a - x) % 5
theorem cornerN_lt (a x : Nat) : cornerN a x < 5 := by unfold cornerN; split <;> omega
theorem corner_iff : ∀ a, a < 10 → ∀ b, b < 10 → ∀ c, c < 10 → ((cornerN c 0 = cornerN a (cornerN b 0) ∧ cornerN c 1 = cornerN a (cornerN b 1)) ↔ c = mulN a b) := by decide +kernel
theorem inv_iff : ∀ a, a < 10 → ∀ c, c < 10 → (mulN a c = 0 ↔ c = invN a) := by decide +kernel

theorem corner_any (a x : Nat) (w : World) (ha : a < 10) (hx : x < 5) :
    Calls Tryz.prog 153 #[.int .i64 (a : Int), .int .i64 (x : Int)] w fun e w' => e = .returned (.int .i64 ((cornerN a x : Nat) : Int)) ∧ w' = w := by
  by_cases h : a < 5
  · have e : ((cornerN a x : Nat) : Int) = ((x : Int) + (a : Int)) % 5 := by unfold cornerN; rw [if_pos h]; omega
    rw [e]
    have h0 : (0 : Int) ≤ a := by omega
    have h1 : (a : Int) < 5 := by omega
    have h2 : (0 : Int) ≤ x := by omega
    have h3 : (x : Int) < 5 := by omega
    clear e h ha hx
    generalize (a : Int) = p at *
    generalize (x : Int) = q at *
    go_enter Tryz.func153, Tryz.ntmps153
    go_wp2
    go_ret
    exact ⟨rfl, rfl⟩
  · have e : ((cornerN a x : Nat) : Int) = ((a : Int) - (x : Int)) % 5 := by unfold cornerN; rw [if_neg h]; omega
    rw [e]
    have h0 : (5 : Int) ≤ a := by omega
    have h1 : (a : Int) < 10 := by omega
    have h2 : (0 : Int) ≤ x := by omega
    have h3 : (x : Int) < 5 := by omega
    clear e h ha hx
    generalize (a : Int) = p at *
    generalize (x : Int) = q at *
    go_enter Tryz.func153, Tryz.ntmps153
    go_wp2
    go_ret
    exact ⟨rfl, rfl⟩

theorem cast0 : ((0 : Nat) : Int) = 0 := rfl
theorem cast1 : ((1 : Nat) : Int) = 1 := rfl

set_option maxHeartbeats 1000000 in
theorem moved_yes (a b : Nat) (w : World) (ha : a < 10) (hb : b < 10) :
    Calls Tryz.prog 109 #[.int .i64 (a : Int), .int .i64 (b : Int)] w fun e w' => e = .returned (.tuple #[.int .i64 ((mulN a b : Nat) : Int), .int .i64 0]) ∧ w' = w := by
  have HI : Hid (∀ c, c < 10 → ((cornerN c 0 = cornerN a (cornerN b 0) ∧ cornerN c 1 = cornerN a (cornerN b 1)) ↔ c = mulN a b)) := corner_iff a ha b hb
  have hm := mul_lt a ha b hb
  have HC : Hid (∀ (p q : Nat) (w : World), p < 10 → q < 5 → Calls Tryz.prog 153 #[.int .i64 (p : Int), .int .i64 (q : Int)] w fun e w' => e = .returned (.int .i64 ((cornerN p q : Nat) : Int)) ∧ w' = w) := fun p q w h1 h2 => corner_any p q w h1 h2
  go_enter Tryz.func109, Tryz.ntmps109
  go_wp2_with fail
  refine (in_yes _ _ _ _ (by omega) (by omega)).mono ?_
  rintro e w' ⟨rfl, rfl⟩
  go_wp2_with fail
  refine (in_yes _ _ _ _ (by omega) (by omega)).mono ?_
  rintro e w' ⟨rfl, rfl⟩
  go_wp2_with fail
  go_loop [6] (fun v => ∃ k : Nat, k ≤ mulN a b ∧ v = .int .i64 (k : Int)) (fun v => 10 - (intOf v).toNat)
  case atStart => exact ⟨0, Nat.zero_le _, rfl⟩
  case round =>
    obtain ⟨k, hk, rfl⟩ := hrel
    have hk10 : (k : Int) < 10 := by omega
    have hI := HI.out k (by omega)
    have HC1 := HC.out k 0 w' (by omega) (by omega)
    rw [cast0] at HC1
    have HC2 := HC.out b 0 w' hb (by omega)
    rw [cast0] at HC2
    have HC3 := HC.out a (cornerN b 0) w' ha (cornerN_lt _ _)
    have HC4 := HC.out k 1 w' (by omega) (by omega)
    rw [cast1] at HC4
    have HC5 := HC.out b 1 w' hb (by omega)
    rw [cast1] at HC5
    have HC6 := HC.out a (cornerN b 1) w' ha (cornerN_lt _ _)
    generalize hm' : mulN a b = m at *
    generalize cornerN k 0 = k0 at *
    generalize cornerN a (cornerN b 0) = x0 at *
    generalize cornerN b 0 = b0 at *
    generalize cornerN k 1 = k1 at *
    generalize cornerN a (cornerN b 1) = x1 at *
    generalize cornerN b 1 = b1 at *
    have HI2 : Hid ((k0 = x0 ∧ k1 = x1) ↔ k = m) := hI
    have HM : Hid (mulN a b = m) := hm'
    clear hI HI HC hm'
    go_wp2_with fail
    refine HC1.mono ?_
    rintro e w1 ⟨rfl, rfl⟩
    go_wp2_with fail
    refine HC2.mono ?_
    rintro e w1 ⟨rfl, rfl⟩
    go_wp2_with fail
    refine HC3.mono ?_
    rintro e w1 ⟨rfl, rfl⟩
    clear HC1 HC2 HC3
    by_cases h0 : k0 = x0
    · have e0 : (((k0 : Nat) : Int) == ((x0 : Nat) : Int)) = true := by simp [h0]
      go_wp2_with fail
      refine HC4.mono ?_
      rintro e w1 ⟨rfl, rfl⟩
      go_wp2_with fail
      refine HC5.mono ?_
      rintro e w1 ⟨rfl, rfl⟩
      go_wp2_with fail
      refine HC6.mono ?_
      rintro e w1 ⟨rfl, rfl⟩
      clear HC4 HC5 HC6
      by_cases h1 : k1 = x1
      · have e1 : (((k1 : Nat) : Int) == ((x1 : Nat) : Int)) = true := by simp [h1]
        have hkm : k = m := HI2.out.1 ⟨h0, h1⟩
        clear h0 h1 HI2
        subst hkm
        go_wp2_with fail
        go_ret2
        exact ⟨by rw [HM.out]; rfl, rfl⟩
      · have e1 : (((k1 : Nat) : Int) == ((x1 : Nat) : Int)) = false := by simp; omega
        have hkm : k ≠ m := fun e => h1 (HI2.out.2 e).2
        clear h0 h1 HI2
        go_wp2_with fail
        go_round
        case rel => exact ⟨k + 1, by omega, by go_num⟩
        case measure => simp [intOf]; omega
    · have e0 : (((k0 : Nat) : Int) == ((x0 : Nat) : Int)) = false := by simp; omega
      have hkm : k ≠ m := fun e => h0 (HI2.out.2 e).1
      clear h0 HI2 HC4 HC5 HC6
      go_wp2_with fail
      go_round
      case rel => exact ⟨k + 1, by omega, by go_num⟩
      case measure => simp [intOf]; omega

set_option maxHeartbeats 400000 in
theorem moved_no (x y : Int) (w : World) (h : (x < 0 ∨ 9 < x) ∨ (y < 0 ∨ 9 < y)) :
    Calls Tryz.prog 109 #[.int .i64 x, .int .i64 y] w fun e w' => e = .returned (.tuple #[.int .i64 0, .int .i64 2]) ∧ w' = w := by
  by_cases h0 : x < 0 ∨ 9 < x
  · clear h
    go_enter Tryz.func109, Tryz.ntmps109
    go_wp2_with fail
    refine (in_no _ _ _ _ h0).mono ?_
    rintro e w' ⟨rfl, rfl⟩
    go_wp2
    go_ret2
    exact ⟨rfl, rfl⟩
  · have h5 : y < 0 ∨ 9 < y := by omega
    have a0 : 0 ≤ x := by omega
    have a1 : x ≤ 9 := by omega
    clear h h0
    go_enter Tryz.func109, Tryz.ntmps109
    go_wp2_with fail
    refine (in_yes _ _ _ _ a0 a1).mono ?_
    rintro e w' ⟨rfl, rfl⟩
    go_wp2_with fail
    refine (in_no _ _ _ _ h5).mono ?_
    rintro e w' ⟨rfl, rfl⟩
    go_wp2
    go_ret2
    exact ⟨rfl, rfl⟩

end Go.Proofs.YtlicdeppfhmfjaaGreatDoor.check

/- What the document's answers to Digit and Good give back. -/
namespace Go.Proofs.YtlicdeppfhmfjaaGreatDoor.check
open Go.RowKit
set_option maxRecDepth 100000

theorem table_at (x : Nat) (h : x < 10) (w : World) : (Instr.index 9 (.string ⟨#[49, 53, 55, 54, 50, 56, 51, 48, 57, 52]⟩) (.int .i64 (x : Int))).run Tryz.prog w = .ok (.int .u8 (48 + ((mv1 x : Nat) : Int))) w := by
  have hx : x = 0 ∨ x = 1 ∨ x = 2 ∨ x = 3 ∨ x = 4 ∨ x = 5 ∨ x = 6 ∨ x = 7 ∨ x = 8 ∨ x = 9 := by omega
  clear h
  rw [run_index_string w 9 _ _ _ Tryz.underlying9]
  rcases hx with rfl | rfl | rfl | rfl | rfl | rfl | rfl | rfl | rfl | rfl <;> rfl

set_option maxHeartbeats 400000 in
theorem turned_any (d place : Nat) (w : World) (hd : d < 10) (hp : place ≤ 1000) :
    Calls Tryz.prog 108 #[.int .i64 (d : Int), .int .i64 (place : Int)] w fun e w' => e = .returned (.int .i64 ((mvN (place % 8) d : Nat) : Int)) ∧ w' = w := by
  have e8 : ((place : Nat) : Int) % 8 = ((place % 8 : Nat) : Int) := by omega
  have hm : place % 8 < 8 := Nat.mod_lt _ (by decide)
  generalize hq : place % 8 = q at *
  clear hq
  go_enter Tryz.func108, Tryz.ntmps108
  go_wp2_with fail
  go_loop [0, 6] (fun v i => ∃ k : Nat, k ≤ q ∧ i = .int .i64 (k : Int) ∧ v = .int .i64 ((mvN k d : Nat) : Int)) (fun _ i => q - (intOf i).toNat)
  case atStart => exact ⟨0, Nat.zero_le _, rfl, rfl⟩
  case round =>
    obtain ⟨k, hk, rfl, rfl⟩ := hrel
    have hx := mvN_lt k d hd
    have HS : Hid (mvN (k + 1) d = mv1 (mvN k d)) := rfl
    by_cases hlt : k < q
    · have hix := table_at (mvN k d) hx w
      have hy := mv1_lt _ hx
      generalize mvN k d = x at *
      generalize mv1 x = y at *
      go_wp2_with fail
      go_round
      case rel => exact ⟨k + 1, by omega, by go_num, by rw [HS.out]; congr 1; omega⟩
      case measure => simp [intOf]; omega
    · have hkq : k = q := by omega
      rw [hkq]
      generalize hgx : mvN q d = x at *
      have HG : Hid (mvN q d = x) := hgx
      clear hkq hgx
      go_wp2_with fail
      go_ret
      exact ⟨by rw [HG.out]; rfl, rfl⟩

theorem digs_drop_rev (s : ByteArray) (j : Nat) (h : j < s.size) : (digs (s.data.toList.drop j)).reverse = (digs (s.data.toList.drop (j + 1))).reverse ++ [s[j].toNat - 48] := by
  rw [drop_cons s j h]
  show ((s[j].toNat - 48) :: digs _).reverse = _
  rw [List.reverse_cons]
theorem fold_snoc (p c d : Nat) (l : List Nat) : foldN p c (l ++ [d]) = mulN (foldN p c l) (mvN ((p + l.length) % 8) d) := by
  rw [foldN_append]; rfl

set_option maxHeartbeats 1000000 in
theorem folded_any (s : ByteArray) (w : World) (h2 : s.size ≤ 300) (hd : allD s.data.toList = true) :
    Calls Tryz.prog 72 #[.string s, .int .i64 0] w fun e w' => e = .returned (.int .i64 ((sumR s.data.toList 0 : Nat) : Int)) ∧ w' = w := by
  have HD : Hid (allD s.data.toList = true) := hd
  clear hd
  go_enter Tryz.func72, Tryz.ntmps72
  go_wp2_with fail
  go_loop [1, 5, 6] (fun p c i => ∃ k : Nat, k ≤ s.size ∧ i = .int .i64 ((k : Int) - 1) ∧ c = .int .i64 ((foldN 0 0 (digs (s.data.toList.drop k)).reverse : Nat) : Int) ∧ p = .int .i64 ((s.size - k : Nat) : Int)) (fun _ _ i => (intOf i + 1).toNat)
  case atStart => exact ⟨s.size, Nat.le_refl _, rfl, by rw [List.drop_of_length_le (by simp)]; rfl, by rw [Nat.sub_self]; rfl⟩
  case round =>
    obtain ⟨k, hk, rfl, rfl, rfl⟩ := hrel
    by_cases hk0 : k = 0
    · subst hk0
      rw [List.drop_zero]
      have HG : Hid (((sumR s.data.toList 0 : Nat) : Int) = ((foldN 0 0 (digs s.data.toList).reverse : Nat) : Int)) := rfl
      generalize ((foldN 0 0 (digs s.data.toList).reverse : Nat) : Int) = x at *
      go_wp2_with fail
      go_ret
      exact ⟨by rw [HG.out]; rfl, rfl⟩
    · obtain ⟨j, rfl⟩ : ∃ j, k = j + 1 := ⟨k - 1, by omega⟩
      have hp : j < s.size := by omega
      obtain ⟨hk1, hk2, hk3⟩ := take_parts s j hp HD.out
      have hcb := isD_bd hk2
      have ej : (((j + 1 : Nat) : Int) - 1) = (j : Int) := by omega
      rw [ej]
      have hc := foldN_lt (digs (s.data.toList.drop (j + 1))).reverse 0 0 (by decide) (digs_ok hk3).rev
      have HT : Hid (foldN 0 0 (digs (s.data.toList.drop j)).reverse = mulN (foldN 0 0 (digs (s.data.toList.drop (j + 1))).reverse) (mvN ((s.size - (j + 1)) % 8) (s[j].toNat - 48))) := by
        show _ = _
        rw [digs_drop_rev s j hp, fold_snoc, List.length_reverse, digs_len, List.length_drop, len_eq, Nat.zero_add]
      have hdl : s[j].toNat - 48 < 10 := by omega
      have hcz : ((s[j].toNat - 48 : Nat) : Int) = ((s[j].toNat : Nat) : Int) - 48 := by omega
      have HTU := turned_any (s[j].toNat - 48) (s.size - (j + 1)) w hdl (by omega)
      rw [hcz] at HTU
      have hm := mvN_lt ((s.size - (j + 1)) % 8) _ hdl
      have HMU := moved_yes (foldN 0 0 (digs (s.data.toList.drop (j + 1))).reverse) (mvN ((s.size - (j + 1)) % 8) (s[j].toNat - 48)) w hc hm
      have HTUU : Hid (Calls Tryz.prog 108 #[.int .i64 (((s[j].toNat : Nat) : Int) - 48), .int .i64 ((s.size - (j + 1) : Nat) : Int)] w fun e w' => e = .returned (.int .i64 ((mvN ((s.size - (j + 1)) % 8) (s[j].toNat - 48) : Nat) : Int)) ∧ w' = w) := HTU
      have HMUU : Hid (Calls Tryz.prog 109 #[.int .i64 ((foldN 0 0 (digs (s.data.toList.drop (j + 1))).reverse : Nat) : Int), .int .i64 ((mvN ((s.size - (j + 1)) % 8) (s[j].toNat - 48) : Nat) : Int)] w fun e w' => e = .returned (.tuple #[.int .i64 ((mulN (foldN 0 0 (digs (s.data.toList.drop (j + 1))).reverse) (mvN ((s.size - (j + 1)) % 8) (s[j].toNat - 48)) : Nat) : Int), .int .i64 0]) ∧ w' = w) := HMU
      have ep : ((s.size - (j + 1) : Nat) : Int) + 1 = ((s.size - j : Nat) : Int) := by omega
      have hpb : ((s.size - (j + 1) : Nat) : Int) ≤ 300 := by omega
      have hpb0 : (0 : Int) ≤ ((s.size - (j + 1) : Nat) : Int) := by omega
      clear hk1 hk2 hk3 hk0 hk ej hc hm hdl HTU HMU hcz
      generalize mulN (foldN 0 0 (digs (s.data.toList.drop (j + 1))).reverse) (mvN ((s.size - (j + 1)) % 8) (s[j].toNat - 48)) = q at *
      generalize foldN 0 0 (digs (s.data.toList.drop (j + 1))).reverse = v at *
      generalize mvN ((s.size - (j + 1)) % 8) (s[j].toNat - 48) = m at *
      generalize ((s.size - (j + 1) : Nat) : Int) = p at *
      obtain ⟨z1, z2⟩ := hcb
      have HP : Hid (p + 1 = ((s.size - j : Nat) : Int)) := ep
      clear ep
      go_wp2_with fail
      refine HTUU.out.mono ?_
      rintro e w' ⟨rfl, rfl⟩
      go_wp2_with fail
      refine HMUU.out.mono ?_
      rintro e w' ⟨rfl, rfl⟩
      go_wp2_with fail
      go_round
      case rel => exact ⟨j, by omega, by go_num, by rw [HT.out], by rw [HP.out]⟩
      case measure => simp [intOf]

theorem conv_byte (w : World) (z : Int) :
    (convert 61 9 (.slice (some ⟨w.heap.size, 0, none⟩) 1 1)).run Tryz.prog (w.alloc (.cells #[.int .u8 z] 5)) = .ok (.string ⟨#[UInt8.ofNat z.toNat]⟩) (w.alloc (.cells #[.int .u8 z] 5)) := by
  rw [run_convert_bytes_string _ _ _ _ _ _ _ Tryz.underlying61 Tryz.underlying5 Tryz.underlying9, run_bytesToString _ _ _ _ [z] (by simp [loadCells, loadCellsFrom, go_sem])]
  rfl

theorem dec_digit (d : Nat) (w : World) (h : d < 10) :
    Calls Tryz.prog 16 #[.int .i64 (d : Int)] w fun e w' => e = .returned (.string (digT d)) ∧ Below w.heap.size w w' := by
  have hc := conv_byte w (48 + d)
  rw [show ((48 : Int) + (d : Int)).toNat = 48 + d by omega] at hc
  have hc' : (convert 61 9 (.slice (some ⟨w.heap.size, 0, none⟩) 1 1)).run Tryz.prog (w.alloc (.cells #[.int .u8 (48 + (d : Int))] 5)) = .ok (.string (digT d)) (w.alloc (.cells #[.int .u8 (48 + (d : Int))] 5)) := hc
  clear hc
  generalize digT d = T at *
  go_enter Tryz.func16, Tryz.ntmps16
  go_wp2_with fail
  go_ret
  exact ⟨rfl, (Below.refl _ _).alloc (Nat.le_refl _) _⟩

set_option maxHeartbeats 1000000 in
theorem checkDigit_any (s : ByteArray) (w : World) :
    Calls Tryz.prog 39 #[.string s] w fun e w' => e = .returned (.tuple #[.int .i64 (digitR s.data.toList), .int .i64 (flawR s.data.toList)]) ∧ Below w.heap.size w w' := by
  have HF := may_any s w
  by_cases h0 : flawR s.data.toList = 0
  · have e : digitR s.data.toList = ((invN (sumR s.data.toList 1) : Nat) : Int) := by unfold digitR; rw [if_pos h0]
    rw [e, h0]
    rw [h0] at HF
    obtain ⟨⟨l1, l2⟩, hd⟩ := flawR_zero h0
    rw [len_eq] at l1 l2
    have hm := inv_lt _ (sumR_lt hd 1)
    have HK : Hid (∀ d, d < 10 → (∀ w, Calls Tryz.prog 72 #[.string (s ++ digT d), .int .i64 0] w fun e w' => e = .returned (.int .i64 ((sumR (s ++ digT d).data.toList 0 : Nat) : Int)) ∧ w' = w) ∧ (sumR (s ++ digT d).data.toList 0 = 0 ↔ d = invN (sumR s.data.toList 1))) := fun d h => by
      have hb := sum_behind hd h
      exact ⟨fun w => folded_any _ w (by rw [← len_eq]; simp [digT]; omega) hb.1, hb.2⟩
    have HFF : Hid (Calls Tryz.prog 47 #[.string s] w fun e w' => e = .returned (.int .i64 0) ∧ w' = w) := HF
    have HT : Hid (∀ d, (digT d).size = 1) := fun d => rfl
    clear e h0 HF hd
    generalize hgm : invN (sumR s.data.toList 1) = m at *
    clear hgm
    go_enter Tryz.func39, Tryz.ntmps39
    go_wp2_with fail
    refine HFF.out.mono ?_
    rintro e w1 ⟨rfl, rfl⟩
    go_wp2_with fail
    go_loopw [5] (fun v wr => ∃ k : Nat, k ≤ m ∧ v = .int .i64 (k : Int) ∧ Below w1.heap.size w1 wr) (fun v _ => 10 - (intOf v).toNat)
    case atStart => exact ⟨0, Nat.zero_le _, rfl, Below.refl _ _⟩
    case round =>
      obtain ⟨k, hk, rfl, hb⟩ := hrel
      have HB : Hid (Below w1.heap.size w1 wr) := hb
      clear hb
      have hk10 : (k : Int) < 10 := by omega
      have hkn : k < 10 := by omega
      have hI := HK.out k hkn
      have hts := HT.out k
      have HDC : Hid (∀ w, Calls Tryz.prog 16 #[.int .i64 (k : Int)] w fun e w' => e = .returned (.string (digT k)) ∧ Below w.heap.size w w') := fun w => dec_digit k w hkn
      generalize digT k = T at *
      have HI1 : Hid (∀ w, Calls Tryz.prog 72 #[.string (s ++ T), .int .i64 0] w fun e w' => e = .returned (.int .i64 ((sumR (s ++ T).data.toList 0 : Nat) : Int)) ∧ w' = w) := hI.1
      have HI2 : Hid (sumR (s ++ T).data.toList 0 = 0 ↔ k = m) := hI.2
      clear hI
      generalize sumR (s ++ T).data.toList 0 = x at *
      go_wp2_with fail
      refine (HDC.out _).mono ?_
      rintro e w2 ⟨rfl, hb2⟩
      have HB2 : Hid (Below w1.heap.size w1 w2) := HB.out.trans (hb2.mono HB.out.size)
      clear hb2
      go_wp2_with fail
      refine (HI1.out _).mono ?_
      rintro e w3 ⟨rfl, rfl⟩
      by_cases hx : x = 0
      · have e0 : (((x : Nat) : Int) == 0) = true := by simp [hx]
        have hkm : k = m := HI2.out.1 hx
        clear hx HI2
        subst hkm
        go_wp2_with fail
        go_ret2
        exact ⟨rfl, HB2.out⟩
      · have e0 : (((x : Nat) : Int) == 0) = false := by simp; omega
        have hkm : k ≠ m := fun e => hx (HI2.out.2 e)
        clear hx HI2
        go_wp2_with fail
        go_roundw
        case rel => exact ⟨k + 1, by omega, by go_num, HB2.out⟩
        case measure => simp [intOf]; omega
  · have e : digitR s.data.toList = 0 := by unfold digitR; rw [if_neg h0]
    rw [e]
    have hne : (flawR s.data.toList != 0) = true := by simpa using h0
    clear e h0
    generalize flawR s.data.toList = f at *
    go_enter Tryz.func39, Tryz.ntmps39
    go_wp2_with fail
    refine HF.mono ?_
    rintro e w1 ⟨rfl, rfl⟩
    clear HF
    go_wp2_with fail
    go_ret2
    exact ⟨rfl, Below.refl _ _⟩

set_option maxHeartbeats 400000 in
theorem isGood_any (s : ByteArray) (w : World) :
    Calls Tryz.prog 48 #[.string s] w fun e w' => e = .returned (.bool (goodR s.data.toList)) ∧ w' = w := by
  have HF := may_any s w
  by_cases h0 : flawR s.data.toList = 0
  · rw [h0] at HF
    obtain ⟨⟨l1, l2⟩, hd⟩ := flawR_zero h0
    rw [len_eq] at l1 l2
    by_cases h2 : 2 ≤ s.size
    · have e : goodR s.data.toList = (sumR s.data.toList 0 == 0) := by unfold goodR; rw [len_eq, h0]; simp [h2]
      rw [e]
      have h2' : (2 : Int) ≤ (s.size : Int) := by omega
      have HS : Hid (Calls Tryz.prog 72 #[.string s, .int .i64 0] w fun e w'' => e = .returned (.int .i64 ((sumR s.data.toList 0 : Nat) : Int)) ∧ w'' = w) := folded_any s w (by omega) hd
      have e2 : (sumR s.data.toList 0 == 0) = (((sumR s.data.toList 0 : Nat) : Int) == 0) := by
        by_cases h : sumR s.data.toList 0 = 0
        · rw [h]; rfl
        · rw [beq_eq_false_iff_ne.2 h, beq_eq_false_iff_ne.2 (by omega)]
      rw [e2]
      clear e h0 hd e2
      generalize ((sumR s.data.toList 0 : Nat) : Int) = x at *
      go_enter Tryz.func48, Tryz.ntmps48
      go_wp2_with fail
      refine HF.mono ?_
      rintro e w1 ⟨rfl, rfl⟩
      clear HF
      go_wp2_with fail
      refine HS.out.mono ?_
      rintro e w2 ⟨rfl, rfl⟩
      go_wp2_with fail
      go_ret
      exact ⟨rfl, rfl⟩
    · have e : goodR s.data.toList = false := by unfold goodR; rw [len_eq]; simp [h2]
      rw [e]
      have h2' : decide ((2 : Int) ≤ (s.size : Int)) = false := by simp; omega
      clear e h0 hd
      go_enter Tryz.func48, Tryz.ntmps48
      go_wp2_with fail
      refine HF.mono ?_
      rintro e w1 ⟨rfl, rfl⟩
      clear HF
      go_wp2_with fail
      go_ret
      exact ⟨rfl, rfl⟩
  · have e : goodR s.data.toList = false := by unfold goodR; rw [beq_eq_false_iff_ne.2 h0]; simp
    rw [e]
    have hne : (flawR s.data.toList == 0) = false := by simpa using h0
    clear e h0
    generalize flawR s.data.toList = f at *
    go_enter Tryz.func48, Tryz.ntmps48
    go_wp2_with fail
    refine HF.mono ?_
    rintro e w1 ⟨rfl, rfl⟩
    clear HF
    go_wp2_with fail
    go_ret
    exact ⟨rfl, rfl⟩

end Go.Proofs.YtlicdeppfhmfjaaGreatDoor.check

/- Is a number from low to high? -/
namespace Go.Proofs.YtlicdeppfhmfjaaGreatDoor.cents
open Go.RowKit

theorem in_yes (n lo hi : Int) (w : World) (h1 : lo ≤ n) (h2 : n ≤ hi) :
    Calls Tryz.prog 36 #[.int .i64 n, .int .i64 lo, .int .i64 hi] w fun e w' => e = .returned (.bool true) ∧ w' = w := by
  go_enter Tryz.func36, Tryz.ntmps36
  go_wp2
  go_ret
  exact ⟨rfl, rfl⟩

theorem in_no (n lo hi : Int) (w : World) (h : n < lo ∨ hi < n) :
    Calls Tryz.prog 36 #[.int .i64 n, .int .i64 lo, .int .i64 hi] w fun e w' => e = .returned (.bool false) ∧ w' = w := by
  by_cases h0 : n < lo
  · clear h
    go_enter Tryz.func36, Tryz.ntmps36
    go_wp2
    go_ret
    exact ⟨rfl, rfl⟩
  · have h1 : lo ≤ n := by omega
    have h2 : decide (n ≤ hi) = false := by simp; omega
    clear h h0
    go_enter Tryz.func36, Tryz.ntmps36
    go_wp2
    go_ret
    exact ⟨rfl, rfl⟩

end Go.Proofs.YtlicdeppfhmfjaaGreatDoor.cents

/- Decimal digits, as the document's answer makes them. -/
namespace Go.Proofs.YtlicdeppfhmfjaaGreatDoor.cents
open Go.RowKit

theorem conv_one (w : World) (z : Int) :
    (convert 61 9 (.slice (some ⟨w.heap.size, 0, none⟩) 1 1)).run Tryz.prog (w.alloc (.cells #[.int .u8 z] 5)) = .ok (.string ⟨#[UInt8.ofNat z.toNat]⟩) (w.alloc (.cells #[.int .u8 z] 5)) := by
  rw [run_convert_bytes_string _ _ _ _ _ _ _ Tryz.underlying61 Tryz.underlying5 Tryz.underlying9, run_bytesToString _ _ _ _ [z] (by simp [loadCells, loadCellsFrom, go_sem])]
  rfl

set_option maxHeartbeats 400000 in
theorem dec_one (n : Int) (w : World) (h0 : 0 ≤ n) (h1 : n < 10) :
    Calls Tryz.prog 16 #[.int .i64 n] w fun e w' => e = .returned (.string ⟨(Lib.decDigits n.toNat).toArray⟩) ∧ Below w.heap.size w w' := by
  rw [Lib.decDigits_one (by omega)]
  have hc := conv_one w (48 + n)
  have he : (48 + n).toNat = 48 + n.toNat := by omega
  rw [he] at hc
  clear he
  generalize UInt8.ofNat (48 + n.toNat) = c at hc ⊢
  go_enter Tryz.func16, Tryz.ntmps16
  go_wp2_with fail
  go_ret
  exact ⟨rfl, (Below.refl _ _).alloc (Nat.le_refl _) _⟩

set_option maxHeartbeats 400000 in
theorem dec_any (k : Nat) : ∀ (n : Int) (w : World), 0 ≤ n → n ≤ k → n ≤ 1000000000000000 →
    Calls Tryz.prog 16 #[.int .i64 n] w fun e w' => e = .returned (.string ⟨(Lib.decDigits n.toNat).toArray⟩) ∧ Below w.heap.size w w' := by
  induction k with
  | zero => intro n w h0 h1 h2; exact dec_one n w h0 (by omega)
  | succ k ih =>
    intro n w h0 h1 h2
    by_cases h10 : n < 10
    · exact dec_one n w h0 h10
    · have hd : Lib.decDigits n.toNat = Lib.decDigits (n / 10).toNat ++ Lib.decDigits (n % 10).toNat := by
        rw [Lib.decDigits, dif_neg (by omega), Lib.decDigits_one (i := (n % 10).toNat) (by omega)]
        rw [show (n / 10).toNat = n.toNat / 10 by omega, show (n % 10).toNat = n.toNat % 10 by omega]
      rw [hd]
      clear hd
      have hl : ∀ u : Nat, u ≤ 1000000000000000 → (Lib.decDigits u).length ≤ 20 := fun u hu => by
        rw [Lib.decDigits_length]; exact ndig_le u hu
      have hl1 := hl (n / 10).toNat (by omega)
      have hl2 := hl (n % 10).toNat (by omega)
      have IH : Hid (∀ (n : Int) (w : World), 0 ≤ n → n ≤ k → n ≤ 1000000000000000 → Calls Tryz.prog 16 #[.int .i64 n] w fun e w' => e = .returned (.string ⟨(Lib.decDigits n.toNat).toArray⟩) ∧ Below w.heap.size w w') := ih
      clear ih hl
      go_enter Tryz.func16, Tryz.ntmps16
      go_wp2_with fail
      refine (IH.out (n / 10) _ (by omega) (by omega) (by omega)).mono ?_
      rintro e w1 ⟨rfl, hb1⟩
      go_wp2_with fail
      refine (IH.out (n % 10) _ (by omega) (by omega) (by omega)).mono ?_
      rintro e w2 ⟨rfl, hb2⟩
      go_wp2_with fail
      go_ret
      exact ⟨rfl, hb1.trans (hb2.mono hb1.size)⟩

end Go.Proofs.YtlicdeppfhmfjaaGreatDoor.cents

/- A meter's number, as the document has it. -/
namespace Go.Proofs.YtlicdeppfhmfjaaGreatDoor.rcp
open Go.Proofs.YtlicdeppfhmfjaaGreatDoor.cents (dec_any str_cat)
open Go.RowKit
set_option maxRecDepth 100000
set_option linter.unusedVariables false
set_option linter.unusedSimpArgs false

theorem dec_small (u : Nat) (h : u ≤ 2097151) : (Lib.decDigits u).length ≤ 7 := (dec_len7 u h).2
set_option maxHeartbeats 1000000 in
theorem padded_any (n : Nat) (k : Nat) (w : World) (hn : n ≤ 2097151) (hk : k ≤ 20) : Calls Tryz.prog 38 #[.int .i64 (n : Int), .int .i64 (k : Int)] w fun e w' => e = .returned (.string ⟨(pad n k).toArray⟩) ∧ Below w.heap.size w w' := by
  have HD : Hid (Calls Tryz.prog 16 #[.int .i64 (n : Int)] w fun e w' => e = .returned (.string ⟨(Lib.decDigits n).toArray⟩) ∧ Below w.heap.size w w') := by
    have h := dec_any n (n : Int) w (by omega) (by omega) (by omega)
    rw [Int.toNat_natCast] at h
    exact h
  have hl := dec_small n hn
  have HP : Hid (pad n k = List.replicate (k - (Lib.decDigits n).length) 48 ++ Lib.decDigits n) := rfl
  generalize Lib.decDigits n = D at *
  go_enter Tryz.func38, Tryz.ntmps38
  go_wp2_with fail
  refine HD.out.mono ?_
  rintro e w1 ⟨rfl, hb1⟩
  clear HD
  go_wp2_with fail
  go_loopw [5] (fun v wr => ∃ j : Nat, (j = 0 ∨ j + D.length ≤ k) ∧ v = .string ⟨(List.replicate j 48 ++ D).toArray⟩ ∧ wr = w1) (fun v _ => k - (match v with | .string s => s.size | _ => 0))
  case atStart => exact ⟨0, .inl rfl, rfl, rfl⟩
  case round =>
    obtain ⟨j, hj, rfl, hwr⟩ := hrel
    subst wr
    have hsz : (List.replicate j (48 : UInt8) ++ D).length = j + D.length := by simp
    have hj20 : j + D.length ≤ 20 := by omega
    have HN : Hid ((⟨#[48]⟩ : ByteArray) ++ ⟨(List.replicate j 48 ++ D).toArray⟩ = ⟨(List.replicate (j + 1) 48 ++ D).toArray⟩) := by
      show _ = _
      have := str_cat [48] (List.replicate j 48 ++ D)
      rw [List.replicate_succ]
      exact this
    have HSZ : Hid (ByteArray.size ⟨(List.replicate j (48 : UInt8) ++ D).toArray⟩ = j + D.length) := by show (List.replicate j (48 : UInt8) ++ D).toArray.size = _; rw [List.size_toArray]; exact hsz
    have HSZ2 : Hid (ByteArray.size ⟨(List.replicate (j + 1) (48 : UInt8) ++ D).toArray⟩ = j + 1 + D.length) := by show (List.replicate (j + 1) (48 : UInt8) ++ D).toArray.size = _; rw [List.size_toArray]; simp
    have HE : Hid (¬ j + D.length < k → List.replicate j (48 : UInt8) ++ D = pad n k) := fun h => by
      rw [HP.out]
      have : j = k - D.length := by omega
      rw [this]
    clear HP
    by_cases hlt : j + D.length < k
    · have hd : decide (((j + D.length : Nat) : Int) < (k : Int)) = true := by simp; omega
      clear HE hsz
      generalize hS : (⟨(List.replicate j (48 : UInt8) ++ D).toArray⟩ : ByteArray) = S at *
      have hs := HSZ.out
      generalize hT : (⟨(List.replicate (j + 1) (48 : UInt8) ++ D).toArray⟩ : ByteArray) = T at *
      clear hS
      go_wp2_with fail
      go_roundw
      case rel => exact ⟨j + 1, .inr (by omega), by rw [HN.out, hT], by first | rfl | trivial⟩
      case measure => rw [HN.out]; show k - T.size < k - S.size; rw [HSZ.out, HSZ2.out]; omega
    · have hd : decide (((j + D.length : Nat) : Int) < (k : Int)) = false := by simp; omega
      have he := HE.out hlt
      have hs := HSZ.out
      rw [he] at hs ⊢
      clear HE HN HSZ HSZ2 hsz he
      generalize hS : (⟨(pad n k).toArray⟩ : ByteArray) = S at *
      go_wp2_with fail
      go_ret
      exact ⟨by rw [hS]; rfl, hb1⟩

set_option maxHeartbeats 1000000 in
theorem number_any (m : Int) (w : World) : Calls Tryz.prog 14 #[.int .i64 m] w fun e w' => ∃ l f, e = .returned (.tuple #[.string ⟨l.toArray⟩, .int .i64 f]) ∧ NumIs m l f ∧ Below w.heap.size w w' := by
  by_cases hm : MMay m
  · have hm' := hm
    obtain ⟨m0, m1⟩ := hm
    have HI : Hid (∀ W, Calls Tryz.prog 36 #[.int .i64 m, .int .i64 0, .int .i64 49] W fun e w' => e = .returned (.bool true) ∧ w' = W) := fun W => cents.in_yes _ _ _ _ m0 m1
    obtain ⟨k, rfl⟩ : ∃ k : Nat, m = (k : Int) := ⟨m.toNat, by omega⟩
    have hk : k < 50 := by omega
    have HP : Hid (∀ W, Calls Tryz.prog 38 #[.int .i64 (k : Int), .int .i64 10] W fun e w' => e = .returned (.string ⟨(pad k 10).toArray⟩) ∧ Below W.heap.size W w') := fun W => padded_any k 10 W (by omega) (by decide)
    have HC : Hid (∀ W, Calls Tryz.prog 39 #[.string ⟨(pad k 10).toArray⟩] W fun e w' => e = .returned (.tuple #[.int .i64 (check.digitR (pad k 10)), .int .i64 (check.flawR (pad k 10))]) ∧ Below W.heap.size W w') := fun W => check.checkDigit_any ⟨(pad k 10).toArray⟩ W
    have hd0 : ∀ x, x < 50 → (0 ≤ check.digitR (pad x 10) ∧ check.digitR (pad x 10) ≤ 9) ∧ (pad x 10).length = 10 := by decide +kernel
    obtain ⟨⟨d0, d1⟩, hpl⟩ := hd0 k hk
    have HD : Hid (∀ W, Calls Tryz.prog 16 #[.int .i64 (check.digitR (pad k 10))] W fun e w' => e = .returned (.string ⟨(Lib.decDigits (check.digitR (pad k 10)).toNat).toArray⟩) ∧ Below W.heap.size W w') := fun W => dec_any 9 _ W d0 (by omega) (by omega)
    have hdl := dec_small (check.digitR (pad k 10)).toNat (by omega)
    have HV : Hid ((⟨(pad k 10).toArray⟩ : ByteArray) ++ ⟨(Lib.decDigits (check.digitR (pad k 10)).toNat).toArray⟩ = ⟨(numL k).toArray⟩) := str_cat _ _
    have HN : Hid (NumIs (k : Int) (numL k) 0) := .inl ⟨hm', rfl, rfl⟩
    have hs1 : ByteArray.size ⟨(pad k 10).toArray⟩ = 10 := by show (pad k 10).toArray.size = _; rw [List.size_toArray]; exact hpl
    have hs2 : ByteArray.size ⟨(Lib.decDigits (check.digitR (pad k 10)).toNat).toArray⟩ ≤ 7 := by show (Lib.decDigits (check.digitR (pad k 10)).toNat).toArray.size ≤ _; rw [List.size_toArray]; exact hdl
    clear hd0 hpl hdl hm'
    generalize (⟨(Lib.decDigits (check.digitR (pad k 10)).toNat).toArray⟩ : ByteArray) = E at *
    generalize check.digitR (pad k 10) = d at *
    generalize check.flawR (pad k 10) = f at *
    generalize (⟨(pad k 10).toArray⟩ : ByteArray) = S at *
    go_enter Tryz.func14, Tryz.ntmps14
    go_wp2_with fail
    refine (HI.out _).mono ?_
    rintro e wz ⟨rfl, hwz⟩
    subst wz
    go_wp2_with fail
    refine (HP.out _).mono ?_
    rintro e w1 ⟨rfl, hb1⟩
    go_wp2_with fail
    refine (HC.out _).mono ?_
    rintro e w2 ⟨rfl, hb2⟩
    go_wp2_with fail
    refine (HD.out _).mono ?_
    rintro e w3 ⟨rfl, hb3⟩
    have HB : Hid (Below w.heap.size w w3) := (hb1.trans (hb2.mono hb1.size)).trans (hb3.mono (hb1.trans (hb2.mono hb1.size)).size)
    clear hb1 hb2 hb3
    go_wp2_with fail
    go_ret2
    exact ⟨numL k, 0, by rw [← HV.out]; rfl, HN.out, HB.out⟩
  · have HI : Hid (∀ W, Calls Tryz.prog 36 #[.int .i64 m, .int .i64 0, .int .i64 49] W fun e w' => e = .returned (.bool false) ∧ w' = W) := fun W => cents.in_no _ _ _ _ (by unfold MMay at hm; omega)
    have HN : Hid (NumIs m [] 18) := .inr ⟨hm, rfl, rfl⟩
    clear hm
    go_enter Tryz.func14, Tryz.ntmps14
    go_wp2_with fail
    refine (HI.out _).mono ?_
    rintro e wz ⟨rfl, hwz⟩
    subst wz
    go_wp2_with fail
    go_ret2
    exact ⟨[], 18, rfl, HN.out, Below.refl _ _⟩

end Go.Proofs.YtlicdeppfhmfjaaGreatDoor.rcp

/- The meter of a number; a whole number: as the document has them. -/
namespace Go.Proofs.YtlicdeppfhmfjaaGreatDoor.rcp
open Go.RowKit
set_option maxRecDepth 100000
set_option linter.unusedVariables false
set_option linter.unusedSimpArgs false

theorem num_ne {l : List UInt8} (h : ∀ k, k < 50 → numL k ≠ l) (k : Nat) : ¬ Named l k := fun hk => h k hk.1 hk.2
set_option maxHeartbeats 2000000 in
theorem meter_any (s : ByteArray) (w : World) : Calls Tryz.prog 19 #[.string s] w fun e w' => ∃ m f, e = .returned (.tuple #[.int .i64 m, .int .i64 f]) ∧ MeterIs s.data.toList m f ∧ Below w.heap.size w w' := by
  have hsz : s.data.toList.length = s.size := Array.length_toList
  have HM : Hid (∀ W, Calls Tryz.prog 47 #[.string s] W fun e w' => e = .returned (.int .i64 (check.flawR s.data.toList)) ∧ w' = W) := fun W => check.may_any s W
  have HG : Hid (∀ W, Calls Tryz.prog 48 #[.string s] W fun e w' => e = .returned (.bool (check.goodR s.data.toList)) ∧ w' = W) := fun W => check.isGood_any s W
  have HNM : Hid (∀ k : Nat, k < 50 → ∀ W, Calls Tryz.prog 14 #[.int .i64 (k : Int)] W fun e w' => e = .returned (.tuple #[.string ⟨(numL k).toArray⟩, .int .i64 0]) ∧ Below W.heap.size W w') := fun k hk W => (number_any (k : Int) W).mono (by
    rintro e w1 ⟨l, f, rfl, h, hb⟩
    rcases h with ⟨_, rfl, rfl⟩ | ⟨a, _⟩
    · exact ⟨by rw [Int.toNat_natCast], hb⟩
    · exact absurd ⟨by omega, by omega⟩ a)
  have HL : Hid (s.data.toList.length = s.size) := hsz
  have HEQ : Hid (∀ k, ((⟨(numL k).toArray⟩ : ByteArray).toList == s.toList) = (numL k == s.data.toList)) := fun k => by rw [ByteArray.toList_eq, ByteArray.toList_eq]
  generalize hl : s.data.toList = l at *
  clear hsz hl
  by_cases h11 : s.size = 11
  · have hd1 : ((s.size : Int) != 11) = false := by rw [h11]; rfl
    have HL2 : Hid (l.length = 11) := HL.out.trans h11
    have hsm : s.size ≤ 100 := by omega
    clear h11
    by_cases hf : check.flawR l = 0
    · have hd2 : (check.flawR l != 0) = false := by rw [hf]; rfl
      have HF : Hid (check.flawR l = 0) := hf
      clear hf
      generalize hfl : check.flawR l = fl at *
      by_cases hg : check.goodR l = true
      · rw [hg] at HG
        have HGD : Hid (check.goodR l = true) := hg
        clear hg
        go_enter Tryz.func19, Tryz.ntmps19
        go_wp2_with fail
        refine (HM.out _).mono ?_
        rintro e wz ⟨rfl, hwz⟩
        subst wz
        go_wp2_with fail
        refine (HG.out _).mono ?_
        rintro e wz ⟨rfl, hwz⟩
        subst wz
        clear HM HG
        go_wp2_with fail
        go_loopw [5] (fun v wr => ∃ k : Nat, k ≤ 50 ∧ v = .int .i64 (k : Int) ∧ (∀ i, i < k → numL i ≠ l) ∧ Below w.heap.size w wr) (fun v _ => 50 - (intOf v).toNat)
        case atStart => exact ⟨0, by decide, rfl, fun i hi => absurd hi (Nat.not_lt_zero _), Below.refl _ _⟩
        case round =>
          obtain ⟨k, hk, rfl, hne, hb⟩ := hrel
          have HB : Hid (Below w.heap.size w wr) := hb
          have HNE : Hid (∀ i, i < k → numL i ≠ l) := hne
          clear hb hne
          by_cases hlt : k < 50
          · have hdl : decide ((k : Int) < 50) = true := by simp; omega
            have HN1 : Hid (Calls Tryz.prog 14 #[.int .i64 (k : Int)] wr fun e w' => e = .returned (.tuple #[.string ⟨(numL k).toArray⟩, .int .i64 0]) ∧ Below wr.heap.size wr w') := HNM.out k hlt wr
            have HE := HEQ.out k
            by_cases he : numL k = l
            · have hse : ((⟨(numL k).toArray⟩ : ByteArray).toList == s.toList) = true := by rw [HE, he]; simp
              have HR : Hid (MeterIs l (k : Int) 0) := .inr (.inr (.inr (.inr ⟨HL2.out, hfl.trans HF.out, HGD.out, k, ⟨hlt, he⟩, rfl, rfl⟩)))
              clear HE he
              generalize (⟨(numL k).toArray⟩ : ByteArray) = S at *
              go_wp2_with fail
              refine HN1.out.mono ?_
              rintro e w2 ⟨rfl, hb2⟩
              have HB2 : Hid (Below w.heap.size w w2) := HB.out.trans (hb2.mono HB.out.size)
              clear hb2 HN1
              go_wp2_with fail
              go_ret2
              exact ⟨(k : Int), 0, rfl, HR.out, HB2.out⟩
            · have hse : ((⟨(numL k).toArray⟩ : ByteArray).toList == s.toList) = false := by rw [HE]; simpa using he
              have HN2 : Hid (∀ i, i < k + 1 → numL i ≠ l) := fun i hi => by
                by_cases e : i = k
                · subst e; exact he
                · exact HNE.out i (by omega)
              clear HE he
              generalize (⟨(numL k).toArray⟩ : ByteArray) = S at *
              go_wp2_with fail
              refine HN1.out.mono ?_
              rintro e w2 ⟨rfl, hb2⟩
              have HB2 : Hid (Below w.heap.size w w2) := HB.out.trans (hb2.mono HB.out.size)
              clear hb2 HN1
              go_wp2_with fail
              go_roundw
              case rel => exact ⟨k + 1, by omega, by go_num, HN2.out, HB2.out⟩
              case measure => simp [intOf]; omega
          · obtain rfl : k = 50 := by omega
            have HR : Hid (MeterIs l 0 18) := .inr (.inr (.inr (.inl ⟨HL2.out, hfl.trans HF.out, HGD.out, num_ne HNE.out, rfl, rfl⟩)))
            go_wp2_with fail
            go_ret2
            exact ⟨0, 18, rfl, HR.out, HB.out⟩
      · have hg2 : check.goodR l = false := by simpa using hg
        rw [hg2] at HG
        have HR : Hid (MeterIs l 0 8) := .inr (.inr (.inl ⟨HL2.out, hfl.trans HF.out, hg2, rfl, rfl⟩))
        clear hg hg2
        go_enter Tryz.func19, Tryz.ntmps19
        go_wp2_with fail
        refine (HM.out _).mono ?_
        rintro e wz ⟨rfl, hwz⟩
        subst wz
        go_wp2_with fail
        refine (HG.out _).mono ?_
        rintro e wz ⟨rfl, hwz⟩
        subst wz
        go_wp2_with fail
        go_ret2
        exact ⟨0, 8, rfl, HR.out, Below.refl _ _⟩
    · have hd2 : (check.flawR l != 0) = true := by simpa using hf
      have HR : Hid (MeterIs l 0 (check.flawR l)) := .inr (.inl ⟨HL2.out, hf, rfl, rfl⟩)
      clear hf
      generalize check.flawR l = fl at *
      go_enter Tryz.func19, Tryz.ntmps19
      go_wp2_with fail
      refine (HM.out _).mono ?_
      rintro e wz ⟨rfl, hwz⟩
      subst wz
      go_wp2_with fail
      go_ret2
      exact ⟨0, fl, rfl, HR.out, Below.refl _ _⟩
  · have hd1 : ((s.size : Int) != 11) = true := by simp; omega
    have HR : Hid (MeterIs l 0 6) := .inl ⟨by rw [HL.out]; exact h11, rfl, rfl⟩
    clear h11
    go_enter Tryz.func19, Tryz.ntmps19
    go_wp2_with fail
    go_ret2
    exact ⟨0, 6, rfl, HR.out, Below.refl _ _⟩

end Go.Proofs.YtlicdeppfhmfjaaGreatDoor.rcp

/- What the document's answer to Read gives back. -/
namespace Go.Proofs.YtlicdeppfhmfjaaGreatDoor.cents
open Go.RowKit

theorem digit_yes (c : Int) (w : World) (h1 : 48 ≤ c) (h2 : c ≤ 57) :
    Calls Tryz.prog 49 #[.int .u8 c] w fun e w' => e = .returned (.bool true) ∧ w' = w := by
  go_enter Tryz.func49, Tryz.ntmps49
  go_wp2
  go_ret
  exact ⟨rfl, rfl⟩

theorem digit_lo (c : Int) (w : World) (h1 : c < 48) :
    Calls Tryz.prog 49 #[.int .u8 c] w fun e w' => e = .returned (.bool false) ∧ w' = w := by
  go_enter Tryz.func49, Tryz.ntmps49
  go_wp2
  go_ret
  exact ⟨rfl, rfl⟩

theorem digit_hi (c : Int) (w : World) (h0 : 48 ≤ c) (h1 : 57 < c) :
    Calls Tryz.prog 49 #[.int .u8 c] w fun e w' => e = .returned (.bool false) ∧ w' = w := by
  have h2 : decide (c ≤ 57) = false := by simp; omega
  go_enter Tryz.func49, Tryz.ntmps49
  go_wp2
  go_ret
  exact ⟨rfl, rfl⟩

theorem digit_no (c : Int) (w : World) (h : c < 48 ∨ 57 < c) :
    Calls Tryz.prog 49 #[.int .u8 c] w fun e w' => e = .returned (.bool false) ∧ w' = w := by
  by_cases h0 : c < 48
  · exact digit_lo c w h0
  · exact digit_hi c w (by omega) (by omega)

theorem getD_at (s : ByteArray) (k : Nat) (h : k < s.size) : s.data.toList.getD k 0 = s[k] := by
  simp [List.getD, List.getElem?_eq_getElem (show k < s.data.toList.length by rw [len_eq]; exact h)]
  rfl

theorem isD_no {c : UInt8} (h : (c.toNat : Int) < 48 ∨ 57 < (c.toNat : Int)) : isD c = false := by
  rcases h with h | h
  · exact isD_lo h
  · exact isD_hi h

theorem neg_at (s : ByteArray) (h : 0 < s.size) : neg s.data.toList = (((s[0].toNat : Nat) : Int) == 45) := by
  unfold neg
  rw [List.head?_eq_getElem?, List.getElem?_eq_getElem (by rw [len_eq]; exact h)]
  show (some s[0] == some 45) = _
  rw [Bool.eq_iff_iff]
  simp only [beq_iff_eq, Option.some.injEq]
  constructor
  · intro e; rw [e]; rfl
  · intro e; apply UInt8.toNat_inj.1; show s[0].toNat = 45; omega

theorem short_no {l : List UInt8} {f : Nat} (hb : body l = l.drop f) (hf : f ≤ l.length) (h : ¬ 4 ≤ l.length - f) : form (body l) = false := by
  cases e : form (body l)
  · rfl
  · exact absurd (form_parts hb hf e).1 h
theorem dot_no {l : List UInt8} {f : Nat} (hb : body l = l.drop f) (hf : f ≤ l.length) (h : ¬ l.getD (l.length - 3) 0 = 46) : form (body l) = false := by
  cases e : form (body l)
  · rfl
  · exact absurd (form_parts hb hf e).2.1 h
theorem nought_no {l : List UInt8} {f : Nat} (hb : body l = l.drop f) (hf : f ≤ l.length) (h : l.getD f 0 = 48) (h4 : 4 < l.length - f) : form (body l) = false := by
  cases e : form (body l)
  · rfl
  · exact absurd h4 ((form_parts hb hf e).2.2.1 h)
theorem digit_form {l : List UInt8} {f : Nat} (hb : body l = l.drop f) (hf : f ≤ l.length) (k : Nat) (h1 : f ≤ k) (h2 : k < l.length) (h3 : ¬ k + 3 = l.length) (h : isD (l.getD k 0) = false) : form (body l) = false := by
  cases e : form (body l)
  · rfl
  · have := (form_parts hb hf e).2.2.2 k h1 h2 h3; rw [h] at this; cases this

theorem end_neg {l : List UInt8} (h1 : ¬ 20 < l.length) (hn : neg l = true) (hf : form (body l) = true) (v : Int) (hv : v = if 1000000000000 < dval (units (body l) ++ rests (body l)) then 1000000000001 else dval (units (body l) ++ rests (body l))) :
    readR l = if v = 0 then (0, 3) else if 1000000000000 < v then (0, 2) else (-v, 0) := by
  by_cases hz : l = [45, 48, 46, 48, 48]
  · have := (neg_zero hn hf).2 hz
    rw [this] at hv
    rw [readR_zero h1 hz, if_pos (by rw [hv]; rfl)]
  · have hnz : ¬ dval (units (body l) ++ rests (body l)) = 0 := fun e => hz ((neg_zero hn hf).1 e)
    rw [readR_good h1 hf hz, hv, hn]
    generalize dval (units (body l) ++ rests (body l)) = d at *
    by_cases hM : 1000000000000 < d
    · simp [hM]
    · simp [hM, hnz]

theorem end_pos {l : List UInt8} (h1 : ¬ 20 < l.length) (hn : neg l = false) (hf : form (body l) = true) (v : Int) (hv : v = if 1000000000000 < dval (units (body l) ++ rests (body l)) then 1000000000001 else dval (units (body l) ++ rests (body l))) :
    readR l = if 1000000000000 < v then (0, 2) else (v, 0) := by
  have hz : ¬ l = [45, 48, 46, 48, 48] := by intro e; rw [e] at hn; cases hn
  rw [readR_good h1 hf hz, hv, hn]
  generalize dval (units (body l) ++ rests (body l)) = d at *
  by_cases hM : 1000000000000 < d
  · simp [hM]
  · simp [hM]


set_option maxHeartbeats 2000000 in
theorem readCents_neg (s : ByteArray) (w : World) (h20 : s.size ≤ 20) (hn : neg s.data.toList = true) :
    Calls Tryz.prog 21 #[.string s] w fun e w' => e = .returned (.tuple #[.int .i64 (readR s.data.toList).1, .int .i64 (readR s.data.toList).2]) ∧ w' = w := by
  have hlen := len_eq s
  have hl20 : ¬ 20 < s.data.toList.length := by omega
  have hb : body s.data.toList = s.data.toList.drop 1 := by unfold body; rw [hn]; rfl
  have hsz := neg_size hn
  have HL : Hid (¬ 20 < s.data.toList.length) := hl20
  have HB : Hid (body s.data.toList = s.data.toList.drop 1) := hb
  have HN : Hid (neg s.data.toList = true) := hn
  have HE : Hid (s.data.toList.length = s.size) := hlen
  have hF : 1 ≤ s.data.toList.length := by omega
  have HF : Hid (1 ≤ s.data.toList.length) := hF
  clear hl20 hb hn hlen hF
  by_cases h4 : 4 ≤ s.size - 1
  · have hs0 : 0 < s.size := by omega
    have hs3 : s.size - 3 < s.size := by omega
    have hsF : 1 < s.size := by omega
    have h45 : ((((s[0]'hs0).toNat : Nat) : Int) == 45) = true := by rw [← neg_at s hs0]; exact HN.out
    have h0 : (0 : Int) < (s.size : Int) := by omega
    by_cases hd : (s[s.size - 3]'hs3).toNat = 46
    · have hd3 : ((((s[s.size - 3]'hs3).toNat : Nat) : Int) != 46) = false := by simp; omega
      have HD : Hid (s.data.toList.getD (s.data.toList.length - 3) 0 = 46) := by
        show _ = _
        rw [HE.out, getD_at s _ (by omega)]; exact UInt8.toNat_inj.1 hd
      clear hd
      by_cases hz : (s[1]'hsF).toNat = 48 ∧ 4 < s.size - 1
      · have hz1 : ((((s[1]'hsF).toNat : Nat) : Int) == 48) = true := by simp; omega
        have hz2 : (4 : Int) < (s.size : Int) - 1 := by omega
        have E : Hid (readR s.data.toList = (0, 3)) := readR_form HL.out (nought_no HB.out HF.out (by rw [getD_at s _ (by omega)]; exact UInt8.toNat_inj.1 hz.1) (by rw [HE.out]; omega))
        clear hz
        go_enter Tryz.func21, Tryz.ntmps21
        go_wp2
        go_ret2
        exact ⟨ret_err E.out, rfl⟩
      · have HZ : Hid (s.data.toList.getD 1 0 = 48 → ¬ 4 < s.data.toList.length - 1) := by
          intro h5 h6
          rw [getD_at s _ (by omega)] at h5
          rw [HE.out] at h6
          exact hz ⟨by rw [h5]; rfl, h6⟩
        have hpick : ((((s[1]'hsF).toNat : Nat) : Int) == 48) = false ∨ (((((s[1]'hsF).toNat : Nat) : Int) == 48) = true ∧ ¬ (4 : Int) < (s.size : Int) - 1) := by
          by_cases h5 : (s[1]'hsF).toNat = 48
          · right; exact ⟨by simp; omega, by omega⟩
          · left; simp; omega
        clear hz
        rcases hpick with hz1 | ⟨hz1, hz2⟩
        all_goals
          go_enter Tryz.func21, Tryz.ntmps21
          go_wp2
          go_loop [6, 7] (fun v i => ∃ k : Nat, 1 ≤ k ∧ k ≤ s.size ∧ i = .int .i64 k ∧ v = .int .i64 (satv (seen s.data.toList 1 k)) ∧ allD (seen s.data.toList 1 k) = true) (fun _ i => s.size - (intOf i).toNat)
          case atStart => exact ⟨1, Nat.le_refl _, by omega, rfl, rfl, rfl⟩
          case round =>
            obtain ⟨k, hk1, hk, rfl, rfl, hall⟩ := hrel
            have HA : Hid (allD (seen s.data.toList 1 k) = true) := hall
            have hv := satv_bd _ hall
            have HV : Hid (satv (seen s.data.toList 1 k) = _) := satv_eq _ hall
            clear hall
            by_cases hlt : k < s.size
            · by_cases hdot : k + 3 = s.size
              · have hsk : ((k : Int) == (s.size : Int) - 3) = true := by simp; omega
                have HS : Hid (seen s.data.toList 1 (k + 1) = seen s.data.toList 1 k) := seen_skip (by rw [HE.out]; exact hdot)
                clear HV
                go_wp2
                go_round
                case rel => exact ⟨k + 1, by omega, by omega, by go_num, by rw [HS.out], by rw [HS.out]; exact HA.out⟩
                case measure => simp [intOf]; omega
              · have hsk : ((k : Int) == (s.size : Int) - 3) = false := by simp; omega
                have HS : Hid (seen s.data.toList 1 (k + 1) = seen s.data.toList 1 k ++ [(s[k]'hlt)]) := by
                  show _ = _
                  rw [seen_next hk1 (by rw [HE.out]; exact hdot), getD_at s k hlt]
                have HX : Hid (isD (s[k]'hlt) = false → readR s.data.toList = (0, 3)) := by
                  intro h
                  exact readR_form HL.out (digit_form HB.out HF.out k hk1 (by rw [HE.out]; exact hlt) (by rw [HE.out]; exact hdot) (by rw [getD_at s k hlt]; exact h))
                have HY : Hid (satv (seen s.data.toList 1 k ++ [(s[k]'hlt)]) = if 1000000000000 < 10 * satv (seen s.data.toList 1 k) + ((((s[k]'hlt).toNat : Nat) : Int) - 48) then 1000000000001 else 10 * satv (seen s.data.toList 1 k) + ((((s[k]'hlt).toNat : Nat) : Int) - 48)) := satv_snoc _ _
                have hcb : (0 : Int) ≤ (((s[k]'hlt).toNat : Nat) : Int) ∧ (((s[k]'hlt).toNat : Nat) : Int) < 256 := ⟨by omega, by have := (s[k]'hlt).toNat_lt; omega⟩
                have HI : Hid ((((s[k]'hlt).toNat : Nat) : Int) < 48 ∨ 57 < (((s[k]'hlt).toNat : Nat) : Int) → isD (s[k]'hlt) = false) := fun h => isD_no h
                have HJ : Hid (48 ≤ (((s[k]'hlt).toNat : Nat) : Int) → (((s[k]'hlt).toNat : Nat) : Int) ≤ 57 → isD (s[k]'hlt) = true) := fun a b => isD_yes a b
                clear HV
                by_cases hc : (((s[k]'hlt).toNat : Nat) : Int) < 48 ∨ 57 < (((s[k]'hlt).toNat : Nat) : Int)
                · have HX2 : Hid (readR s.data.toList = (0, 3)) := HX.out (HI.out hc)
                  go_wp2_with fail
                  refine (digit_no _ _ hc).mono ?_
                  rintro e w' ⟨rfl, rfl⟩
                  clear hc
                  go_wp2
                  go_ret2
                  exact ⟨ret_err HX2.out, rfl⟩
                · have c1 : 48 ≤ (((s[k]'hlt).toNat : Nat) : Int) := by omega
                  have c2 : (((s[k]'hlt).toNat : Nat) : Int) ≤ 57 := by omega
                  have HQ : Hid (allD (seen s.data.toList 1 k ++ [(s[k]'hlt)]) = true) := by
                    show _ = _
                    rw [allD_append, HA.out]; simp [allD, HJ.out c1 c2]
                  clear hc
                  by_cases hM : 1000000000000 < 10 * satv (seen s.data.toList 1 k) + ((((s[k]'hlt).toNat : Nat) : Int) - 48)
                  · go_wp2_with fail
                    refine (digit_yes _ _ c1 c2).mono ?_
                    rintro e w' ⟨rfl, rfl⟩
                    go_wp2
                    go_round
                    case rel => exact ⟨k + 1, by omega, by omega, by go_num, by rw [HS.out, HY.out, if_pos hM], by rw [HS.out]; exact HQ.out⟩
                    case measure => simp [intOf]; omega
                  · go_wp2_with fail
                    refine (digit_yes _ _ c1 c2).mono ?_
                    rintro e w' ⟨rfl, rfl⟩
                    go_wp2
                    go_round
                    case rel => exact ⟨k + 1, by omega, by omega, by go_num, by rw [HS.out, HY.out, if_neg (by omega)], by rw [HS.out]; exact HQ.out⟩
                    case measure => simp [intOf]; omega
            · have hke : k = s.data.toList.length := by rw [HE.out]; omega
              have hfw := form_whole HB.out (by rw [HE.out]; exact h4) HD.out HZ.out (by rw [← hke]; exact HA.out)
              have EV : Hid (readR s.data.toList = _) := end_neg HL.out HN.out hfw.1 (satv (seen s.data.toList 1 k)) (by rw [hfw.2, ← hke]; exact HV.out)
              clear hfw HV hke
              generalize satv (seen s.data.toList 1 k) = v at *
              clear HA
              obtain ⟨v1, v2⟩ := hv
              by_cases e0 : v = 0
              · have E : Hid (readR s.data.toList = (0, 3)) := by show _ = _; rw [EV.out, if_pos e0]
                have e1 : (v == 0) = true := by simp [e0]
                clear EV e0
                go_wp2
                go_ret2
                exact ⟨ret_err E.out, rfl⟩
              · have e1 : (v == 0) = false := by simp [e0]
                by_cases e2 : 1000000000000 < v
                · have E : Hid (readR s.data.toList = (0, 2)) := by show _ = _; rw [EV.out, if_neg e0, if_pos e2]
                  clear EV e0
                  go_wp2
                  go_ret2
                  exact ⟨ret_err E.out, rfl⟩
                · have E : Hid (readR s.data.toList = (-v, 0)) := by show _ = _; rw [EV.out, if_neg e0, if_neg e2]
                  clear EV e0
                  go_wp2
                  go_ret2
                  exact ⟨ret_pair' E.out, rfl⟩
    · have hd3 : ((((s[s.size - 3]'hs3).toNat : Nat) : Int) != 46) = true := by simp; omega
      have E : Hid (readR s.data.toList = (0, 3)) := readR_form HL.out (dot_no HB.out HF.out (by rw [HE.out, getD_at s _ (by omega)]; intro e; exact hd (by rw [e]; rfl)))
      clear hd
      go_enter Tryz.func21, Tryz.ntmps21
      go_wp2
      go_ret2
      exact ⟨ret_err E.out, rfl⟩
  · have E : Hid (readR s.data.toList = (0, 3)) := readR_form HL.out (short_no HB.out HF.out (by rw [HE.out]; exact h4))
    have hs0 : 0 < s.size := by omega
    have h45 : ((((s[0]'hs0).toNat : Nat) : Int) == 45) = true := by rw [← neg_at s hs0]; exact HN.out
    have h0 : (0 : Int) < (s.size : Int) := by omega
    have h5 : (s.size : Int) - 1 < 4 := by omega
    go_enter Tryz.func21, Tryz.ntmps21
    go_wp2
    go_ret2
    exact ⟨ret_err E.out, rfl⟩

set_option maxHeartbeats 2000000 in
theorem readCents_pos (s : ByteArray) (w : World) (h20 : s.size ≤ 20) (hn : neg s.data.toList = false) :
    Calls Tryz.prog 21 #[.string s] w fun e w' => e = .returned (.tuple #[.int .i64 (readR s.data.toList).1, .int .i64 (readR s.data.toList).2]) ∧ w' = w := by
  have hlen := len_eq s
  have hl20 : ¬ 20 < s.data.toList.length := by omega
  have hb : body s.data.toList = s.data.toList.drop 0 := by unfold body; rw [hn]; rfl
  have hsz : 0 ≤ s.size := Nat.zero_le _
  have HL : Hid (¬ 20 < s.data.toList.length) := hl20
  have HB : Hid (body s.data.toList = s.data.toList.drop 0) := hb
  have HN : Hid (neg s.data.toList = false) := hn
  have HE : Hid (s.data.toList.length = s.size) := hlen
  have hF : 0 ≤ s.data.toList.length := by omega
  have HF : Hid (0 ≤ s.data.toList.length) := hF
  clear hl20 hb hn hlen hF
  by_cases h4 : 4 ≤ s.size - 0
  · have hs0 : 0 < s.size := by omega
    have hs3 : s.size - 3 < s.size := by omega
    have hsF : 0 < s.size := by omega
    have h45 : ((((s[0]'hs0).toNat : Nat) : Int) == 45) = false := by rw [← neg_at s hs0]; exact HN.out
    have h0 : (0 : Int) < (s.size : Int) := by omega
    by_cases hd : (s[s.size - 3]'hs3).toNat = 46
    · have hd3 : ((((s[s.size - 3]'hs3).toNat : Nat) : Int) != 46) = false := by simp; omega
      have HD : Hid (s.data.toList.getD (s.data.toList.length - 3) 0 = 46) := by
        show _ = _
        rw [HE.out, getD_at s _ (by omega)]; exact UInt8.toNat_inj.1 hd
      clear hd
      by_cases hz : (s[0]'hsF).toNat = 48 ∧ 4 < s.size - 0
      · have hz1 : ((((s[0]'hsF).toNat : Nat) : Int) == 48) = true := by simp; omega
        have hz2 : (4 : Int) < (s.size : Int) - 0 := by omega
        have E : Hid (readR s.data.toList = (0, 3)) := readR_form HL.out (nought_no HB.out HF.out (by rw [getD_at s _ (by omega)]; exact UInt8.toNat_inj.1 hz.1) (by rw [HE.out]; omega))
        clear hz
        go_enter Tryz.func21, Tryz.ntmps21
        go_wp2
        go_ret2
        exact ⟨ret_err E.out, rfl⟩
      · have HZ : Hid (s.data.toList.getD 0 0 = 48 → ¬ 4 < s.data.toList.length - 0) := by
          intro h5 h6
          rw [getD_at s _ (by omega)] at h5
          rw [HE.out] at h6
          exact hz ⟨by rw [h5]; rfl, h6⟩
        have hpick : ((((s[0]'hsF).toNat : Nat) : Int) == 48) = false ∨ (((((s[0]'hsF).toNat : Nat) : Int) == 48) = true ∧ ¬ (4 : Int) < (s.size : Int) - 0) := by
          by_cases h5 : (s[0]'hsF).toNat = 48
          · right; exact ⟨by simp; omega, by omega⟩
          · left; simp; omega
        clear hz
        rcases hpick with hz1 | ⟨hz1, hz2⟩
        all_goals
          go_enter Tryz.func21, Tryz.ntmps21
          go_wp2
          go_loop [6, 7] (fun v i => ∃ k : Nat, 0 ≤ k ∧ k ≤ s.size ∧ i = .int .i64 k ∧ v = .int .i64 (satv (seen s.data.toList 0 k)) ∧ allD (seen s.data.toList 0 k) = true) (fun _ i => s.size - (intOf i).toNat)
          case atStart => exact ⟨0, Nat.le_refl _, by omega, rfl, rfl, rfl⟩
          case round =>
            obtain ⟨k, hk1, hk, rfl, rfl, hall⟩ := hrel
            have HA : Hid (allD (seen s.data.toList 0 k) = true) := hall
            have hv := satv_bd _ hall
            have HV : Hid (satv (seen s.data.toList 0 k) = _) := satv_eq _ hall
            clear hall
            by_cases hlt : k < s.size
            · by_cases hdot : k + 3 = s.size
              · have hsk : ((k : Int) == (s.size : Int) - 3) = true := by simp; omega
                have HS : Hid (seen s.data.toList 0 (k + 1) = seen s.data.toList 0 k) := seen_skip (by rw [HE.out]; exact hdot)
                clear HV
                go_wp2
                go_round
                case rel => exact ⟨k + 1, by omega, by omega, by go_num, by rw [HS.out], by rw [HS.out]; exact HA.out⟩
                case measure => simp [intOf]; omega
              · have hsk : ((k : Int) == (s.size : Int) - 3) = false := by simp; omega
                have HS : Hid (seen s.data.toList 0 (k + 1) = seen s.data.toList 0 k ++ [(s[k]'hlt)]) := by
                  show _ = _
                  rw [seen_next hk1 (by rw [HE.out]; exact hdot), getD_at s k hlt]
                have HX : Hid (isD (s[k]'hlt) = false → readR s.data.toList = (0, 3)) := by
                  intro h
                  exact readR_form HL.out (digit_form HB.out HF.out k hk1 (by rw [HE.out]; exact hlt) (by rw [HE.out]; exact hdot) (by rw [getD_at s k hlt]; exact h))
                have HY : Hid (satv (seen s.data.toList 0 k ++ [(s[k]'hlt)]) = if 1000000000000 < 10 * satv (seen s.data.toList 0 k) + ((((s[k]'hlt).toNat : Nat) : Int) - 48) then 1000000000001 else 10 * satv (seen s.data.toList 0 k) + ((((s[k]'hlt).toNat : Nat) : Int) - 48)) := satv_snoc _ _
                have hcb : (0 : Int) ≤ (((s[k]'hlt).toNat : Nat) : Int) ∧ (((s[k]'hlt).toNat : Nat) : Int) < 256 := ⟨by omega, by have := (s[k]'hlt).toNat_lt; omega⟩
                have HI : Hid ((((s[k]'hlt).toNat : Nat) : Int) < 48 ∨ 57 < (((s[k]'hlt).toNat : Nat) : Int) → isD (s[k]'hlt) = false) := fun h => isD_no h
                have HJ : Hid (48 ≤ (((s[k]'hlt).toNat : Nat) : Int) → (((s[k]'hlt).toNat : Nat) : Int) ≤ 57 → isD (s[k]'hlt) = true) := fun a b => isD_yes a b
                clear HV
                by_cases hc : (((s[k]'hlt).toNat : Nat) : Int) < 48 ∨ 57 < (((s[k]'hlt).toNat : Nat) : Int)
                · have HX2 : Hid (readR s.data.toList = (0, 3)) := HX.out (HI.out hc)
                  go_wp2_with fail
                  refine (digit_no _ _ hc).mono ?_
                  rintro e w' ⟨rfl, rfl⟩
                  clear hc
                  go_wp2
                  go_ret2
                  exact ⟨ret_err HX2.out, rfl⟩
                · have c1 : 48 ≤ (((s[k]'hlt).toNat : Nat) : Int) := by omega
                  have c2 : (((s[k]'hlt).toNat : Nat) : Int) ≤ 57 := by omega
                  have HQ : Hid (allD (seen s.data.toList 0 k ++ [(s[k]'hlt)]) = true) := by
                    show _ = _
                    rw [allD_append, HA.out]; simp [allD, HJ.out c1 c2]
                  clear hc
                  by_cases hM : 1000000000000 < 10 * satv (seen s.data.toList 0 k) + ((((s[k]'hlt).toNat : Nat) : Int) - 48)
                  · go_wp2_with fail
                    refine (digit_yes _ _ c1 c2).mono ?_
                    rintro e w' ⟨rfl, rfl⟩
                    go_wp2
                    go_round
                    case rel => exact ⟨k + 1, by omega, by omega, by go_num, by rw [HS.out, HY.out, if_pos hM], by rw [HS.out]; exact HQ.out⟩
                    case measure => simp [intOf]; omega
                  · go_wp2_with fail
                    refine (digit_yes _ _ c1 c2).mono ?_
                    rintro e w' ⟨rfl, rfl⟩
                    go_wp2
                    go_round
                    case rel => exact ⟨k + 1, by omega, by omega, by go_num, by rw [HS.out, HY.out, if_neg (by omega)], by rw [HS.out]; exact HQ.out⟩
                    case measure => simp [intOf]; omega
            · have hke : k = s.data.toList.length := by rw [HE.out]; omega
              have hfw := form_whole HB.out (by rw [HE.out]; exact h4) HD.out HZ.out (by rw [← hke]; exact HA.out)
              have EV : Hid (readR s.data.toList = _) := end_pos HL.out HN.out hfw.1 (satv (seen s.data.toList 0 k)) (by rw [hfw.2, ← hke]; exact HV.out)
              clear hfw HV hke
              generalize satv (seen s.data.toList 0 k) = v at *
              clear HA
              obtain ⟨v1, v2⟩ := hv
              by_cases e2 : 1000000000000 < v
              · have E : Hid (readR s.data.toList = (0, 2)) := by show _ = _; rw [EV.out, if_pos e2]
                clear EV
                go_wp2
                go_ret2
                exact ⟨ret_err E.out, rfl⟩
              · have E : Hid (readR s.data.toList = (v, 0)) := by show _ = _; rw [EV.out, if_neg e2]
                clear EV
                go_wp2
                go_ret2
                exact ⟨ret_pair' E.out, rfl⟩
    · have hd3 : ((((s[s.size - 3]'hs3).toNat : Nat) : Int) != 46) = true := by simp; omega
      have E : Hid (readR s.data.toList = (0, 3)) := readR_form HL.out (dot_no HB.out HF.out (by rw [HE.out, getD_at s _ (by omega)]; intro e; exact hd (by rw [e]; rfl)))
      clear hd
      go_enter Tryz.func21, Tryz.ntmps21
      go_wp2
      go_ret2
      exact ⟨ret_err E.out, rfl⟩
  · have E : Hid (readR s.data.toList = (0, 3)) := readR_form HL.out (short_no HB.out HF.out (by rw [HE.out]; exact h4))
    have h5 : (s.size : Int) < 4 := by omega
    by_cases hs0 : 0 < s.size
    · have h45 : ((((s[0]'hs0).toNat : Nat) : Int) == 45) = false := by rw [← neg_at s hs0]; exact HN.out
      go_enter Tryz.func21, Tryz.ntmps21
      go_wp2
      go_ret2
      exact ⟨ret_err E.out, rfl⟩
    · have h1 : ¬ (0 : Int) < (s.size : Int) := by omega
      go_enter Tryz.func21, Tryz.ntmps21
      go_wp2
      go_ret2
      exact ⟨ret_err E.out, rfl⟩

set_option maxHeartbeats 400000 in
theorem readCents_any (s : ByteArray) (w : World) :
    Calls Tryz.prog 21 #[.string s] w fun e w' => e = .returned (.tuple #[.int .i64 (readR s.data.toList).1, .int .i64 (readR s.data.toList).2]) ∧ w' = w := by
  by_cases h20 : 20 < s.size
  · have e : readR s.data.toList = (0, 1) := by unfold readR; rw [if_pos (by rw [len_eq]; exact h20)]
    rw [e]
    have h21 : (20 : Int) < (s.size : Int) := by omega
    clear e
    go_enter Tryz.func21, Tryz.ntmps21
    go_wp2
    go_ret2
    exact ⟨rfl, rfl⟩
  · cases hn : neg s.data.toList
    · exact readCents_pos s w (by omega) hn
    · exact readCents_neg s w (by omega) hn

end Go.Proofs.YtlicdeppfhmfjaaGreatDoor.cents

/- A whole number, as the document has it. -/
namespace Go.Proofs.YtlicdeppfhmfjaaGreatDoor.rcp
open Go.RowKit
set_option maxRecDepth 100000
set_option linter.unusedVariables false
set_option linter.unusedSimpArgs false

set_option maxHeartbeats 1000000 in
theorem whole_any (s : ByteArray) (w : World) : Calls Tryz.prog 20 #[.string s] w fun e w' => e = .returned (.int .i64 (wholeR s.data.toList)) ∧ w' = w := by
  have hsz : s.data.toList.length = s.size := Array.length_toList
  by_cases h1 : s.size < 1
  · have hd1 : decide ((s.size : Int) < 1) = true := by simp; omega
    have HR : Hid ((-1 : Int) = wholeR s.data.toList) := by show _ = _; unfold wholeR; rw [if_pos (by omega)]
    clear hsz h1
    go_enter Tryz.func20, Tryz.ntmps20
    go_wp2_with fail
    go_ret
    exact ⟨by rw [← HR.out]; rfl, rfl⟩
  · have hd1 : decide ((s.size : Int) < 1) = false := by simp; omega
    by_cases h7 : 7 < s.size
    · have hd7 : decide ((7 : Int) < (s.size : Int)) = true := by simp; omega
      have HR : Hid ((-1 : Int) = wholeR s.data.toList) := by show _ = _; unfold wholeR; rw [if_pos (by omega)]
      have hsm : s.size ≤ 9223372036854775807 ∨ 9223372036854775807 < s.size := by omega
      clear hsz h1
      go_enter Tryz.func20, Tryz.ntmps20
      go_wp2_with fail
      go_ret
      exact ⟨by rw [← HR.out]; rfl, rfl⟩
    · have hd7 : decide ((7 : Int) < (s.size : Int)) = false := by simp; omega
      have hs7 : s.size ≤ 7 := by omega
      have HW : Hid (wholeR s.data.toList = if cents.allD s.data.toList = true then cents.dval s.data.toList else -1) := by show _ = _; unfold wholeR; rw [if_neg (by omega)]
      have HLN : Hid (s.data.toList.length = s.size) := hsz
      clear hsz h1 h7
      go_enter Tryz.func20, Tryz.ntmps20
      go_wp2_with fail
      go_loopw [3, 4] (fun v z wr => ∃ k : Nat, k ≤ s.size ∧ z = .int .i64 (k : Int) ∧ cents.allD (s.data.toList.take k) = true ∧ v = .int .i64 (cents.dval (s.data.toList.take k)) ∧ (0 ≤ cents.dval (s.data.toList.take k) ∧ cents.dval (s.data.toList.take k) < ((10 ^ k : Nat) : Int)) ∧ wr = w) (fun _ z _ => s.size - (intOf z).toNat)
      case atStart => exact ⟨0, Nat.zero_le _, rfl, rfl, rfl, ⟨by show (0 : Int) ≤ 0; decide, by show (0 : Int) < 1; decide⟩, rfl⟩
      case round =>
        obtain ⟨k, hk, rfl, hall, rfl, ⟨hv0, hv1⟩, hwr⟩ := hrel
        subst wr
        by_cases hlt : k < s.size
        · have hdl : decide ((k : Int) < (s.size : Int)) = true := by simp; omega
          have HT : Hid (s.data.toList.take (k + 1) = s.data.toList.take k ++ [s[k]'hlt]) := cents.take_snoc s k hlt
          have hcb : (0 : Int) ≤ (((s[k]'hlt).toNat : Nat) : Int) ∧ (((s[k]'hlt).toNat : Nat) : Int) < 256 := ⟨by omega, by have := (s[k]'hlt).toNat_lt; omega⟩
          have hp : (10 : Nat) ^ k ≤ 1000000 := Nat.le_trans (Nat.pow_le_pow_right (by decide) (show k ≤ 6 by omega)) (by decide)
          have HP : Hid ((10 : Nat) ^ (k + 1) = 10 ^ k * 10) := Nat.pow_succ ..
          have HAL : Hid (cents.allD (s.data.toList.take k) = true) := hall
          by_cases hc : (((s[k]'hlt).toNat : Nat) : Int) < 48 ∨ 57 < (((s[k]'hlt).toNat : Nat) : Int)
          · have HR : Hid ((-1 : Int) = wholeR s.data.toList) := by
              show _ = _
              rw [HW.out, if_neg (by rw [cents.allD_take_no s k hlt (cents.isD_no hc)]; decide)]
            have HDG : Hid (∀ W, Calls Tryz.prog 49 #[.int .u8 (((s[k]'hlt).toNat : Nat) : Int)] W fun e w' => e = .returned (.bool false) ∧ w' = W) := fun W => cents.digit_no _ W hc
            clear hc HT HW HAL hall hv0 hv1 hp HP
            generalize cents.dval (s.data.toList.take k) = d at *
            go_wp2_with fail
            refine (HDG.out _).mono ?_
            rintro e wz ⟨rfl, hwz⟩
            subst wz
            go_wp2_with fail
            go_ret
            exact ⟨by rw [← HR.out]; rfl, rfl⟩
          · have c1 : 48 ≤ (((s[k]'hlt).toNat : Nat) : Int) := by omega
            have c2 : (((s[k]'hlt).toNat : Nat) : Int) ≤ 57 := by omega
            have HDG : Hid (∀ W, Calls Tryz.prog 49 #[.int .u8 (((s[k]'hlt).toNat : Nat) : Int)] W fun e w' => e = .returned (.bool true) ∧ w' = W) := fun W => cents.digit_yes _ W c1 c2
            have HA2 : Hid (cents.allD (s.data.toList.take (k + 1)) = true) := by
              show _ = _
              rw [HT.out, cents.allD_append, HAL.out]
              simp [cents.allD, cents.isD_yes c1 c2]
            have HV2 : Hid (cents.dval (s.data.toList.take (k + 1)) = cents.dval (s.data.toList.take k) * 10 + ((((s[k]'hlt).toNat : Nat) : Int) - 48)) := by show _ = _; rw [HT.out, cents.dval_snoc]
            have HPI : Hid (((10 ^ (k + 1) : Nat) : Int) = ((10 ^ k : Nat) : Int) * 10) := by show _ = _; rw [HP.out]; exact Int.natCast_mul _ _
            have hpi : ((10 ^ k : Nat) : Int) ≤ 1000000 := by omega
            clear hc HT HW HAL hall hp HP
            generalize cents.dval (s.data.toList.take k) = d at *
            generalize ((10 ^ k : Nat) : Int) = pk at *
            go_wp2_with fail
            refine (HDG.out _).mono ?_
            rintro e wz ⟨rfl, hwz⟩
            subst wz
            go_wp2_with fail
            go_roundw
            case rel => exact ⟨k + 1, by omega, by go_num, HA2.out, by rw [HV2.out, Int.mul_comm], ⟨by have := HV2.out; omega, by have := HV2.out; have := HPI.out; omega⟩, by first | rfl | trivial⟩
            case measure => simp [intOf]; omega
        · obtain rfl : k = s.size := by omega
          have hdl : decide ((s.size : Int) < (s.size : Int)) = false := by simp
          have hta : s.data.toList.take s.size = s.data.toList := by rw [← HLN.out, List.take_length]
          rw [hta] at hall ⊢
          have HR : Hid (cents.dval s.data.toList = wholeR s.data.toList) := by show _ = _; rw [HW.out, if_pos hall]
          clear hta hall HW hv0 hv1
          go_wp2_with fail
          go_ret
          exact ⟨by rw [← HR.out]; rfl, rfl⟩

end Go.Proofs.YtlicdeppfhmfjaaGreatDoor.rcp

/- Where the order is open: a call that changes nothing may be thought of as coming up first. -/
namespace Go.Proofs.YtlicdeppfhmfjaaGreatDoor
open Go.RowKit

section
variable {P : Program} {ops : Array Oper} {Q : Exit → Act → World → Prop} {md : Region.Mode} {S : World → Prop}
/-- In the state a, in every world of S, the operation is a call of f with these arguments. -/
structure EntersIf (P : Program) (ops : Array Oper) (S : World → Prop) (o : Oper) (f : FuncId) (args : Array Value) (a : Act) : Prop where
  want : Region.wanted o (yielded ops a.tmps) = true
  run : ∀ w, S w → (execOp a.eval o).run P w = .ok (.enter f args) w
/-- And the call gives v, and leaves the world as it is. -/
def Gives (P : Program) (S : World → Prop) (f : FuncId) (args : Array Value) (v : Value) : Prop := ∀ w, S w → Calls P f args w fun e w' => e = .returned v ∧ w' = w
theorem EntersIf.now {o : Oper} {f : FuncId} {args : Array Value} {a : Act} {v : Value} {i : Nat} (h : EntersIf P ops S o f args a) (hg : Gives P S f args v) (hi : ops[i]? = some o) {K : Act → World → Prop} {w : World} (hS : S w) (hk : K (a.put o.dst v) w) : wpOp P ops Q i K a w := by
  unfold wpOp
  simp only [hi, h.want, if_true]
  left
  unfold Oper.wp
  rw [h.run w hS, Oper.upon_enter]
  refine (hg w hS).mono fun e w' he => ?_
  obtain ⟨rfl, rfl⟩ := he
  exact hk
/-- Another operation, apart from it, neither sees it nor is seen. -/
theorem EntersIf.apart {o p : Oper} {f : FuncId} {args : Array Value} {v : Value} {j : Nat} (hj : ops[j]? = some p) (hap : o.apart ops p = true) (hso : ∀ cs b, o.op ≠ .select cs b) (hsp : ∀ cs b, p.op ≠ .select cs b)
    (hQ : ∀ c a w, Q (.panic c) (a.put o.dst v) w → Q (.panic c) a w) {K : Act → World → Prop} {a : Act} {w : World} (he : EntersIf P ops S o f args a) (h : wpOp P ops Q j K (a.put o.dst v) w) :
    wpOp P ops Q j (fun a' w' => EntersIf P ops S o f args a' ∧ K (a'.put o.dst v) w') a w := by
  obtain ⟨n1, n2, n3⟩ := Oper.apart_spec hap
  have stay : ∀ b : Act, EntersIf P ops S o f args b → ∀ u, EntersIf P ops S o f args (b.put p.dst u) := fun b hb u => ⟨by rw [wanted_put o b p.dst u n3]; exact hb.want, fun w hw => by rw [execOp_put o hso b p.dst u n3]; exact hb.run w hw⟩
  have both : ∀ (b : Act) (u : Value) (w' : World), EntersIf P ops S o f args b → K ((b.put o.dst v).put p.dst u) w' → EntersIf P ops S o f args (b.put p.dst u) ∧ K ((b.put p.dst u).put o.dst v) w' := fun b u w' hb hk => ⟨stay b hb u, by rw [← Act.put_comm b v u n2]; exact hk⟩
  unfold wpOp at h ⊢
  simp only [hj] at h ⊢
  rw [wanted_put p a o.dst v n1] at h
  by_cases hw : Region.wanted p (yielded ops a.tmps) = true
  · rw [if_pos hw] at h ⊢
    rcases h with h | ⟨h, hl⟩
    · left
      unfold Oper.wp at h ⊢
      rw [execOp_put p hsp a o.dst v n1] at h
      cases hr : (execOp a.eval p).run P w with
      | halt x w' =>
        rw [hr] at h
        cases x <;> simp only [Oper.upon] at h ⊢
        exact hQ _ _ _ h
      | ok n w' =>
        rw [hr] at h
        cases n with
        | value u => exact both a u w' he h
        | skip => exact both a undef w' he h
        | defer d =>
          simp only [Oper.upon] at h ⊢
          rw [Act.put_defers] at h
          exact both _ _ _ ⟨he.want, he.run⟩ h
        | enter g xs =>
          simp only [Oper.upon] at h ⊢
          refine Calls.mono h fun e w'' hx => ?_
          cases e with
          | returned u => exact both a u w'' he hx
          | panicked c => exact hQ _ _ _ hx
          | outgrown => exact hx
        | row r xs =>
          simp only [Oper.upon] at h ⊢
          exact Rows.mono h fun u w'' hx => both a u w'' he hx
        | _ => exact False.elim h
    · right
      unfold Oper.asks at h ⊢
      rw [execOp_put p hsp a o.dst v n1] at h
      exact ⟨h, hl⟩
  · rw [if_neg hw] at h ⊢
    exact both a undef w he h
/-- THE CALL FIRST. -/
theorem call_first {i : Nat} {o : Oper} {f : FuncId} {args : Array Value} {v : Value} (hi : ops[i]? = some o) (hsel : ∀ (j : Nat) (o : Oper) cs b, ops[j]? = some o → o.op ≠ .select cs b)
    (hQ : ∀ c a w, Q (.panic c) (a.put o.dst v) w → Q (.panic c) a w) (hg : Gives P S f args v) (fuel : Nat) : ∀ (listed : Array Bool) (a : Act) (w : World),
      (∀ j p, ops[j]? = some p → j ≠ i → listed.getD j true = false → (∀ e ∈ p.after, Region.binds md e = true → e.on ≠ i) → o.apart ops p = true) →
      i ∈ Region.ready md ops listed → EntersIf P ops S o f args a → S w →
      wpAnyH P md ops Q S fuel (listed.setIfInBounds i true) (a.put o.dst v) w → wpAnyH P md ops Q S (fuel + 1) listed a w := by
  induction fuel with
  | zero =>
    intro listed a w _ hr he hS H
    refine ⟨fun h => absurd hr (by rw [h]; exact List.not_mem_nil), fun j hj => ?_⟩
    by_cases e : j = i
    · rw [e]; exact he.now hg hi hS ⟨hS, H⟩
    · have := ready_mono hj e
      rw [H.1] at this
      exact absurd this List.not_mem_nil
  | succ fuel ih =>
    intro listed a w hfree hr he hS H
    refine ⟨fun h => absurd hr (by rw [h]; exact List.not_mem_nil), fun j hj => ?_⟩
    by_cases e : j = i
    · rw [e]; exact he.now hg hi hS ⟨hS, H⟩
    · obtain ⟨hun, p, hp, hall⟩ := mem_ready.1 hj
      have hno : ∀ x ∈ p.after, Region.binds md x = true → x.on ≠ i := fun x hx hb hxi => by
        have h1 := hall x hx hb
        have h0 := (mem_ready.1 hr).1
        rw [hxi] at h1
        by_cases hlt : i < listed.size
        · simp [hlt] at h0 h1
          rw [h0] at h1; cases h1
        · simp [hlt] at h1
      have h2 := EntersIf.apart hp (hfree j p hp e hun hno) (fun cs b => hsel i o cs b hi) (fun cs b => hsel j p cs b hp) hQ he (H.2 j (ready_mono hj e))
      refine wpOp_mono (fun a' w' h3 => ⟨h3.2.1, ih (listed.setIfInBounds j true) a' w' (fun k q hq hki hku hkn => hfree k q hq hki ?_ hkn) (ready_mono hr (Ne.symm e)) h3.1 h3.2.1 ?_⟩) h2
      · by_cases hjk : j = k
        · rw [← hjk]; exact hun
        · rw [getD_set_ne true hjk] at hku; exact hku
      · rw [Array.setIfInBounds_comm _ _ e]; exact h3.2.2
theorem call_at {fuel : Nat} {listed : Array Bool} {a : Act} {w : World} (i d : Nat) (v : Value) (o : Oper) (hi : ops[i]? = some o) (hd : o.dst = some d)
    (hs : Region.noSelect ops = true) (hf : Region.free md ops listed i = true) (hr : (Region.ready md ops listed).contains i = true)
    (hQ : ∀ c a w, Q (.panic c) (a.put o.dst v) w → Q (.panic c) a w) (f : FuncId) (args : Array Value) (he : EntersIf P ops S o f args a) (hg : Gives P S f args v) (hS : S w)
    (h : wpAnyH P md ops Q S fuel (listed.setIfInBounds i true) (a.put (some d) v) w) : wpAnyH P md ops Q S (fuel + 1) listed a w :=
  call_first hi (Region.noSelect_spec hs) hQ hg fuel listed a w (Region.free_spec hi hf) (by simpa using hr) he hS (by rw [hd]; exact h)
end

end Go.Proofs.YtlicdeppfhmfjaaGreatDoor

/- Operations one by one, where the order is open. -/
namespace Go.Proofs.YtlicdeppfhmfjaaGreatDoor
open Go.RowKit

/-- An operation that gives a value, where the order is open. -/
theorem wp_runOp {P : Program} {o : Oper} {a : Act} {w w' : World} {v : Value} {K : Act → World → Prop} {Q : Exit → Act → World → Prop} (d : Nat) (hd : o.dst = some d) (hrun : (execOp a.eval o).run P w = .ok (.value v) w') (h : K (a.put (some d) v) w') : o.wp P a w K Q := by
  rw [← hd] at h
  unfold Oper.wp
  rw [hrun, Oper.upon_value]
  exact h
/-- A call by its contract, where the order is open. -/
theorem wp_callOp {P : Program} {o : Oper} {a : Act} {w : World} {f : FuncId} {args : Array Value} {R : Ending → World → Prop} {K : Act → World → Prop} {Q : Exit → Act → World → Prop} (d : Nat) (hd : o.dst = some d) (hrun : (execOp a.eval o).run P w = .ok (.enter f args) w) (hc : Calls P f args w R)
    (h : ∀ e w', R e w' → ∃ v, e = .returned v ∧ K (a.put (some d) v) w') : o.wp P a w K Q := by
  rw [← hd] at h
  unfold Oper.wp
  rw [hrun, Oper.upon_enter]
  refine hc.mono fun e w' hr => ?_
  obtain ⟨v, rfl, hk⟩ := h e w' hr
  exact hk

end Go.Proofs.YtlicdeppfhmfjaaGreatDoor

/- In, as the document has it. -/
namespace Go.Proofs.YtlicdeppfhmfjaaGreatDoor.cal
open Go.RowKit

theorem cin (n lo hi : Int) (w : World) : Calls Tryz.prog 36 #[.int .i64 n, .int .i64 lo, .int .i64 hi] w fun e w' => e = .returned (.bool (decide (lo ≤ n ∧ n ≤ hi))) ∧ w' = w := by
  by_cases h1 : lo ≤ n
  · by_cases h2 : n ≤ hi
    · have h3 : decide (lo ≤ n ∧ n ≤ hi) = true := by simp; omega
      rw [h3]; clear h3
      go_enter Tryz.func36, Tryz.ntmps36
      go_wp2
      go_ret
      exact ⟨rfl, rfl⟩
    · have h3 : decide (lo ≤ n ∧ n ≤ hi) = false := by simp; omega
      have h4 : decide (n ≤ hi) = false := by simp; omega
      rw [h3]; clear h3 h2
      go_enter Tryz.func36, Tryz.ntmps36
      go_wp2
      go_ret
      exact ⟨rfl, rfl⟩
  · have h3 : decide (lo ≤ n ∧ n ≤ hi) = false := by simp; omega
    have h4 : decide (lo ≤ n) = false := by simp; omega
    rw [h3]; clear h3 h1
    go_enter Tryz.func36, Tryz.ntmps36
    go_wp2
    go_ret
    exact ⟨rfl, rfl⟩

end Go.Proofs.YtlicdeppfhmfjaaGreatDoor.cal

/- What is wrong with a receipt, as the document has it. -/
namespace Go.Proofs.YtlicdeppfhmfjaaGreatDoor.rcp
open Go.RowKit
set_option maxRecDepth 100000
set_option linter.unusedVariables false
set_option linter.unusedSimpArgs false

/-- What is asked of the reading of a token. -/
def KPar : Prop := ∀ (s : ByteArray) (w : World), Calls Tryz.prog 37 #[.string s] w fun e w' => e = .returned (.tuple #[token.parseV s.data.toList, .int .i64 (token.parseE s.data.toList)]) ∧ Below w.heap.size w w'
set_option maxHeartbeats 4000000 in
theorem rfault (KP : KPar) (r : Rc) (w : World) : Calls Tryz.prog 13 #[r.v] w fun e w' => FaultPost w r e w' := by
  have HPA : Hid (∀ W, Calls Tryz.prog 37 #[.string ⟨r.tk.toArray⟩] W fun e w' => e = .returned (.tuple #[token.parseV r.tk, .int .i64 (token.parseE r.tk)]) ∧ Below W.heap.size W w') := fun W => KP ⟨r.tk.toArray⟩ W
  unfold Rc.v Rc.cs
  generalize (⟨r.tk.toArray⟩ : ByteArray) = S at *
  have HIme : Hid (∀ W, Calls Tryz.prog 36 #[.int .i64 r.me, .int .i64 0, .int .i64 49] W fun e w' => e = .returned (.bool (decide (0 ≤ r.me ∧ r.me ≤ 49))) ∧ w' = W) := fun W => cal.cin r.me 0 49 W
  have HIte : Hid (∀ W, Calls Tryz.prog 36 #[.int .i64 r.te, .int .i64 0, .int .i64 100000000] W fun e w' => e = .returned (.bool (decide (0 ≤ r.te ∧ r.te ≤ 100000000))) ∧ w' = W) := fun W => cal.cin r.te 0 100000000 W
  have HIde : Hid (∀ W, Calls Tryz.prog 36 #[.int .i64 r.de, .int .i64 0, .int .i64 100000000] W fun e w' => e = .returned (.bool (decide (0 ≤ r.de ∧ r.de ≤ 100000000))) ∧ w' = W) := fun W => cal.cin r.de 0 100000000 W
  have HIfe : Hid (∀ W, Calls Tryz.prog 36 #[.int .i64 r.fe, .int .i64 0, .int .i64 100000000] W fun e w' => e = .returned (.bool (decide (0 ≤ r.fe ∧ r.fe ≤ 100000000))) ∧ w' = W) := fun W => cal.cin r.fe 0 100000000 W
  have HIpr : Hid (∀ W, Calls Tryz.prog 36 #[.int .i64 r.pr, .int .i64 0, .int .i64 100000000] W fun e w' => e = .returned (.bool (decide (0 ≤ r.pr ∧ r.pr ≤ 100000000))) ∧ w' = W) := fun W => cal.cin r.pr 0 100000000 W
  have HIch : Hid (∀ W, Calls Tryz.prog 36 #[.int .i64 r.ch, .int .i64 0, .int .i64 100000000] W fun e w' => e = .returned (.bool (decide (0 ≤ r.ch ∧ r.ch ≤ 100000000))) ∧ w' = W) := fun W => cal.cin r.ch 0 100000000 W
  have HIid : Hid (∀ W, Calls Tryz.prog 36 #[.int .i64 r.id, .int .i64 1, .int .i64 1048575] W fun e w' => e = .returned (.bool (decide (1 ≤ r.id ∧ r.id ≤ 1048575))) ∧ w' = W) := fun W => cal.cin r.id 1 1048575 W
  have HIun : Hid (∀ W, Calls Tryz.prog 36 #[.int .i64 r.un, .int .i64 0, .int .i64 2097151] W fun e w' => e = .returned (.bool (decide (0 ≤ r.un ∧ r.un ≤ 2097151))) ∧ w' = W) := fun W => cal.cin r.un 0 2097151 W
  have c0 : (w.alloc (.cells #[.int .i64 r.me, .int .i64 r.id, .int .i64 r.te, .int .i64 r.de, .int .i64 r.fe, .int .i64 r.pr, .int .i64 r.ch, .int .i64 r.un, .string S] 25)).cell? ⟨w.heap.size, 0, none⟩ = some (.int .i64 r.me) := (Blk.new w _ _).cell 0
  have HBX : Hid (Blk (w.alloc (.cells #[.int .i64 r.me, .int .i64 r.id, .int .i64 r.te, .int .i64 r.de, .int .i64 r.fe, .int .i64 r.pr, .int .i64 r.ch, .int .i64 r.un, .string S] 25)) w.heap.size #[.int .i64 r.me, .int .i64 r.id, .int .i64 r.te, .int .i64 r.de, .int .i64 r.fe, .int .i64 r.pr, .int .i64 r.ch, .int .i64 r.un, .string S] 25) := Blk.new w _ _
  have HB0 : Hid (Below w.heap.size w (w.alloc (.cells #[.int .i64 r.me, .int .i64 r.id, .int .i64 r.te, .int .i64 r.de, .int .i64 r.fe, .int .i64 r.pr, .int .i64 r.ch, .int .i64 r.un, .string S] 25))) := (Below.refl _ _).alloc (Nat.le_refl _) _
  have hs0 : w.heap.size < (w.alloc (.cells #[.int .i64 r.me, .int .i64 r.id, .int .i64 r.te, .int .i64 r.de, .int .i64 r.fe, .int .i64 r.pr, .int .i64 r.ch, .int .i64 r.un, .string S] 25)).heap.size := HBX.out.lt
  generalize hWW : w.alloc (.cells #[.int .i64 r.me, .int .i64 r.id, .int .i64 r.te, .int .i64 r.de, .int .i64 r.fe, .int .i64 r.pr, .int .i64 r.ch, .int .i64 r.un, .string S] 25) = W0 at *
  have HWW : Hid (w.alloc (.cells #[.int .i64 r.me, .int .i64 r.id, .int .i64 r.te, .int .i64 r.de, .int .i64 r.fe, .int .i64 r.pr, .int .i64 r.ch, .int .i64 r.un, .string S] 25) = W0) := hWW
  clear hWW
  go_enter Tryz.func13, Tryz.ntmps13
  go_upto_region 1 with fail
  rw [HWW.out]
  clear HWW
  by_cases hme : 0 ≤ r.me ∧ r.me ≤ 49
  · rw [decide_eq_true hme] at HIme
    have HME : Hid (MMay r.me) := hme
    go_wp2_with fail
    refine (HIme.out _).mono ?_
    rintro e wz ⟨rfl, hwz⟩
    subst wz
    clear HIme
    have k1 : W0.cell? ⟨w.heap.size, 1, none⟩ = some (.int .i64 r.id) := HBX.out.cell 1
    have k2 : W0.cell? ⟨w.heap.size, 2, none⟩ = some (.int .i64 r.te) := HBX.out.cell 2
    have k3 : W0.cell? ⟨w.heap.size, 3, none⟩ = some (.int .i64 r.de) := HBX.out.cell 3
    have k4 : W0.cell? ⟨w.heap.size, 4, none⟩ = some (.int .i64 r.fe) := HBX.out.cell 4
    have k5 : W0.cell? ⟨w.heap.size, 5, none⟩ = some (.int .i64 r.pr) := HBX.out.cell 5
    have k6 : W0.cell? ⟨w.heap.size, 6, none⟩ = some (.int .i64 r.ch) := HBX.out.cell 6
    have k7 : W0.cell? ⟨w.heap.size, 7, none⟩ = some (.int .i64 r.un) := HBX.out.cell 7
    have HBB : Hid (Blk (W0.alloc (.cells #[.int .i64 r.id, .int .i64 r.te, .int .i64 r.de, .int .i64 r.fe, .int .i64 r.pr, .int .i64 r.ch, .int .i64 r.un] 23)) W0.heap.size #[.int .i64 r.id, .int .i64 r.te, .int .i64 r.de, .int .i64 r.fe, .int .i64 r.pr, .int .i64 r.ch, .int .i64 r.un] 23) := Blk.new W0 _ _
    have HX1 : Hid (Blk (W0.alloc (.cells #[.int .i64 r.id, .int .i64 r.te, .int .i64 r.de, .int .i64 r.fe, .int .i64 r.pr, .int .i64 r.ch, .int .i64 r.un] 23)) w.heap.size #[.int .i64 r.me, .int .i64 r.id, .int .i64 r.te, .int .i64 r.de, .int .i64 r.fe, .int .i64 r.pr, .int .i64 r.ch, .int .i64 r.un, .string S] 25) := HBX.out.alloc _
    have HB1 : Hid (Below w.heap.size w (W0.alloc (.cells #[.int .i64 r.id, .int .i64 r.te, .int .i64 r.de, .int .i64 r.fe, .int .i64 r.pr, .int .i64 r.ch, .int .i64 r.un] 23))) := HB0.out.alloc HB0.out.size _
    go_upto_region 4 with fail
    generalize (W0.alloc (.cells #[.int .i64 r.id, .int .i64 r.te, .int .i64 r.de, .int .i64 r.fe, .int .i64 r.pr, .int .i64 r.ch, .int .i64 r.un] 23)) = W1 at *
    generalize W0.heap.size = gb at *
    clear k1 k2 k3 k4 k5 k6 k7 HBX HB0 c0
    have bid : W1.cell? ⟨gb, 0, none⟩ = some (.int .i64 r.id) := HBB.out.cell 0
    have bte : W1.cell? ⟨gb, 1, none⟩ = some (.int .i64 r.te) := HBB.out.cell 1
    have bde : W1.cell? ⟨gb, 2, none⟩ = some (.int .i64 r.de) := HBB.out.cell 2
    have bfe : W1.cell? ⟨gb, 3, none⟩ = some (.int .i64 r.fe) := HBB.out.cell 3
    have bpr : W1.cell? ⟨gb, 4, none⟩ = some (.int .i64 r.pr) := HBB.out.cell 4
    have bch : W1.cell? ⟨gb, 5, none⟩ = some (.int .i64 r.ch) := HBB.out.cell 5
    have bun : W1.cell? ⟨gb, 6, none⟩ = some (.int .i64 r.un) := HBB.out.cell 6
    by_cases hte : 0 ≤ r.te ∧ r.te ≤ 100000000
    · rw [decide_eq_true hte] at HIte
      go_wp2_with fail
      refine (HIte.out _).mono ?_
      rintro e wz ⟨rfl, hwz⟩
      subst wz
      clear HIte
      by_cases hde : 0 ≤ r.de ∧ r.de ≤ 100000000
      · rw [decide_eq_true hde] at HIde
        go_wp2_with fail
        refine (HIde.out _).mono ?_
        rintro e wz ⟨rfl, hwz⟩
        subst wz
        clear HIde
        by_cases hfe : 0 ≤ r.fe ∧ r.fe ≤ 100000000
        · rw [decide_eq_true hfe] at HIfe
          go_wp2_with fail
          refine (HIfe.out _).mono ?_
          rintro e wz ⟨rfl, hwz⟩
          subst wz
          clear HIfe
          by_cases hpr : 0 ≤ r.pr ∧ r.pr ≤ 100000000
          · rw [decide_eq_true hpr] at HIpr
            go_wp2_with fail
            refine (HIpr.out _).mono ?_
            rintro e wz ⟨rfl, hwz⟩
            subst wz
            clear HIpr
            by_cases hch : 0 ≤ r.ch ∧ r.ch ≤ 100000000
            · rw [decide_eq_true hch] at HIch
              go_wp2_with fail
              refine (HIch.out _).mono ?_
              rintro e wz ⟨rfl, hwz⟩
              subst wz
              clear HIch
              by_cases hid : 1 ≤ r.id ∧ r.id ≤ 1048575
              · rw [decide_eq_true hid] at HIid
                go_wp2_with fail
                refine (HIid.out _).mono ?_
                rintro e wz ⟨rfl, hwz⟩
                subst wz
                clear HIid
                by_cases hun : 0 ≤ r.un ∧ r.un ≤ 2097151
                · rw [decide_eq_true hun] at HIun
                  go_wp2_with fail
                  refine (HIun.out _).mono ?_
                  rintro e wz ⟨rfl, hwz⟩
                  subst wz
                  clear HIun
                  have HRG : Hid (RRange r) := ⟨⟨hte, hde, hfe, hpr⟩, hch, hid, hun⟩
                  obtain ⟨te0, te1⟩ := hte
                  obtain ⟨de0, de1⟩ := hde
                  obtain ⟨fe0, fe1⟩ := hfe
                  obtain ⟨pr0, pr1⟩ := hpr
                  obtain ⟨ch0, ch1⟩ := hch
                  obtain ⟨id0, id1⟩ := hid
                  obtain ⟨un0, un1⟩ := hun
                  by_cases hsm : r.te - r.de - r.fe - r.pr - r.ch = 0
                  · have hd : (r.te - r.de - r.fe - r.pr - r.ch != 0) = false := by rw [hsm]; rfl
                    have HSM : Hid (RSum r) := hsm
                    clear hsm
                    have xk : W1.cell? ⟨w.heap.size, 8, none⟩ = some (.string S) := HX1.out.cell 8
                    go_wp2_with fail
                    refine (HPA.out _).mono ?_
                    rintro e w2 ⟨rfl, hb2⟩
                    have HB2 : Hid (Below w.heap.size w w2) := HB1.out.trans (hb2.mono HB1.out.size)
                    have HB3 : Hid (Blk w2 gb #[.int .i64 r.id, .int .i64 r.te, .int .i64 r.de, .int .i64 r.fe, .int .i64 r.pr, .int .i64 r.ch, .int .i64 r.un] 23) := HBB.out.next hb2
                    clear hb2 HB1 HBB HX1 xk bid bte bde bfe bpr bch bun HPA
                    by_cases hpe : token.parseE r.tk = 0
                    · have HPE : Hid (token.parseE r.tk = 0) := hpe
                      have hpv : token.parseV r.tk = (tokR r).v := by unfold token.parseV; rw [if_pos hpe]; rfl
                      rw [hpv, hpe]
                      clear hpv hpe
                      have HTK : Hid (RTok r ↔ ((tokR r).i : Int) = r.id ∧ ((tokR r).c = 0 → ((tokR r).a : Int) = r.un) ∧ ((tokR r).c ≠ 0 → r.un = 0)) := Iff.rfl
                      unfold token.Tok.v
                      generalize tokR r = k at *
                      have HK : Hid (Blk (w2.alloc (.cells #[.int .i64 (k.c : Int), .int .i64 (k.i : Int), .int .i64 (k.a : Int), .int .i64 (k.t : Int)] 51)) w2.heap.size #[.int .i64 (k.c : Int), .int .i64 (k.i : Int), .int .i64 (k.a : Int), .int .i64 (k.t : Int)] 51) := Blk.new w2 _ _
                      have HB4 : Hid (Blk (w2.alloc (.cells #[.int .i64 (k.c : Int), .int .i64 (k.i : Int), .int .i64 (k.a : Int), .int .i64 (k.t : Int)] 51)) gb #[.int .i64 r.id, .int .i64 r.te, .int .i64 r.de, .int .i64 r.fe, .int .i64 r.pr, .int .i64 r.ch, .int .i64 r.un] 23) := HB3.out.alloc _
                      have HB5 : Hid (Below w.heap.size w (w2.alloc (.cells #[.int .i64 (k.c : Int), .int .i64 (k.i : Int), .int .i64 (k.a : Int), .int .i64 (k.t : Int)] 51))) := HB2.out.alloc HB2.out.size _
                      go_upto_region 11 with fail
                      generalize (w2.alloc (.cells #[.int .i64 (k.c : Int), .int .i64 (k.i : Int), .int .i64 (k.a : Int), .int .i64 (k.t : Int)] 51)) = W3 at *
                      generalize w2.heap.size = gk at *
                      clear HB3 HB2
                      have t0 : W3.cell? ⟨gk, 0, none⟩ = some (.int .i64 (k.c : Int)) := HK.out.cell 0
                      have t1 : W3.cell? ⟨gk, 1, none⟩ = some (.int .i64 (k.i : Int)) := HK.out.cell 1
                      have t2 : W3.cell? ⟨gk, 2, none⟩ = some (.int .i64 (k.a : Int)) := HK.out.cell 2
                      have bid : W3.cell? ⟨gb, 0, none⟩ = some (.int .i64 r.id) := HB4.out.cell 0
                      have bun : W3.cell? ⟨gb, 6, none⟩ = some (.int .i64 r.un) := HB4.out.cell 6
                      by_cases hi : (k.i : Int) = r.id
                      · have n1 : ((k.i : Int) != r.id) = false := by rw [hi]; simp
                        by_cases hc : k.c = 0
                        · have n2 : ((k.c : Int) == 0) = true := by rw [hc]; rfl
                          have n3 : ((k.c : Int) != 0) = false := by rw [hc]; rfl
                          by_cases ha : (k.a : Int) = r.un
                          · have n4 : ((k.a : Int) != r.un) = false := by rw [ha]; simp
                            have HV : Hid (RTok r) := HTK.out.2 ⟨hi, fun _ => ha, fun h => absurd hc h⟩
                            clear HTK
                            go_wp2_with fail
                            all_goals first
                              | (rename_i q1 q2; exact absurd q1 (by simp [undef]))
                              | (go_ret; exact ⟨_, rfl, .inr (.inr (.inr (.inr (.inr ⟨HME.out, HRG.out, HSM.out, HPE.out, HV.out, rfl⟩)))), HB5.out⟩)
                          · have n4 : ((k.a : Int) != r.un) = true := by simpa using ha
                            have HV : Hid (¬ RTok r) := fun h => ha ((HTK.out.1 h).2.1 hc)
                            clear HTK
                            go_wp2_with fail
                            all_goals first
                              | (rename_i q1 q2; exact absurd q1 (by simp [undef]))
                              | (go_ret; exact ⟨_, rfl, .inr (.inr (.inr (.inr (.inl ⟨HME.out, HRG.out, HSM.out, HPE.out, HV.out, rfl⟩)))), HB5.out⟩)
                        · have n2 : ((k.c : Int) == 0) = false := by simp; omega
                          have n3 : ((k.c : Int) != 0) = true := by simp; omega
                          by_cases hu : r.un = 0
                          · have n4 : (r.un != 0) = false := by rw [hu]; rfl
                            have HV : Hid (RTok r) := HTK.out.2 ⟨hi, fun h => absurd h hc, fun _ => hu⟩
                            clear HTK
                            go_wp2_with fail
                            all_goals first
                              | (rename_i q1 q2; exact absurd q1 (by simp [undef]))
                              | (go_ret; exact ⟨_, rfl, .inr (.inr (.inr (.inr (.inr ⟨HME.out, HRG.out, HSM.out, HPE.out, HV.out, rfl⟩)))), HB5.out⟩)
                          · have n4 : (r.un != 0) = true := by simpa using hu
                            have HV : Hid (¬ RTok r) := fun h => hu ((HTK.out.1 h).2.2 hc)
                            clear HTK
                            go_wp2_with fail
                            all_goals first
                              | (rename_i q1 q2; exact absurd q1 (by simp [undef]))
                              | (go_ret; exact ⟨_, rfl, .inr (.inr (.inr (.inr (.inl ⟨HME.out, HRG.out, HSM.out, HPE.out, HV.out, rfl⟩)))), HB5.out⟩)
                      · have n1 : ((k.i : Int) != r.id) = true := by simpa using hi
                        have HV : Hid (¬ RTok r) := fun h => hi (HTK.out.1 h).1
                        clear HTK
                        go_wp2_with fail
                        all_goals first
                          | (rename_i q1 q2; exact absurd q1 (by simp [undef]))
                          | (go_ret; exact ⟨_, rfl, .inr (.inr (.inr (.inr (.inl ⟨HME.out, HRG.out, HSM.out, HPE.out, HV.out, rfl⟩)))), HB5.out⟩)
                    · have n1 : (token.parseE r.tk != 0) = true := by simpa using hpe
                      have HV : Hid (token.parseE r.tk ≠ 0) := hpe
                      have hpv : token.parseV r.tk = token.noTok := by unfold token.parseV; rw [if_neg hpe]
                      rw [hpv]
                      unfold token.noTok
                      clear hpv hpe
                      have HB5 : Hid (∀ o, Below w.heap.size w (w2.alloc o)) := fun o => HB2.out.alloc HB2.out.size o
                      obtain ⟨pe, hpe⟩ : ∃ x, token.parseE r.tk = x := ⟨_, rfl⟩
                      rw [hpe] at n1 ⊢
                      have HPX : Hid (token.parseE r.tk = pe) := hpe
                      clear hpe
                      go_wp2_with fail
                      go_ret
                      exact ⟨pe, rfl, .inr (.inr (.inr (.inl ⟨HME.out, HRG.out, HSM.out, HV.out, HPX.out.symm⟩))), HB5.out _⟩
                  · have hd : (r.te - r.de - r.fe - r.pr - r.ch != 0) = true := by simpa using hsm
                    have HV : Hid (¬ RSum r) := hsm
                    clear hsm
                    go_wp2_with fail
                    all_goals first
                      | (rename_i q1 q2; exact absurd q1 (by simp [undef]))
                      | (go_ret; exact ⟨_, rfl, .inr (.inr (.inl ⟨HME.out, HRG.out, HV.out, rfl⟩)), HB1.out⟩)
                · rw [decide_eq_false hun] at HIun
                  have HV : Hid (¬ RRange r) := fun h => hun h.2.2.2
                  go_wp2_with fail
                  refine (HIun.out _).mono ?_
                  rintro e wz ⟨rfl, hwz⟩
                  subst wz
                  clear HIun
                  go_wp2_with fail
                  all_goals first
                    | (rename_i q1 q2; exact absurd q1 (by simp [undef]))
                    | (go_ret; exact ⟨_, rfl, .inr (.inl ⟨HME.out, HV.out, rfl⟩), HB1.out⟩)
              · rw [decide_eq_false hid] at HIid
                have HV : Hid (¬ RRange r) := fun h => hid h.2.2.1
                go_wp2_with fail
                refine (HIid.out _).mono ?_
                rintro e wz ⟨rfl, hwz⟩
                subst wz
                clear HIid
                go_wp2_with fail
                all_goals first
                  | (rename_i q1 q2; exact absurd q1 (by simp [undef]))
                  | (go_ret; exact ⟨_, rfl, .inr (.inl ⟨HME.out, HV.out, rfl⟩), HB1.out⟩)
            · rw [decide_eq_false hch] at HIch
              have HV : Hid (¬ RRange r) := fun h => hch h.2.1
              go_wp2_with fail
              refine (HIch.out _).mono ?_
              rintro e wz ⟨rfl, hwz⟩
              subst wz
              clear HIch
              go_wp2_with fail
              all_goals first
                | (rename_i q1 q2; exact absurd q1 (by simp [undef]))
                | (go_ret; exact ⟨_, rfl, .inr (.inl ⟨HME.out, HV.out, rfl⟩), HB1.out⟩)
          · rw [decide_eq_false hpr] at HIpr
            have HV : Hid (¬ RRange r) := fun h => hpr h.1.2.2.2
            go_wp2_with fail
            refine (HIpr.out _).mono ?_
            rintro e wz ⟨rfl, hwz⟩
            subst wz
            clear HIpr
            go_wp2_with fail
            all_goals first
              | (rename_i q1 q2; exact absurd q1 (by simp [undef]))
              | (go_ret; exact ⟨_, rfl, .inr (.inl ⟨HME.out, HV.out, rfl⟩), HB1.out⟩)
        · rw [decide_eq_false hfe] at HIfe
          have HV : Hid (¬ RRange r) := fun h => hfe h.1.2.2.1
          go_wp2_with fail
          refine (HIfe.out _).mono ?_
          rintro e wz ⟨rfl, hwz⟩
          subst wz
          clear HIfe
          go_wp2_with fail
          all_goals first
            | (rename_i q1 q2; exact absurd q1 (by simp [undef]))
            | (go_ret; exact ⟨_, rfl, .inr (.inl ⟨HME.out, HV.out, rfl⟩), HB1.out⟩)
      · rw [decide_eq_false hde] at HIde
        have HV : Hid (¬ RRange r) := fun h => hde h.1.2.1
        go_wp2_with fail
        refine (HIde.out _).mono ?_
        rintro e wz ⟨rfl, hwz⟩
        subst wz
        clear HIde
        go_wp2_with fail
        all_goals first
          | (rename_i q1 q2; exact absurd q1 (by simp [undef]))
          | (go_ret; exact ⟨_, rfl, .inr (.inl ⟨HME.out, HV.out, rfl⟩), HB1.out⟩)
    · rw [decide_eq_false hte] at HIte
      have HV : Hid (¬ RRange r) := fun h => hte h.1.1
      go_wp2_with fail
      refine (HIte.out _).mono ?_
      rintro e wz ⟨rfl, hwz⟩
      subst wz
      clear HIte
      go_wp2_with fail
      all_goals first
        | (rename_i q1 q2; exact absurd q1 (by simp [undef]))
        | (go_ret; exact ⟨_, rfl, .inr (.inl ⟨HME.out, HV.out, rfl⟩), HB1.out⟩)
  · rw [decide_eq_false hme] at HIme
    have HV : Hid (¬ MMay r.me) := hme
    go_wp2_with fail
    refine (HIme.out _).mono ?_
    rintro e wz ⟨rfl, hwz⟩
    subst wz
    clear HIme
    go_wp2_with fail
    all_goals first
      | (rename_i q1 q2; exact absurd q1 (by simp [undef]))
      | (go_ret; exact ⟨_, rfl, .inl ⟨HV.out, rfl⟩, HB0.out⟩)

end Go.Proofs.YtlicdeppfhmfjaaGreatDoor.rcp

/- What the document's answer to Show gives back. -/
namespace Go.Proofs.YtlicdeppfhmfjaaGreatDoor.cents
open Go.RowKit

set_option maxHeartbeats 400000 in
theorem shown_pos (n : Int) (w : World) (h0 : 0 ≤ n) (h1 : n ≤ 1000000000000) :
    Calls Tryz.prog 15 #[.int .i64 n] w fun e w' => e = .returned (.tuple #[.string ⟨(showP n).toArray⟩, .int .i64 0]) ∧ Below w.heap.size w w' := by
  have hl1 := dec_len (n / 100).toNat (by omega)
  have hl2 := dec_len (n / 10 % 10).toNat (by omega)
  have hl3 := dec_len (n % 10).toNat (by omega)
  have hq : -1000000000000 ≤ n := by omega
  go_enter Tryz.func15, Tryz.ntmps15
  go_wp2_with fail
  refine (in_yes _ _ _ _ hq h1).mono ?_
  rintro e w' ⟨rfl, rfl⟩
  go_wp2_with fail
  refine (dec_any (n / 100).toNat (n / 100) _ (by omega) (by omega) (by omega)).mono ?_
  rintro e w1 ⟨rfl, hb1⟩
  go_wp2_with fail
  refine (dec_any 9 (n / 10 % 10) _ (by omega) (by omega) (by omega)).mono ?_
  rintro e w2 ⟨rfl, hb2⟩
  go_wp2_with fail
  refine (dec_any 9 (n % 10) _ (by omega) (by omega) (by omega)).mono ?_
  rintro e w3 ⟨rfl, hb3⟩
  have hb := (hb1.trans (hb2.mono hb1.size)).trans (hb3.mono (hb1.trans (hb2.mono hb1.size)).size)
  clear hb1 hb2 hb3
  go_wp2_with fail
  go_ret2
  refine ⟨ret_str ?_, hb⟩
  apply ByteArray.ext
  simp [showP]

set_option maxHeartbeats 400000 in
theorem shown_any (n : Int) (w : World) (h0 : -1000000000000 ≤ n) (h1 : n ≤ 1000000000000) :
    Calls Tryz.prog 15 #[.int .i64 n] w fun e w' => e = .returned (.tuple #[.string ⟨(showT n).toArray⟩, .int .i64 0]) ∧ Below w.heap.size w w' := by
  by_cases hn : n < 0
  · have hs : showT n = 45 :: showP (-n) := by unfold showT; rw [if_pos hn]
    rw [hs]
    have hl : (showP (-n)).length ≤ 100 := by
      have hl1 := dec_len (-n / 100).toNat (by omega)
      have hl2 := dec_len (-n / 10 % 10).toNat (by omega)
      have hl3 := dec_len (-n % 10).toNat (by omega)
      simp [showP]; omega
    clear hs
    have hsp := fun w => shown_pos (-n) w (by omega) (by omega)
    have HS : Hid (∀ w, Calls Tryz.prog 15 #[.int .i64 (-n)] w fun e w' => e = .returned (.tuple #[.string ⟨(showP (-n)).toArray⟩, .int .i64 0]) ∧ Below w.heap.size w w') := hsp
    clear hsp
    go_enter Tryz.func15, Tryz.ntmps15
    go_wp2_with fail
    refine (in_yes _ _ _ _ h0 h1).mono ?_
    rintro e w' ⟨rfl, rfl⟩
    go_wp2_with fail
    refine (HS.out _).mono ?_
    rintro e w1 ⟨rfl, hb1⟩
    go_wp2_with fail
    go_ret2
    refine ⟨ret_str ?_, hb1⟩
    apply ByteArray.ext
    simp
  · have hs : showT n = showP n := by unfold showT; rw [if_neg hn]
    rw [hs]
    exact shown_pos n w (by omega) h1

set_option maxHeartbeats 400000 in
theorem shown_no (n : Int) (w : World) (h : n < -1000000000000 ∨ 1000000000000 < n) :
    Calls Tryz.prog 15 #[.int .i64 n] w fun e w' => e = .returned (.tuple #[.string ⟨#[]⟩, .int .i64 2]) ∧ Below w.heap.size w w' := by
  go_enter Tryz.func15, Tryz.ntmps15
  go_wp2_with fail
  refine (in_no _ _ _ _ h).mono ?_
  rintro e w' ⟨rfl, rfl⟩
  clear h
  go_wp2_with fail
  go_ret2
  exact ⟨rfl, Below.refl _ _⟩

end Go.Proofs.YtlicdeppfhmfjaaGreatDoor.cents
