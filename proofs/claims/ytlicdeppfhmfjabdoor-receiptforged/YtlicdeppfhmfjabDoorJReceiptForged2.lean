import Derived.Test.YtlicdeppfhmfjabDoorShowT
import Derived.Test.YtlicdeppfhmfjabDoorJReceiptForged1
import Derived.Lib.AppendIntMem
import Derived.WalkKit
import Derived.Deep.DeepCutAuto
import Derived.Test.YtlicdeppfhmfjabDoorTkUnpack
import Derived.Test.YtlicdeppfhmfjabDoorTkPack
import Derived.Test.YtlicdeppfhmfjabDoorTkBx
import Derived.Test.YtlicdeppfhmfjabDoorTkFlaw2
import Derived.Test.YtlicdeppfhmfjabDoorTkWn
import Derived.Test.YtlicdeppfhmfjabDoorOver
import Derived.Test.YtlicdeppfhmfjabDoorEq3
import Derived.Test.YtlicdeppfhmfjabDoorDec10
import Derived.Laws.BytesString
import Derived.Laws.Cells
import Derived.Lib.Strings
import Derived.Test.YtlicdeppfhmfjabDoorRows
import Derived.ProofKit
import Derived.OpenShut
import Derived.Below
import Derived.ChangeSame
import Derived.Deep.Strs
import Derived.Lib.SmallJoins
import Derived.LaidLaws
import Derived.FnData
import Derived.Shelf.Vars

/- What cents.Show gives back. -/
namespace Go.Proofs.YtlicdeppfhmfjabDoor.cents
open Go.RowKit

abbrev Tab (w : World) : Prop := Lib.TabIs Tryd.prog w "internal/strconv.uint64pow10" .u64 Lib.pow10Tab

theorem tab_below {w w' : World} (h : Tab w) (hb : Below w.heap.size w w') : Tab w' := Lib.tabBelow_of_tabIs h w' hb

theorem itoa_pos {n : Int} (h : 0 ≤ n) : Lib.itoa n = Lib.decDigits n.toNat := by unfold Lib.itoa; rw [if_neg (by omega)]

theorem itoa_big (n : Int) (w : World) (h0 : 0 ≤ n) (h1 : n ≤ 1000000000000) (ht : Tab w) :
    Calls Tryd.prog 20 #[.int .i64 n] w fun e w' => e = .returned (.string ⟨(Lib.decDigits n.toNat).toArray⟩) ∧ Below w.heap.size w w' := by
  refine (Tryd.strconv_Itoa n (by omega) (by omega) w ht).mono ?_
  rintro e w' ⟨rfl, k, os, rfl⟩
  rw [itoa_pos h0]
  exact ⟨rfl, Lib.below_grow _ _ (Nat.le_refl _) _ _⟩

theorem itoa_small (n : Int) (w : World) (h0 : 0 ≤ n) (h1 : n < 100) :
    Calls Tryd.prog 20 #[.int .i64 n] w fun e w' => e = .returned (.string ⟨(Lib.decDigits n.toNat).toArray⟩) ∧ w' = w := by
  obtain ⟨i, rfl⟩ := Int.eq_ofNat_of_zero_le h0
  exact Tryd.strconv_Itoa_small i (by omega) w

set_option maxHeartbeats 400000 in
theorem show_pos (n : Int) (w : World) (h0 : 0 ≤ n) (h1 : n ≤ 1000000000000) (ht : Tab w) :
    Calls Tryd.prog 34 #[.int .i64 n] w fun e w' => e = .returned (.tuple #[.string ⟨(showP n).toArray⟩, .int .i64 0]) ∧ Below w.heap.size w w' := by
  have hl1 := dec_len (n / 100).toNat (by omega)
  have hl2 := dec_len (n / 10 % 10).toNat (by omega)
  have hl3 := dec_len (n % 10).toNat (by omega)
  have hq : -1000000000000 ≤ n := by omega
  have HT : Hid (Tab w) := ht
  clear ht
  go_enter Tryd.func34, Tryd.ntmps34
  go_wp2_with fail
  refine (within_one_yes _ _ _ _ _ rfl hq h1).mono ?_
  rintro e w' ⟨rfl, rfl⟩
  go_wp2_with fail
  refine (itoa_big (n / 100) _ (by omega) (by omega) (Lib.tabIs_alloc HT.out _)).mono ?_
  rintro e w1 ⟨rfl, hb1⟩
  have hb : Below w.heap.size w w1 := (bel1 w _).trans (hb1.mono (by simp))
  clear hb1
  go_wp2_with fail
  refine (itoa_small (n / 10 % 10) _ (by omega) (by omega)).mono ?_
  rintro e w2 ⟨rfl, rfl⟩
  go_wp2_with fail
  refine (itoa_small (n % 10) _ (by omega) (by omega)).mono ?_
  rintro e w3 ⟨rfl, rfl⟩
  go_wp2_with fail
  go_ret2
  refine ⟨ret_str ?_, hb⟩
  apply ByteArray.ext
  simp [showP]

set_option maxHeartbeats 400000 in
theorem show_neg (m : Int) (w : World) (hm : 0 < m) (h1 : m ≤ 1000000000000) (ht : Tab w) :
    Calls Tryd.prog 34 #[.int .i64 (-m)] w fun e w' => e = .returned (.tuple #[.string ⟨(45 :: showP m).toArray⟩, .int .i64 0]) ∧ Below w.heap.size w w' := by
  have hl1 := dec_len (m / 100).toNat (by omega)
  have hl2 := dec_len (m / 10 % 10).toNat (by omega)
  have hl3 := dec_len (m % 10).toNat (by omega)
  have h0 : -1000000000000 ≤ -m := by omega
  have h2 : -m ≤ 1000000000000 := by omega
  have h3 : -m < 0 := by omega
  have HT : Hid (Tab w) := ht
  clear ht
  go_enter Tryd.func34, Tryd.ntmps34
  go_wp2_with fail
  refine (within_one_yes _ _ _ _ _ rfl h0 h2).mono ?_
  rintro e w' ⟨rfl, rfl⟩
  go_wp2_with fail
  refine (itoa_big (m / 100) _ (by omega) (by omega) (Lib.tabIs_alloc HT.out _)).mono ?_
  rintro e w1 ⟨rfl, hb1⟩
  have hb : Below w.heap.size w w1 := (bel1 w _).trans (hb1.mono (by simp))
  clear hb1
  go_wp2_with fail
  refine (itoa_small (m / 10 % 10) _ (by omega) (by omega)).mono ?_
  rintro e w2 ⟨rfl, rfl⟩
  go_wp2_with fail
  refine (itoa_small (m % 10) _ (by omega) (by omega)).mono ?_
  rintro e w3 ⟨rfl, rfl⟩
  go_wp2_with fail
  go_ret2
  refine ⟨ret_str ?_, hb⟩
  apply ByteArray.ext
  simp [showP]

theorem show_any (n : Int) (w : World) (h0 : -1000000000000 ≤ n) (h1 : n ≤ 1000000000000) (ht : Tab w) :
    Calls Tryd.prog 34 #[.int .i64 n] w fun e w' => e = .returned (.tuple #[.string ⟨(showT n).toArray⟩, .int .i64 0]) ∧ Below w.heap.size w w' := by
  by_cases hn : n < 0
  · have hs : showT n = 45 :: showP (-n) := by unfold showT; rw [if_pos hn]
    rw [hs]
    obtain ⟨m, rfl⟩ : ∃ m, n = -m := ⟨-n, by omega⟩
    rw [Int.neg_neg]
    exact show_neg m w (by omega) (by omega) ht
  · have hs : showT n = showP n := by unfold showT; rw [if_neg hn]
    rw [hs]; exact show_pos n w (by omega) h1 ht

set_option maxHeartbeats 400000 in
theorem show_no (n : Int) (w : World) (h : n < -1000000000000 ∨ 1000000000000 < n) :
    Calls Tryd.prog 34 #[.int .i64 n] w fun e w' => e = .returned (.tuple #[.string ⟨#[]⟩, .int .i64 2]) ∧ Below w.heap.size w w' := by
  go_enter Tryd.func34, Tryd.ntmps34
  go_wp2_with fail
  refine (within_one_no _ _ _ _ _ rfl h).mono ?_
  rintro e w' ⟨rfl, rfl⟩
  clear h
  go_wp2_with fail
  go_ret2
  exact ⟨rfl, bel1 _ _⟩

end Go.Proofs.YtlicdeppfhmfjabDoor.cents

/- A receipt is written. -/
namespace Go.Proofs.YtlicdeppfhmfjabDoor.rcp
open Go.Proofs.YtlicdeppfhmfjabDoor.rcb (Sb line_any amount_any text_any)
open Go.RowKit
set_option maxRecDepth 100000
set_option linter.unusedVariables false
set_option linter.unusedSimpArgs false

def EqL (a b : List UInt8) : Prop := a = b
/-- The lines, one behind the other. -/
def lns (l : List (List UInt8 × List UInt8)) : List UInt8 := l.foldl (fun a p => a ++ line p.1 p.2) []
theorem lns_snoc (l : List (List UInt8 × List UInt8)) (p : List UInt8 × List UInt8) : lns (l ++ [p]) = lns l ++ line p.1 p.2 := by unfold lns; rw [List.foldl_append]; rfl
theorem pline_len (n v : List UInt8) : (line n v).length = n.length + v.length + 2 := by unfold line; simp; omega
set_option maxHeartbeats 4000000 in
theorem write_abs (me id te de fe pr ch un : Int) (S X0 X1 X2 X3 X4 X5 X6 X7 X8 : ByteArray) (w : World) (z0 : X0.size ≤ 40) (z1 : X1.size ≤ 40) (z2 : X2.size ≤ 40) (z3 : X3.size ≤ 40) (z4 : X4.size ≤ 40) (z5 : X5.size ≤ 40) (z6 : X6.size ≤ 40) (z7 : X7.size ≤ 40) (z8 : X8.size ≤ 40)
    (h0 : ∀ w', Below w.heap.size w w' → Calls Tryd.prog 9 #[.int .i64 me] w' fun e w'' => e = .returned (.tuple #[.string X0, .int .i64 0]) ∧ Below w'.heap.size w' w'')
    (h1 : ∀ w', Below w.heap.size w w' → Calls Tryd.prog 20 #[.int .i64 id] w' fun e w'' => e = .returned (.string X1) ∧ Below w'.heap.size w' w'')
    (h2 : ∀ w', Below w.heap.size w w' → Calls Tryd.prog 34 #[.int .i64 te] w' fun e w'' => e = .returned (.tuple #[.string X2, .int .i64 0]) ∧ Below w'.heap.size w' w'')
    (h3 : ∀ w', Below w.heap.size w w' → Calls Tryd.prog 34 #[.int .i64 de] w' fun e w'' => e = .returned (.tuple #[.string X3, .int .i64 0]) ∧ Below w'.heap.size w' w'')
    (h4 : ∀ w', Below w.heap.size w w' → Calls Tryd.prog 34 #[.int .i64 fe] w' fun e w'' => e = .returned (.tuple #[.string X4, .int .i64 0]) ∧ Below w'.heap.size w' w'')
    (h5 : ∀ w', Below w.heap.size w w' → Calls Tryd.prog 34 #[.int .i64 pr] w' fun e w'' => e = .returned (.tuple #[.string X5, .int .i64 0]) ∧ Below w'.heap.size w' w'')
    (h6 : ∀ w', Below w.heap.size w w' → Calls Tryd.prog 34 #[.int .i64 ch] w' fun e w'' => e = .returned (.tuple #[.string X6, .int .i64 0]) ∧ Below w'.heap.size w' w'')
    (h7 : ∀ w', Below w.heap.size w w' → Calls Tryd.prog 20 #[.int .i64 un] w' fun e w'' => e = .returned (.string X7) ∧ Below w'.heap.size w' w'')
    (h8 : ∀ w', Below w.heap.size w w' → Calls Tryd.prog 36 #[.string S] w' fun e w'' => e = .returned (.string X8) ∧ Below w'.heap.size w' w'') :
    Calls Tryd.prog 19 #[.agg #[.int .i64 me, .int .i64 id, .int .i64 te, .int .i64 de, .int .i64 fe, .int .i64 pr, .int .i64 ch, .int .i64 un, .string S]] w fun e w' => ∃ L : List UInt8, e = .returned (.string ⟨L.toArray⟩) ∧ L = (((((((((([] : List UInt8) ++ line (⟨#[77, 69, 84, 69, 82]⟩ : ByteArray).data.toList X0.data.toList) ++ line (⟨#[78, 85, 77, 66, 69, 82]⟩ : ByteArray).data.toList X1.data.toList) ++ line (⟨#[84, 69, 78, 68, 69, 82]⟩ : ByteArray).data.toList X2.data.toList) ++ line (⟨#[68, 69, 66, 84]⟩ : ByteArray).data.toList X3.data.toList) ++ line (⟨#[70, 69, 69]⟩ : ByteArray).data.toList X4.data.toList) ++ line (⟨#[80, 82, 73, 67, 69]⟩ : ByteArray).data.toList X5.data.toList) ++ line (⟨#[67, 72, 65, 78, 71, 69]⟩ : ByteArray).data.toList X6.data.toList) ++ line (⟨#[85, 78, 73, 84, 83]⟩ : ByteArray).data.toList X7.data.toList) ++ line (⟨#[84, 79, 75, 69, 78]⟩ : ByteArray).data.toList X8.data.toList) ∧ Below w.heap.size w w' := by
  have H0 : Hid (∀ w', Below w.heap.size w w' → Calls Tryd.prog 9 #[.int .i64 me] w' fun e w'' => e = .returned (.tuple #[.string X0, .int .i64 0]) ∧ Below w'.heap.size w' w'') := h0
  have H1 : Hid (∀ w', Below w.heap.size w w' → Calls Tryd.prog 20 #[.int .i64 id] w' fun e w'' => e = .returned (.string X1) ∧ Below w'.heap.size w' w'') := h1
  have H2 : Hid (∀ w', Below w.heap.size w w' → Calls Tryd.prog 34 #[.int .i64 te] w' fun e w'' => e = .returned (.tuple #[.string X2, .int .i64 0]) ∧ Below w'.heap.size w' w'') := h2
  have H3 : Hid (∀ w', Below w.heap.size w w' → Calls Tryd.prog 34 #[.int .i64 de] w' fun e w'' => e = .returned (.tuple #[.string X3, .int .i64 0]) ∧ Below w'.heap.size w' w'') := h3
  have H4 : Hid (∀ w', Below w.heap.size w w' → Calls Tryd.prog 34 #[.int .i64 fe] w' fun e w'' => e = .returned (.tuple #[.string X4, .int .i64 0]) ∧ Below w'.heap.size w' w'') := h4
  have H5 : Hid (∀ w', Below w.heap.size w w' → Calls Tryd.prog 34 #[.int .i64 pr] w' fun e w'' => e = .returned (.tuple #[.string X5, .int .i64 0]) ∧ Below w'.heap.size w' w'') := h5
  have H6 : Hid (∀ w', Below w.heap.size w w' → Calls Tryd.prog 34 #[.int .i64 ch] w' fun e w'' => e = .returned (.tuple #[.string X6, .int .i64 0]) ∧ Below w'.heap.size w' w'') := h6
  have H7 : Hid (∀ w', Below w.heap.size w w' → Calls Tryd.prog 20 #[.int .i64 un] w' fun e w'' => e = .returned (.string X7) ∧ Below w'.heap.size w' w'') := h7
  have H8 : Hid (∀ w', Below w.heap.size w w' → Calls Tryd.prog 36 #[.string S] w' fun e w'' => e = .returned (.string X8) ∧ Below w'.heap.size w' w'') := h8
  clear h0 h1 h2 h3 h4 h5 h6 h7 h8
  have HX0 : Hid (Blk ((w.alloc (.cells #[.int .i64 me, .int .i64 id, .int .i64 te, .int .i64 de, .int .i64 fe, .int .i64 pr, .int .i64 ch, .int .i64 un, .string S] 29)).alloc (.cells #[.pointer none, .slice none 0 0] 77)) w.heap.size #[.int .i64 me, .int .i64 id, .int .i64 te, .int .i64 de, .int .i64 fe, .int .i64 pr, .int .i64 ch, .int .i64 un, .string S] 29) := (Blk.new _ _ _).alloc _
  have HB0 : Hid (Below w.heap.size w ((w.alloc (.cells #[.int .i64 me, .int .i64 id, .int .i64 te, .int .i64 de, .int .i64 fe, .int .i64 pr, .int .i64 ch, .int .i64 un, .string S] 29)).alloc (.cells #[.pointer none, .slice none 0 0] 77))) := ((Below.refl _ _).alloc (Nat.le_refl _) _).alloc (by simp) _
  have HS0 : Hid (Sb (w.heap.size + 1) (w.heap.size + 1) (Lib.byteCells []) ((w.alloc (.cells #[.int .i64 me, .int .i64 id, .int .i64 te, .int .i64 de, .int .i64 fe, .int .i64 pr, .int .i64 ch, .int .i64 un, .string S] 29)).alloc (.cells #[.pointer none, .slice none 0 0] 77))) := by
    have := Sb.fresh (w.alloc (.cells #[.int .i64 me, .int .i64 id, .int .i64 te, .int .i64 de, .int .i64 fe, .int .i64 pr, .int .i64 ch, .int .i64 un, .string S] 29))
    simp only [World.size_alloc] at this
    exact this
  have hz0 : w.heap.size + 1 ≤ ((w.alloc (.cells #[.int .i64 me, .int .i64 id, .int .i64 te, .int .i64 de, .int .i64 fe, .int .i64 pr, .int .i64 ch, .int .i64 un, .string S] 29)).alloc (.cells #[.pointer none, .slice none 0 0] 77)).heap.size := by simp
  go_enter Tryd.func19, Tryd.ntmps19
  go_upto_region 3 with fail
  generalize hgp : w.heap.size + 1 = gp at *
  have HGP : Hid (w.heap.size < gp) := by show _ < _; omega
  clear hgp
  generalize ((w.alloc (.cells #[.int .i64 me, .int .i64 id, .int .i64 te, .int .i64 de, .int .i64 fe, .int .i64 pr, .int .i64 ch, .int .i64 un, .string S] 29)).alloc (.cells #[.pointer none, .slice none 0 0] 77)) = V0 at *
  have x0 : V0.cell? ⟨w.heap.size, 0, none⟩ = some (.int .i64 me) := HX0.out.cell 0
  have HL0 : Hid (([] : List UInt8).length ≤ 0) := Nat.le_refl _
  have HE0 : Hid (EqL [] ([] : List UInt8)) := rfl
  have HC0 := H0.out V0 HB0.out
  go_wp2_with fail
  refine HC0.mono ?_
  rintro e U0 ⟨rfl, hb⟩
  have HSU0 : Hid (Sb gp gp (Lib.byteCells ([] : List UInt8)) U0) := HS0.out.next hb
  have HXU0 : Hid (Blk U0 w.heap.size #[.int .i64 me, .int .i64 id, .int .i64 te, .int .i64 de, .int .i64 fe, .int .i64 pr, .int .i64 ch, .int .i64 un, .string S] 29) := HX0.out.next hb
  have HBU0 : Hid (Below w.heap.size w U0) := bel_step HB0.out hb
  have hzU0 : gp ≤ U0.heap.size := Nat.le_trans hz0 hb.size
  clear hb HC0 HS0 HX0 HB0 hz0 x0
  have HA0 := line_any gp gp ([] : List UInt8) (⟨#[77, 69, 84, 69, 82]⟩ : ByteArray) X0 U0 HSU0.out (by have := HL0.out; omega) (by decide) (by omega) hzU0
  go_wp2_with fail
  refine HA0.mono ?_
  rintro e V1 ⟨rfl, hs, hb⟩
  have HX1 : Hid (Blk V1 w.heap.size #[.int .i64 me, .int .i64 id, .int .i64 te, .int .i64 de, .int .i64 fe, .int .i64 pr, .int .i64 ch, .int .i64 un, .string S] 29) := HXU0.out.below hb HGP.out
  have HB1 : Hid (Below w.heap.size w V1) := HBU0.out.trans (hb.mono (Nat.le_of_lt HGP.out))
  have hz1 : gp ≤ V1.heap.size := Nat.le_trans hzU0 hb.size
  have HL1 : Hid ((([] : List UInt8) ++ line (⟨#[77, 69, 84, 69, 82]⟩ : ByteArray).data.toList X0.data.toList).length ≤ 60) := by
    show _ ≤ _
    rw [List.length_append, pline_len]
    have h1 := HL0.out
    have h2 : X0.data.toList.length = X0.size := Array.length_toList
    have h3 : (⟨#[77, 69, 84, 69, 82]⟩ : ByteArray).data.toList.length ≤ 6 := by decide
    omega
  have HS1 : Hid (Sb gp gp (Lib.byteCells (([] : List UInt8) ++ line (⟨#[77, 69, 84, 69, 82]⟩ : ByteArray).data.toList X0.data.toList)) V1) := hs
  generalize hq : ([] : List UInt8) ++ line (⟨#[77, 69, 84, 69, 82]⟩ : ByteArray).data.toList X0.data.toList = l1 at HS1 HL1
  have HE1 : Hid (EqL l1 (([] : List UInt8) ++ line (⟨#[77, 69, 84, 69, 82]⟩ : ByteArray).data.toList X0.data.toList)) := by show l1 = _; rw [← hq, ← show ([] : List UInt8) = ([] : List UInt8) from HE0.out]
  clear hs hb HA0 HXU0 HBU0 hzU0 HSU0 H0 HL0 HE0 hq
  have x1 : V1.cell? ⟨w.heap.size, 1, none⟩ = some (.int .i64 id) := HX1.out.cell 1
  have HC1 := H1.out V1 HB1.out
  go_wp2_with fail
  refine HC1.mono ?_
  rintro e U1 ⟨rfl, hb⟩
  have HSU1 : Hid (Sb gp gp (Lib.byteCells l1) U1) := HS1.out.next hb
  have HXU1 : Hid (Blk U1 w.heap.size #[.int .i64 me, .int .i64 id, .int .i64 te, .int .i64 de, .int .i64 fe, .int .i64 pr, .int .i64 ch, .int .i64 un, .string S] 29) := HX1.out.next hb
  have HBU1 : Hid (Below w.heap.size w U1) := bel_step HB1.out hb
  have hzU1 : gp ≤ U1.heap.size := Nat.le_trans hz1 hb.size
  clear hb HC1 HS1 HX1 HB1 hz1 x1
  have HA1 := line_any gp gp l1 (⟨#[78, 85, 77, 66, 69, 82]⟩ : ByteArray) X1 U1 HSU1.out (by have := HL1.out; omega) (by decide) (by omega) hzU1
  go_wp2_with fail
  refine HA1.mono ?_
  rintro e V2 ⟨rfl, hs, hb⟩
  have HX2 : Hid (Blk V2 w.heap.size #[.int .i64 me, .int .i64 id, .int .i64 te, .int .i64 de, .int .i64 fe, .int .i64 pr, .int .i64 ch, .int .i64 un, .string S] 29) := HXU1.out.below hb HGP.out
  have HB2 : Hid (Below w.heap.size w V2) := HBU1.out.trans (hb.mono (Nat.le_of_lt HGP.out))
  have hz2 : gp ≤ V2.heap.size := Nat.le_trans hzU1 hb.size
  have HL2 : Hid ((l1 ++ line (⟨#[78, 85, 77, 66, 69, 82]⟩ : ByteArray).data.toList X1.data.toList).length ≤ 120) := by
    show _ ≤ _
    rw [List.length_append, pline_len]
    have h1 := HL1.out
    have h2 : X1.data.toList.length = X1.size := Array.length_toList
    have h3 : (⟨#[78, 85, 77, 66, 69, 82]⟩ : ByteArray).data.toList.length ≤ 6 := by decide
    omega
  have HS2 : Hid (Sb gp gp (Lib.byteCells (l1 ++ line (⟨#[78, 85, 77, 66, 69, 82]⟩ : ByteArray).data.toList X1.data.toList)) V2) := hs
  generalize hq : l1 ++ line (⟨#[78, 85, 77, 66, 69, 82]⟩ : ByteArray).data.toList X1.data.toList = l2 at HS2 HL2
  have HE2 : Hid (EqL l2 ((([] : List UInt8) ++ line (⟨#[77, 69, 84, 69, 82]⟩ : ByteArray).data.toList X0.data.toList) ++ line (⟨#[78, 85, 77, 66, 69, 82]⟩ : ByteArray).data.toList X1.data.toList)) := by show l2 = _; rw [← hq, ← show l1 = (([] : List UInt8) ++ line (⟨#[77, 69, 84, 69, 82]⟩ : ByteArray).data.toList X0.data.toList) from HE1.out]
  clear hs hb HA1 HXU1 HBU1 hzU1 HSU1 H1 HL1 HE1 hq
  have x2 : V2.cell? ⟨w.heap.size, 2, none⟩ = some (.int .i64 te) := HX2.out.cell 2
  have HA2 := amount_any gp gp l2 (⟨#[84, 69, 78, 68, 69, 82]⟩ : ByteArray) X2 te V2 HS2.out (by have := HL2.out; omega) (by decide) (by omega) hz2 (H2.out V2 HB2.out)
  go_wp2_with fail
  refine HA2.mono ?_
  rintro e V3 ⟨rfl, hs, hb⟩
  have HX3 : Hid (Blk V3 w.heap.size #[.int .i64 me, .int .i64 id, .int .i64 te, .int .i64 de, .int .i64 fe, .int .i64 pr, .int .i64 ch, .int .i64 un, .string S] 29) := HX2.out.below hb HGP.out
  have HB3 : Hid (Below w.heap.size w V3) := HB2.out.trans (hb.mono (Nat.le_of_lt HGP.out))
  have hz3 : gp ≤ V3.heap.size := Nat.le_trans hz2 hb.size
  have HL3 : Hid ((l2 ++ line (⟨#[84, 69, 78, 68, 69, 82]⟩ : ByteArray).data.toList X2.data.toList).length ≤ 180) := by
    show _ ≤ _
    rw [List.length_append, pline_len]
    have h1 := HL2.out
    have h2 : X2.data.toList.length = X2.size := Array.length_toList
    have h3 : (⟨#[84, 69, 78, 68, 69, 82]⟩ : ByteArray).data.toList.length ≤ 6 := by decide
    omega
  have HS3 : Hid (Sb gp gp (Lib.byteCells (l2 ++ line (⟨#[84, 69, 78, 68, 69, 82]⟩ : ByteArray).data.toList X2.data.toList)) V3) := hs
  generalize hq : l2 ++ line (⟨#[84, 69, 78, 68, 69, 82]⟩ : ByteArray).data.toList X2.data.toList = l3 at HS3 HL3
  have HE3 : Hid (EqL l3 (((([] : List UInt8) ++ line (⟨#[77, 69, 84, 69, 82]⟩ : ByteArray).data.toList X0.data.toList) ++ line (⟨#[78, 85, 77, 66, 69, 82]⟩ : ByteArray).data.toList X1.data.toList) ++ line (⟨#[84, 69, 78, 68, 69, 82]⟩ : ByteArray).data.toList X2.data.toList)) := by show l3 = _; rw [← hq, ← show l2 = ((([] : List UInt8) ++ line (⟨#[77, 69, 84, 69, 82]⟩ : ByteArray).data.toList X0.data.toList) ++ line (⟨#[78, 85, 77, 66, 69, 82]⟩ : ByteArray).data.toList X1.data.toList) from HE2.out]
  clear hs hb HA2 HX2 HB2 hz2 HS2 x2 H2 HL2 HE2 hq
  have x3 : V3.cell? ⟨w.heap.size, 3, none⟩ = some (.int .i64 de) := HX3.out.cell 3
  have HA3 := amount_any gp gp l3 (⟨#[68, 69, 66, 84]⟩ : ByteArray) X3 de V3 HS3.out (by have := HL3.out; omega) (by decide) (by omega) hz3 (H3.out V3 HB3.out)
  go_wp2_with fail
  refine HA3.mono ?_
  rintro e V4 ⟨rfl, hs, hb⟩
  have HX4 : Hid (Blk V4 w.heap.size #[.int .i64 me, .int .i64 id, .int .i64 te, .int .i64 de, .int .i64 fe, .int .i64 pr, .int .i64 ch, .int .i64 un, .string S] 29) := HX3.out.below hb HGP.out
  have HB4 : Hid (Below w.heap.size w V4) := HB3.out.trans (hb.mono (Nat.le_of_lt HGP.out))
  have hz4 : gp ≤ V4.heap.size := Nat.le_trans hz3 hb.size
  have HL4 : Hid ((l3 ++ line (⟨#[68, 69, 66, 84]⟩ : ByteArray).data.toList X3.data.toList).length ≤ 240) := by
    show _ ≤ _
    rw [List.length_append, pline_len]
    have h1 := HL3.out
    have h2 : X3.data.toList.length = X3.size := Array.length_toList
    have h3 : (⟨#[68, 69, 66, 84]⟩ : ByteArray).data.toList.length ≤ 6 := by decide
    omega
  have HS4 : Hid (Sb gp gp (Lib.byteCells (l3 ++ line (⟨#[68, 69, 66, 84]⟩ : ByteArray).data.toList X3.data.toList)) V4) := hs
  generalize hq : l3 ++ line (⟨#[68, 69, 66, 84]⟩ : ByteArray).data.toList X3.data.toList = l4 at HS4 HL4
  have HE4 : Hid (EqL l4 ((((([] : List UInt8) ++ line (⟨#[77, 69, 84, 69, 82]⟩ : ByteArray).data.toList X0.data.toList) ++ line (⟨#[78, 85, 77, 66, 69, 82]⟩ : ByteArray).data.toList X1.data.toList) ++ line (⟨#[84, 69, 78, 68, 69, 82]⟩ : ByteArray).data.toList X2.data.toList) ++ line (⟨#[68, 69, 66, 84]⟩ : ByteArray).data.toList X3.data.toList)) := by show l4 = _; rw [← hq, ← show l3 = (((([] : List UInt8) ++ line (⟨#[77, 69, 84, 69, 82]⟩ : ByteArray).data.toList X0.data.toList) ++ line (⟨#[78, 85, 77, 66, 69, 82]⟩ : ByteArray).data.toList X1.data.toList) ++ line (⟨#[84, 69, 78, 68, 69, 82]⟩ : ByteArray).data.toList X2.data.toList) from HE3.out]
  clear hs hb HA3 HX3 HB3 hz3 HS3 x3 H3 HL3 HE3 hq
  have x4 : V4.cell? ⟨w.heap.size, 4, none⟩ = some (.int .i64 fe) := HX4.out.cell 4
  have HA4 := amount_any gp gp l4 (⟨#[70, 69, 69]⟩ : ByteArray) X4 fe V4 HS4.out (by have := HL4.out; omega) (by decide) (by omega) hz4 (H4.out V4 HB4.out)
  go_wp2_with fail
  refine HA4.mono ?_
  rintro e V5 ⟨rfl, hs, hb⟩
  have HX5 : Hid (Blk V5 w.heap.size #[.int .i64 me, .int .i64 id, .int .i64 te, .int .i64 de, .int .i64 fe, .int .i64 pr, .int .i64 ch, .int .i64 un, .string S] 29) := HX4.out.below hb HGP.out
  have HB5 : Hid (Below w.heap.size w V5) := HB4.out.trans (hb.mono (Nat.le_of_lt HGP.out))
  have hz5 : gp ≤ V5.heap.size := Nat.le_trans hz4 hb.size
  have HL5 : Hid ((l4 ++ line (⟨#[70, 69, 69]⟩ : ByteArray).data.toList X4.data.toList).length ≤ 300) := by
    show _ ≤ _
    rw [List.length_append, pline_len]
    have h1 := HL4.out
    have h2 : X4.data.toList.length = X4.size := Array.length_toList
    have h3 : (⟨#[70, 69, 69]⟩ : ByteArray).data.toList.length ≤ 6 := by decide
    omega
  have HS5 : Hid (Sb gp gp (Lib.byteCells (l4 ++ line (⟨#[70, 69, 69]⟩ : ByteArray).data.toList X4.data.toList)) V5) := hs
  generalize hq : l4 ++ line (⟨#[70, 69, 69]⟩ : ByteArray).data.toList X4.data.toList = l5 at HS5 HL5
  have HE5 : Hid (EqL l5 (((((([] : List UInt8) ++ line (⟨#[77, 69, 84, 69, 82]⟩ : ByteArray).data.toList X0.data.toList) ++ line (⟨#[78, 85, 77, 66, 69, 82]⟩ : ByteArray).data.toList X1.data.toList) ++ line (⟨#[84, 69, 78, 68, 69, 82]⟩ : ByteArray).data.toList X2.data.toList) ++ line (⟨#[68, 69, 66, 84]⟩ : ByteArray).data.toList X3.data.toList) ++ line (⟨#[70, 69, 69]⟩ : ByteArray).data.toList X4.data.toList)) := by show l5 = _; rw [← hq, ← show l4 = ((((([] : List UInt8) ++ line (⟨#[77, 69, 84, 69, 82]⟩ : ByteArray).data.toList X0.data.toList) ++ line (⟨#[78, 85, 77, 66, 69, 82]⟩ : ByteArray).data.toList X1.data.toList) ++ line (⟨#[84, 69, 78, 68, 69, 82]⟩ : ByteArray).data.toList X2.data.toList) ++ line (⟨#[68, 69, 66, 84]⟩ : ByteArray).data.toList X3.data.toList) from HE4.out]
  clear hs hb HA4 HX4 HB4 hz4 HS4 x4 H4 HL4 HE4 hq
  have x5 : V5.cell? ⟨w.heap.size, 5, none⟩ = some (.int .i64 pr) := HX5.out.cell 5
  have HA5 := amount_any gp gp l5 (⟨#[80, 82, 73, 67, 69]⟩ : ByteArray) X5 pr V5 HS5.out (by have := HL5.out; omega) (by decide) (by omega) hz5 (H5.out V5 HB5.out)
  go_wp2_with fail
  refine HA5.mono ?_
  rintro e V6 ⟨rfl, hs, hb⟩
  have HX6 : Hid (Blk V6 w.heap.size #[.int .i64 me, .int .i64 id, .int .i64 te, .int .i64 de, .int .i64 fe, .int .i64 pr, .int .i64 ch, .int .i64 un, .string S] 29) := HX5.out.below hb HGP.out
  have HB6 : Hid (Below w.heap.size w V6) := HB5.out.trans (hb.mono (Nat.le_of_lt HGP.out))
  have hz6 : gp ≤ V6.heap.size := Nat.le_trans hz5 hb.size
  have HL6 : Hid ((l5 ++ line (⟨#[80, 82, 73, 67, 69]⟩ : ByteArray).data.toList X5.data.toList).length ≤ 360) := by
    show _ ≤ _
    rw [List.length_append, pline_len]
    have h1 := HL5.out
    have h2 : X5.data.toList.length = X5.size := Array.length_toList
    have h3 : (⟨#[80, 82, 73, 67, 69]⟩ : ByteArray).data.toList.length ≤ 6 := by decide
    omega
  have HS6 : Hid (Sb gp gp (Lib.byteCells (l5 ++ line (⟨#[80, 82, 73, 67, 69]⟩ : ByteArray).data.toList X5.data.toList)) V6) := hs
  generalize hq : l5 ++ line (⟨#[80, 82, 73, 67, 69]⟩ : ByteArray).data.toList X5.data.toList = l6 at HS6 HL6
  have HE6 : Hid (EqL l6 ((((((([] : List UInt8) ++ line (⟨#[77, 69, 84, 69, 82]⟩ : ByteArray).data.toList X0.data.toList) ++ line (⟨#[78, 85, 77, 66, 69, 82]⟩ : ByteArray).data.toList X1.data.toList) ++ line (⟨#[84, 69, 78, 68, 69, 82]⟩ : ByteArray).data.toList X2.data.toList) ++ line (⟨#[68, 69, 66, 84]⟩ : ByteArray).data.toList X3.data.toList) ++ line (⟨#[70, 69, 69]⟩ : ByteArray).data.toList X4.data.toList) ++ line (⟨#[80, 82, 73, 67, 69]⟩ : ByteArray).data.toList X5.data.toList)) := by show l6 = _; rw [← hq, ← show l5 = (((((([] : List UInt8) ++ line (⟨#[77, 69, 84, 69, 82]⟩ : ByteArray).data.toList X0.data.toList) ++ line (⟨#[78, 85, 77, 66, 69, 82]⟩ : ByteArray).data.toList X1.data.toList) ++ line (⟨#[84, 69, 78, 68, 69, 82]⟩ : ByteArray).data.toList X2.data.toList) ++ line (⟨#[68, 69, 66, 84]⟩ : ByteArray).data.toList X3.data.toList) ++ line (⟨#[70, 69, 69]⟩ : ByteArray).data.toList X4.data.toList) from HE5.out]
  clear hs hb HA5 HX5 HB5 hz5 HS5 x5 H5 HL5 HE5 hq
  have x6 : V6.cell? ⟨w.heap.size, 6, none⟩ = some (.int .i64 ch) := HX6.out.cell 6
  have HA6 := amount_any gp gp l6 (⟨#[67, 72, 65, 78, 71, 69]⟩ : ByteArray) X6 ch V6 HS6.out (by have := HL6.out; omega) (by decide) (by omega) hz6 (H6.out V6 HB6.out)
  go_wp2_with fail
  refine HA6.mono ?_
  rintro e V7 ⟨rfl, hs, hb⟩
  have HX7 : Hid (Blk V7 w.heap.size #[.int .i64 me, .int .i64 id, .int .i64 te, .int .i64 de, .int .i64 fe, .int .i64 pr, .int .i64 ch, .int .i64 un, .string S] 29) := HX6.out.below hb HGP.out
  have HB7 : Hid (Below w.heap.size w V7) := HB6.out.trans (hb.mono (Nat.le_of_lt HGP.out))
  have hz7 : gp ≤ V7.heap.size := Nat.le_trans hz6 hb.size
  have HL7 : Hid ((l6 ++ line (⟨#[67, 72, 65, 78, 71, 69]⟩ : ByteArray).data.toList X6.data.toList).length ≤ 420) := by
    show _ ≤ _
    rw [List.length_append, pline_len]
    have h1 := HL6.out
    have h2 : X6.data.toList.length = X6.size := Array.length_toList
    have h3 : (⟨#[67, 72, 65, 78, 71, 69]⟩ : ByteArray).data.toList.length ≤ 6 := by decide
    omega
  have HS7 : Hid (Sb gp gp (Lib.byteCells (l6 ++ line (⟨#[67, 72, 65, 78, 71, 69]⟩ : ByteArray).data.toList X6.data.toList)) V7) := hs
  generalize hq : l6 ++ line (⟨#[67, 72, 65, 78, 71, 69]⟩ : ByteArray).data.toList X6.data.toList = l7 at HS7 HL7
  have HE7 : Hid (EqL l7 (((((((([] : List UInt8) ++ line (⟨#[77, 69, 84, 69, 82]⟩ : ByteArray).data.toList X0.data.toList) ++ line (⟨#[78, 85, 77, 66, 69, 82]⟩ : ByteArray).data.toList X1.data.toList) ++ line (⟨#[84, 69, 78, 68, 69, 82]⟩ : ByteArray).data.toList X2.data.toList) ++ line (⟨#[68, 69, 66, 84]⟩ : ByteArray).data.toList X3.data.toList) ++ line (⟨#[70, 69, 69]⟩ : ByteArray).data.toList X4.data.toList) ++ line (⟨#[80, 82, 73, 67, 69]⟩ : ByteArray).data.toList X5.data.toList) ++ line (⟨#[67, 72, 65, 78, 71, 69]⟩ : ByteArray).data.toList X6.data.toList)) := by show l7 = _; rw [← hq, ← show l6 = ((((((([] : List UInt8) ++ line (⟨#[77, 69, 84, 69, 82]⟩ : ByteArray).data.toList X0.data.toList) ++ line (⟨#[78, 85, 77, 66, 69, 82]⟩ : ByteArray).data.toList X1.data.toList) ++ line (⟨#[84, 69, 78, 68, 69, 82]⟩ : ByteArray).data.toList X2.data.toList) ++ line (⟨#[68, 69, 66, 84]⟩ : ByteArray).data.toList X3.data.toList) ++ line (⟨#[70, 69, 69]⟩ : ByteArray).data.toList X4.data.toList) ++ line (⟨#[80, 82, 73, 67, 69]⟩ : ByteArray).data.toList X5.data.toList) from HE6.out]
  clear hs hb HA6 HX6 HB6 hz6 HS6 x6 H6 HL6 HE6 hq
  have x7 : V7.cell? ⟨w.heap.size, 7, none⟩ = some (.int .i64 un) := HX7.out.cell 7
  have HC7 := H7.out V7 HB7.out
  go_wp2_with fail
  refine HC7.mono ?_
  rintro e U7 ⟨rfl, hb⟩
  have HSU7 : Hid (Sb gp gp (Lib.byteCells l7) U7) := HS7.out.next hb
  have HXU7 : Hid (Blk U7 w.heap.size #[.int .i64 me, .int .i64 id, .int .i64 te, .int .i64 de, .int .i64 fe, .int .i64 pr, .int .i64 ch, .int .i64 un, .string S] 29) := HX7.out.next hb
  have HBU7 : Hid (Below w.heap.size w U7) := bel_step HB7.out hb
  have hzU7 : gp ≤ U7.heap.size := Nat.le_trans hz7 hb.size
  clear hb HC7 HS7 HX7 HB7 hz7 x7
  have HA7 := line_any gp gp l7 (⟨#[85, 78, 73, 84, 83]⟩ : ByteArray) X7 U7 HSU7.out (by have := HL7.out; omega) (by decide) (by omega) hzU7
  go_wp2_with fail
  refine HA7.mono ?_
  rintro e V8 ⟨rfl, hs, hb⟩
  have HX8 : Hid (Blk V8 w.heap.size #[.int .i64 me, .int .i64 id, .int .i64 te, .int .i64 de, .int .i64 fe, .int .i64 pr, .int .i64 ch, .int .i64 un, .string S] 29) := HXU7.out.below hb HGP.out
  have HB8 : Hid (Below w.heap.size w V8) := HBU7.out.trans (hb.mono (Nat.le_of_lt HGP.out))
  have hz8 : gp ≤ V8.heap.size := Nat.le_trans hzU7 hb.size
  have HL8 : Hid ((l7 ++ line (⟨#[85, 78, 73, 84, 83]⟩ : ByteArray).data.toList X7.data.toList).length ≤ 480) := by
    show _ ≤ _
    rw [List.length_append, pline_len]
    have h1 := HL7.out
    have h2 : X7.data.toList.length = X7.size := Array.length_toList
    have h3 : (⟨#[85, 78, 73, 84, 83]⟩ : ByteArray).data.toList.length ≤ 6 := by decide
    omega
  have HS8 : Hid (Sb gp gp (Lib.byteCells (l7 ++ line (⟨#[85, 78, 73, 84, 83]⟩ : ByteArray).data.toList X7.data.toList)) V8) := hs
  generalize hq : l7 ++ line (⟨#[85, 78, 73, 84, 83]⟩ : ByteArray).data.toList X7.data.toList = l8 at HS8 HL8
  have HE8 : Hid (EqL l8 ((((((((([] : List UInt8) ++ line (⟨#[77, 69, 84, 69, 82]⟩ : ByteArray).data.toList X0.data.toList) ++ line (⟨#[78, 85, 77, 66, 69, 82]⟩ : ByteArray).data.toList X1.data.toList) ++ line (⟨#[84, 69, 78, 68, 69, 82]⟩ : ByteArray).data.toList X2.data.toList) ++ line (⟨#[68, 69, 66, 84]⟩ : ByteArray).data.toList X3.data.toList) ++ line (⟨#[70, 69, 69]⟩ : ByteArray).data.toList X4.data.toList) ++ line (⟨#[80, 82, 73, 67, 69]⟩ : ByteArray).data.toList X5.data.toList) ++ line (⟨#[67, 72, 65, 78, 71, 69]⟩ : ByteArray).data.toList X6.data.toList) ++ line (⟨#[85, 78, 73, 84, 83]⟩ : ByteArray).data.toList X7.data.toList)) := by show l8 = _; rw [← hq, ← show l7 = (((((((([] : List UInt8) ++ line (⟨#[77, 69, 84, 69, 82]⟩ : ByteArray).data.toList X0.data.toList) ++ line (⟨#[78, 85, 77, 66, 69, 82]⟩ : ByteArray).data.toList X1.data.toList) ++ line (⟨#[84, 69, 78, 68, 69, 82]⟩ : ByteArray).data.toList X2.data.toList) ++ line (⟨#[68, 69, 66, 84]⟩ : ByteArray).data.toList X3.data.toList) ++ line (⟨#[70, 69, 69]⟩ : ByteArray).data.toList X4.data.toList) ++ line (⟨#[80, 82, 73, 67, 69]⟩ : ByteArray).data.toList X5.data.toList) ++ line (⟨#[67, 72, 65, 78, 71, 69]⟩ : ByteArray).data.toList X6.data.toList) from HE7.out]
  clear hs hb HA7 HXU7 HBU7 hzU7 HSU7 H7 HL7 HE7 hq
  have x8 : V8.cell? ⟨w.heap.size, 8, none⟩ = some (.string S) := HX8.out.cell 8
  have HC8 := H8.out V8 HB8.out
  go_wp2_with fail
  refine HC8.mono ?_
  rintro e U8 ⟨rfl, hb⟩
  have HSU8 : Hid (Sb gp gp (Lib.byteCells l8) U8) := HS8.out.next hb
  have HXU8 : Hid (Blk U8 w.heap.size #[.int .i64 me, .int .i64 id, .int .i64 te, .int .i64 de, .int .i64 fe, .int .i64 pr, .int .i64 ch, .int .i64 un, .string S] 29) := HX8.out.next hb
  have HBU8 : Hid (Below w.heap.size w U8) := bel_step HB8.out hb
  have hzU8 : gp ≤ U8.heap.size := Nat.le_trans hz8 hb.size
  clear hb HC8 HS8 HX8 HB8 hz8 x8
  have HA8 := line_any gp gp l8 (⟨#[84, 79, 75, 69, 78]⟩ : ByteArray) X8 U8 HSU8.out (by have := HL8.out; omega) (by decide) (by omega) hzU8
  go_wp2_with fail
  refine HA8.mono ?_
  rintro e V9 ⟨rfl, hs, hb⟩
  have HX9 : Hid (Blk V9 w.heap.size #[.int .i64 me, .int .i64 id, .int .i64 te, .int .i64 de, .int .i64 fe, .int .i64 pr, .int .i64 ch, .int .i64 un, .string S] 29) := HXU8.out.below hb HGP.out
  have HB9 : Hid (Below w.heap.size w V9) := HBU8.out.trans (hb.mono (Nat.le_of_lt HGP.out))
  have hz9 : gp ≤ V9.heap.size := Nat.le_trans hzU8 hb.size
  have HL9 : Hid ((l8 ++ line (⟨#[84, 79, 75, 69, 78]⟩ : ByteArray).data.toList X8.data.toList).length ≤ 540) := by
    show _ ≤ _
    rw [List.length_append, pline_len]
    have h1 := HL8.out
    have h2 : X8.data.toList.length = X8.size := Array.length_toList
    have h3 : (⟨#[84, 79, 75, 69, 78]⟩ : ByteArray).data.toList.length ≤ 6 := by decide
    omega
  have HS9 : Hid (Sb gp gp (Lib.byteCells (l8 ++ line (⟨#[84, 79, 75, 69, 78]⟩ : ByteArray).data.toList X8.data.toList)) V9) := hs
  generalize hq : l8 ++ line (⟨#[84, 79, 75, 69, 78]⟩ : ByteArray).data.toList X8.data.toList = l9 at HS9 HL9
  have HE9 : Hid (EqL l9 (((((((((([] : List UInt8) ++ line (⟨#[77, 69, 84, 69, 82]⟩ : ByteArray).data.toList X0.data.toList) ++ line (⟨#[78, 85, 77, 66, 69, 82]⟩ : ByteArray).data.toList X1.data.toList) ++ line (⟨#[84, 69, 78, 68, 69, 82]⟩ : ByteArray).data.toList X2.data.toList) ++ line (⟨#[68, 69, 66, 84]⟩ : ByteArray).data.toList X3.data.toList) ++ line (⟨#[70, 69, 69]⟩ : ByteArray).data.toList X4.data.toList) ++ line (⟨#[80, 82, 73, 67, 69]⟩ : ByteArray).data.toList X5.data.toList) ++ line (⟨#[67, 72, 65, 78, 71, 69]⟩ : ByteArray).data.toList X6.data.toList) ++ line (⟨#[85, 78, 73, 84, 83]⟩ : ByteArray).data.toList X7.data.toList) ++ line (⟨#[84, 79, 75, 69, 78]⟩ : ByteArray).data.toList X8.data.toList)) := by show l9 = _; rw [← hq, ← show l8 = ((((((((([] : List UInt8) ++ line (⟨#[77, 69, 84, 69, 82]⟩ : ByteArray).data.toList X0.data.toList) ++ line (⟨#[78, 85, 77, 66, 69, 82]⟩ : ByteArray).data.toList X1.data.toList) ++ line (⟨#[84, 69, 78, 68, 69, 82]⟩ : ByteArray).data.toList X2.data.toList) ++ line (⟨#[68, 69, 66, 84]⟩ : ByteArray).data.toList X3.data.toList) ++ line (⟨#[70, 69, 69]⟩ : ByteArray).data.toList X4.data.toList) ++ line (⟨#[80, 82, 73, 67, 69]⟩ : ByteArray).data.toList X5.data.toList) ++ line (⟨#[67, 72, 65, 78, 71, 69]⟩ : ByteArray).data.toList X6.data.toList) ++ line (⟨#[85, 78, 73, 84, 83]⟩ : ByteArray).data.toList X7.data.toList) from HE8.out]
  clear hs hb HA8 HXU8 HBU8 hzU8 HSU8 H8 HL8 HE8 hq
  have hne : l9 ≠ [] := by
    rw [show l9 = _ from HE9.out]
    intro h
    have := congrArg List.length h
    rw [List.length_append, pline_len] at this
    simp at this
  have HT := text_any gp gp l9 V9 HS9.out hne
  clear HS9 HX9
  go_wp2_with fail
  refine HT.mono ?_
  rintro e V10 ⟨rfl, hb⟩
  have HB10 : Hid (Below w.heap.size w V10) := HB9.out.trans (hb.mono (Nat.le_of_lt HGP.out))
  clear hb HT HB9
  go_wp2_with fail
  go_ret
  exact ⟨l9, rfl, HE9.out, HB10.out⟩

theorem big_itoa (n : Int) (w : World) (h0 : 0 ≤ n) (h1 : n ≤ 1000000000000) (ht : cents.Tab w) :
    Calls Tryd.prog 20 #[.int .i64 n] w fun e w' => e = .returned (.string ⟨(Lib.decDigits n.toNat).toArray⟩) ∧ Below w.heap.size w w' := cents.itoa_big n w h0 h1 ht
theorem dec_len40 (n : Nat) (h : n ≤ 100000000) : (Lib.decDigits n).length ≤ 20 := by
  have step : ∀ k : Nat, ∀ v : Nat, v < 10 ^ (k + 1) → (Lib.decDigits v).length ≤ k + 1 := fun k => by
    induction k with
    | zero =>
      intro v hv
      have : ∀ x, x < 10 → (Lib.decDigits x).length ≤ 0 + 1 := by decide +kernel
      exact this v (by omega)
    | succ k ih =>
      intro v hv
      by_cases h10 : v < 10
      · have : ∀ x, x < 10 → (Lib.decDigits x).length ≤ 1 := by decide +kernel
        have := this v h10
        omega
      · rw [cents.dec_step h10, List.length_append]
        have := ih (v / 10) (by rw [Nat.pow_succ] at hv; omega)
        simp
        omega
  have := step 8 n (by omega)
  omega
theorem show_len40 {n : Int} (h0 : 0 ≤ n) (h1 : n ≤ 100000000) : (cents.showT n).length ≤ 40 := by
  unfold cents.showT
  rw [if_neg (by omega)]
  unfold cents.showP
  have a := dec_len40 (n / 100).toNat (by omega)
  have b : ∀ x, x < 10 → (Lib.decDigits x).length = 1 := by decide +kernel
  have b1 := b (n / 10 % 10).toNat (by omega)
  have b2 := b (n % 10).toNat (by omega)
  simp only [List.length_append, List.length_cons, List.length_nil]
  omega
theorem write_any (r : Rc) (w : World) (hr : Right r) (hm : check.MTab w) (hc : cents.Tab w) : Calls Tryd.prog 19 #[r.v] w fun e w' => e = .returned (.string ⟨(paper r).toArray⟩) ∧ Below w.heap.size w w' := by
  obtain ⟨hme, ⟨⟨⟨t0, t1⟩, ⟨d0, d1⟩, ⟨f0, f1⟩, p0, p1⟩, ⟨c0, c1⟩, ⟨i0, i1⟩, u0, u1⟩, _, hp, _⟩ := hr
  have hl20 := (parse_len hp).1
  have sh : ∀ (n : Int) (w' : World), Below w.heap.size w w' → 0 ≤ n → n ≤ 100000000 → Calls Tryd.prog 34 #[.int .i64 n] w' fun e w'' => e = .returned (.tuple #[.string ⟨(cents.showT n).toArray⟩, .int .i64 0]) ∧ Below w'.heap.size w' w'' := fun n w' hb a b => cents.show_any n w' (by omega) (by omega) (cents.tab_below hc hb)
  refine (write_abs r.me r.id r.te r.de r.fe r.pr r.ch r.un ⟨r.tk.toArray⟩ ⟨(numL r.me.toNat).toArray⟩ ⟨(Lib.decDigits r.id.toNat).toArray⟩ ⟨(cents.showT r.te).toArray⟩ ⟨(cents.showT r.de).toArray⟩ ⟨(cents.showT r.fe).toArray⟩ ⟨(cents.showT r.pr).toArray⟩ ⟨(cents.showT r.ch).toArray⟩ ⟨(Lib.decDigits r.un.toNat).toArray⟩ ⟨(four r.tk).toArray⟩ w
    ?_ ?_ (show_len40 t0 t1) (show_len40 d0 d1) (show_len40 f0 f1) (show_len40 p0 p1) (show_len40 c0 c1) ?_ ?_ ?_ ?_ (fun w' hb => sh _ w' hb t0 t1) (fun w' hb => sh _ w' hb d0 d1) (fun w' hb => sh _ w' hb f0 f1) (fun w' hb => sh _ w' hb p0 p1) (fun w' hb => sh _ w' hb c0 c1) ?_ ?_).mono ?_
  · show (numL r.me.toNat).length ≤ 40
    have := (num_all r.me.toNat (by have := hme.2; have := hme.1; omega)).1
    omega
  · have := dec_len40 r.id.toNat (by omega); show (Lib.decDigits r.id.toNat).length ≤ 40; omega
  · have := dec_len40 r.un.toNat (by omega); show (Lib.decDigits r.un.toNat).length ≤ 40; omega
  · show (four r.tk).length ≤ 40; rw [four_len hl20]; decide
  · intro w' hb
    refine (pnumber_any r.me w' (hm.below hb)).mono ?_
    rintro e w'' ⟨l, f, rfl, hi, hb2⟩
    rcases hi with ⟨_, rfl, rfl⟩ | ⟨h, _⟩
    · exact ⟨rfl, hb2⟩
    · exact absurd hme h
  · intro w' hb; exact big_itoa _ w' (by omega) (by omega) (cents.tab_below hc hb)
  · intro w' hb; exact big_itoa _ w' (by omega) (by omega) (cents.tab_below hc hb)
  · intro w' hb; exact rcf.fours_any ⟨r.tk.toArray⟩ w' hl20
  · rintro e w' ⟨L, rfl, hL, hb⟩
    refine ⟨?_, hb⟩
    have e : L = paper r := by
      rw [hL]
      unfold paper
      simp only [List.nil_append, List.append_assoc]
      rfl
    rw [e]

end Go.Proofs.YtlicdeppfhmfjabDoor.rcp

/- A receipt is shown. -/
namespace Go.Proofs.YtlicdeppfhmfjabDoor.rcp
open Go.RowKit
set_option maxRecDepth 100000
set_option linter.unusedVariables false
set_option linter.unusedSimpArgs false

/-- The tables that showing a receipt reads. -/
structure STab (w : World) : Prop where
  m : check.MTab w
  c : cents.Tab w
  t : token.TTab w
theorem STab.below {w w' : World} (h : STab w) (hb : Below w.heap.size w w') : STab w' := ⟨h.m.below hb, cents.tab_below h.c hb, h.t.below hb⟩
set_option maxHeartbeats 2000000 in
theorem show_abs (me id te de fe pr ch un f : Int) (S T R : ByteArray) (w : World) (hf : -1000 ≤ f ∧ f ≤ 1000) (hR0 : f = 0 → R = T) (hR1 : f ≠ 0 → R = ⟨#[]⟩)
    (hC : ∀ w', Below w.heap.size w w' → Calls Tryd.prog 7 #[.agg #[.int .i64 me, .int .i64 id, .int .i64 te, .int .i64 de, .int .i64 fe, .int .i64 pr, .int .i64 ch, .int .i64 un, .string S]] w' fun e w'' => e = .returned (.int .i64 f) ∧ Below w'.heap.size w' w'')
    (hW : f = 0 → ∀ w', Below w.heap.size w w' → Calls Tryd.prog 19 #[.agg #[.int .i64 me, .int .i64 id, .int .i64 te, .int .i64 de, .int .i64 fe, .int .i64 pr, .int .i64 ch, .int .i64 un, .string S]] w' fun e w'' => e = .returned (.string T) ∧ Below w'.heap.size w' w'') :
    Calls Tryd.prog 8 #[.agg #[.int .i64 me, .int .i64 id, .int .i64 te, .int .i64 de, .int .i64 fe, .int .i64 pr, .int .i64 ch, .int .i64 un, .string S]] w fun e w' => e = .returned (.tuple #[.string R, .int .i64 f]) ∧ Below w.heap.size w w' := by
  have HX0 : Hid (Blk (w.alloc (.cells #[.int .i64 me, .int .i64 id, .int .i64 te, .int .i64 de, .int .i64 fe, .int .i64 pr, .int .i64 ch, .int .i64 un, .string S] 29)) w.heap.size #[.int .i64 me, .int .i64 id, .int .i64 te, .int .i64 de, .int .i64 fe, .int .i64 pr, .int .i64 ch, .int .i64 un, .string S] 29) := Blk.new _ _ _
  have HB0 : Hid (Below w.heap.size w (w.alloc (.cells #[.int .i64 me, .int .i64 id, .int .i64 te, .int .i64 de, .int .i64 fe, .int .i64 pr, .int .i64 ch, .int .i64 un, .string S] 29))) := (Below.refl _ _).alloc (Nat.le_refl _) _
  go_enter Tryd.func8, Tryd.ntmps8
  go_upto_region 1 with fail
  generalize w.alloc (.cells #[.int .i64 me, .int .i64 id, .int .i64 te, .int .i64 de, .int .i64 fe, .int .i64 pr, .int .i64 ch, .int .i64 un, .string S] 29) = W0 at *
  have HC := hC W0 HB0.out
  have HW : Hid (f = 0 → ∀ w', Below w.heap.size w w' → Calls Tryd.prog 19 #[.agg #[.int .i64 me, .int .i64 id, .int .i64 te, .int .i64 de, .int .i64 fe, .int .i64 pr, .int .i64 ch, .int .i64 un, .string S]] w' fun e w'' => e = .returned (.string T) ∧ Below w'.heap.size w' w'') := hW
  clear hC hW
  have c0 : W0.cell? ⟨w.heap.size, 0, none⟩ = some (.int .i64 me) := HX0.out.cell 0
  have c1 : W0.cell? ⟨w.heap.size, 1, none⟩ = some (.int .i64 id) := HX0.out.cell 1
  have c2 : W0.cell? ⟨w.heap.size, 2, none⟩ = some (.int .i64 te) := HX0.out.cell 2
  have c3 : W0.cell? ⟨w.heap.size, 3, none⟩ = some (.int .i64 de) := HX0.out.cell 3
  have c4 : W0.cell? ⟨w.heap.size, 4, none⟩ = some (.int .i64 fe) := HX0.out.cell 4
  have c5 : W0.cell? ⟨w.heap.size, 5, none⟩ = some (.int .i64 pr) := HX0.out.cell 5
  have c6 : W0.cell? ⟨w.heap.size, 6, none⟩ = some (.int .i64 ch) := HX0.out.cell 6
  have c7 : W0.cell? ⟨w.heap.size, 7, none⟩ = some (.int .i64 un) := HX0.out.cell 7
  have c8 : W0.cell? ⟨w.heap.size, 8, none⟩ = some (.string S) := HX0.out.cell 8
  go_wp2_with fail
  refine HC.mono ?_
  rintro e W1 ⟨rfl, hb⟩
  have HX1 : Hid (Blk W1 w.heap.size #[.int .i64 me, .int .i64 id, .int .i64 te, .int .i64 de, .int .i64 fe, .int .i64 pr, .int .i64 ch, .int .i64 un, .string S] 29) := HX0.out.next hb
  have HB1 : Hid (Below w.heap.size w W1) := bel_step HB0.out hb
  clear hb HC HX0 HB0 c0 c1 c2 c3 c4 c5 c6 c7 c8
  obtain ⟨f0, f1⟩ := hf
  by_cases h : f = 0
  · have hq : (f != 0) = false := by simpa using h
    have HWW := HW.out h W1 HB1.out
    have HF : Hid (f = 0) := h
    have HR : Hid (R = T) := hR0 h
    clear h HW hR0 hR1
    have c0 : W1.cell? ⟨w.heap.size, 0, none⟩ = some (.int .i64 me) := HX1.out.cell 0
    have c1 : W1.cell? ⟨w.heap.size, 1, none⟩ = some (.int .i64 id) := HX1.out.cell 1
    have c2 : W1.cell? ⟨w.heap.size, 2, none⟩ = some (.int .i64 te) := HX1.out.cell 2
    have c3 : W1.cell? ⟨w.heap.size, 3, none⟩ = some (.int .i64 de) := HX1.out.cell 3
    have c4 : W1.cell? ⟨w.heap.size, 4, none⟩ = some (.int .i64 fe) := HX1.out.cell 4
    have c5 : W1.cell? ⟨w.heap.size, 5, none⟩ = some (.int .i64 pr) := HX1.out.cell 5
    have c6 : W1.cell? ⟨w.heap.size, 6, none⟩ = some (.int .i64 ch) := HX1.out.cell 6
    have c7 : W1.cell? ⟨w.heap.size, 7, none⟩ = some (.int .i64 un) := HX1.out.cell 7
    have c8 : W1.cell? ⟨w.heap.size, 8, none⟩ = some (.string S) := HX1.out.cell 8
    go_wp2_with fail
    refine HWW.mono ?_
    rintro e W2 ⟨rfl, hb⟩
    have HB2 : Hid (Below w.heap.size w W2) := bel_step HB1.out hb
    clear hb HWW HX1 HB1 c0 c1 c2 c3 c4 c5 c6 c7 c8
    go_wp2_with fail
    go_ret2
    exact ⟨by rw [HF.out, HR.out]; rfl, HB2.out⟩
  · have hq : (f != 0) = true := by simpa using h
    have HR : Hid (R = ⟨#[]⟩) := hR1 h
    clear h HW hR0 hR1
    go_wp2_with fail
    go_ret2
    exact ⟨by rw [HR.out]; rfl, HB1.out⟩
theorem FaultIs.bd {r : Rc} {f : Int} (h : FaultIs r f) : -1000 ≤ f ∧ f ≤ 1000 := by
  rcases h with ⟨_, rfl⟩ | ⟨_, _, rfl⟩ | ⟨_, _, _, rfl⟩ | ⟨_, _, _, _, rfl⟩ | ⟨_, _, _, _, _, rfl⟩ | ⟨_, _, _, _, _, rfl⟩ <;> first | exact ⟨by decide, by decide⟩ | (unfold token.parseE; repeat' split) <;> exact ⟨by decide, by decide⟩
theorem fault_ex (r : Rc) : ∃ f, FaultIs r f := by
  by_cases h1 : 0 ≤ r.me ∧ r.me ≤ 49
  case neg => exact ⟨_, .inl ⟨h1, rfl⟩⟩
  have d : ∀ p : Prop, p ∨ ¬ p := Classical.em
  rcases d (RRange r) with h2 | h2
  case inr => exact ⟨_, .inr (.inl ⟨h1, h2, rfl⟩)⟩
  rcases d (RSum r) with h3 | h3
  case inr => exact ⟨_, .inr (.inr (.inl ⟨h1, h2, h3, rfl⟩))⟩
  rcases d (token.parseE r.tk = 0) with h4 | h4
  case inr => exact ⟨_, .inr (.inr (.inr (.inl ⟨h1, h2, h3, h4, rfl⟩)))⟩
  rcases d (RTok r) with h5 | h5
  case inr => exact ⟨_, .inr (.inr (.inr (.inr (.inl ⟨h1, h2, h3, h4, h5, rfl⟩))))⟩
  exact ⟨_, .inr (.inr (.inr (.inr (.inr ⟨h1, h2, h3, h4, h5, rfl⟩))))⟩
theorem show_any (r : Rc) (w : World) (ht : STab w) : Calls Tryd.prog 8 #[r.v] w fun e w' => ShowPost w r e w' := by
  obtain ⟨f, hf⟩ := fault_ex r
  refine (show_abs r.me r.id r.te r.de r.fe r.pr r.ch r.un f ⟨r.tk.toArray⟩ ⟨(paper r).toArray⟩ (if f = 0 then ⟨(paper r).toArray⟩ else ⟨#[]⟩) w hf.bd (fun h => if_pos h) (fun h => if_neg h) (fun w' hb => ?_) (fun h0 w' hb => ?_)).mono ?_
  · refine (check_any r w' (ht.below hb).t).mono ?_
    rintro e w'' ⟨g, rfl, hg, hb2⟩
    rw [hg.one hf]
    exact ⟨rfl, hb2⟩
  · exact write_any r w' (hf.ok.1 h0) (ht.below hb).m (ht.below hb).c
  · rintro e w' ⟨rfl, hb⟩
    by_cases h : f = 0
    · rw [if_pos h]; exact ⟨paper r, f, rfl, ⟨hf, .inl ⟨h, rfl⟩⟩, hb⟩
    · rw [if_neg h]; exact ⟨[], f, rfl, ⟨hf, .inr ⟨h, rfl⟩⟩, hb⟩
theorem kshow {w : World} (ht : STab w) : KrShow w := fun W r hb _ => show_any r W (ht.below hb)

end Go.Proofs.YtlicdeppfhmfjabDoor.rcp

/- What Words gives back. -/
namespace Go.Proofs.YtlicdeppfhmfjabDoor.token
open Go.Proofs.YtlicdeppfhmfjabDoor.words
open Go.RowKit
set_option linter.unusedSimpArgs false

set_option maxHeartbeats 400000 in
theorem words_no (c i a t : Int) (w : World) (ht : TTab w) (h : flawT c i a t ≠ 0) :
    Calls Tryd.prog 26 #[.agg #[.int .i64 c, .int .i64 i, .int .i64 a, .int .i64 t]] w fun e w' => e = .returned (.tuple #[.agg #[.int .u32 0, .int .u32 0, .int .u32 0], .int .i64 (flawT c i a t)]) ∧ Below w.heap.size w w' := by
  have HF : Hid (∀ W, TTab W → Calls Tryd.prog 32 #[.agg #[.int .i64 c, .int .i64 i, .int .i64 a, .int .i64 t]] W fun e w' => e = .returned (.int .i64 (flawT c i a t)) ∧ Below W.heap.size W w') := fun W hW => flaw_any c i a t W hW
  have hd : (flawT c i a t != 0) = true := by simpa using h
  have hb0 : Below w.heap.size w ((w.alloc (.cells #[.int .i64 c, .int .i64 i, .int .i64 a, .int .i64 t] 43)).alloc (.cells #[.int .u32 0, .int .u32 0, .int .u32 0] 62)) := (bel_box _ _).alloc (by simp) _
  have HB : Hid (Below w.heap.size w ((w.alloc (.cells #[.int .i64 c, .int .i64 i, .int .i64 a, .int .i64 t] 43)).alloc (.cells #[.int .u32 0, .int .u32 0, .int .u32 0] 62))) := hb0
  have HT : Hid (TTab ((w.alloc (.cells #[.int .i64 c, .int .i64 i, .int .i64 a, .int .i64 t] 43)).alloc (.cells #[.int .u32 0, .int .u32 0, .int .u32 0] 62))) := ht.below hb0
  have HX : Hid (Blk ((w.alloc (.cells #[.int .i64 c, .int .i64 i, .int .i64 a, .int .i64 t] 43)).alloc (.cells #[.int .u32 0, .int .u32 0, .int .u32 0] 62)) (w.heap.size + 1) #[.int .u32 0, .int .u32 0, .int .u32 0] 62) := Blk.new1 _ _ _ _
  clear ht h hb0
  generalize flawT c i a t = f at *
  go_enter Tryd.func26, Tryd.ntmps26
  go_wp2_with fail
  refine (HF.out _ HT.out).mono ?_
  rintro e w1 ⟨rfl, hb1⟩
  have hX := HX.out.next hb1
  have hB1 := bel_step HB.out hb1
  have HB1 : Hid (Below w.heap.size w (((w1.setCell ⟨w.heap.size + 1, 0, none⟩ (.int .u32 0)).setCell ⟨w.heap.size + 1, 1, none⟩ (.int .u32 0)).setCell ⟨w.heap.size + 1, 2, none⟩ (.int .u32 0))) := bel_set (bel_set (bel_set hB1 _ _ _ (by omega)) _ _ _ (by omega)) _ _ _ (by omega)
  have RR : Blk (((w1.setCell ⟨w.heap.size + 1, 0, none⟩ (.int .u32 0)).setCell ⟨w.heap.size + 1, 1, none⟩ (.int .u32 0)).setCell ⟨w.heap.size + 1, 2, none⟩ (.int .u32 0)) (w.heap.size + 1) #[.int .u32 0, .int .u32 0, .int .u32 0] 62 := ((hX.set 0 _).set 1 _).set 2 _
  have R0 : Hid (_ = _) := RR.cell 0
  have R1 : Hid (_ = _) := RR.cell 1
  have R2 : Hid (_ = _) := RR.cell 2
  have x0 := hX.cell 0
  have x1 := hX.cell 1
  have x2 := hX.cell 2
  have f0 := hX.free 0
  have f1 := hX.free 1
  have f2 := hX.free 2
  clear hb1 HF HB HT HX hX RR hB1
  go_wp2_with fail
  refine bodyPost_ret (v := .tuple #[.agg #[.int .u32 0, .int .u32 0, .int .u32 0], .int .i64 f]) (by simp [results, Tryd.results26, R0.out, R1.out, R2.out, go_sem]) rfl ⟨rfl, HB1.out⟩

/-- What Words gives back. -/
def WordsPost (w : World) (k : Tok) (e : Ending) (w' : World) : Prop := ∃ a b c : Nat, e = .returned (.tuple #[.agg #[.int .u32 (a : Int), .int .u32 (b : Int), .int .u32 (c : Int)], .int .i64 0]) ∧ WN a b c (k.num * 97) ∧ Below w.heap.size w w'

set_option maxHeartbeats 400000 in
theorem words_ok (k : Tok) (w : World) (ht : TTab w) (hk : k.ok) :
    Calls Tryd.prog 26 #[k.v] w fun e w' => WordsPost w k e w' := by
  have HF : Hid (∀ W, TTab W → Calls Tryd.prog 32 #[.agg #[.int .i64 (k.c : Int), .int .i64 (k.i : Int), .int .i64 (k.a : Int), .int .i64 (k.t : Int)]] W fun e w' => e = .returned (.int .i64 0) ∧ Below W.heap.size W w') := fun W hW => by
    have := flaw_any k.c k.i k.a k.t W hW
    rwa [flaw_tok.2 hk] at this
  have HP : Hid (∀ W, TTab W → Calls Tryd.prog 50 #[.agg #[.int .i64 (k.c : Int), .int .i64 (k.i : Int), .int .i64 (k.a : Int), .int .i64 (k.t : Int)]] W fun e w' => PackPost W k e w') := fun W hW => pack_any k W hk hW
  have HQ : Hid (∀ (x y z : Nat) W, WN x y z k.num → Calls Tryd.prog 49 #[.agg #[.int .u32 (x : Int), .int .u32 (y : Int), .int .u32 (z : Int)], .int .u32 97] W fun e w' => ∃ (a' b' c' : Nat) (o : Int), e = .returned (.tuple #[.agg #[.int .u32 (a' : Int), .int .u32 (b' : Int), .int .u32 (c' : Int)], .int .u32 o]) ∧ WN a' b' c' (k.num * 97) ∧ Below W.heap.size W w') := fun x y z W hW =>
    times_wn x y z k.num 97 W hW (by omega) (by have := num_bd hk; omega)
  have hb0 : Below w.heap.size w ((w.alloc (.cells #[.int .i64 (k.c : Int), .int .i64 (k.i : Int), .int .i64 (k.a : Int), .int .i64 (k.t : Int)] 43)).alloc (.cells #[.int .u32 0, .int .u32 0, .int .u32 0] 62)) := (bel_box _ _).alloc (by simp) _
  have HB : Hid (Below w.heap.size w ((w.alloc (.cells #[.int .i64 (k.c : Int), .int .i64 (k.i : Int), .int .i64 (k.a : Int), .int .i64 (k.t : Int)] 43)).alloc (.cells #[.int .u32 0, .int .u32 0, .int .u32 0] 62))) := hb0
  have HT : Hid (TTab ((w.alloc (.cells #[.int .i64 (k.c : Int), .int .i64 (k.i : Int), .int .i64 (k.a : Int), .int .i64 (k.t : Int)] 43)).alloc (.cells #[.int .u32 0, .int .u32 0, .int .u32 0] 62))) := ht.below hb0
  have HR : Hid (Blk ((w.alloc (.cells #[.int .i64 (k.c : Int), .int .i64 (k.i : Int), .int .i64 (k.a : Int), .int .i64 (k.t : Int)] 43)).alloc (.cells #[.int .u32 0, .int .u32 0, .int .u32 0] 62)) (w.heap.size + 1) #[.int .u32 0, .int .u32 0, .int .u32 0] 62) := Blk.new1 _ _ _ _
  have HX : Hid (Blk ((w.alloc (.cells #[.int .i64 (k.c : Int), .int .i64 (k.i : Int), .int .i64 (k.a : Int), .int .i64 (k.t : Int)] 43)).alloc (.cells #[.int .u32 0, .int .u32 0, .int .u32 0] 62)) w.heap.size #[.int .i64 (k.c : Int), .int .i64 (k.i : Int), .int .i64 (k.a : Int), .int .i64 (k.t : Int)] 43) := (Blk.new _ _ _).alloc _
  clear ht hk hb0
  unfold Tok.v
  go_enter Tryd.func26, Tryd.ntmps26
  go_wp2_with fail
  refine (HF.out _ HT.out).mono ?_
  rintro e w1 ⟨rfl, hb1⟩
  have HB1 : Hid (Below w.heap.size w w1) := bel_step HB.out hb1
  have HT1 : Hid (TTab w1) := HT.out.below hb1
  have HR1 : Hid (Blk w1 (w.heap.size + 1) #[.int .u32 0, .int .u32 0, .int .u32 0] 62) := HR.out.next hb1
  have hX := HX.out.next hb1
  have x0 := hX.cell 0
  have x1 := hX.cell 1
  have x2 := hX.cell 2
  have x3 := hX.cell 3
  clear hb1 HF HB HT HX hX HR
  go_wp2_with fail
  refine (HP.out _ HT1.out).mono ?_
  rintro e w2 ⟨x, y, z, rfl, hwn, hb2⟩
  have HB2 : Hid (Below w.heap.size w w2) := bel_step HB1.out hb2
  have HR2 : Hid (Blk w2 (w.heap.size + 1) #[.int .u32 0, .int .u32 0, .int .u32 0] 62) := HR1.out.next hb2
  have HN : Hid (WN x y z k.num) := hwn
  clear hb2 hwn HB1 HT1 HP x0 x1 x2 x3 HR1
  go_wp2_with fail
  refine (HQ.out _ _ _ _ HN.out).mono ?_
  rintro e w3 ⟨a', b', c', o, rfl, hwn, hb3⟩
  have hB3 := (bel_step HB2.out hb3).alloc (bel_step HB2.out hb3).size (.cells #[.int .u32 (a' : Int), .int .u32 (b' : Int), .int .u32 (c' : Int)] 62)
  have hR3 := (HR2.out.next hb3).alloc (.cells #[.int .u32 (a' : Int), .int .u32 (b' : Int), .int .u32 (c' : Int)] 62)
  have HN3 : Hid (WN a' b' c' (k.num * 97)) := hwn
  clear hb3 HB2 HQ HR2 HN hwn
  have HB4 : Hid (Below w.heap.size w ((((w3.alloc (.cells #[.int .u32 (a' : Int), .int .u32 (b' : Int), .int .u32 (c' : Int)] 62)).setCell ⟨w.heap.size + 1, 0, none⟩ (.int .u32 (a' : Int))).setCell ⟨w.heap.size + 1, 1, none⟩ (.int .u32 (b' : Int))).setCell ⟨w.heap.size + 1, 2, none⟩ (.int .u32 (c' : Int)))) := bel_set (bel_set (bel_set hB3 _ _ _ (by omega)) _ _ _ (by omega)) _ _ _ (by omega)
  have RR : Blk ((((w3.alloc (.cells #[.int .u32 (a' : Int), .int .u32 (b' : Int), .int .u32 (c' : Int)] 62)).setCell ⟨w.heap.size + 1, 0, none⟩ (.int .u32 (a' : Int))).setCell ⟨w.heap.size + 1, 1, none⟩ (.int .u32 (b' : Int))).setCell ⟨w.heap.size + 1, 2, none⟩ (.int .u32 (c' : Int))) (w.heap.size + 1) #[.int .u32 (a' : Int), .int .u32 (b' : Int), .int .u32 (c' : Int)] 62 := ((hR3.set 0 _).set 1 _).set 2 _
  have R0 : Hid (_ = _) := RR.cell 0
  have R1 : Hid (_ = _) := RR.cell 1
  have R2 : Hid (_ = _) := RR.cell 2
  have x0 := hR3.cell 0
  have x1 := hR3.cell 1
  have x2 := hR3.cell 2
  have f0 := hR3.free 0
  have f1 := hR3.free 1
  have f2 := hR3.free 2
  clear RR hR3 hB3
  go_wp2_with fail
  refine bodyPost_ret (v := .tuple #[.agg #[.int .u32 (a' : Int), .int .u32 (b' : Int), .int .u32 (c' : Int)], .int .i64 0]) (by simp [results, Tryd.results26, R0.out, R1.out, R2.out, go_sem]) rfl ⟨a', b', c', rfl, HN3.out, HB4.out⟩

end Go.Proofs.YtlicdeppfhmfjabDoor.token

/- What words.Show gives back. -/
namespace Go.Proofs.YtlicdeppfhmfjabDoor.words
open Go.RowKit

/-- Twenty-nine bytes lie in block D. -/
def Dg (w : World) (D : Nat) (d : Nat → Int) : Prop := w.heap[D]? = some (.cells ((List.range 29).map fun i => Value.int .u8 (d i)).toArray 96 (0, 0))

variable {w w' : World} {D : Nat} {d : Nat → Int}
theorem Dg.cell (h : Dg w D d) {i : Nat} (hi : i < 29) : w.cell? ⟨D, i, none⟩ = some (.int .u8 (d i)) := by unfold Dg at h; simp [World.cell?, h, hi]
theorem Dg.free (h : Dg w D d) (i : Nat) : w.frozen? ⟨D, i, none⟩ = false := by unfold Dg at h; simp [World.frozen?, h]
theorem Dg.lt (h : Dg w D d) : D < w.heap.size := by
  by_cases hh : D < w.heap.size
  · exact hh
  · unfold Dg at h; rw [Array.getElem?_eq_none (by omega)] at h; cases h
theorem Dg.below (h : Dg w D d) (hb : Below w.heap.size w w') : Dg w' D d := by
  have hlt := h.lt
  unfold Dg at *
  rw [hb.block D hlt]; exact h
theorem Dg.other (h : Dg w D d) {G : Nat} (i : Nat) (u : Value) (hne : G ≠ D) : Dg (w.setCell ⟨G, i, none⟩ u) D d := by
  unfold Dg at *; simp only [World.setCell, Array.getElem?_modify]; rw [if_neg hne]; exact h
def updd (d : Nat → Int) (i : Nat) (v : Int) : Nat → Int := fun k => if k = i then v else d k
theorem Dg.set (h : Dg w D d) (i : Nat) (v : Int) : Dg (w.setCell ⟨D, i, none⟩ (.int .u8 v)) D (updd d i v) := by
  unfold Dg at *
  simp only [World.setCell, Array.getElem?_modify, h, if_true, Option.map_some]
  congr 2
  simp only [Option.isSome_none, Bool.false_eq_true, if_false]
  apply Array.ext'
  simp only [Array.toList_setIfInBounds]
  apply List.ext_getElem?
  intro k
  by_cases hk : k < 29
  · by_cases e : k = i
    · subst e; simp [updd, hk]
    · rw [List.getElem?_set_ne (by omega)]; simp [updd, hk, e]
  · rw [List.getElem?_eq_none (by simp; omega), List.getElem?_eq_none (by simp; omega)]

/-- The last t of them. -/
def dsOf (d : Nat → Int) (t : Nat) : List Int := (List.range t).map fun i => d (29 - t + i)
theorem dsOf_len (d : Nat → Int) (t : Nat) : (dsOf d t).length = t := by simp [dsOf]
theorem dsOf_upd (d : Nat → Int) (t : Nat) (v : Int) (ht : t < 29) : dsOf (updd d (28 - t) v) (t + 1) = v :: dsOf d t := by
  unfold dsOf
  rw [List.range_succ_eq_map, List.map_cons, List.map_map]
  congr 1
  · simp [updd]
  · apply List.map_congr_left
    intro i hi
    simp [updd]
    congr 1
    omega

theorem dg_new (w : World) (o : Obj) : Dg ((w.alloc o).alloc (.cells ((List.range 29).map fun _ => Value.int .u8 0).toArray 96)) (w.heap.size + 1) (fun _ => 0) := by
  show ((w.heap.push o).push _)[w.heap.size + 1]? = _
  have : w.heap.size + 1 = (w.heap.push o).size := by simp
  rw [this, Array.getElem?_push_size]

/-- What the digits so far, and the rest of the number, make. -/
def ShowInv (V : Nat) (X : W3) (d : Nat → Int) (t : Nat) : Prop :=
  (t = 0 ∧ X.val = V) ∨ (0 < t ∧ X.val = 0 ∧ decL V = dsOf d t) ∨ (0 < t ∧ 0 < X.val ∧ decL V = decL X.val.toNat ++ dsOf d t)

theorem show_more {V : Nat} {X : W3} {d : Nat → Int} {t : Nat} (hV : (V : Int) < top) (h : ShowInv V X d t) (hgo : t = 0 ∨ 0 < X.val) (hX : X.ok) :
    t < 29 ∧ ShowInv V (overW X 10) (updd d (28 - t) (48 + overR X 10)) (t + 1) := by
  have hv := over_val X 10
  have hr := over_left (w := X) 10 (by omega)
  have hq := (W3.bd (over_ok hX (d := 10) (by omega))).1
  have hlen := decL_len29 V hV
  have ht : t < 29 := by
    rcases h with ⟨h1, _⟩ | ⟨h1, h2, h3⟩ | ⟨h1, h2, h3⟩
    · omega
    · omega
    · rw [h3, List.length_append, dsOf_len] at hlen
      have h5 : 1 ≤ (decL X.val.toNat).length := (decL_len29 _ (by have := (W3.bd hX).2; omega)).1
      omega
  refine ⟨ht, ?_⟩
  have hn : decL V = decL X.val.toNat ++ dsOf d t := by
    rcases h with ⟨h1, h2⟩ | ⟨h1, h2, h3⟩ | ⟨_, _, h3⟩
    · subst h1; rw [h2]; simp [dsOf]
    · omega
    · exact h3
  have hds := dsOf_upd d t (48 + overR X 10) ht
  by_cases h10 : X.val < 10
  · right; left
    have e0 : (overW X 10).val = 0 := by omega
    have e1 : overR X 10 = X.val := by omega
    refine ⟨by omega, e0, ?_⟩
    rw [hn, hds, decL_one (by omega), e1]
    have hx0 := (W3.bd hX).1
    rw [show ((X.val.toNat : Nat) : Int) = X.val by omega]
    rfl
  · right; right
    refine ⟨by omega, by omega, ?_⟩
    rw [hn, hds, decL_more (by omega)]
    have e1 : X.val.toNat / 10 = (overW X 10).val.toNat := by omega
    have e2 : ((X.val.toNat % 10 : Nat) : Int) = overR X 10 := by omega
    rw [e1, e2, List.append_assoc]
    rfl

theorem zero_iff {X : W3} (hX : X.ok) : X.val = 0 ↔ X = ⟨0, 0, 0⟩ := by
  obtain ⟨⟨h1, _⟩, ⟨h2, _⟩, h3, _⟩ := hX
  constructor
  · intro h
    unfold W3.val at h
    obtain ⟨a, b, c⟩ := X
    simp only at *
    have : a = 0 := by omega
    have : b = 0 := by omega
    have : c = 0 := by omega
    subst_vars; rfl
  · intro h; rw [h]; rfl

/-- A text of these bytes. -/
def strOf (ns : List Int) : ByteArray := ns.foldl (fun r n => r.push (UInt8.ofNat n.toNat)) ByteArray.empty

theorem conv_ds (w : World) (D : Nat) (d : Nat → Int) (t : Nat) (ht : t ≤ 29) (h : Dg w D d) :
    (convert 59 9 (.slice (some ⟨D, 29 - t, none⟩) t t)).run Tryd.prog w = .ok (.string (strOf (dsOf d t))) w := by
  rw [run_convert_bytes_string _ _ _ _ _ _ _ Tryd.underlying59 Tryd.underlying5 Tryd.underlying9, run_bytesToString _ _ _ _ (dsOf d t)]
  · rfl
  · have := run_loadCells (P := Tryd.prog) w ⟨D, 29 - t, none⟩ t (fun i => .int .u8 (d (29 - t + i))) (fun j hj => by rw [Addr.add_lit]; exact h.cell (by omega))
    rw [this]
    congr 2
    simp [dsOf]

theorem slice_ds (D t : Nat) (w : World) (h0 : 0 < t) (h1 : t ≤ 29) :
    (Instr.sliceAt 96 (.pointer (some ⟨D, 0, none⟩)) (some (.int .i64 ((29 - t : Nat) : Int))) none none).run Tryd.prog w = .ok (.slice (some ⟨D, 29 - t, none⟩) t t) w := by
  have e2 : 29 - (29 - t) = t := by omega
  simp [Instr.sliceAt, Instr.sliceBounds, Instr.sliceBound, asIntOf, run_underlying Tryd.underlying96, go_sem, e2]
  omega

set_option maxHeartbeats 1000000 in
theorem show_any (x : W3) (w : World) (hx : x.ok) :
    Calls Tryd.prog 27 #[wv x] w fun e w' => e = .returned (.string (strOf (decL x.val.toNat))) ∧ Below w.heap.size w w' := by
  have hxb := W3.bd hx
  have HX : Hid (x.ok) := hx
  have HB0 : Hid (∀ o1 o2 : Obj, Below w.heap.size w ((w.alloc o1).alloc o2)) := fun o1 o2 => bel2 w o1 o2
  clear hx
  go_enter Tryd.func27, Tryd.ntmps27
  go_wp2_with fail
  go_loopw [4] (fun v wr => ∃ (t : Nat) (X : W3) (d : Nat → Int), t ≤ 29 ∧ v = .int .i64 ((29 - t : Nat) : Int) ∧ X.ok ∧ Wat wr w.heap.size X ∧ Dg wr (w.heap.size + 1) d ∧ Below w.heap.size w wr ∧ ShowInv x.val.toNat X d t) (fun v _ => (intOf v).toNat)
  case atStart => exact ⟨0, x, fun _ => 0, by omega, rfl, HX.out, trio_a _ _ _ _ _, dg_new _ _, bel2 _ _ _, .inl ⟨rfl, by omega⟩⟩
  case round =>
    obtain ⟨t, X, d, ht, rfl, hX, hT, hD, hb, hi⟩ := hrel
    by_cases hgo : t = 0 ∨ 0 < X.val
    · obtain ⟨ht29, hm⟩ := show_more (by omega) hi hgo hX
      have HM : Hid (ShowInv x.val.toNat (overW X 10) (updd d (28 - t) (48 + overR X 10)) (t + 1)) := hm
      have hz := (zero_iff hX)
      have HT : Hid (Wat wr w.heap.size X) := hT
      have HD : Hid (Dg wr (w.heap.size + 1) d) := hD
      have HB : Hid (Below w.heap.size w wr) := hb
      have c0 := hT.c0
      have c1 := hT.c1
      have c2 := hT.c2
      clear hT hD hb hi hm
      have e28 : ((29 - t : Nat) : Int) - 1 = ((28 - t : Nat) : Int) := by omega
      have g29 : 28 - t < 29 := by omega
      have HG : Hid (29 - (t + 1) = 28 - t) := (by omega : 29 - (t + 1) = 28 - t)
      by_cases h0 : t = 0
      · have e29 : (((29 - t : Nat) : Int) == 29) = true := by simp; omega
        have f29 : ((29 - t : Nat) : Int) ≤ 29 := by omega
        clear hgo hz ht
        generalize 29 - t = f at *
        generalize 28 - t = g at *
        go_wp2_with fail
        refine (over_any X 10 _ hX (by omega) (by omega)).mono ?_
        rintro e w2 ⟨rfl, hb2⟩
        have hQ := over_ok hX (d := 10) (by omega)
        have hr := over_left (w := X) 10 (by omega)
        have T2 := HT.out.below hb2
        have D2 := HD.out.below hb2
        have B2 := HB.out.trans (hb2.mono HB.out.size)
        clear hb2 HT HD HB c0 c1 c2
        generalize overW X 10 = Q at *
        generalize overR X 10 = r at *
        have c0 := T2.c0
        have c1 := T2.c1
        have c2 := T2.c2
        have f0 := T2.free 0
        have f1 := T2.free 1
        have f2 := T2.free 2
        have T3 := T2.put (.int .u32 Q.a) (.int .u32 Q.b) (.int .u32 Q.c)
        have D3 := ((D2.other (G := w.heap.size) 0 (.int .u32 Q.a) (by omega)).other (G := w.heap.size) 1 (.int .u32 Q.b) (by omega)).other (G := w.heap.size) 2 (.int .u32 Q.c) (by omega)
        have B3 := below_put3 B2 w.heap.size (.int .u32 Q.a) (.int .u32 Q.b) (.int .u32 Q.c) (Nat.le_refl _)
        have d1 := D3.cell (i := g) (by omega)
        have d2 := D3.free g
        have HT : Hid (Wat ((put3 w2 w.heap.size (.int .u32 Q.a) (.int .u32 Q.b) (.int .u32 Q.c)).setCell ⟨w.heap.size + 1, g, none⟩ (.int .u8 (48 + r))) w.heap.size Q) := T3.other _ _ (by omega)
        have HD : Hid (Dg ((put3 w2 w.heap.size (.int .u32 Q.a) (.int .u32 Q.b) (.int .u32 Q.c)).setCell ⟨w.heap.size + 1, g, none⟩ (.int .u8 (48 + r))) (w.heap.size + 1) (updd d g (48 + r))) := D3.set _ _
        have HB : Hid (Below w.heap.size w ((put3 w2 w.heap.size (.int .u32 Q.a) (.int .u32 Q.b) (.int .u32 Q.c)).setCell ⟨w.heap.size + 1, g, none⟩ (.int .u8 (48 + r)))) := below_set B3 _ _ _ (by omega)
        clear T2 D2 B2 T3 D3 B3
        obtain ⟨r0, r1⟩ := hr
        generalize d g = dd at *
        go_wp2_with fail
        go_roundw
        case rel => exact ⟨t + 1, Q, _, by omega, by rw [HG.out], hQ, HT.out, HD.out, HB.out, HM.out⟩
        case measure => simp [intOf]; omega
      · have hne : X ≠ ⟨0, 0, 0⟩ := fun e => by have := hz.2 e; omega
        have q := eq3_other hne
        have e29 : (((29 - t : Nat) : Int) == 29) = false := by simp; omega
        have f29 : ((29 - t : Nat) : Int) ≤ 29 := by omega
        clear hgo hz
        generalize 29 - t = f at *
        generalize 28 - t = g at *
        go_wp2_with fail
        refine (over_any X 10 _ hX (by omega) (by omega)).mono ?_
        rintro e w2 ⟨rfl, hb2⟩
        have hQ := over_ok hX (d := 10) (by omega)
        have hr := over_left (w := X) 10 (by omega)
        have T2 := HT.out.below hb2
        have D2 := HD.out.below hb2
        have B2 := HB.out.trans (hb2.mono HB.out.size)
        clear hb2 HT HD HB c0 c1 c2
        generalize overW X 10 = Q at *
        generalize overR X 10 = r at *
        have c0 := T2.c0
        have c1 := T2.c1
        have c2 := T2.c2
        have f0 := T2.free 0
        have f1 := T2.free 1
        have f2 := T2.free 2
        have T3 := T2.put (.int .u32 Q.a) (.int .u32 Q.b) (.int .u32 Q.c)
        have D3 := ((D2.other (G := w.heap.size) 0 (.int .u32 Q.a) (by omega)).other (G := w.heap.size) 1 (.int .u32 Q.b) (by omega)).other (G := w.heap.size) 2 (.int .u32 Q.c) (by omega)
        have B3 := below_put3 B2 w.heap.size (.int .u32 Q.a) (.int .u32 Q.b) (.int .u32 Q.c) (Nat.le_refl _)
        have d1 := D3.cell (i := g) (by omega)
        have d2 := D3.free g
        have HT : Hid (Wat ((put3 w2 w.heap.size (.int .u32 Q.a) (.int .u32 Q.b) (.int .u32 Q.c)).setCell ⟨w.heap.size + 1, g, none⟩ (.int .u8 (48 + r))) w.heap.size Q) := T3.other _ _ (by omega)
        have HD : Hid (Dg ((put3 w2 w.heap.size (.int .u32 Q.a) (.int .u32 Q.b) (.int .u32 Q.c)).setCell ⟨w.heap.size + 1, g, none⟩ (.int .u8 (48 + r))) (w.heap.size + 1) (updd d g (48 + r))) := D3.set _ _
        have HB : Hid (Below w.heap.size w ((put3 w2 w.heap.size (.int .u32 Q.a) (.int .u32 Q.b) (.int .u32 Q.c)).setCell ⟨w.heap.size + 1, g, none⟩ (.int .u8 (48 + r)))) := below_set B3 _ _ _ (by omega)
        clear T2 D2 B2 T3 D3 B3
        obtain ⟨r0, r1⟩ := hr
        generalize d g = dd at *
        go_wp2_with fail
        go_roundw
        case rel => exact ⟨t + 1, Q, _, by omega, by rw [HG.out], hQ, HT.out, HD.out, HB.out, HM.out⟩
        case measure => simp [intOf]; omega
    · have ht0 : 0 < t := by omega
      have hX0 : X.val = 0 := by have := (W3.bd hX).1; omega
      have hXz := (zero_iff hX).1 hX0
      have hfin : decL x.val.toNat = dsOf d t := by
        rcases hi with h | ⟨_, _, h⟩ | h
        · omega
        · exact h
        · omega
      subst hXz
      have c0 := hT.c0
      have c1 := hT.c1
      have c2 := hT.c2
      have q := eq3_same ⟨0, 0, 0⟩
      have e29 : (((29 - t : Nat) : Int) == 29) = false := by simp; omega
      have hsl := slice_ds (w.heap.size + 1) t wr ht0 ht
      have hcv := conv_ds wr (w.heap.size + 1) d t ht hD
      rw [← hfin] at hcv
      have HB : Hid (Below w.heap.size w wr) := hb
      clear hi hgo hX0 hfin hT hD hb hX
      go_wp2_with fail
      go_ret
      exact ⟨rfl, HB.out⟩

end Go.Proofs.YtlicdeppfhmfjabDoor.words

/- What Format gives back. -/
namespace Go.Proofs.YtlicdeppfhmfjabDoor.token
open Go.Proofs.YtlicdeppfhmfjabDoor.words
open Go.RowKit
set_option linter.unusedSimpArgs false

theorem str_list (ns : List Int) : (strOf ns).data.toList = ns.map byt := by
  have h : ∀ (ns : List Int) (r : ByteArray), (ns.foldl (fun r n => r.push (UInt8.ofNat n.toNat)) r).data.toList = r.data.toList ++ ns.map byt := by
    intro ns
    induction ns with
    | nil => intro r; simp
    | cons x l ih => intro r; rw [List.foldl_cons, ih]; simp [ByteArray.push, byt]
  have := h ns ByteArray.empty
  simpa [strOf] using this
theorem str_size (ns : List Int) : (strOf ns).size = ns.length := by
  rw [← check.len_eq, str_list]; simp
theorem rep_list (n : Nat) : Lib.repeatL [48] n = List.replicate n 48 := by
  induction n with
  | zero => rfl
  | succ n ih => rw [Lib.repeatL, ih]; rfl
theorem bytes_ext {a b : ByteArray} (h : a.data.toList = b.data.toList) : a = b := by
  cases a; cases b; congr 1; exact Array.toList_inj.1 h
/-- Noughts ahead of a number's digits. -/
theorem pad_fmt (V n : Nat) (h : n + (decL V).length = 20) : (⟨(Lib.repeatL [48] n).toArray⟩ : ByteArray) ++ strOf (decL V) = fmtB V := by
  apply bytes_ext
  rw [fmtB_list, show ((⟨(Lib.repeatL [48] n).toArray⟩ : ByteArray) ++ strOf (decL V)).data.toList = Lib.repeatL [48] n ++ (strOf (decL V)).data.toList by simp, str_list, rep_list]
  unfold fmtL
  rw [show 20 - (decL V).length = n by omega]

theorem show_wn (a b c V : Nat) (w : World) (h : WN a b c V) :
    Calls Tryd.prog 27 #[.agg #[.int .u32 (a : Int), .int .u32 (b : Int), .int .u32 (c : Int)]] w fun e w' => e = .returned (.string (strOf (decL V))) ∧ Below w.heap.size w w' := by
  have hk := wn_ok h
  have := show_any ⟨a, b, c⟩ w hk.1
  rwa [hk.2, Int.toNat_natCast] at this

set_option maxHeartbeats 400000 in
theorem format_no (c i a t : Int) (w : World) (ht : TTab w) (h : flawT c i a t ≠ 0) :
    Calls Tryd.prog 14 #[.agg #[.int .i64 c, .int .i64 i, .int .i64 a, .int .i64 t]] w fun e w' => e = .returned (.tuple #[.string ByteArray.empty, .int .i64 (flawT c i a t)]) ∧ Below w.heap.size w w' := by
  have HF : Hid (∀ W, TTab W → Calls Tryd.prog 26 #[.agg #[.int .i64 c, .int .i64 i, .int .i64 a, .int .i64 t]] W fun e w' => e = .returned (.tuple #[.agg #[.int .u32 0, .int .u32 0, .int .u32 0], .int .i64 (flawT c i a t)]) ∧ Below W.heap.size W w') := fun W hW => words_no c i a t W hW h
  have hd : (flawT c i a t != 0) = true := by simpa using h
  have HB : Hid (Below w.heap.size w (w.alloc (.cells #[.int .i64 c, .int .i64 i, .int .i64 a, .int .i64 t] 43))) := bel_box _ _
  have HT : Hid (TTab (w.alloc (.cells #[.int .i64 c, .int .i64 i, .int .i64 a, .int .i64 t] 43))) := ht.below (bel_box _ _)
  clear ht h
  generalize flawT c i a t = f at *
  go_enter Tryd.func14, Tryd.ntmps14
  go_wp2_with fail
  refine (HF.out _ HT.out).mono ?_
  rintro e w1 ⟨rfl, hb1⟩
  have HB1 : Hid (Below w.heap.size w (w1.alloc (.cells #[.int .u32 0, .int .u32 0, .int .u32 0] 62))) := (bel_step HB.out hb1).alloc (bel_step HB.out hb1).size _
  clear hb1 HF HB HT
  go_wp2_with fail
  refine bodyPost_ret (v := .tuple #[.string ByteArray.empty, .int .i64 f]) (by simp [results, Tryd.results14, go_sem]; rfl) rfl ⟨rfl, HB1.out⟩

set_option maxHeartbeats 400000 in
theorem format_ok (k : Tok) (w : World) (ht : TTab w) (hk : k.ok) :
    Calls Tryd.prog 14 #[k.v] w fun e w' => e = .returned (.tuple #[.string (fmtB (97 * k.num)), .int .i64 0]) ∧ Below w.heap.size w w' := by
  have HF : Hid (∀ W, TTab W → Calls Tryd.prog 26 #[.agg #[.int .i64 (k.c : Int), .int .i64 (k.i : Int), .int .i64 (k.a : Int), .int .i64 (k.t : Int)]] W fun e w' => WordsPost W k e w') := fun W hW => words_ok k W hW hk
  have hnb := num_bd hk
  have hln := dec_len20 (V := k.num * 97) (by omega)
  have hsz := str_size (decL (k.num * 97))
  have HSh : Hid (∀ (a b c : Nat) W, WN a b c (k.num * 97) → Calls Tryd.prog 27 #[.agg #[.int .u32 (a : Int), .int .u32 (b : Int), .int .u32 (c : Int)]] W fun e w' => e = .returned (.string (strOf (decL (k.num * 97)))) ∧ Below W.heap.size W w') := fun a b c W hW => show_wn a b c _ W hW
  obtain ⟨n, hn⟩ : ∃ n : Nat, n + (decL (k.num * 97)).length = 20 := ⟨20 - (decL (k.num * 97)).length, by omega⟩
  have HRp : Hid (∀ W, Calls Tryd.prog 21 #[.string ⟨#[48]⟩, .int .i64 (n : Int)] W fun e w' => e = .returned (.string ⟨(Lib.repeatL [48] n).toArray⟩) ∧ Below W.heap.size W w') := fun W => Tryd.strings_Repeat ⟨#[48]⟩ n W (by omega) (by show 1 * n ≤ _; omega)
  have HX : Hid ((⟨(Lib.repeatL [48] n).toArray⟩ : ByteArray) ++ strOf (decL (k.num * 97)) = fmtB (97 * k.num)) := by
    show _ = _
    rw [pad_fmt _ _ hn, Nat.mul_comm]
  have hzz : (⟨(Lib.repeatL [48] n).toArray⟩ : ByteArray).size = n := by
    show (Lib.repeatL [48] n).toArray.size = n
    rw [rep_list]; simp
  have HT : Hid (TTab (w.alloc (.cells #[.int .i64 (k.c : Int), .int .i64 (k.i : Int), .int .i64 (k.a : Int), .int .i64 (k.t : Int)] 43))) := ht.below (bel_box _ _)
  have HB : Hid (Below w.heap.size w (w.alloc (.cells #[.int .i64 (k.c : Int), .int .i64 (k.i : Int), .int .i64 (k.a : Int), .int .i64 (k.t : Int)] 43))) := bel_box _ _
  rw [← hsz] at hn hln
  clear ht hk hnb hsz
  generalize strOf (decL (k.num * 97)) = D at *
  generalize (⟨(Lib.repeatL [48] n).toArray⟩ : ByteArray) = Z at *
  have hds : (20 : Int) - (D.size : Int) = (n : Int) := by omega
  unfold Tok.v
  go_enter Tryd.func14, Tryd.ntmps14
  go_wp2_with fail
  refine (HF.out _ HT.out).mono ?_
  rintro e w1 ⟨a, b, c, rfl, hwn, hb1⟩
  have hN := Blk.new w1 #[.int .u32 (a : Int), .int .u32 (b : Int), .int .u32 (c : Int)] 62
  have HB1 : Hid (Below w.heap.size w (w1.alloc (.cells #[.int .u32 (a : Int), .int .u32 (b : Int), .int .u32 (c : Int)] 62))) := (bel_step HB.out hb1).alloc (bel_step HB.out hb1).size _
  have HW : Hid (WN a b c (k.num * 97)) := hwn
  have c0 := hN.cell 0
  have c1 := hN.cell 1
  have c2 := hN.cell 2
  clear hb1 HF HB HT hwn hN
  go_wp2_with fail
  refine (HSh.out _ _ _ _ HW.out).mono ?_
  rintro e w2 ⟨rfl, hb2⟩
  have HB2 : Hid (Below w.heap.size w w2) := bel_step HB1.out hb2
  clear hb2 HSh HB1 HW c0 c1 c2
  go_wp2_with fail
  refine (HRp.out _).mono ?_
  rintro e w3 ⟨rfl, hb3⟩
  have HB3 : Hid (Below w.heap.size w w3) := bel_step HB2.out hb3
  clear hb3 HRp HB2
  go_wp2_with fail
  refine bodyPost_ret (v := .tuple #[.string (Z ++ D), .int .i64 0]) (by simp [results, Tryd.results14, go_sem]) rfl ⟨by rw [HX.out], HB3.out⟩

end Go.Proofs.YtlicdeppfhmfjabDoor.token

/- A slip that came in. -/
namespace Go.Proofs.YtlicdeppfhmfjabDoor.rcp
open Go.ChangeShapes Go.WideShapes Go.ChangeAt Go.RowKit Go.Deep
set_option maxRecDepth 100000
set_option linter.unusedVariables false

theorem open_slip {H : Type} {enc : TypeId × Value → H} {W : World} {r : Reach} {b0 b1 : Nat} {spare : Nat → Bool} {held : Bool} {v : Value} {d : DataW H} {ps : List MemPlace}
    (hval : Value.okWide Tryd.prog W r b0 25 v) (h : DataW.Trod enc Tryd.prog W b1 spare held 25 v d ps) :
    ∃ xm x1 x2 x3 x4 xd xf xp xc : Int, v = .agg #[.int .i64 xm, .int .i64 x1, .int .i64 x2, .int .i64 x3, .int .i64 x4, .int .i64 xd, .int .i64 xf, .int .i64 xp, .int .i64 xc] ∧ wf9 xm x1 x2 x3 x4 xd xf xp xc := by
  have hu := Tryd.underlying25
  have hc : Tryd.prog.cellsOf 25 = 9 := by kernel_rfl
  have ci : Tryd.prog.cellsOf 3 = 1 := by kernel_rfl
  have cb : Tryd.prog.cellsOf 23 = 4 := by kernel_rfl
  obtain ⟨cs, rfl, hsz⟩ := okWide_struct hu hval
  rw [hc] at hsz
  obtain ⟨c0, c1, c2, c3, c4, c5, c6, c7, c8, rfl⟩ : ∃ c0 c1 c2 c3 c4 c5 c6 c7 c8, cs = #[c0, c1, c2, c3, c4, c5, c6, c7, c8] := by
    cases cs with
    | mk l => match l, hsz with
      | [c0, c1, c2, c3, c4, c5, c6, c7, c8], _ => exact ⟨c0, c1, c2, c3, c4, c5, c6, c7, c8, rfl⟩
  obtain ⟨fuel, hf⟩ := h
  obtain ⟨xs, n, _, _, _, hlen, hg⟩ := DataW.trod_struct hu hf
  match xs, hlen with
  | [y0, y1, y2, y3, y4, y5], _ =>
    have g0 := hg 0 _ rfl
    have g1 := hg 1 _ rfl
    have g2 := hg 2 _ rfl
    have g3 := hg 3 _ rfl
    have g4 := hg 4 _ rfl
    have g5 := hg 5 _ rfl
    simp [Value.cells, ci, cb] at g0 g1 g2 g3 g4 g5
    obtain ⟨x0, e0, -, w0⟩ := DataW.trod_int Tryd.underlying3 g0
    obtain ⟨x5, e5, -, w5⟩ := DataW.trod_int Tryd.underlying3 g2
    obtain ⟨x6, e6, -, w6⟩ := DataW.trod_int Tryd.underlying3 g3
    obtain ⟨x7, e7, -, w7⟩ := DataW.trod_int Tryd.underlying3 g4
    obtain ⟨x8, e8, -, w8⟩ := DataW.trod_int Tryd.underlying3 g5
    obtain ⟨ys, k, _, _, _, hlen2, hq⟩ := DataW.trod_struct Tryd.underlying23 g1
    match ys, hlen2 with
    | [z0, z1, z2, z3], _ =>
      have q0 := hq 0 _ rfl
      have q1 := hq 1 _ rfl
      have q2 := hq 2 _ rfl
      have q3 := hq 3 _ rfl
      simp [ci] at q0 q1 q2 q3
      obtain ⟨x1, e1, -, w1⟩ := DataW.trod_int Tryd.underlying3 q0
      obtain ⟨x2, e2, -, w2⟩ := DataW.trod_int Tryd.underlying3 q1
      obtain ⟨x3, e3, -, w3⟩ := DataW.trod_int Tryd.underlying3 q2
      obtain ⟨x4, e4, -, w4⟩ := DataW.trod_int Tryd.underlying3 q3
      simp at e0 e1 e2 e3 e4 e5 e6 e7 e8
      subst e0 e1 e2 e3 e4 e5 e6 e7 e8
      exact ⟨x0, x1, x2, x3, x4, x5, x6, x7, x8, rfl, ⟨w0, w1, w2, w3, w4⟩, w5, w6, w7, w8⟩

end Go.Proofs.YtlicdeppfhmfjabDoor.rcp

/- What a list of laid variables gives: the tail of the list; an error that is there; a number that is there. -/
namespace Go.Proofs.YtlicdeppfhmfjabDoor.rct
open Go.RowKit

theorem met_tail {P : Program} {x : String × DataW Unit} {rest : List (String × DataW Unit)} {W : World} (h : laidMet P (x :: rest) W) : laidMet P rest W := by
  obtain ⟨ps, hv, hn, hc⟩ := h
  obtain ⟨g', t', cs, fuel, p, q, hg', ht', hvar, hd, hr, rfl⟩ := hv
  exact ⟨q, hr, (List.nodup_append.1 hn).2.1, fun b off hm => hc b off (List.mem_append_right _ hm)⟩
theorem err_of {P : Program} {n nm : String} {d : DataW Unit} {rest : List (String × DataW Unit)} {W : World} {g : Nat} {ti : TypeId} {ms : Array (String × TypeId)} (h : laidMet P ((n, .iface nm d) :: rest) W)
    (hg : P.globalNamed n = some g) (ht : (P.globals[g]?).map (·.type) = some ti) (hi : P.underlying ti = some (.interface ms)) :
    ∃ tp p, W.var? P n = some #[.iface tp p] := by
  obtain ⟨ps, ⟨g0, t0, cs0, f0, p0, q0, hg0, ht0, hv0, hd0, _, e0⟩, _, _⟩ := h
  obtain rfl := Option.some.inj (hg.symm.trans hg0)
  obtain rfl := Option.some.inj (ht.symm.trans ht0)
  obtain ⟨f1, u, v, hcs, _, _⟩ := iface_of_trod hi hd0
  refine ⟨u, v, ?_⟩
  rw [hv0]
  obtain ⟨l0⟩ := cs0
  simp only at hcs
  rw [hcs]

end Go.Proofs.YtlicdeppfhmfjabDoor.rct
