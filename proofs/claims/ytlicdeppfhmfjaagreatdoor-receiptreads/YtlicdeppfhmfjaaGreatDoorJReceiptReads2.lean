import Derived.Test.YtlicdeppfhmfjaaGreatDoorJReceiptReads1
import Derived.Deep.DeepCutAuto
import Derived.Deep.RegionHeld
import Derived.Test.YtlicdeppfhmfjaaGreatDoorBlk
import Derived.Laws.OwnMore
import Derived.Laws.AppendOwnNone
import Derived.OwnWalk
import Derived.BigRegion
import Derived.BigQuiet
import Derived.WalkSpells
import Derived.WalkLawsBesides
import Derived.Test.YtlicdeppfhmfjaaGreatDoorProg
import Derived.WalkKit
import Derived.Below
import Derived.Laws.RangeAny
import Derived.Lib.Bytealg
import Derived.Lib.IndexBytes
import Derived.Lib.AtoiAll
import Derived.Shelf.LaysM
import Derived.Shelf.LaysC
import Derived.Shelf.Strconv.AtoiAll
import Derived.Shelf.Strconv.ErrVarAll
import Derived.Lib.SplitLaws
import Derived.Lib.Replace
import Derived.Shelf.Strings.Cut
import Derived.Shelf.Strings.Split
import Derived.Shelf.Strings.Replace
import Derived.Maps.Own
import Derived.Maps.Keyed
import Derived.Maps.Views
import Derived.StringKeys
import Derived.Test.YtlicdeppfhmfjaaGreatDoorCkTxt
import Derived.Test.YtlicdeppfhmfjaaGreatDoorChk
import Derived.DataReads
import Derived.Lib.LaidTab
import Derived.Lib.OthersKept

/- A receipt on paper, as the document has it. -/
namespace Go.Proofs.YtlicdeppfhmfjaaGreatDoor.rcp
open Go.RowKit
set_option maxRecDepth 100000
set_option linter.unusedVariables false
set_option linter.unusedSimpArgs false

theorem cut_tx (l : List UInt8) (a b : Nat) : (⟨l.toArray⟩ : ByteArray).extract a b = ⟨((l.drop a).take (b - a)).toArray⟩ := by
  apply ByteArray.ext
  simp [ByteArray.data_extract]
theorem sz_tx (l : List UInt8) : ByteArray.size ⟨l.toArray⟩ = l.length := by show l.toArray.size = _; rw [List.size_toArray]
theorem show_len (n : Int) (h : 0 ≤ n) (h1 : n ≤ 100000000) : (cents.showT n).length ≤ 19 := by
  unfold cents.showT; rw [if_neg (by omega)]; exact cents.showP_len n h (by omega)
set_option maxHeartbeats 8000000 in
theorem rshown (KP : KPar) (r : Rc) (w : World) : Calls Tryz.prog 7 #[r.v] w fun e w' => ShowPost w r e w' := by
  have HFA : Hid (∀ W, Calls Tryz.prog 13 #[.agg r.cs] W fun e w' => FaultPost W r e w') := fun W => rfault KP r W
  unfold Rc.v
  unfold Rc.cs at *
  have HNM : Hid (∀ W, Calls Tryz.prog 14 #[.int .i64 r.me] W fun e w' => NumPost W r.me e w') := fun W => number_any r.me W
  obtain ⟨KT, hKT⟩ : ∃ KT : ByteArray, (⟨r.tk.toArray⟩ : ByteArray) = KT := ⟨_, rfl⟩
  have HK : Hid ((⟨r.tk.toArray⟩ : ByteArray) = KT) := hKT
  rw [hKT] at HFA ⊢
  clear hKT
  have HBX : Hid (Blk (w.alloc (.cells #[.int .i64 r.me, .int .i64 r.id, .int .i64 r.te, .int .i64 r.de, .int .i64 r.fe, .int .i64 r.pr, .int .i64 r.ch, .int .i64 r.un, .string KT] 25)) w.heap.size #[.int .i64 r.me, .int .i64 r.id, .int .i64 r.te, .int .i64 r.de, .int .i64 r.fe, .int .i64 r.pr, .int .i64 r.ch, .int .i64 r.un, .string KT] 25) := Blk.new w _ _
  have HB0 : Hid (Below w.heap.size w (w.alloc (.cells #[.int .i64 r.me, .int .i64 r.id, .int .i64 r.te, .int .i64 r.de, .int .i64 r.fe, .int .i64 r.pr, .int .i64 r.ch, .int .i64 r.un, .string KT] 25))) := (Below.refl _ _).alloc (Nat.le_refl _) _
  have hs0 : w.heap.size < (w.alloc (.cells #[.int .i64 r.me, .int .i64 r.id, .int .i64 r.te, .int .i64 r.de, .int .i64 r.fe, .int .i64 r.pr, .int .i64 r.ch, .int .i64 r.un, .string KT] 25)).heap.size := HBX.out.lt
  generalize hWW : w.alloc (.cells #[.int .i64 r.me, .int .i64 r.id, .int .i64 r.te, .int .i64 r.de, .int .i64 r.fe, .int .i64 r.pr, .int .i64 r.ch, .int .i64 r.un, .string KT] 25) = W0 at *
  have HWW : Hid (w.alloc (.cells #[.int .i64 r.me, .int .i64 r.id, .int .i64 r.te, .int .i64 r.de, .int .i64 r.fe, .int .i64 r.pr, .int .i64 r.ch, .int .i64 r.un, .string KT] 25) = W0) := hWW
  clear hWW
  go_enter Tryz.func7, Tryz.ntmps7
  go_upto_region 1 with fail
  rw [HWW.out]
  clear HWW
  go_wp2_with (first | (refine wp_whole rfl 25 _ rfl (w.heap.size) rfl 25 #[.int .i64 r.me, .int .i64 r.id, .int .i64 r.te, .int .i64 r.de, .int .i64 r.fe, .int .i64 r.pr, .int .i64 r.ch, .int .i64 r.un, .string KT] _ HBX.out Tryz.underlying25 rfl (by kernel_rfl) ?_) | fail)
  refine (HFA.out _).mono ?_
  rintro e w1 ⟨f, rfl, hf, hb1⟩
  have HF : Hid (FaultIs r f) := hf
  have HB1 : Hid (Below w.heap.size w w1) := HB0.out.trans (hb1.mono HB0.out.size)
  have HX1 : Hid (Blk w1 w.heap.size #[.int .i64 r.me, .int .i64 r.id, .int .i64 r.te, .int .i64 r.de, .int .i64 r.fe, .int .i64 r.pr, .int .i64 r.ch, .int .i64 r.un, .string KT] 25) := HBX.out.next hb1
  clear hb1 HB0 HBX HFA
  by_cases h0 : f = 0
  · subst h0
    obtain ⟨⟨m0, m1⟩, ⟨⟨⟨te0, te1⟩, ⟨de0, de1⟩, ⟨fe0, fe1⟩, pr0, pr1⟩, ⟨ch0, ch1⟩, ⟨id0, id1⟩, un0, un1⟩, _, hpe, _⟩ := hf.ok.1 rfl
    clear hf
    have hkl := (parse_len hpe).1
    clear hpe
    have x0 : w1.cell? ⟨w.heap.size, 0, none⟩ = some (.int .i64 r.me) := HX1.out.cell 0
    go_wp2_with fail
    refine (HNM.out _).mono ?_
    rintro e w2 ⟨nl, nf, rfl, hn, hb2⟩
    obtain ⟨rfl, rfl⟩ : nl = numL r.me.toNat ∧ nf = 0 := by rcases hn with ⟨_, a, b⟩ | ⟨a, _⟩; exact ⟨a, b⟩; exact absurd ⟨m0, m1⟩ a
    have HB2 : Hid (Below w.heap.size w w2) := HB1.out.trans (hb2.mono HB1.out.size)
    have HX2 : Hid (Blk w2 w.heap.size #[.int .i64 r.me, .int .i64 r.id, .int .i64 r.te, .int .i64 r.de, .int .i64 r.fe, .int .i64 r.pr, .int .i64 r.ch, .int .i64 r.un, .string KT] 25) := HX1.out.next hb2
    clear hb2 HB1 HX1 HNM hn x0
    have hnl := (num_all r.me.toNat (by omega)).1
    have k1 : w2.cell? ⟨w.heap.size, 1, none⟩ = some (.int .i64 r.id) := HX2.out.cell 1
    have k2 : w2.cell? ⟨w.heap.size, 2, none⟩ = some (.int .i64 r.te) := HX2.out.cell 2
    have k3 : w2.cell? ⟨w.heap.size, 3, none⟩ = some (.int .i64 r.de) := HX2.out.cell 3
    have k4 : w2.cell? ⟨w.heap.size, 4, none⟩ = some (.int .i64 r.fe) := HX2.out.cell 4
    have k5 : w2.cell? ⟨w.heap.size, 5, none⟩ = some (.int .i64 r.pr) := HX2.out.cell 5
    have k6 : w2.cell? ⟨w.heap.size, 6, none⟩ = some (.int .i64 r.ch) := HX2.out.cell 6
    have k7 : w2.cell? ⟨w.heap.size, 7, none⟩ = some (.int .i64 r.un) := HX2.out.cell 7
    have HBB : Hid (Blk (w2.alloc (.cells #[.int .i64 r.id, .int .i64 r.te, .int .i64 r.de, .int .i64 r.fe, .int .i64 r.pr, .int .i64 r.ch, .int .i64 r.un] 23)) w2.heap.size #[.int .i64 r.id, .int .i64 r.te, .int .i64 r.de, .int .i64 r.fe, .int .i64 r.pr, .int .i64 r.ch, .int .i64 r.un] 23) := Blk.new w2 _ _
    have HX3 : Hid (Blk (w2.alloc (.cells #[.int .i64 r.id, .int .i64 r.te, .int .i64 r.de, .int .i64 r.fe, .int .i64 r.pr, .int .i64 r.ch, .int .i64 r.un] 23)) w.heap.size #[.int .i64 r.me, .int .i64 r.id, .int .i64 r.te, .int .i64 r.de, .int .i64 r.fe, .int .i64 r.pr, .int .i64 r.ch, .int .i64 r.un, .string KT] 25) := HX2.out.alloc _
    have HB3 : Hid (Below w.heap.size w (w2.alloc (.cells #[.int .i64 r.id, .int .i64 r.te, .int .i64 r.de, .int .i64 r.fe, .int .i64 r.pr, .int .i64 r.ch, .int .i64 r.un] 23))) := HB2.out.alloc HB2.out.size _
    go_upto_region 6 with fail
    generalize (w2.alloc (.cells #[.int .i64 r.id, .int .i64 r.te, .int .i64 r.de, .int .i64 r.fe, .int .i64 r.pr, .int .i64 r.ch, .int .i64 r.un] 23)) = V0 at *
    generalize w2.heap.size = gb at *
    clear k1 k2 k3 k4 k5 k6 k7 HX2 HB2
    have HS0 : Hid (Calls Tryz.prog 15 #[.int .i64 r.te] V0 fun e w' => e = .returned (.tuple #[.string ⟨(cents.showT r.te).toArray⟩, .int .i64 0]) ∧ Below V0.heap.size V0 w') := cents.shown_any r.te V0 (by omega) (by omega)
    have b0 : V0.cell? ⟨gb, 1, none⟩ = some (.int .i64 r.te) := HBB.out.cell 1
    go_wp2_with fail
    refine HS0.out.mono ?_
    rintro e V1 ⟨rfl, hb⟩
    have HB0q : Hid (Below w.heap.size w V1) := HB3.out.trans (hb.mono HB3.out.size)
    have HBB0 : Hid (Blk V1 gb #[.int .i64 r.id, .int .i64 r.te, .int .i64 r.de, .int .i64 r.fe, .int .i64 r.pr, .int .i64 r.ch, .int .i64 r.un] 23) := HBB.out.next hb
    have HXX0 : Hid (Blk V1 w.heap.size #[.int .i64 r.me, .int .i64 r.id, .int .i64 r.te, .int .i64 r.de, .int .i64 r.fe, .int .i64 r.pr, .int .i64 r.ch, .int .i64 r.un, .string KT] 25) := HX3.out.next hb
    clear hb b0 HS0 HB3 HBB HX3
    have HS1 : Hid (Calls Tryz.prog 15 #[.int .i64 r.de] V1 fun e w' => e = .returned (.tuple #[.string ⟨(cents.showT r.de).toArray⟩, .int .i64 0]) ∧ Below V1.heap.size V1 w') := cents.shown_any r.de V1 (by omega) (by omega)
    have b1 : V1.cell? ⟨gb, 2, none⟩ = some (.int .i64 r.de) := HBB0.out.cell 2
    go_wp2_with fail
    refine HS1.out.mono ?_
    rintro e V2 ⟨rfl, hb⟩
    have HB1q : Hid (Below w.heap.size w V2) := HB0q.out.trans (hb.mono HB0q.out.size)
    have HBB1 : Hid (Blk V2 gb #[.int .i64 r.id, .int .i64 r.te, .int .i64 r.de, .int .i64 r.fe, .int .i64 r.pr, .int .i64 r.ch, .int .i64 r.un] 23) := HBB0.out.next hb
    have HXX1 : Hid (Blk V2 w.heap.size #[.int .i64 r.me, .int .i64 r.id, .int .i64 r.te, .int .i64 r.de, .int .i64 r.fe, .int .i64 r.pr, .int .i64 r.ch, .int .i64 r.un, .string KT] 25) := HXX0.out.next hb
    clear hb b1 HS1 HB0q HBB0 HXX0
    have HS2 : Hid (Calls Tryz.prog 15 #[.int .i64 r.fe] V2 fun e w' => e = .returned (.tuple #[.string ⟨(cents.showT r.fe).toArray⟩, .int .i64 0]) ∧ Below V2.heap.size V2 w') := cents.shown_any r.fe V2 (by omega) (by omega)
    have b2 : V2.cell? ⟨gb, 3, none⟩ = some (.int .i64 r.fe) := HBB1.out.cell 3
    go_wp2_with fail
    refine HS2.out.mono ?_
    rintro e V3 ⟨rfl, hb⟩
    have HB2q : Hid (Below w.heap.size w V3) := HB1q.out.trans (hb.mono HB1q.out.size)
    have HBB2 : Hid (Blk V3 gb #[.int .i64 r.id, .int .i64 r.te, .int .i64 r.de, .int .i64 r.fe, .int .i64 r.pr, .int .i64 r.ch, .int .i64 r.un] 23) := HBB1.out.next hb
    have HXX2 : Hid (Blk V3 w.heap.size #[.int .i64 r.me, .int .i64 r.id, .int .i64 r.te, .int .i64 r.de, .int .i64 r.fe, .int .i64 r.pr, .int .i64 r.ch, .int .i64 r.un, .string KT] 25) := HXX1.out.next hb
    clear hb b2 HS2 HB1q HBB1 HXX1
    have HS3 : Hid (Calls Tryz.prog 15 #[.int .i64 r.pr] V3 fun e w' => e = .returned (.tuple #[.string ⟨(cents.showT r.pr).toArray⟩, .int .i64 0]) ∧ Below V3.heap.size V3 w') := cents.shown_any r.pr V3 (by omega) (by omega)
    have b3 : V3.cell? ⟨gb, 4, none⟩ = some (.int .i64 r.pr) := HBB2.out.cell 4
    go_wp2_with fail
    refine HS3.out.mono ?_
    rintro e V4 ⟨rfl, hb⟩
    have HB3q : Hid (Below w.heap.size w V4) := HB2q.out.trans (hb.mono HB2q.out.size)
    have HBB3 : Hid (Blk V4 gb #[.int .i64 r.id, .int .i64 r.te, .int .i64 r.de, .int .i64 r.fe, .int .i64 r.pr, .int .i64 r.ch, .int .i64 r.un] 23) := HBB2.out.next hb
    have HXX3 : Hid (Blk V4 w.heap.size #[.int .i64 r.me, .int .i64 r.id, .int .i64 r.te, .int .i64 r.de, .int .i64 r.fe, .int .i64 r.pr, .int .i64 r.ch, .int .i64 r.un, .string KT] 25) := HXX2.out.next hb
    clear hb b3 HS3 HB2q HBB2 HXX2
    have HS4 : Hid (Calls Tryz.prog 15 #[.int .i64 r.ch] V4 fun e w' => e = .returned (.tuple #[.string ⟨(cents.showT r.ch).toArray⟩, .int .i64 0]) ∧ Below V4.heap.size V4 w') := cents.shown_any r.ch V4 (by omega) (by omega)
    have b4 : V4.cell? ⟨gb, 5, none⟩ = some (.int .i64 r.ch) := HBB3.out.cell 5
    go_wp2_with fail
    refine HS4.out.mono ?_
    rintro e V5 ⟨rfl, hb⟩
    have HB4q : Hid (Below w.heap.size w V5) := HB3q.out.trans (hb.mono HB3q.out.size)
    have HBB4 : Hid (Blk V5 gb #[.int .i64 r.id, .int .i64 r.te, .int .i64 r.de, .int .i64 r.fe, .int .i64 r.pr, .int .i64 r.ch, .int .i64 r.un] 23) := HBB3.out.next hb
    have HXX4 : Hid (Blk V5 w.heap.size #[.int .i64 r.me, .int .i64 r.id, .int .i64 r.te, .int .i64 r.de, .int .i64 r.fe, .int .i64 r.pr, .int .i64 r.ch, .int .i64 r.un, .string KT] 25) := HXX3.out.next hb
    clear hb b4 HS4 HB3q HBB3 HXX3
    have lN : (numL r.me.toNat).length = 11 := hnl
    have lD1 : (Lib.decDigits r.id.toNat).length ≤ 7 := dec_small _ (by omega)
    have lD2 : (Lib.decDigits r.un.toNat).length ≤ 7 := dec_small _ (by omega)
    have lT1 : (cents.showT r.te).length ≤ 19 := show_len _ (by omega) (by omega)
    have lT2 : (cents.showT r.de).length ≤ 19 := show_len _ (by omega) (by omega)
    have lT3 : (cents.showT r.fe).length ≤ 19 := show_len _ (by omega) (by omega)
    have lT4 : (cents.showT r.pr).length ≤ 19 := show_len _ (by omega) (by omega)
    have lT5 : (cents.showT r.ch).length ≤ 19 := show_len _ (by omega) (by omega)
    have lE1 : ((r.tk.drop 0).take 4).length ≤ 4 := by rw [List.length_take]; omega
    have lE2 : ((r.tk.drop 4).take 4).length ≤ 4 := by rw [List.length_take]; omega
    have lE3 : ((r.tk.drop 8).take 4).length ≤ 4 := by rw [List.length_take]; omega
    have lE4 : ((r.tk.drop 12).take 4).length ≤ 4 := by rw [List.length_take]; omega
    have lE5 : ((r.tk.drop 16).take 4).length ≤ 4 := by rw [List.length_take]; omega
    have HFIN : Hid ((((((((((((((((((((((((((([77, 69, 84, 69, 82, 32] ++ (numL r.me.toNat)) ++ [10, 78, 85, 77, 66, 69, 82, 32]) ++ (Lib.decDigits r.id.toNat)) ++ [10, 84, 69, 78, 68, 69, 82, 32]) ++ (cents.showT r.te)) ++ [10, 68, 69, 66, 84, 32]) ++ (cents.showT r.de)) ++ [10, 70, 69, 69, 32]) ++ (cents.showT r.fe)) ++ [10, 80, 82, 73, 67, 69, 32]) ++ (cents.showT r.pr)) ++ [10, 67, 72, 65, 78, 71, 69, 32]) ++ (cents.showT r.ch)) ++ [10, 85, 78, 73, 84, 83, 32]) ++ (Lib.decDigits r.un.toNat)) ++ [10, 84, 79, 75, 69, 78, 32]) ++ ((r.tk.drop 0).take 4)) ++ [32]) ++ ((r.tk.drop 4).take 4)) ++ [32]) ++ ((r.tk.drop 8).take 4)) ++ [32]) ++ ((r.tk.drop 12).take 4)) ++ [32]) ++ ((r.tk.drop 16).take 4)) ++ [10]) = paper r) := by
      show _ = _
      unfold paper line four nMETER nNUMBER nTENDER nDEBT nFEE nPRICE nCHANGE nUNITS nTOKEN
      simp
    obtain ⟨ZL1, hzl1⟩ : ∃ x, [77, 69, 84, 69, 82, 32] ++ (numL r.me.toNat) = x := ⟨_, rfl⟩
    have q1 : (⟨([77, 69, 84, 69, 82, 32] : List UInt8).toArray⟩ : ByteArray) ++ ⟨(numL r.me.toNat).toArray⟩ = ⟨ZL1.toArray⟩ := by rw [cents.str_cat, hzl1]
    have y1 : ZL1.length ≤ 17 := by rw [← hzl1, List.length_append]; simp only [List.length_cons, List.length_nil]; omega
    have HQ1 : Hid ([77, 69, 84, 69, 82, 32] ++ (numL r.me.toNat) = ZL1) := hzl1
    clear hzl1
    obtain ⟨ZL2, hzl2⟩ : ∃ x, ZL1 ++ [10, 78, 85, 77, 66, 69, 82, 32] = x := ⟨_, rfl⟩
    have q2 : (⟨ZL1.toArray⟩ : ByteArray) ++ ⟨([10, 78, 85, 77, 66, 69, 82, 32] : List UInt8).toArray⟩ = ⟨ZL2.toArray⟩ := by rw [cents.str_cat, hzl2]
    have y2 : ZL2.length ≤ 25 := by rw [← hzl2, List.length_append]; simp only [List.length_cons, List.length_nil]; omega
    have HQ2 : Hid (ZL1 ++ [10, 78, 85, 77, 66, 69, 82, 32] = ZL2) := hzl2
    clear hzl2
    obtain ⟨ZL3, hzl3⟩ : ∃ x, ZL2 ++ (Lib.decDigits r.id.toNat) = x := ⟨_, rfl⟩
    have q3 : (⟨ZL2.toArray⟩ : ByteArray) ++ ⟨(Lib.decDigits r.id.toNat).toArray⟩ = ⟨ZL3.toArray⟩ := by rw [cents.str_cat, hzl3]
    have y3 : ZL3.length ≤ 32 := by rw [← hzl3, List.length_append]; omega
    have HQ3 : Hid (ZL2 ++ (Lib.decDigits r.id.toNat) = ZL3) := hzl3
    clear hzl3
    obtain ⟨ZL4, hzl4⟩ : ∃ x, ZL3 ++ [10, 84, 69, 78, 68, 69, 82, 32] = x := ⟨_, rfl⟩
    have q4 : (⟨ZL3.toArray⟩ : ByteArray) ++ ⟨([10, 84, 69, 78, 68, 69, 82, 32] : List UInt8).toArray⟩ = ⟨ZL4.toArray⟩ := by rw [cents.str_cat, hzl4]
    have y4 : ZL4.length ≤ 40 := by rw [← hzl4, List.length_append]; simp only [List.length_cons, List.length_nil]; omega
    have HQ4 : Hid (ZL3 ++ [10, 84, 69, 78, 68, 69, 82, 32] = ZL4) := hzl4
    clear hzl4
    obtain ⟨ZL5, hzl5⟩ : ∃ x, ZL4 ++ (cents.showT r.te) = x := ⟨_, rfl⟩
    have q5 : (⟨ZL4.toArray⟩ : ByteArray) ++ ⟨(cents.showT r.te).toArray⟩ = ⟨ZL5.toArray⟩ := by rw [cents.str_cat, hzl5]
    have y5 : ZL5.length ≤ 59 := by rw [← hzl5, List.length_append]; omega
    have HQ5 : Hid (ZL4 ++ (cents.showT r.te) = ZL5) := hzl5
    clear hzl5
    obtain ⟨ZL6, hzl6⟩ : ∃ x, ZL5 ++ [10, 68, 69, 66, 84, 32] = x := ⟨_, rfl⟩
    have q6 : (⟨ZL5.toArray⟩ : ByteArray) ++ ⟨([10, 68, 69, 66, 84, 32] : List UInt8).toArray⟩ = ⟨ZL6.toArray⟩ := by rw [cents.str_cat, hzl6]
    have y6 : ZL6.length ≤ 65 := by rw [← hzl6, List.length_append]; simp only [List.length_cons, List.length_nil]; omega
    have HQ6 : Hid (ZL5 ++ [10, 68, 69, 66, 84, 32] = ZL6) := hzl6
    clear hzl6
    obtain ⟨ZL7, hzl7⟩ : ∃ x, ZL6 ++ (cents.showT r.de) = x := ⟨_, rfl⟩
    have q7 : (⟨ZL6.toArray⟩ : ByteArray) ++ ⟨(cents.showT r.de).toArray⟩ = ⟨ZL7.toArray⟩ := by rw [cents.str_cat, hzl7]
    have y7 : ZL7.length ≤ 84 := by rw [← hzl7, List.length_append]; omega
    have HQ7 : Hid (ZL6 ++ (cents.showT r.de) = ZL7) := hzl7
    clear hzl7
    obtain ⟨ZL8, hzl8⟩ : ∃ x, ZL7 ++ [10, 70, 69, 69, 32] = x := ⟨_, rfl⟩
    have q8 : (⟨ZL7.toArray⟩ : ByteArray) ++ ⟨([10, 70, 69, 69, 32] : List UInt8).toArray⟩ = ⟨ZL8.toArray⟩ := by rw [cents.str_cat, hzl8]
    have y8 : ZL8.length ≤ 89 := by rw [← hzl8, List.length_append]; simp only [List.length_cons, List.length_nil]; omega
    have HQ8 : Hid (ZL7 ++ [10, 70, 69, 69, 32] = ZL8) := hzl8
    clear hzl8
    obtain ⟨ZL9, hzl9⟩ : ∃ x, ZL8 ++ (cents.showT r.fe) = x := ⟨_, rfl⟩
    have q9 : (⟨ZL8.toArray⟩ : ByteArray) ++ ⟨(cents.showT r.fe).toArray⟩ = ⟨ZL9.toArray⟩ := by rw [cents.str_cat, hzl9]
    have y9 : ZL9.length ≤ 108 := by rw [← hzl9, List.length_append]; omega
    have HQ9 : Hid (ZL8 ++ (cents.showT r.fe) = ZL9) := hzl9
    clear hzl9
    obtain ⟨ZL10, hzl10⟩ : ∃ x, ZL9 ++ [10, 80, 82, 73, 67, 69, 32] = x := ⟨_, rfl⟩
    have q10 : (⟨ZL9.toArray⟩ : ByteArray) ++ ⟨([10, 80, 82, 73, 67, 69, 32] : List UInt8).toArray⟩ = ⟨ZL10.toArray⟩ := by rw [cents.str_cat, hzl10]
    have y10 : ZL10.length ≤ 115 := by rw [← hzl10, List.length_append]; simp only [List.length_cons, List.length_nil]; omega
    have HQ10 : Hid (ZL9 ++ [10, 80, 82, 73, 67, 69, 32] = ZL10) := hzl10
    clear hzl10
    obtain ⟨ZL11, hzl11⟩ : ∃ x, ZL10 ++ (cents.showT r.pr) = x := ⟨_, rfl⟩
    have q11 : (⟨ZL10.toArray⟩ : ByteArray) ++ ⟨(cents.showT r.pr).toArray⟩ = ⟨ZL11.toArray⟩ := by rw [cents.str_cat, hzl11]
    have y11 : ZL11.length ≤ 134 := by rw [← hzl11, List.length_append]; omega
    have HQ11 : Hid (ZL10 ++ (cents.showT r.pr) = ZL11) := hzl11
    clear hzl11
    obtain ⟨ZL12, hzl12⟩ : ∃ x, ZL11 ++ [10, 67, 72, 65, 78, 71, 69, 32] = x := ⟨_, rfl⟩
    have q12 : (⟨ZL11.toArray⟩ : ByteArray) ++ ⟨([10, 67, 72, 65, 78, 71, 69, 32] : List UInt8).toArray⟩ = ⟨ZL12.toArray⟩ := by rw [cents.str_cat, hzl12]
    have y12 : ZL12.length ≤ 142 := by rw [← hzl12, List.length_append]; simp only [List.length_cons, List.length_nil]; omega
    have HQ12 : Hid (ZL11 ++ [10, 67, 72, 65, 78, 71, 69, 32] = ZL12) := hzl12
    clear hzl12
    obtain ⟨ZL13, hzl13⟩ : ∃ x, ZL12 ++ (cents.showT r.ch) = x := ⟨_, rfl⟩
    have q13 : (⟨ZL12.toArray⟩ : ByteArray) ++ ⟨(cents.showT r.ch).toArray⟩ = ⟨ZL13.toArray⟩ := by rw [cents.str_cat, hzl13]
    have y13 : ZL13.length ≤ 161 := by rw [← hzl13, List.length_append]; omega
    have HQ13 : Hid (ZL12 ++ (cents.showT r.ch) = ZL13) := hzl13
    clear hzl13
    obtain ⟨ZL14, hzl14⟩ : ∃ x, ZL13 ++ [10, 85, 78, 73, 84, 83, 32] = x := ⟨_, rfl⟩
    have q14 : (⟨ZL13.toArray⟩ : ByteArray) ++ ⟨([10, 85, 78, 73, 84, 83, 32] : List UInt8).toArray⟩ = ⟨ZL14.toArray⟩ := by rw [cents.str_cat, hzl14]
    have y14 : ZL14.length ≤ 168 := by rw [← hzl14, List.length_append]; simp only [List.length_cons, List.length_nil]; omega
    have HQ14 : Hid (ZL13 ++ [10, 85, 78, 73, 84, 83, 32] = ZL14) := hzl14
    clear hzl14
    obtain ⟨ZL15, hzl15⟩ : ∃ x, ZL14 ++ (Lib.decDigits r.un.toNat) = x := ⟨_, rfl⟩
    have q15 : (⟨ZL14.toArray⟩ : ByteArray) ++ ⟨(Lib.decDigits r.un.toNat).toArray⟩ = ⟨ZL15.toArray⟩ := by rw [cents.str_cat, hzl15]
    have y15 : ZL15.length ≤ 175 := by rw [← hzl15, List.length_append]; omega
    have HQ15 : Hid (ZL14 ++ (Lib.decDigits r.un.toNat) = ZL15) := hzl15
    clear hzl15
    obtain ⟨ZL16, hzl16⟩ : ∃ x, ZL15 ++ [10, 84, 79, 75, 69, 78, 32] = x := ⟨_, rfl⟩
    have q16 : (⟨ZL15.toArray⟩ : ByteArray) ++ ⟨([10, 84, 79, 75, 69, 78, 32] : List UInt8).toArray⟩ = ⟨ZL16.toArray⟩ := by rw [cents.str_cat, hzl16]
    have y16 : ZL16.length ≤ 182 := by rw [← hzl16, List.length_append]; simp only [List.length_cons, List.length_nil]; omega
    have HQ16 : Hid (ZL15 ++ [10, 84, 79, 75, 69, 78, 32] = ZL16) := hzl16
    clear hzl16
    obtain ⟨ZL17, hzl17⟩ : ∃ x, ZL16 ++ ((r.tk.drop 0).take 4) = x := ⟨_, rfl⟩
    have q17 : (⟨ZL16.toArray⟩ : ByteArray) ++ ⟨((r.tk.drop 0).take 4).toArray⟩ = ⟨ZL17.toArray⟩ := by rw [cents.str_cat, hzl17]
    have y17 : ZL17.length ≤ 186 := by rw [← hzl17, List.length_append]; omega
    have HQ17 : Hid (ZL16 ++ ((r.tk.drop 0).take 4) = ZL17) := hzl17
    clear hzl17
    obtain ⟨ZL18, hzl18⟩ : ∃ x, ZL17 ++ [32] = x := ⟨_, rfl⟩
    have q18 : (⟨ZL17.toArray⟩ : ByteArray) ++ ⟨([32] : List UInt8).toArray⟩ = ⟨ZL18.toArray⟩ := by rw [cents.str_cat, hzl18]
    have y18 : ZL18.length ≤ 187 := by rw [← hzl18, List.length_append]; simp only [List.length_cons, List.length_nil]; omega
    have HQ18 : Hid (ZL17 ++ [32] = ZL18) := hzl18
    clear hzl18
    obtain ⟨ZL19, hzl19⟩ : ∃ x, ZL18 ++ ((r.tk.drop 4).take 4) = x := ⟨_, rfl⟩
    have q19 : (⟨ZL18.toArray⟩ : ByteArray) ++ ⟨((r.tk.drop 4).take 4).toArray⟩ = ⟨ZL19.toArray⟩ := by rw [cents.str_cat, hzl19]
    have y19 : ZL19.length ≤ 191 := by rw [← hzl19, List.length_append]; omega
    have HQ19 : Hid (ZL18 ++ ((r.tk.drop 4).take 4) = ZL19) := hzl19
    clear hzl19
    obtain ⟨ZL20, hzl20⟩ : ∃ x, ZL19 ++ [32] = x := ⟨_, rfl⟩
    have q20 : (⟨ZL19.toArray⟩ : ByteArray) ++ ⟨([32] : List UInt8).toArray⟩ = ⟨ZL20.toArray⟩ := by rw [cents.str_cat, hzl20]
    have y20 : ZL20.length ≤ 192 := by rw [← hzl20, List.length_append]; simp only [List.length_cons, List.length_nil]; omega
    have HQ20 : Hid (ZL19 ++ [32] = ZL20) := hzl20
    clear hzl20
    obtain ⟨ZL21, hzl21⟩ : ∃ x, ZL20 ++ ((r.tk.drop 8).take 4) = x := ⟨_, rfl⟩
    have q21 : (⟨ZL20.toArray⟩ : ByteArray) ++ ⟨((r.tk.drop 8).take 4).toArray⟩ = ⟨ZL21.toArray⟩ := by rw [cents.str_cat, hzl21]
    have y21 : ZL21.length ≤ 196 := by rw [← hzl21, List.length_append]; omega
    have HQ21 : Hid (ZL20 ++ ((r.tk.drop 8).take 4) = ZL21) := hzl21
    clear hzl21
    obtain ⟨ZL22, hzl22⟩ : ∃ x, ZL21 ++ [32] = x := ⟨_, rfl⟩
    have q22 : (⟨ZL21.toArray⟩ : ByteArray) ++ ⟨([32] : List UInt8).toArray⟩ = ⟨ZL22.toArray⟩ := by rw [cents.str_cat, hzl22]
    have y22 : ZL22.length ≤ 197 := by rw [← hzl22, List.length_append]; simp only [List.length_cons, List.length_nil]; omega
    have HQ22 : Hid (ZL21 ++ [32] = ZL22) := hzl22
    clear hzl22
    obtain ⟨ZL23, hzl23⟩ : ∃ x, ZL22 ++ ((r.tk.drop 12).take 4) = x := ⟨_, rfl⟩
    have q23 : (⟨ZL22.toArray⟩ : ByteArray) ++ ⟨((r.tk.drop 12).take 4).toArray⟩ = ⟨ZL23.toArray⟩ := by rw [cents.str_cat, hzl23]
    have y23 : ZL23.length ≤ 201 := by rw [← hzl23, List.length_append]; omega
    have HQ23 : Hid (ZL22 ++ ((r.tk.drop 12).take 4) = ZL23) := hzl23
    clear hzl23
    obtain ⟨ZL24, hzl24⟩ : ∃ x, ZL23 ++ [32] = x := ⟨_, rfl⟩
    have q24 : (⟨ZL23.toArray⟩ : ByteArray) ++ ⟨([32] : List UInt8).toArray⟩ = ⟨ZL24.toArray⟩ := by rw [cents.str_cat, hzl24]
    have y24 : ZL24.length ≤ 202 := by rw [← hzl24, List.length_append]; simp only [List.length_cons, List.length_nil]; omega
    have HQ24 : Hid (ZL23 ++ [32] = ZL24) := hzl24
    clear hzl24
    obtain ⟨ZL25, hzl25⟩ : ∃ x, ZL24 ++ ((r.tk.drop 16).take 4) = x := ⟨_, rfl⟩
    have q25 : (⟨ZL24.toArray⟩ : ByteArray) ++ ⟨((r.tk.drop 16).take 4).toArray⟩ = ⟨ZL25.toArray⟩ := by rw [cents.str_cat, hzl25]
    have y25 : ZL25.length ≤ 206 := by rw [← hzl25, List.length_append]; omega
    have HQ25 : Hid (ZL24 ++ ((r.tk.drop 16).take 4) = ZL25) := hzl25
    clear hzl25
    obtain ⟨ZL26, hzl26⟩ : ∃ x, ZL25 ++ [10] = x := ⟨_, rfl⟩
    have q26 : (⟨ZL25.toArray⟩ : ByteArray) ++ ⟨([10] : List UInt8).toArray⟩ = ⟨ZL26.toArray⟩ := by rw [cents.str_cat, hzl26]
    have y26 : ZL26.length ≤ 207 := by rw [← hzl26, List.length_append]; simp only [List.length_cons, List.length_nil]; omega
    have HQ26 : Hid (ZL25 ++ [10] = ZL26) := hzl26
    clear hzl26
    have HLAST : Hid (ZL26 = paper r) := by
      show _ = _
      rw [← HFIN.out, HQ1.out, HQ2.out, HQ3.out, HQ4.out, HQ5.out, HQ6.out, HQ7.out, HQ8.out, HQ9.out, HQ10.out, HQ11.out, HQ12.out, HQ13.out, HQ14.out, HQ15.out, HQ16.out, HQ17.out, HQ18.out, HQ19.out, HQ20.out, HQ21.out, HQ22.out, HQ23.out, HQ24.out, HQ25.out, HQ26.out]
    obtain ⟨N, hN⟩ : ∃ x : ByteArray, (⟨(numL r.me.toNat).toArray⟩ : ByteArray) = x := ⟨_, rfl⟩
    have sN : N.size ≤ 11 := by rw [← hN, sz_tx]; omega
    obtain ⟨D1, hD1⟩ : ∃ x : ByteArray, (⟨(Lib.decDigits r.id.toNat).toArray⟩ : ByteArray) = x := ⟨_, rfl⟩
    have sD1 : D1.size ≤ 7 := by rw [← hD1, sz_tx]; omega
    obtain ⟨D2, hD2⟩ : ∃ x : ByteArray, (⟨(Lib.decDigits r.un.toNat).toArray⟩ : ByteArray) = x := ⟨_, rfl⟩
    have sD2 : D2.size ≤ 7 := by rw [← hD2, sz_tx]; omega
    obtain ⟨T1, hT1⟩ : ∃ x : ByteArray, (⟨(cents.showT r.te).toArray⟩ : ByteArray) = x := ⟨_, rfl⟩
    have sT1 : T1.size ≤ 19 := by rw [← hT1, sz_tx]; omega
    obtain ⟨T2, hT2⟩ : ∃ x : ByteArray, (⟨(cents.showT r.de).toArray⟩ : ByteArray) = x := ⟨_, rfl⟩
    have sT2 : T2.size ≤ 19 := by rw [← hT2, sz_tx]; omega
    obtain ⟨T3, hT3⟩ : ∃ x : ByteArray, (⟨(cents.showT r.fe).toArray⟩ : ByteArray) = x := ⟨_, rfl⟩
    have sT3 : T3.size ≤ 19 := by rw [← hT3, sz_tx]; omega
    obtain ⟨T4, hT4⟩ : ∃ x : ByteArray, (⟨(cents.showT r.pr).toArray⟩ : ByteArray) = x := ⟨_, rfl⟩
    have sT4 : T4.size ≤ 19 := by rw [← hT4, sz_tx]; omega
    obtain ⟨T5, hT5⟩ : ∃ x : ByteArray, (⟨(cents.showT r.ch).toArray⟩ : ByteArray) = x := ⟨_, rfl⟩
    have sT5 : T5.size ≤ 19 := by rw [← hT5, sz_tx]; omega
    obtain ⟨E1, hE1⟩ : ∃ x : ByteArray, (⟨((r.tk.drop 0).take 4).toArray⟩ : ByteArray) = x := ⟨_, rfl⟩
    have sE1 : E1.size ≤ 4 := by rw [← hE1, sz_tx]; omega
    have uE1 : KT.extract 0 4 = E1 := by rw [← hE1, ← HK.out, cut_tx]
    obtain ⟨E2, hE2⟩ : ∃ x : ByteArray, (⟨((r.tk.drop 4).take 4).toArray⟩ : ByteArray) = x := ⟨_, rfl⟩
    have sE2 : E2.size ≤ 4 := by rw [← hE2, sz_tx]; omega
    have uE2 : KT.extract 4 8 = E2 := by rw [← hE2, ← HK.out, cut_tx]
    obtain ⟨E3, hE3⟩ : ∃ x : ByteArray, (⟨((r.tk.drop 8).take 4).toArray⟩ : ByteArray) = x := ⟨_, rfl⟩
    have sE3 : E3.size ≤ 4 := by rw [← hE3, sz_tx]; omega
    have uE3 : KT.extract 8 12 = E3 := by rw [← hE3, ← HK.out, cut_tx]
    obtain ⟨E4, hE4⟩ : ∃ x : ByteArray, (⟨((r.tk.drop 12).take 4).toArray⟩ : ByteArray) = x := ⟨_, rfl⟩
    have sE4 : E4.size ≤ 4 := by rw [← hE4, sz_tx]; omega
    have uE4 : KT.extract 12 16 = E4 := by rw [← hE4, ← HK.out, cut_tx]
    obtain ⟨E5, hE5⟩ : ∃ x : ByteArray, (⟨((r.tk.drop 16).take 4).toArray⟩ : ByteArray) = x := ⟨_, rfl⟩
    have sE5 : E5.size ≤ 4 := by rw [← hE5, sz_tx]; omega
    have uE5 : KT.extract 16 20 = E5 := by rw [← hE5, ← HK.out, cut_tx]
    obtain ⟨Z1, hZ1⟩ : ∃ x : ByteArray, (⟨ZL1.toArray⟩ : ByteArray) = x := ⟨_, rfl⟩
    have sZ1 : Z1.size ≤ 17 := by rw [← hZ1, sz_tx]; omega
    rw [hZ1] at q1
    rw [hN] at q1
    rw [show (⟨([77, 69, 84, 69, 82, 32] : List UInt8).toArray⟩ : ByteArray) = ⟨#[77, 69, 84, 69, 82, 32]⟩ from rfl] at q1
    obtain ⟨Z2, hZ2⟩ : ∃ x : ByteArray, (⟨ZL2.toArray⟩ : ByteArray) = x := ⟨_, rfl⟩
    have sZ2 : Z2.size ≤ 25 := by rw [← hZ2, sz_tx]; omega
    rw [hZ2] at q2
    rw [hZ1] at q2
    rw [show (⟨([10, 78, 85, 77, 66, 69, 82, 32] : List UInt8).toArray⟩ : ByteArray) = ⟨#[10, 78, 85, 77, 66, 69, 82, 32]⟩ from rfl] at q2
    obtain ⟨Z3, hZ3⟩ : ∃ x : ByteArray, (⟨ZL3.toArray⟩ : ByteArray) = x := ⟨_, rfl⟩
    have sZ3 : Z3.size ≤ 32 := by rw [← hZ3, sz_tx]; omega
    rw [hZ3] at q3
    rw [hZ2] at q3
    rw [hD1] at q3
    obtain ⟨Z4, hZ4⟩ : ∃ x : ByteArray, (⟨ZL4.toArray⟩ : ByteArray) = x := ⟨_, rfl⟩
    have sZ4 : Z4.size ≤ 40 := by rw [← hZ4, sz_tx]; omega
    rw [hZ4] at q4
    rw [hZ3] at q4
    rw [show (⟨([10, 84, 69, 78, 68, 69, 82, 32] : List UInt8).toArray⟩ : ByteArray) = ⟨#[10, 84, 69, 78, 68, 69, 82, 32]⟩ from rfl] at q4
    obtain ⟨Z5, hZ5⟩ : ∃ x : ByteArray, (⟨ZL5.toArray⟩ : ByteArray) = x := ⟨_, rfl⟩
    have sZ5 : Z5.size ≤ 59 := by rw [← hZ5, sz_tx]; omega
    rw [hZ5] at q5
    rw [hZ4] at q5
    rw [hT1] at q5
    obtain ⟨Z6, hZ6⟩ : ∃ x : ByteArray, (⟨ZL6.toArray⟩ : ByteArray) = x := ⟨_, rfl⟩
    have sZ6 : Z6.size ≤ 65 := by rw [← hZ6, sz_tx]; omega
    rw [hZ6] at q6
    rw [hZ5] at q6
    rw [show (⟨([10, 68, 69, 66, 84, 32] : List UInt8).toArray⟩ : ByteArray) = ⟨#[10, 68, 69, 66, 84, 32]⟩ from rfl] at q6
    obtain ⟨Z7, hZ7⟩ : ∃ x : ByteArray, (⟨ZL7.toArray⟩ : ByteArray) = x := ⟨_, rfl⟩
    have sZ7 : Z7.size ≤ 84 := by rw [← hZ7, sz_tx]; omega
    rw [hZ7] at q7
    rw [hZ6] at q7
    rw [hT2] at q7
    obtain ⟨Z8, hZ8⟩ : ∃ x : ByteArray, (⟨ZL8.toArray⟩ : ByteArray) = x := ⟨_, rfl⟩
    have sZ8 : Z8.size ≤ 89 := by rw [← hZ8, sz_tx]; omega
    rw [hZ8] at q8
    rw [hZ7] at q8
    rw [show (⟨([10, 70, 69, 69, 32] : List UInt8).toArray⟩ : ByteArray) = ⟨#[10, 70, 69, 69, 32]⟩ from rfl] at q8
    obtain ⟨Z9, hZ9⟩ : ∃ x : ByteArray, (⟨ZL9.toArray⟩ : ByteArray) = x := ⟨_, rfl⟩
    have sZ9 : Z9.size ≤ 108 := by rw [← hZ9, sz_tx]; omega
    rw [hZ9] at q9
    rw [hZ8] at q9
    rw [hT3] at q9
    obtain ⟨Z10, hZ10⟩ : ∃ x : ByteArray, (⟨ZL10.toArray⟩ : ByteArray) = x := ⟨_, rfl⟩
    have sZ10 : Z10.size ≤ 115 := by rw [← hZ10, sz_tx]; omega
    rw [hZ10] at q10
    rw [hZ9] at q10
    rw [show (⟨([10, 80, 82, 73, 67, 69, 32] : List UInt8).toArray⟩ : ByteArray) = ⟨#[10, 80, 82, 73, 67, 69, 32]⟩ from rfl] at q10
    obtain ⟨Z11, hZ11⟩ : ∃ x : ByteArray, (⟨ZL11.toArray⟩ : ByteArray) = x := ⟨_, rfl⟩
    have sZ11 : Z11.size ≤ 134 := by rw [← hZ11, sz_tx]; omega
    rw [hZ11] at q11
    rw [hZ10] at q11
    rw [hT4] at q11
    obtain ⟨Z12, hZ12⟩ : ∃ x : ByteArray, (⟨ZL12.toArray⟩ : ByteArray) = x := ⟨_, rfl⟩
    have sZ12 : Z12.size ≤ 142 := by rw [← hZ12, sz_tx]; omega
    rw [hZ12] at q12
    rw [hZ11] at q12
    rw [show (⟨([10, 67, 72, 65, 78, 71, 69, 32] : List UInt8).toArray⟩ : ByteArray) = ⟨#[10, 67, 72, 65, 78, 71, 69, 32]⟩ from rfl] at q12
    obtain ⟨Z13, hZ13⟩ : ∃ x : ByteArray, (⟨ZL13.toArray⟩ : ByteArray) = x := ⟨_, rfl⟩
    have sZ13 : Z13.size ≤ 161 := by rw [← hZ13, sz_tx]; omega
    rw [hZ13] at q13
    rw [hZ12] at q13
    rw [hT5] at q13
    obtain ⟨Z14, hZ14⟩ : ∃ x : ByteArray, (⟨ZL14.toArray⟩ : ByteArray) = x := ⟨_, rfl⟩
    have sZ14 : Z14.size ≤ 168 := by rw [← hZ14, sz_tx]; omega
    rw [hZ14] at q14
    rw [hZ13] at q14
    rw [show (⟨([10, 85, 78, 73, 84, 83, 32] : List UInt8).toArray⟩ : ByteArray) = ⟨#[10, 85, 78, 73, 84, 83, 32]⟩ from rfl] at q14
    obtain ⟨Z15, hZ15⟩ : ∃ x : ByteArray, (⟨ZL15.toArray⟩ : ByteArray) = x := ⟨_, rfl⟩
    have sZ15 : Z15.size ≤ 175 := by rw [← hZ15, sz_tx]; omega
    rw [hZ15] at q15
    rw [hZ14] at q15
    rw [hD2] at q15
    obtain ⟨Z16, hZ16⟩ : ∃ x : ByteArray, (⟨ZL16.toArray⟩ : ByteArray) = x := ⟨_, rfl⟩
    have sZ16 : Z16.size ≤ 182 := by rw [← hZ16, sz_tx]; omega
    rw [hZ16] at q16
    rw [hZ15] at q16
    rw [show (⟨([10, 84, 79, 75, 69, 78, 32] : List UInt8).toArray⟩ : ByteArray) = ⟨#[10, 84, 79, 75, 69, 78, 32]⟩ from rfl] at q16
    obtain ⟨Z17, hZ17⟩ : ∃ x : ByteArray, (⟨ZL17.toArray⟩ : ByteArray) = x := ⟨_, rfl⟩
    have sZ17 : Z17.size ≤ 186 := by rw [← hZ17, sz_tx]; omega
    rw [hZ17] at q17
    rw [hZ16] at q17
    rw [hE1] at q17
    obtain ⟨Z18, hZ18⟩ : ∃ x : ByteArray, (⟨ZL18.toArray⟩ : ByteArray) = x := ⟨_, rfl⟩
    have sZ18 : Z18.size ≤ 187 := by rw [← hZ18, sz_tx]; omega
    rw [hZ18] at q18
    rw [hZ17] at q18
    rw [show (⟨([32] : List UInt8).toArray⟩ : ByteArray) = ⟨#[32]⟩ from rfl] at q18
    obtain ⟨Z19, hZ19⟩ : ∃ x : ByteArray, (⟨ZL19.toArray⟩ : ByteArray) = x := ⟨_, rfl⟩
    have sZ19 : Z19.size ≤ 191 := by rw [← hZ19, sz_tx]; omega
    rw [hZ19] at q19
    rw [hZ18] at q19
    rw [hE2] at q19
    obtain ⟨Z20, hZ20⟩ : ∃ x : ByteArray, (⟨ZL20.toArray⟩ : ByteArray) = x := ⟨_, rfl⟩
    have sZ20 : Z20.size ≤ 192 := by rw [← hZ20, sz_tx]; omega
    rw [hZ20] at q20
    rw [hZ19] at q20
    rw [show (⟨([32] : List UInt8).toArray⟩ : ByteArray) = ⟨#[32]⟩ from rfl] at q20
    obtain ⟨Z21, hZ21⟩ : ∃ x : ByteArray, (⟨ZL21.toArray⟩ : ByteArray) = x := ⟨_, rfl⟩
    have sZ21 : Z21.size ≤ 196 := by rw [← hZ21, sz_tx]; omega
    rw [hZ21] at q21
    rw [hZ20] at q21
    rw [hE3] at q21
    obtain ⟨Z22, hZ22⟩ : ∃ x : ByteArray, (⟨ZL22.toArray⟩ : ByteArray) = x := ⟨_, rfl⟩
    have sZ22 : Z22.size ≤ 197 := by rw [← hZ22, sz_tx]; omega
    rw [hZ22] at q22
    rw [hZ21] at q22
    rw [show (⟨([32] : List UInt8).toArray⟩ : ByteArray) = ⟨#[32]⟩ from rfl] at q22
    obtain ⟨Z23, hZ23⟩ : ∃ x : ByteArray, (⟨ZL23.toArray⟩ : ByteArray) = x := ⟨_, rfl⟩
    have sZ23 : Z23.size ≤ 201 := by rw [← hZ23, sz_tx]; omega
    rw [hZ23] at q23
    rw [hZ22] at q23
    rw [hE4] at q23
    obtain ⟨Z24, hZ24⟩ : ∃ x : ByteArray, (⟨ZL24.toArray⟩ : ByteArray) = x := ⟨_, rfl⟩
    have sZ24 : Z24.size ≤ 202 := by rw [← hZ24, sz_tx]; omega
    rw [hZ24] at q24
    rw [hZ23] at q24
    rw [show (⟨([32] : List UInt8).toArray⟩ : ByteArray) = ⟨#[32]⟩ from rfl] at q24
    obtain ⟨Z25, hZ25⟩ : ∃ x : ByteArray, (⟨ZL25.toArray⟩ : ByteArray) = x := ⟨_, rfl⟩
    have sZ25 : Z25.size ≤ 206 := by rw [← hZ25, sz_tx]; omega
    rw [hZ25] at q25
    rw [hZ24] at q25
    rw [hE5] at q25
    obtain ⟨Z26, hZ26⟩ : ∃ x : ByteArray, (⟨ZL26.toArray⟩ : ByteArray) = x := ⟨_, rfl⟩
    have sZ26 : Z26.size ≤ 207 := by rw [← hZ26, sz_tx]; omega
    rw [hZ26] at q26
    rw [hZ25] at q26
    rw [show (⟨([10] : List UInt8).toArray⟩ : ByteArray) = ⟨#[10]⟩ from rfl] at q26
    have hKs : KT.size = 20 := by rw [← HK.out, sz_tx]; exact hkl
    have HEND : Hid (Z26 = ⟨(paper r).toArray⟩) := by show _ = _; rw [← hZ26, HLAST.out]
    skip
    have HD1 : Hid (∀ W, Calls Tryz.prog 16 #[.int .i64 r.id] W fun e w' => e = .returned (.string D1) ∧ Below W.heap.size W w') := fun W => by have h := cents.dec_any r.id.toNat r.id W (by omega) (by omega) (by omega); rw [hD1] at h; exact h
    have HD2 : Hid (∀ W, Calls Tryz.prog 16 #[.int .i64 r.un] W fun e w' => e = .returned (.string D2) ∧ Below W.heap.size W w') := fun W => by have h := cents.dec_any r.un.toNat r.un W (by omega) (by omega) (by omega); rw [hD2] at h; exact h
    have xk : V5.cell? ⟨w.heap.size, 8, none⟩ = some (.string KT) := HXX4.out.cell 8
    simp only [hN, hT1, hT2, hT3, hT4, hT5]
    clear HFIN HLAST HK hkl hnl lN lD1 lD2 lT1 lT2 lT3 lT4 lT5 lE1 lE2 lE3 lE4 lE5 hN hD1 hD2 hT1 hT2 hT3 hT4 hT5 hE1 hE2 hE3 hE4 hE5 y1 HQ1 hZ1 y2 HQ2 hZ2 y3 HQ3 hZ3 y4 HQ4 hZ4 y5 HQ5 hZ5 y6 HQ6 hZ6 y7 HQ7 hZ7 y8 HQ8 hZ8 y9 HQ9 hZ9 y10 HQ10 hZ10 y11 HQ11 hZ11 y12 HQ12 hZ12 y13 HQ13 hZ13 y14 HQ14 hZ14 y15 HQ15 hZ15 y16 HQ16 hZ16 y17 HQ17 hZ17 y18 HQ18 hZ18 y19 HQ19 hZ19 y20 HQ20 hZ20 y21 HQ21 hZ21 y22 HQ22 hZ22 y23 HQ23 hZ23 y24 HQ24 hZ24 y25 HQ25 hZ25 y26 HQ26 hZ26
    have p1 : ¬ (9223372036854775807 < 6 + N.size) := by omega
    have pp1 : ¬ (9223372036854775807 < ByteArray.size ⟨#[77, 69, 84, 69, 82, 32]⟩ + N.size) := by have e0 : ByteArray.size ⟨#[77, 69, 84, 69, 82, 32]⟩ = 6 := rfl; omega
    have p2 : ¬ (9223372036854775807 < Z1.size + 8) := by omega
    have pp2 : ¬ (9223372036854775807 < Z1.size + ByteArray.size ⟨#[10, 78, 85, 77, 66, 69, 82, 32]⟩) := by have e0 : ByteArray.size ⟨#[10, 78, 85, 77, 66, 69, 82, 32]⟩ = 8 := rfl; omega
    have p3 : ¬ (9223372036854775807 < Z2.size + D1.size) := by omega
    have p4 : ¬ (9223372036854775807 < Z3.size + 8) := by omega
    have pp4 : ¬ (9223372036854775807 < Z3.size + ByteArray.size ⟨#[10, 84, 69, 78, 68, 69, 82, 32]⟩) := by have e0 : ByteArray.size ⟨#[10, 84, 69, 78, 68, 69, 82, 32]⟩ = 8 := rfl; omega
    have p5 : ¬ (9223372036854775807 < Z4.size + T1.size) := by omega
    have p6 : ¬ (9223372036854775807 < Z5.size + 6) := by omega
    have pp6 : ¬ (9223372036854775807 < Z5.size + ByteArray.size ⟨#[10, 68, 69, 66, 84, 32]⟩) := by have e0 : ByteArray.size ⟨#[10, 68, 69, 66, 84, 32]⟩ = 6 := rfl; omega
    have p7 : ¬ (9223372036854775807 < Z6.size + T2.size) := by omega
    have p8 : ¬ (9223372036854775807 < Z7.size + 5) := by omega
    have pp8 : ¬ (9223372036854775807 < Z7.size + ByteArray.size ⟨#[10, 70, 69, 69, 32]⟩) := by have e0 : ByteArray.size ⟨#[10, 70, 69, 69, 32]⟩ = 5 := rfl; omega
    have p9 : ¬ (9223372036854775807 < Z8.size + T3.size) := by omega
    have p10 : ¬ (9223372036854775807 < Z9.size + 7) := by omega
    have pp10 : ¬ (9223372036854775807 < Z9.size + ByteArray.size ⟨#[10, 80, 82, 73, 67, 69, 32]⟩) := by have e0 : ByteArray.size ⟨#[10, 80, 82, 73, 67, 69, 32]⟩ = 7 := rfl; omega
    have p11 : ¬ (9223372036854775807 < Z10.size + T4.size) := by omega
    have p12 : ¬ (9223372036854775807 < Z11.size + 8) := by omega
    have pp12 : ¬ (9223372036854775807 < Z11.size + ByteArray.size ⟨#[10, 67, 72, 65, 78, 71, 69, 32]⟩) := by have e0 : ByteArray.size ⟨#[10, 67, 72, 65, 78, 71, 69, 32]⟩ = 8 := rfl; omega
    have p13 : ¬ (9223372036854775807 < Z12.size + T5.size) := by omega
    have p14 : ¬ (9223372036854775807 < Z13.size + 7) := by omega
    have pp14 : ¬ (9223372036854775807 < Z13.size + ByteArray.size ⟨#[10, 85, 78, 73, 84, 83, 32]⟩) := by have e0 : ByteArray.size ⟨#[10, 85, 78, 73, 84, 83, 32]⟩ = 7 := rfl; omega
    have p15 : ¬ (9223372036854775807 < Z14.size + D2.size) := by omega
    have p16 : ¬ (9223372036854775807 < Z15.size + 7) := by omega
    have pp16 : ¬ (9223372036854775807 < Z15.size + ByteArray.size ⟨#[10, 84, 79, 75, 69, 78, 32]⟩) := by have e0 : ByteArray.size ⟨#[10, 84, 79, 75, 69, 78, 32]⟩ = 7 := rfl; omega
    have p17 : ¬ (9223372036854775807 < Z16.size + E1.size) := by omega
    have p18 : ¬ (9223372036854775807 < Z17.size + 1) := by omega
    have pp18 : ¬ (9223372036854775807 < Z17.size + ByteArray.size ⟨#[32]⟩) := by have e0 : ByteArray.size ⟨#[32]⟩ = 1 := rfl; omega
    have p19 : ¬ (9223372036854775807 < Z18.size + E2.size) := by omega
    have p20 : ¬ (9223372036854775807 < Z19.size + 1) := by omega
    have pp20 : ¬ (9223372036854775807 < Z19.size + ByteArray.size ⟨#[32]⟩) := by have e0 : ByteArray.size ⟨#[32]⟩ = 1 := rfl; omega
    have p21 : ¬ (9223372036854775807 < Z20.size + E3.size) := by omega
    have p22 : ¬ (9223372036854775807 < Z21.size + 1) := by omega
    have pp22 : ¬ (9223372036854775807 < Z21.size + ByteArray.size ⟨#[32]⟩) := by have e0 : ByteArray.size ⟨#[32]⟩ = 1 := rfl; omega
    have p23 : ¬ (9223372036854775807 < Z22.size + E4.size) := by omega
    have p24 : ¬ (9223372036854775807 < Z23.size + 1) := by omega
    have pp24 : ¬ (9223372036854775807 < Z23.size + ByteArray.size ⟨#[32]⟩) := by have e0 : ByteArray.size ⟨#[32]⟩ = 1 := rfl; omega
    have p25 : ¬ (9223372036854775807 < Z24.size + E5.size) := by omega
    have p26 : ¬ (9223372036854775807 < Z25.size + 1) := by omega
    have pp26 : ¬ (9223372036854775807 < Z25.size + ByteArray.size ⟨#[10]⟩) := by have e0 : ByteArray.size ⟨#[10]⟩ = 1 := rfl; omega
    go_wp2_with fail
    refine wp_region_held_drew (S := fun v => Blk v gb #[.int .i64 r.id, .int .i64 r.te, .int .i64 r.de, .int .i64 r.fe, .int .i64 r.pr, .int .i64 r.ch, .int .i64 r.un] 23) (by kernel_rfl) (Blk.drew HBB4.out 1) (fun hHeld => ?_)
    refine take_at 0 65 (.string N) _ rfl rfl (by kernel_rfl) (by kernel_rfl) (by kernel_rfl) (fun _ _ _ h => h) (Or.inl ⟨by rfl, fun v hv => by skip; clear hv; go_simp⟩) hHeld ?_
    simp only [Act.put, List.setIfInBounds_toArray, List.set_cons_zero, List.set_cons_succ]
    refine take_at 1 66 (.string Z1) _ rfl rfl (by kernel_rfl) (by kernel_rfl) (by kernel_rfl) (fun _ _ _ h => h) (Or.inl ⟨by rfl, fun v hv => by skip; clear hv; go_simp⟩) hHeld ?_
    simp only [Act.put, List.setIfInBounds_toArray, List.set_cons_zero, List.set_cons_succ]
    refine take_at 2 67 (.string Z2) _ rfl rfl (by kernel_rfl) (by kernel_rfl) (by kernel_rfl) (fun _ _ _ h => h) (Or.inl ⟨by rfl, fun v hv => by skip; clear hv; go_simp⟩) hHeld ?_
    simp only [Act.put, List.setIfInBounds_toArray, List.set_cons_zero, List.set_cons_succ]
    refine take_at 3 68 (.pointer (some ⟨gb, 0, none⟩)) _ rfl rfl (by kernel_rfl) (by kernel_rfl) (by kernel_rfl) (fun _ _ _ h => h) (Or.inl ⟨by rfl, fun v hv => by skip; clear hv; go_simp⟩) hHeld ?_
    simp only [Act.put, List.setIfInBounds_toArray, List.set_cons_zero, List.set_cons_succ]
    refine take_at 4 69 (.int .i64 r.id) _ rfl rfl (by kernel_rfl) (by kernel_rfl) (by kernel_rfl) (fun _ _ _ h => h) (Or.inl ⟨by rfl, fun v hv => by have h2 := hv.cell 0; simp at h2; clear hv; go_simp⟩) hHeld ?_
    simp only [Act.put, List.setIfInBounds_toArray, List.set_cons_zero, List.set_cons_succ]
    refine take_at 8 73 (.string T1) _ rfl rfl (by kernel_rfl) (by kernel_rfl) (by kernel_rfl) (fun _ _ _ h => h) (Or.inl ⟨by rfl, fun v hv => by skip; clear hv; go_simp⟩) hHeld ?_
    simp only [Act.put, List.setIfInBounds_toArray, List.set_cons_zero, List.set_cons_succ]
    refine take_at 11 76 (.string T2) _ rfl rfl (by kernel_rfl) (by kernel_rfl) (by kernel_rfl) (fun _ _ _ h => h) (Or.inl ⟨by rfl, fun v hv => by skip; clear hv; go_simp⟩) hHeld ?_
    simp only [Act.put, List.setIfInBounds_toArray, List.set_cons_zero, List.set_cons_succ]
    refine take_at 14 79 (.string T3) _ rfl rfl (by kernel_rfl) (by kernel_rfl) (by kernel_rfl) (fun _ _ _ h => h) (Or.inl ⟨by rfl, fun v hv => by skip; clear hv; go_simp⟩) hHeld ?_
    simp only [Act.put, List.setIfInBounds_toArray, List.set_cons_zero, List.set_cons_succ]
    refine take_at 17 82 (.string T4) _ rfl rfl (by kernel_rfl) (by kernel_rfl) (by kernel_rfl) (fun _ _ _ h => h) (Or.inl ⟨by rfl, fun v hv => by skip; clear hv; go_simp⟩) hHeld ?_
    simp only [Act.put, List.setIfInBounds_toArray, List.set_cons_zero, List.set_cons_succ]
    refine take_at 20 85 (.string T5) _ rfl rfl (by kernel_rfl) (by kernel_rfl) (by kernel_rfl) (fun _ _ _ h => h) (Or.inl ⟨by rfl, fun v hv => by skip; clear hv; go_simp⟩) hHeld ?_
    simp only [Act.put, List.setIfInBounds_toArray, List.set_cons_zero, List.set_cons_succ]
    refine take_at 23 88 (.pointer (some ⟨gb, 6, none⟩)) _ rfl rfl (by kernel_rfl) (by kernel_rfl) (by kernel_rfl) (fun _ _ _ h => h) (Or.inl ⟨by rfl, fun v hv => by skip; clear hv; go_simp⟩) hHeld ?_
    simp only [Act.put, List.setIfInBounds_toArray, List.set_cons_zero, List.set_cons_succ]
    refine take_at 24 89 (.int .i64 r.un) _ rfl rfl (by kernel_rfl) (by kernel_rfl) (by kernel_rfl) (fun _ _ _ h => h) (Or.inl ⟨by rfl, fun v hv => by have h2 := hv.cell 6; simp at h2; clear hv; go_simp⟩) hHeld ?_
    simp only [Act.put, List.setIfInBounds_toArray, List.set_cons_zero, List.set_cons_succ]
    have HBd : Hid (Below w.heap.size w V5.drew) := HB4q.out.drew
    have HKd : Hid (Blk V5.drew gb #[.int .i64 r.id, .int .i64 r.te, .int .i64 r.de, .int .i64 r.fe, .int .i64 r.pr, .int .i64 r.ch, .int .i64 r.un] 23) := Blk.drew HBB4.out 1
    generalize V5.drew = U0 at *
    refine wpAnyH_ready (rs := [5]) (by kernel_rfl) (by simp) (AllReadyH.cons rfl (fun K hK => ?_) AllReadyH.nil)
    rw [if_pos (by rfl)]
    refine wp_callOp 70 rfl (by clear hK; go_simp) (HD1.out _) ?_
    rintro e U1 ⟨rfl, hb⟩
    have HU1B : Hid (Below w.heap.size w U1) := HBd.out.trans (hb.mono HBd.out.size)
    have HU1K : Hid (Blk U1 gb #[.int .i64 r.id, .int .i64 r.te, .int .i64 r.de, .int .i64 r.fe, .int .i64 r.pr, .int .i64 r.ch, .int .i64 r.un] 23) := HKd.out.next hb
    refine ⟨_, rfl, hK.out _ _ HU1K.out (fun hHeld => ?_)⟩
    clear hK hb
    simp only [Act.put, List.setIfInBounds_toArray, List.set_cons_zero, List.set_cons_succ]
    refine take_at 6 71 (.string Z3) _ rfl rfl (by kernel_rfl) (by kernel_rfl) (by kernel_rfl) (fun _ _ _ h => h) (Or.inl ⟨by rfl, fun v hv => by skip; clear hv; go_simp⟩) hHeld ?_
    simp only [Act.put, List.setIfInBounds_toArray, List.set_cons_zero, List.set_cons_succ]
    refine take_at 7 72 (.string Z4) _ rfl rfl (by kernel_rfl) (by kernel_rfl) (by kernel_rfl) (fun _ _ _ h => h) (Or.inl ⟨by rfl, fun v hv => by skip; clear hv; go_simp⟩) hHeld ?_
    simp only [Act.put, List.setIfInBounds_toArray, List.set_cons_zero, List.set_cons_succ]
    refine take_at 9 74 (.string Z5) _ rfl rfl (by kernel_rfl) (by kernel_rfl) (by kernel_rfl) (fun _ _ _ h => h) (Or.inl ⟨by rfl, fun v hv => by skip; clear hv; go_simp⟩) hHeld ?_
    simp only [Act.put, List.setIfInBounds_toArray, List.set_cons_zero, List.set_cons_succ]
    refine take_at 10 75 (.string Z6) _ rfl rfl (by kernel_rfl) (by kernel_rfl) (by kernel_rfl) (fun _ _ _ h => h) (Or.inl ⟨by rfl, fun v hv => by skip; clear hv; go_simp⟩) hHeld ?_
    simp only [Act.put, List.setIfInBounds_toArray, List.set_cons_zero, List.set_cons_succ]
    refine take_at 12 77 (.string Z7) _ rfl rfl (by kernel_rfl) (by kernel_rfl) (by kernel_rfl) (fun _ _ _ h => h) (Or.inl ⟨by rfl, fun v hv => by skip; clear hv; go_simp⟩) hHeld ?_
    simp only [Act.put, List.setIfInBounds_toArray, List.set_cons_zero, List.set_cons_succ]
    refine take_at 13 78 (.string Z8) _ rfl rfl (by kernel_rfl) (by kernel_rfl) (by kernel_rfl) (fun _ _ _ h => h) (Or.inl ⟨by rfl, fun v hv => by skip; clear hv; go_simp⟩) hHeld ?_
    simp only [Act.put, List.setIfInBounds_toArray, List.set_cons_zero, List.set_cons_succ]
    refine take_at 15 80 (.string Z9) _ rfl rfl (by kernel_rfl) (by kernel_rfl) (by kernel_rfl) (fun _ _ _ h => h) (Or.inl ⟨by rfl, fun v hv => by skip; clear hv; go_simp⟩) hHeld ?_
    simp only [Act.put, List.setIfInBounds_toArray, List.set_cons_zero, List.set_cons_succ]
    refine take_at 16 81 (.string Z10) _ rfl rfl (by kernel_rfl) (by kernel_rfl) (by kernel_rfl) (fun _ _ _ h => h) (Or.inl ⟨by rfl, fun v hv => by skip; clear hv; go_simp⟩) hHeld ?_
    simp only [Act.put, List.setIfInBounds_toArray, List.set_cons_zero, List.set_cons_succ]
    refine take_at 18 83 (.string Z11) _ rfl rfl (by kernel_rfl) (by kernel_rfl) (by kernel_rfl) (fun _ _ _ h => h) (Or.inl ⟨by rfl, fun v hv => by skip; clear hv; go_simp⟩) hHeld ?_
    simp only [Act.put, List.setIfInBounds_toArray, List.set_cons_zero, List.set_cons_succ]
    refine take_at 19 84 (.string Z12) _ rfl rfl (by kernel_rfl) (by kernel_rfl) (by kernel_rfl) (fun _ _ _ h => h) (Or.inl ⟨by rfl, fun v hv => by skip; clear hv; go_simp⟩) hHeld ?_
    simp only [Act.put, List.setIfInBounds_toArray, List.set_cons_zero, List.set_cons_succ]
    refine take_at 21 86 (.string Z13) _ rfl rfl (by kernel_rfl) (by kernel_rfl) (by kernel_rfl) (fun _ _ _ h => h) (Or.inl ⟨by rfl, fun v hv => by skip; clear hv; go_simp⟩) hHeld ?_
    simp only [Act.put, List.setIfInBounds_toArray, List.set_cons_zero, List.set_cons_succ]
    refine take_at 22 87 (.string Z14) _ rfl rfl (by kernel_rfl) (by kernel_rfl) (by kernel_rfl) (fun _ _ _ h => h) (Or.inl ⟨by rfl, fun v hv => by skip; clear hv; go_simp⟩) hHeld ?_
    simp only [Act.put, List.setIfInBounds_toArray, List.set_cons_zero, List.set_cons_succ]
    refine wpAnyH_ready (rs := [25]) (by kernel_rfl) (by simp) (AllReadyH.cons rfl (fun K hK => ?_) AllReadyH.nil)
    rw [if_pos (by rfl)]
    refine wp_callOp 90 rfl (by clear hK; go_simp) (HD2.out _) ?_
    rintro e U2 ⟨rfl, hb⟩
    have HU2B : Hid (Below w.heap.size w U2) := HU1B.out.trans (hb.mono HU1B.out.size)
    have HU2K : Hid (Blk U2 gb #[.int .i64 r.id, .int .i64 r.te, .int .i64 r.de, .int .i64 r.fe, .int .i64 r.pr, .int .i64 r.ch, .int .i64 r.un] 23) := HU1K.out.next hb
    refine ⟨_, rfl, hK.out _ _ HU2K.out (fun hHeld => ?_)⟩
    clear hK hb
    simp only [Act.put, List.setIfInBounds_toArray, List.set_cons_zero, List.set_cons_succ]
    refine take_at 26 91 (.string Z15) _ rfl rfl (by kernel_rfl) (by kernel_rfl) (by kernel_rfl) (fun _ _ _ h => h) (Or.inl ⟨by rfl, fun v hv => by skip; clear hv; go_simp⟩) hHeld ?_
    simp only [Act.put, List.setIfInBounds_toArray, List.set_cons_zero, List.set_cons_succ]
    refine take_at 27 19 (.string Z15) _ rfl rfl (by kernel_rfl) (by kernel_rfl) (by kernel_rfl) (fun _ _ _ h => h) (Or.inl ⟨by rfl, fun v hv => by skip; clear hv; go_simp⟩) hHeld ?_
    simp only [Act.put, List.setIfInBounds_toArray, List.set_cons_zero, List.set_cons_succ]
    refine wpAnyH_done (by kernel_rfl) ?_ _
    clear hHeld HU1B HU1K HBd HKd HU2K HD1 HD2
    go_wp2_with fail
    refine wp_region_held_drew (S := fun v => True) (by kernel_rfl) trivial (fun hHeld => ?_)
    have HB9 : Hid (Below w.heap.size w U2.drew) := HU2B.out.drew
    generalize U2.drew = U3 at *
    refine take_at 0 92 (.string Z15) _ rfl rfl (by kernel_rfl) (by kernel_rfl) (by kernel_rfl) (fun _ _ _ h => h) (Or.inl ⟨by rfl, fun v hv => by skip; clear hv; go_simp⟩) hHeld ?_
    simp only [Act.put, List.setIfInBounds_toArray, List.set_cons_zero, List.set_cons_succ]
    refine take_at 1 93 (.string Z16) _ rfl rfl (by kernel_rfl) (by kernel_rfl) (by kernel_rfl) (fun _ _ _ h => h) (Or.inl ⟨by rfl, fun v hv => by skip; clear hv; go_simp⟩) hHeld ?_
    simp only [Act.put, List.setIfInBounds_toArray, List.set_cons_zero, List.set_cons_succ]
    refine take_at 2 94 (.string KT) _ rfl rfl (by kernel_rfl) (by kernel_rfl) (by kernel_rfl) (fun _ _ _ h => h) (Or.inl ⟨by rfl, fun v hv => by skip; clear hv; go_simp⟩) hHeld ?_
    simp only [Act.put, List.setIfInBounds_toArray, List.set_cons_zero, List.set_cons_succ]
    refine take_at 3 95 (.string E1) _ rfl rfl (by kernel_rfl) (by kernel_rfl) (by kernel_rfl) (fun _ _ _ h => h) (Or.inl ⟨by rfl, fun v hv => by skip; clear hv; go_simp⟩) hHeld ?_
    simp only [Act.put, List.setIfInBounds_toArray, List.set_cons_zero, List.set_cons_succ]
    refine take_at 4 96 (.string Z17) _ rfl rfl (by kernel_rfl) (by kernel_rfl) (by kernel_rfl) (fun _ _ _ h => h) (Or.inl ⟨by rfl, fun v hv => by skip; clear hv; go_simp⟩) hHeld ?_
    simp only [Act.put, List.setIfInBounds_toArray, List.set_cons_zero, List.set_cons_succ]
    refine take_at 5 97 (.string Z18) _ rfl rfl (by kernel_rfl) (by kernel_rfl) (by kernel_rfl) (fun _ _ _ h => h) (Or.inl ⟨by rfl, fun v hv => by skip; clear hv; go_simp⟩) hHeld ?_
    simp only [Act.put, List.setIfInBounds_toArray, List.set_cons_zero, List.set_cons_succ]
    refine take_at 6 98 (.string KT) _ rfl rfl (by kernel_rfl) (by kernel_rfl) (by kernel_rfl) (fun _ _ _ h => h) (Or.inl ⟨by rfl, fun v hv => by skip; clear hv; go_simp⟩) hHeld ?_
    simp only [Act.put, List.setIfInBounds_toArray, List.set_cons_zero, List.set_cons_succ]
    refine take_at 7 99 (.string E2) _ rfl rfl (by kernel_rfl) (by kernel_rfl) (by kernel_rfl) (fun _ _ _ h => h) (Or.inl ⟨by rfl, fun v hv => by skip; clear hv; go_simp⟩) hHeld ?_
    simp only [Act.put, List.setIfInBounds_toArray, List.set_cons_zero, List.set_cons_succ]
    refine take_at 8 100 (.string Z19) _ rfl rfl (by kernel_rfl) (by kernel_rfl) (by kernel_rfl) (fun _ _ _ h => h) (Or.inl ⟨by rfl, fun v hv => by skip; clear hv; go_simp⟩) hHeld ?_
    simp only [Act.put, List.setIfInBounds_toArray, List.set_cons_zero, List.set_cons_succ]
    refine take_at 9 101 (.string Z20) _ rfl rfl (by kernel_rfl) (by kernel_rfl) (by kernel_rfl) (fun _ _ _ h => h) (Or.inl ⟨by rfl, fun v hv => by skip; clear hv; go_simp⟩) hHeld ?_
    simp only [Act.put, List.setIfInBounds_toArray, List.set_cons_zero, List.set_cons_succ]
    refine take_at 10 102 (.string KT) _ rfl rfl (by kernel_rfl) (by kernel_rfl) (by kernel_rfl) (fun _ _ _ h => h) (Or.inl ⟨by rfl, fun v hv => by skip; clear hv; go_simp⟩) hHeld ?_
    simp only [Act.put, List.setIfInBounds_toArray, List.set_cons_zero, List.set_cons_succ]
    refine take_at 11 103 (.string E3) _ rfl rfl (by kernel_rfl) (by kernel_rfl) (by kernel_rfl) (fun _ _ _ h => h) (Or.inl ⟨by rfl, fun v hv => by skip; clear hv; go_simp⟩) hHeld ?_
    simp only [Act.put, List.setIfInBounds_toArray, List.set_cons_zero, List.set_cons_succ]
    refine take_at 12 104 (.string Z21) _ rfl rfl (by kernel_rfl) (by kernel_rfl) (by kernel_rfl) (fun _ _ _ h => h) (Or.inl ⟨by rfl, fun v hv => by skip; clear hv; go_simp⟩) hHeld ?_
    simp only [Act.put, List.setIfInBounds_toArray, List.set_cons_zero, List.set_cons_succ]
    refine take_at 13 105 (.string Z22) _ rfl rfl (by kernel_rfl) (by kernel_rfl) (by kernel_rfl) (fun _ _ _ h => h) (Or.inl ⟨by rfl, fun v hv => by skip; clear hv; go_simp⟩) hHeld ?_
    simp only [Act.put, List.setIfInBounds_toArray, List.set_cons_zero, List.set_cons_succ]
    refine take_at 14 106 (.string KT) _ rfl rfl (by kernel_rfl) (by kernel_rfl) (by kernel_rfl) (fun _ _ _ h => h) (Or.inl ⟨by rfl, fun v hv => by skip; clear hv; go_simp⟩) hHeld ?_
    simp only [Act.put, List.setIfInBounds_toArray, List.set_cons_zero, List.set_cons_succ]
    refine take_at 15 107 (.string E4) _ rfl rfl (by kernel_rfl) (by kernel_rfl) (by kernel_rfl) (fun _ _ _ h => h) (Or.inl ⟨by rfl, fun v hv => by skip; clear hv; go_simp⟩) hHeld ?_
    simp only [Act.put, List.setIfInBounds_toArray, List.set_cons_zero, List.set_cons_succ]
    refine take_at 16 108 (.string Z23) _ rfl rfl (by kernel_rfl) (by kernel_rfl) (by kernel_rfl) (fun _ _ _ h => h) (Or.inl ⟨by rfl, fun v hv => by skip; clear hv; go_simp⟩) hHeld ?_
    simp only [Act.put, List.setIfInBounds_toArray, List.set_cons_zero, List.set_cons_succ]
    refine take_at 17 109 (.string Z24) _ rfl rfl (by kernel_rfl) (by kernel_rfl) (by kernel_rfl) (fun _ _ _ h => h) (Or.inl ⟨by rfl, fun v hv => by skip; clear hv; go_simp⟩) hHeld ?_
    simp only [Act.put, List.setIfInBounds_toArray, List.set_cons_zero, List.set_cons_succ]
    refine take_at 18 110 (.string KT) _ rfl rfl (by kernel_rfl) (by kernel_rfl) (by kernel_rfl) (fun _ _ _ h => h) (Or.inl ⟨by rfl, fun v hv => by skip; clear hv; go_simp⟩) hHeld ?_
    simp only [Act.put, List.setIfInBounds_toArray, List.set_cons_zero, List.set_cons_succ]
    refine take_at 19 111 (.string E5) _ rfl rfl (by kernel_rfl) (by kernel_rfl) (by kernel_rfl) (fun _ _ _ h => h) (Or.inl ⟨by rfl, fun v hv => by skip; clear hv; go_simp⟩) hHeld ?_
    simp only [Act.put, List.setIfInBounds_toArray, List.set_cons_zero, List.set_cons_succ]
    refine take_at 20 112 (.string Z25) _ rfl rfl (by kernel_rfl) (by kernel_rfl) (by kernel_rfl) (fun _ _ _ h => h) (Or.inl ⟨by rfl, fun v hv => by skip; clear hv; go_simp⟩) hHeld ?_
    simp only [Act.put, List.setIfInBounds_toArray, List.set_cons_zero, List.set_cons_succ]
    refine take_at 21 113 (.string Z26) _ rfl rfl (by kernel_rfl) (by kernel_rfl) (by kernel_rfl) (fun _ _ _ h => h) (Or.inl ⟨by rfl, fun v hv => by skip; clear hv; go_simp⟩) hHeld ?_
    simp only [Act.put, List.setIfInBounds_toArray, List.set_cons_zero, List.set_cons_succ]
    refine take_at 22 2 (.string Z26) _ rfl rfl (by kernel_rfl) (by kernel_rfl) (by kernel_rfl) (fun _ _ _ h => h) (Or.inl ⟨by rfl, fun v hv => by skip; clear hv; go_simp⟩) hHeld ?_
    simp only [Act.put, List.setIfInBounds_toArray, List.set_cons_zero, List.set_cons_succ]
    refine take_at 23 3 (.int .i64 0) _ rfl rfl (by kernel_rfl) (by kernel_rfl) (by kernel_rfl) (fun _ _ _ h => h) (Or.inl ⟨by rfl, fun v hv => by skip; clear hv; go_simp⟩) hHeld ?_
    simp only [Act.put, List.setIfInBounds_toArray, List.set_cons_zero, List.set_cons_succ]
    refine wpAnyH_done (by kernel_rfl) ?_ _
    clear hHeld
    go_wp2_with fail
    go_ret2
    exact ⟨paper r, 0, by rw [← HEND.out]; rfl, ⟨HF.out, .inl ⟨rfl, rfl⟩⟩, HB9.out⟩
  · have hne : (f != 0) = true := by simpa using h0
    have HN : Hid (f ≠ 0) := h0
    clear hf h0
    go_wp2_with fail
    go_ret2
    exact ⟨[], f, rfl, ⟨HF.out, .inr ⟨HN.out, rfl⟩⟩, HB1.out⟩

end Go.Proofs.YtlicdeppfhmfjaaGreatDoor.rcp

/- Tariffs: plain facts. -/
namespace Go.Proofs.YtlicdeppfhmfjaaGreatDoor.tar
set_option linter.unusedVariables false

/-- A pair of numbers: of a step how far it goes, and its price; of a debt what is owed, and what it grows by. -/
structure Du where
  a : Int
  b : Int
def du0 : Du := ⟨0, 0⟩
/-- Three numbers: of a line its units, its price, its cost. -/
structure Tr where
  a : Int
  b : Int
  c : Int
def tr0 : Tr := ⟨0, 0, 0⟩

theorem take_one (l : List Du) (k : Nat) (h : k < l.length) : l.take (k + 1) = l.take k ++ [l.getD k du0] := by
  rw [List.take_succ_eq_append_getElem h]
  simp [List.getD, List.getElem?_eq_getElem h]
theorem drop_one (l : List Du) (k : Nat) (h : k < l.length) : l.drop k = l.getD k du0 :: l.drop (k + 1) := by
  rw [List.drop_eq_getElem_cons h]
  simp [List.getD, List.getElem?_eq_getElem h]
/-- How far the steps ahead of the place k go. -/
def low (l : List Du) (k : Nat) : Int := if k = 0 then 0 else (l.getD (k - 1) du0).a
theorem low_next (l : List Du) (k : Nat) : low l (k + 1) = (l.getD k du0).a := rfl
theorem low_zero (l : List Du) : low l 0 = 0 := rfl
/-- What is wrong with a tariff. -/
def Fits (l : List Du) : Prop := ∀ i, i < l.length → (1 ≤ (l.getD i du0).a ∧ (l.getD i du0).a ≤ 10000000) ∧ 1 ≤ (l.getD i du0).b ∧ (l.getD i du0).b ≤ 100000
def Rises (l : List Du) : Prop := ∀ i, 1 ≤ i → i < l.length → (l.getD (i - 1) du0).a < (l.getD i du0).a
def Sized (l : List Du) : Prop := 1 ≤ l.length ∧ l.length ≤ 8
def Ends (l : List Du) : Prop := (l.getD (l.length - 1) du0).a = 10000000
def Right (l : List Du) : Prop := Sized l ∧ Fits l ∧ Rises l ∧ Ends l
def FaultIs (l : List Du) (e : Int) : Prop := (¬ Sized l ∧ e = 1) ∨ (Sized l ∧ ¬ Fits l ∧ e = 2) ∨ (Sized l ∧ Fits l ∧ ¬ (Rises l ∧ Ends l) ∧ e = 3) ∨ (Right l ∧ e = 0)
theorem FaultIs.one {l : List Du} {e f : Int} (h : FaultIs l e) (h' : FaultIs l f) : e = f := by
  rcases h with ⟨a, rfl⟩ | ⟨a, b, rfl⟩ | ⟨a, b, c, rfl⟩ | ⟨⟨a, b, c⟩, rfl⟩ <;> rcases h' with ⟨a', rfl⟩ | ⟨a', b', rfl⟩ | ⟨a', b', c', rfl⟩ | ⟨⟨a', b', c'⟩, rfl⟩ <;> first | rfl | contradiction
theorem FaultIs.ok {l : List Du} {e : Int} (h : FaultIs l e) : e = 0 ↔ Right l := by
  rcases h with ⟨a, rfl⟩ | ⟨a, b, rfl⟩ | ⟨a, b, c, rfl⟩ | ⟨h, rfl⟩
  · exact ⟨fun h => absurd h (by decide), fun h => absurd h.1 a⟩
  · exact ⟨fun h => absurd h (by decide), fun h => absurd h.2.1 b⟩
  · exact ⟨fun h => absurd h (by decide), fun h => absurd h.2.2 c⟩
  · exact ⟨fun _ => h, fun _ => rfl⟩
theorem fault_is (l : List Du) : ∃ e, FaultIs l e := by
  by_cases a : Sized l
  · by_cases b : Fits l
    · by_cases c : Rises l ∧ Ends l
      · exact ⟨0, .inr (.inr (.inr ⟨⟨a, b, c⟩, rfl⟩))⟩
      · exact ⟨3, .inr (.inr (.inl ⟨a, b, c, rfl⟩))⟩
    · exact ⟨2, .inr (.inl ⟨a, b, rfl⟩)⟩
  · exact ⟨1, .inl ⟨a, rfl⟩⟩
/-- How many units from x to y lie from lo to hi. -/
def ov (lo hi x y : Int) : Int := max 0 (min hi y - max lo x)
theorem ov_pos (lo hi x y : Int) : 0 ≤ ov lo hi x y := by unfold ov; omega
/-- What the units from x to y cost, as far as the place k. -/
def costK (l : List Du) (x y : Int) : Nat → Int
  | 0 => 0
  | k + 1 => costK l x y k + ov (low l k) (l.getD k du0).a x y * (l.getD k du0).b
def cost (l : List Du) (x y : Int) : Int := costK l x y l.length
theorem costK_next (l : List Du) (x y : Int) (k : Nat) : costK l x y (k + 1) = costK l x y k + ov (low l k) (l.getD k du0).a x y * (l.getD k du0).b := rfl
/-- How many of them lie there. -/
def manyK (l : List Du) (x y : Int) : Nat → Int
  | 0 => 0
  | k + 1 => manyK l x y k + ov (low l k) (l.getD k du0).a x y
theorem Right.price {l : List Du} (h : Right l) (k : Nat) (hk : k < l.length) : 1 ≤ (l.getD k du0).b ∧ (l.getD k du0).b ≤ 100000 := (h.2.1 k hk).2
theorem Right.upto {l : List Du} (h : Right l) (k : Nat) (hk : k < l.length) : 1 ≤ (l.getD k du0).a ∧ (l.getD k du0).a ≤ 10000000 := (h.2.1 k hk).1
theorem Right.rise {l : List Du} (h : Right l) (k : Nat) (hk : k < l.length) : low l k < (l.getD k du0).a := by
  by_cases e : k = 0
  · subst e; rw [low_zero]; have := (h.upto 0 hk).1; omega
  · unfold low; rw [if_neg e]; exact h.2.2.1 k (by omega) hk
theorem Right.low_pos {l : List Du} (h : Right l) (k : Nat) (hk : k ≤ l.length) : 0 ≤ low l k := by
  unfold low
  by_cases e : k = 0
  · rw [if_pos e]; omega
  · rw [if_neg e]; have := (h.upto (k - 1) (by omega)).1; omega
theorem Right.low_end {l : List Du} (h : Right l) : low l l.length = 10000000 := by
  unfold low
  rw [if_neg (by have := h.1.1; omega)]
  exact h.2.2.2
/-- The units up to a place are those that lie ahead of it. -/
theorem many_eq {l : List Du} (h : Right l) (x y : Int) (hx : 0 ≤ x) (hxy : x ≤ y) (k : Nat) (hk : k ≤ l.length) : manyK l x y k = max 0 (min (low l k) y - x) := by
  induction k with
  | zero => unfold manyK; rw [low_zero]; omega
  | succ k ih =>
    have h1 := ih (by omega)
    have h2 := h.rise k (by omega)
    have h3 := h.low_pos k (by omega)
    unfold manyK
    rw [h1, low_next]
    unfold ov
    omega
theorem many_all {l : List Du} (h : Right l) (x y : Int) (hx : 0 ≤ x) (hxy : x ≤ y) (hy : y ≤ 10000000) : manyK l x y l.length = y - x := by
  rw [many_eq h x y hx hxy _ (Nat.le_refl _), h.low_end]; omega
theorem costK_pos {l : List Du} (h : Right l) (x y : Int) (k : Nat) (hk : k ≤ l.length) : 0 ≤ costK l x y k := by
  induction k with
  | zero => exact Int.le_refl _
  | succ k ih =>
    have h1 := ih (by omega)
    have h2 := Int.mul_nonneg (ov_pos (low l k) (l.getD k du0).a x y) (show 0 ≤ (l.getD k du0).b by have := (h.price k (by omega)).1; omega)
    unfold costK; omega
theorem cost_many {l : List Du} (h : Right l) (x y : Int) (k : Nat) (hk : k ≤ l.length) : manyK l x y k ≤ costK l x y k ∧ costK l x y k ≤ manyK l x y k * 100000 := by
  induction k with
  | zero => exact ⟨Int.le_refl _, Int.le_refl _⟩
  | succ k ih =>
    have h1 := ih (by omega)
    have h0 := ov_pos (low l k) (l.getD k du0).a x y
    have hp := h.price k (by omega)
    have h2 : ov (low l k) (l.getD k du0).a x y * 1 ≤ ov (low l k) (l.getD k du0).a x y * (l.getD k du0).b := Int.mul_le_mul_of_nonneg_left hp.1 h0
    have h3 : ov (low l k) (l.getD k du0).a x y * (l.getD k du0).b ≤ ov (low l k) (l.getD k du0).a x y * 100000 := Int.mul_le_mul_of_nonneg_left hp.2 h0
    unfold costK manyK
    rw [Int.mul_one] at h2
    constructor
    · omega
    · rw [Int.add_mul]; omega
theorem cost_bd {l : List Du} (h : Right l) (x y : Int) (hx : 0 ≤ x) (hxy : x ≤ y) (hy : y ≤ 10000000) : y - x ≤ cost l x y ∧ cost l x y ≤ (y - x) * 100000 := by
  have := cost_many h x y l.length (Nat.le_refl _)
  rw [many_all h x y hx hxy hy] at this
  exact this
theorem ov_adds (lo hi x y z : Int) (h : lo ≤ hi) (h1 : x ≤ y) (h2 : y ≤ z) : ov lo hi x z = ov lo hi x y + ov lo hi y z := by unfold ov; omega
theorem costK_adds {l : List Du} (h : Right l) (x y z : Int) (h1 : x ≤ y) (h2 : y ≤ z) (k : Nat) (hk : k ≤ l.length) : costK l x z k = costK l x y k + costK l y z k := by
  induction k with
  | zero => rfl
  | succ k ih =>
    have h3 := ih (by omega)
    have h4 := h.rise k (by omega)
    unfold costK
    rw [h3, ov_adds _ _ x y z (by omega) h1 h2, Int.add_mul]
    omega
theorem cost_adds {l : List Du} (h : Right l) (x y z : Int) (h1 : x ≤ y) (h2 : y ≤ z) : cost l x z = cost l x y + cost l y z := costK_adds h x y z h1 h2 _ (Nat.le_refl _)
theorem cost_self {l : List Du} (h : Right l) (x : Int) : cost l x x = 0 := by
  have := cost_adds h x x x (Int.le_refl _) (Int.le_refl _); omega
theorem costK_mono {l : List Du} (h : Right l) (x y : Int) (j k : Nat) (hjk : j ≤ k) (hk : k ≤ l.length) : costK l x y j ≤ costK l x y k := by
  induction k with
  | zero => have : j = 0 := by omega
            subst this; exact Int.le_refl _
  | succ k ih =>
    by_cases e : j = k + 1
    · subst e; exact Int.le_refl _
    · have h1 := ih (by omega) (by omega)
      have h2 := Int.mul_nonneg (ov_pos (low l k) (l.getD k du0).a x y) (show 0 ≤ (l.getD k du0).b by have := (h.price k (by omega)).1; omega)
      rw [costK_next]; omega
theorem low_mono {l : List Du} (h : Right l) (j k : Nat) (hjk : j ≤ k) (hk : k ≤ l.length) : low l j ≤ low l k := by
  induction k with
  | zero => have : j = 0 := by omega
            subst this; exact Int.le_refl _
  | succ k ih =>
    by_cases e : j = k + 1
    · subst e; exact Int.le_refl _
    · have h1 := ih (by omega) (by omega)
      have h2 := h.rise k (by omega)
      rw [low_next]; omega
/-- One unit costs what its step says. -/
theorem costK_none {l : List Du} (h : Right l) (n : Int) (k : Nat) (hk : k ≤ l.length) (hn : low l k ≤ n) : costK l n (n + 1) k = 0 := by
  induction k with
  | zero => rfl
  | succ k ih =>
    have h2 := h.rise k (by omega)
    rw [low_next] at hn
    have h1 := ih (by omega) (by omega)
    unfold costK
    rw [h1, show ov (low l k) (l.getD k du0).a n (n + 1) = 0 by unfold ov; omega]
    omega
theorem costK_after {l : List Du} (h : Right l) (n : Int) (j k : Nat) (hjk : j ≤ k) (hk : k ≤ l.length) (hn : n + 1 ≤ low l j) : costK l n (n + 1) k = costK l n (n + 1) j := by
  induction k with
  | zero => have : j = 0 := by omega
            subst this; rfl
  | succ k ih =>
    by_cases e : j = k + 1
    · subst e; rfl
    · have h1 := ih (by omega) (by omega)
      have h2 := low_mono h j k (by omega) (by omega)
      rw [costK_next, h1, show ov (low l k) (l.getD k du0).a n (n + 1) = 0 by unfold ov; omega]
      omega
theorem cost_unit {l : List Du} (h : Right l) (n : Int) (k : Nat) (hk : k < l.length) (h1 : low l k ≤ n) (h2 : n + 1 ≤ (l.getD k du0).a) : cost l n (n + 1) = (l.getD k du0).b := by
  have e1 := costK_after h n (k + 1) l.length (by omega) (Nat.le_refl _) (by rw [low_next]; exact h2)
  unfold cost
  rw [e1]
  unfold costK
  rw [costK_none h n k (by omega) h1, show ov (low l k) (l.getD k du0).a n (n + 1) = 1 by unfold ov; omega]
  omega
/-- What the four ask for. -/
def Mays (x n : Int) : Prop := (0 ≤ x ∧ x ≤ 10000000) ∧ (0 ≤ n ∧ n ≤ 2097151) ∧ x + n ≤ 10000000
def MayIs (l : List Du) (x n : Int) (e : Int) : Prop := (¬ Right l ∧ FaultIs l e) ∨ (Right l ∧ ¬ Mays x n ∧ e = 2) ∨ (Right l ∧ Mays x n ∧ e = 0)
theorem MayIs.one {l : List Du} {x n e f : Int} (h : MayIs l x n e) (h' : MayIs l x n f) : e = f := by
  rcases h with ⟨a, b⟩ | ⟨a, b, rfl⟩ | ⟨a, b, rfl⟩ <;> rcases h' with ⟨a', b'⟩ | ⟨a', b', rfl⟩ | ⟨a', b', rfl⟩ <;> first | rfl | exact b.one b' | contradiction
theorem MayIs.ok {l : List Du} {x n e : Int} (h : MayIs l x n e) : e = 0 ↔ Right l ∧ Mays x n := by
  rcases h with ⟨a, b⟩ | ⟨a, b, rfl⟩ | ⟨a, b, rfl⟩
  · exact ⟨fun h => absurd (b.ok.1 h) a, fun h => absurd h.1 a⟩
  · exact ⟨fun h => absurd h (by decide), fun h => absurd h.2 b⟩
  · exact ⟨fun _ => ⟨a, b⟩, fun _ => rfl⟩
def PriceIs (l : List Du) (x n : Int) (p e : Int) : Prop := MayIs l x n e ∧ ((e = 0 ∧ p = cost l x (x + n)) ∨ (e ≠ 0 ∧ p = 0))
theorem PriceIs.one {l : List Du} {x n p e q f : Int} (h : PriceIs l x n p e) (h' : PriceIs l x n q f) : p = q ∧ e = f := by
  obtain ⟨a, b⟩ := h
  obtain ⟨a', b'⟩ := h'
  obtain rfl := a.one a'
  rcases b with ⟨_, rfl⟩ | ⟨c, rfl⟩ <;> rcases b' with ⟨_, rfl⟩ | ⟨c', rfl⟩ <;> first | exact ⟨rfl, rfl⟩ | contradiction
/-- The lines, as far as the place k. -/
def billK (l : List Du) (x y : Int) : Nat → List Tr
  | 0 => []
  | k + 1 => billK l x y k ++ (if 0 < ov (low l k) (l.getD k du0).a x y then [⟨ov (low l k) (l.getD k du0).a x y, (l.getD k du0).b, ov (low l k) (l.getD k du0).a x y * (l.getD k du0).b⟩] else [])
def BillIs (l : List Du) (x n : Int) (z : List Tr) (e : Int) : Prop := MayIs l x n e ∧ ((e = 0 ∧ z = billK l x (x + n) l.length) ∨ (e ≠ 0 ∧ z = []))
theorem BillIs.one {l : List Du} {x n e f : Int} {p q : List Tr} (h : BillIs l x n p e) (h' : BillIs l x n q f) : p = q ∧ e = f := by
  obtain ⟨a, b⟩ := h
  obtain ⟨a', b'⟩ := h'
  obtain rfl := a.one a'
  rcases b with ⟨_, rfl⟩ | ⟨c, rfl⟩ <;> rcases b' with ⟨_, rfl⟩ | ⟨c', rfl⟩ <;> first | exact ⟨rfl, rfl⟩ | contradiction
theorem bill_len (l : List Du) (x y : Int) (k : Nat) : (billK l x y k).length ≤ k := by
  induction k with
  | zero => exact Nat.le_refl _
  | succ k ih => unfold billK; rw [List.length_append]; split <;> simp <;> omega
theorem BillIs.small {l : List Du} {x n e : Int} {z : List Tr} (h : BillIs l x n z e) : z.length ≤ 1000000 := by
  rcases h.2 with ⟨h0, rfl⟩ | ⟨_, rfl⟩
  · have h1 := bill_len l x (x + n) l.length
    have h2 := (h.1.ok.1 h0).1.1.2
    omega
  · exact Nat.zero_le _
/-- The lines add up. -/
def sumA : List Tr → Int
  | [] => 0
  | t :: l => t.a + sumA l
def sumC : List Tr → Int
  | [] => 0
  | t :: l => t.c + sumC l
theorem sumA_app (l m : List Tr) : sumA (l ++ m) = sumA l + sumA m := by
  induction l with
  | nil => simp [sumA]
  | cons t l ih => simp only [List.cons_append, sumA, ih]; omega
theorem sumC_app (l m : List Tr) : sumC (l ++ m) = sumC l + sumC m := by
  induction l with
  | nil => simp [sumC]
  | cons t l ih => simp only [List.cons_append, sumC, ih]; omega
theorem bill_sums (l : List Du) (x y : Int) (k : Nat) : sumA (billK l x y k) = manyK l x y k ∧ sumC (billK l x y k) = costK l x y k := by
  induction k with
  | zero => exact ⟨rfl, rfl⟩
  | succ k ih =>
    have h0 := ov_pos (low l k) (l.getD k du0).a x y
    unfold billK manyK costK
    rw [sumA_app, sumC_app, ih.1, ih.2]
    by_cases h : 0 < ov (low l k) (l.getD k du0).a x y
    · rw [if_pos h]; simp [sumA, sumC]
    · have e : ov (low l k) (l.getD k du0).a x y = 0 := by omega
      rw [if_neg h, e]; simp [sumA, sumC]
def LineOk (t : Tr) : Prop := 1 ≤ t.a ∧ t.a ≤ 10000000 ∧ 1 ≤ t.b ∧ t.b ≤ 100000 ∧ t.c = t.a * t.b
theorem bill_ok {l : List Du} (h : Right l) (x y : Int) (k : Nat) (hk : k ≤ l.length) : ∀ t ∈ billK l x y k, LineOk t := by
  induction k with
  | zero => intro t ht; cases ht
  | succ k ih =>
    intro t ht
    unfold billK at ht
    rcases List.mem_append.1 ht with ht | ht
    · exact ih (by omega) t ht
    · by_cases hp : 0 < ov (low l k) (l.getD k du0).a x y
      · rw [if_pos hp] at ht
        have e := List.mem_singleton.1 ht
        subst e
        have h1 := h.price k (by omega)
        have h2 := h.upto k (by omega)
        have h3 := h.low_pos k (by omega)
        exact ⟨by show 1 ≤ ov _ _ _ _; omega, by show ov _ _ _ _ ≤ _; unfold ov; omega, h1.1, h1.2, rfl⟩
      · rw [if_neg hp] at ht; cases ht
/-- The most that there can be. -/
def Top (x : Int) : Int := min 2097151 (10000000 - x)
def MostOf (l : List Du) (x m u : Int) : Prop := (0 ≤ u ∧ u ≤ Top x) ∧ cost l x (x + u) ≤ m ∧ (u = Top x ∨ m < cost l x (x + (u + 1)))
theorem MostOf.one {l : List Du} {x m u v : Int} (h : Right l) (hx : 0 ≤ x) (a : MostOf l x m u) (b : MostOf l x m v) : u = v := by
  obtain ⟨⟨a1, a2⟩, a3, a4⟩ := a
  obtain ⟨⟨b1, b2⟩, b3, b4⟩ := b
  rcases Int.lt_trichotomy u v with c | c | c
  · rcases a4 with a4 | a4
    · omega
    · have h1 := cost_adds h x (x + (u + 1)) (x + v) (by omega) (by omega)
      have h2 := cost_bd h (x + (u + 1)) (x + v) (by omega) (by omega) (by unfold Top at b2; omega)
      omega
  · exact c
  · rcases b4 with b4 | b4
    · omega
    · have h1 := cost_adds h x (x + (v + 1)) (x + u) (by omega) (by omega)
      have h2 := cost_bd h (x + (v + 1)) (x + u) (by omega) (by omega) (by unfold Top at a2; omega)
      omega
def MayMost (x m : Int) : Prop := (0 ≤ x ∧ x ≤ 10000000) ∧ 0 ≤ m ∧ m ≤ 1000000000000
def MostIs (l : List Du) (x m : Int) (u p e : Int) : Prop := (¬ Right l ∧ FaultIs l e ∧ u = 0 ∧ p = 0) ∨ (Right l ∧ ¬ MayMost x m ∧ e = 2 ∧ u = 0 ∧ p = 0) ∨ (Right l ∧ MayMost x m ∧ e = 0 ∧ MostOf l x m u ∧ p = cost l x (x + u))
theorem MostIs.one {l : List Du} {x m u p e u' p' e' : Int} (h : MostIs l x m u p e) (h' : MostIs l x m u' p' e') : u = u' ∧ p = p' ∧ e = e' := by
  rcases h with ⟨a, b, rfl, rfl⟩ | ⟨a, b, rfl, rfl, rfl⟩ | ⟨a, b, rfl, c, rfl⟩ <;> rcases h' with ⟨a', b', rfl, rfl⟩ | ⟨a', b', rfl, rfl, rfl⟩ | ⟨a', b', rfl, c', rfl⟩ <;> first | exact ⟨rfl, rfl, b.one b'⟩ | exact ⟨rfl, rfl, rfl⟩ | contradiction | skip
  obtain rfl := c.one a b.1.1 c'
  exact ⟨rfl, rfl, rfl⟩
theorem rise_not {l : List Du} {k : Nat} (h1 : 1 ≤ k) (hk : k < l.length) (h : (l.getD k du0).a ≤ (l.getD (k - 1) du0).a) : ¬ (Rises l ∧ Ends l) := fun hh => by
  have := hh.1 k h1 hk; omega
/-- What bounds a product. -/
theorem prod_bd {o p : Int} (h0 : 0 ≤ o) (h1 : o ≤ 10000000) (h2 : 1 ≤ p) (h3 : p ≤ 100000) : 0 ≤ o * p ∧ o * p ≤ 1000000000000 := by
  have a := Int.mul_nonneg h0 (show 0 ≤ p by omega)
  have b : o * p ≤ 10000000 * 100000 := Int.le_trans (Int.mul_le_mul_of_nonneg_left h3 h0) (Int.mul_le_mul_of_nonneg_right h1 (by decide))
  exact ⟨a, by omega⟩
theorem costK_le {l : List Du} (h : Right l) (x y : Int) (hx : 0 ≤ x) (hxy : x ≤ y) (hy : y ≤ 10000000) (k : Nat) (hk : k ≤ l.length) : costK l x y k ≤ 1000000000000 := by
  have h1 := costK_mono h x y k l.length hk (Nat.le_refl _)
  have h2 := (cost_bd h x y hx hxy hy).2
  unfold cost at h2
  omega
theorem ov_le (lo hi x y : Int) (h0 : 0 ≤ lo) (h1 : hi ≤ 10000000) : ov lo hi x y ≤ 10000000 := by unfold ov; omega
theorem billK_yes (l : List Du) (x y : Int) (k : Nat) (h : 0 < ov (low l k) (l.getD k du0).a x y) : billK l x y (k + 1) = billK l x y k ++ [⟨ov (low l k) (l.getD k du0).a x y, (l.getD k du0).b, ov (low l k) (l.getD k du0).a x y * (l.getD k du0).b⟩] := by
  unfold billK; rw [if_pos h]
  cases k <;> rfl
theorem billK_no (l : List Du) (x y : Int) (k : Nat) (h : ¬ 0 < ov (low l k) (l.getD k du0).a x y) : billK l x y (k + 1) = billK l x y k := by
  conv => lhs; unfold billK
  rw [if_neg h, List.append_nil]
theorem sums_pos (l : List Tr) (h : ∀ t ∈ l, LineOk t) : 0 ≤ sumA l ∧ 0 ≤ sumC l := by
  induction l with
  | nil => exact ⟨Int.le_refl _, Int.le_refl _⟩
  | cons t l ih =>
    have h1 := ih fun x hx => h x (List.mem_cons_of_mem _ hx)
    obtain ⟨a1, a2, a3, a4, a5⟩ := h t List.mem_cons_self
    have h2 := Int.mul_nonneg (show 0 ≤ t.a by omega) (show 0 ≤ t.b by omega)
    exact ⟨by show 0 ≤ t.a + sumA l; omega, by show 0 ≤ t.c + sumC l; omega⟩
theorem sums_take (l : List Tr) (h : ∀ t ∈ l, LineOk t) (k : Nat) : (0 ≤ sumA (l.take k) ∧ sumA (l.take k) ≤ sumA l) ∧ 0 ≤ sumC (l.take k) ∧ sumC (l.take k) ≤ sumC l := by
  have h1 := sums_pos (l.take k) fun x hx => h x (List.mem_of_mem_take hx)
  have h2 := sums_pos (l.drop k) fun x hx => h x (List.mem_of_mem_drop hx)
  have e1 := sumA_app (l.take k) (l.drop k)
  have e2 := sumC_app (l.take k) (l.drop k)
  rw [List.take_append_drop] at e1 e2
  exact ⟨⟨h1.1, by omega⟩, h1.2, by omega⟩
theorem sums_next (l : List Tr) (k : Nat) (hk : k < l.length) : sumA (l.take (k + 1)) = sumA (l.take k) + (l.getD k tr0).a ∧ sumC (l.take (k + 1)) = sumC (l.take k) + (l.getD k tr0).c := by
  rw [List.take_succ_eq_append_getElem hk, sumA_app, sumC_app]
  simp [List.getD, List.getElem?_eq_getElem hk, sumA, sumC]
theorem line_at {l : List Tr} (h : ∀ t ∈ l, LineOk t) (k : Nat) (hk : k < l.length) : LineOk (l.getD k tr0) := by
  have e : l.getD k tr0 = l[k] := by simp [List.getD, List.getElem?_eq_getElem hk]
  rw [e]; exact h _ (List.getElem_mem hk)

end Go.Proofs.YtlicdeppfhmfjaaGreatDoor.tar

/- Rows of pairs of numbers: that came in, and that a call owns. -/
namespace Go.Proofs.YtlicdeppfhmfjaaGreatDoor.tar
open Go.RowKit
set_option maxRecDepth 100000

/-- The slice a, len reads as the pairs ls. -/
def RowD (w : World) (a : Option Addr) (len : Nat) (ls : List Du) : Prop :=
  ls.length = len ∧ (len = 0 ∨ ∃ b off, a = some ⟨b, off, none⟩ ∧ ∀ i, i < len → w.cell? ⟨b, off + i * 2, none⟩ = some (.int .i64 (ls.getD i du0).a) ∧ w.cell? ⟨b, off + i * 2 + 1, none⟩ = some (.int .i64 (ls.getD i du0).b))
theorem RowD.below {w w' : World} {a : Option Addr} {n : Nat} {zs : List Du} (h : RowD w a n zs) (hb : Below w.heap.size w w') : RowD w' a n zs := by
  refine ⟨h.1, ?_⟩
  rcases h.2 with h0 | ⟨b, off, rfl, hc⟩
  · exact .inl h0
  · refine .inr ⟨b, off, rfl, fun i hi => ?_⟩
    have h1 := hc i hi
    rw [hb.cell (p := ⟨b, off + i * 2, none⟩) (World.block_lt_of_cell? w _ h1.1), hb.cell (p := ⟨b, off + i * 2 + 1, none⟩) (World.block_lt_of_cell? w _ h1.2)]
    exact h1
theorem RowD.nil (w : World) (a : Option Addr) : RowD w a 0 [] := ⟨rfl, .inl rfl⟩
theorem RowD.at {w : World} {a : Option Addr} {n : Nat} {zs : List Du} (h : RowD w a n zs) (h0 : 0 < n) : ∃ b off, a = some ⟨b, off, none⟩ ∧ b < w.heap.size ∧ ∀ i, i < n → w.cell? ⟨b, off + i * 2, none⟩ = some (.int .i64 (zs.getD i du0).a) ∧ w.cell? ⟨b, off + i * 2 + 1, none⟩ = some (.int .i64 (zs.getD i du0).b) := by
  rcases h.2 with h1 | ⟨b, off, rfl, hc⟩
  · omega
  · exact ⟨b, off, rfl, World.block_lt_of_cell? w _ (hc 0 h0).1, hc⟩
/-- What the frame hands to the walk of pairs that came in. -/
theorem rowD_of {w : World} {a : Addr} {m len : Nat} (hl : len ≤ m)
    (h : ∀ j, j < m → ∃ z0 z1, w.cell? (a.add (j * 2)) = some (.int .i64 z0) ∧ w.cell? (a.add (j * 2 + 1)) = some (.int .i64 z1) ∧ (Lit.int .i64 z0).wf = true ∧ (Lit.int .i64 z1).wf = true) :
    ∃ zs : List Du, RowD w (some a) len zs ∧ ∀ x ∈ zs, (Lit.int .i64 x.a).wf = true ∧ (Lit.int .i64 x.b).wf = true := by
  have h' : ∀ j, ∃ e : Du, j < m → w.cell? (a.add (j * 2)) = some (.int .i64 e.a) ∧ w.cell? (a.add (j * 2 + 1)) = some (.int .i64 e.b) ∧ (Lit.int .i64 e.a).wf = true ∧ (Lit.int .i64 e.b).wf = true := fun j => by
    by_cases hj : j < m
    · obtain ⟨z0, z1, hz⟩ := h j hj
      exact ⟨⟨z0, z1⟩, fun _ => hz⟩
    · exact ⟨du0, fun hh => absurd hh hj⟩
  obtain ⟨f, hf⟩ : ∃ f : Nat → Du, ∀ j, j < m → w.cell? (a.add (j * 2)) = some (.int .i64 (f j).a) ∧ w.cell? (a.add (j * 2 + 1)) = some (.int .i64 (f j).b) ∧ (Lit.int .i64 (f j).a).wf = true ∧ (Lit.int .i64 (f j).b).wf = true := ⟨fun j => Classical.choose (h' j), fun j hj => Classical.choose_spec (h' j) hj⟩
  clear h' h
  refine ⟨(List.range len).map f, ⟨by simp, ?_⟩, fun x hx => ?_⟩
  · by_cases h0 : len = 0
    · exact .inl h0
    · obtain ⟨b, off, spot⟩ := a
      have hs : spot = none := by simpa [Addr.add] using World.cell?_spot (hf 0 (by omega)).1
      subst hs
      refine .inr ⟨b, off, rfl, fun i hi => ?_⟩
      have h1 := hf i (by omega)
      rw [Addr.add_lit, Addr.add_lit, ← Nat.add_assoc] at h1
      have e : ((List.range len).map f).getD i du0 = f i := by simp [List.getD, hi]
      rw [e]
      exact ⟨h1.1, h1.2.1⟩
  · obtain ⟨j, hj, rfl⟩ := List.mem_map.1 hx
    exact (hf j (by have := List.mem_range.1 hj; omega)).2.2
def cellsD : List Du → List Value
  | [] => []
  | e :: l => .int .i64 e.a :: .int .i64 e.b :: cellsD l
theorem cellsD_len (l : List Du) : (cellsD l).length = l.length * 2 := by
  induction l with
  | nil => rfl
  | cons e l ih => simp [cellsD, ih]; omega
theorem cellsD_app (l m : List Du) : cellsD (l ++ m) = cellsD l ++ cellsD m := by
  induction l with
  | nil => rfl
  | cons e l ih => simp [cellsD, ih]
theorem oneD (l : List Du) : ∀ u ∈ cellsD l, u.oneCell' = true := by
  induction l with
  | nil => intro u hu; cases hu
  | cons e l ih =>
    intro u hu
    simp only [cellsD, List.mem_cons] at hu
    rcases hu with rfl | rfl | hu
    · rfl
    · rfl
    · exact ih u hu
theorem cellsD_at (l : List Du) (k : Nat) (hk : k < l.length) : (cellsD l)[k * 2]? = some (.int .i64 (l.getD k du0).a) ∧ (cellsD l)[k * 2 + 1]? = some (.int .i64 (l.getD k du0).b) := by
  induction l generalizing k with
  | nil => simp at hk
  | cons x l ih =>
    cases k with
    | zero => exact ⟨rfl, rfl⟩
    | succ k =>
      rw [show (k + 1) * 2 = k * 2 + 1 + 1 by omega]
      have := ih k (by simpa using hk)
      simpa [cellsD] using this
theorem cellsD_get {w : World} {b off len : Nat} {zs : List Du} (hz : zs.length = len) (hc : ∀ i, i < len → w.cell? ⟨b, off + i * 2, none⟩ = some (.int .i64 (zs.getD i du0).a) ∧ w.cell? ⟨b, off + i * 2 + 1, none⟩ = some (.int .i64 (zs.getD i du0).b)) (j : Nat) (u : Value) (hu : (cellsD zs)[j]? = some u) : w.cell? ⟨b, off + j, none⟩ = some u := by
  have hj : j < (cellsD zs).length := by
    by_cases h : j < (cellsD zs).length
    · exact h
    · rw [List.getElem?_eq_none (by omega)] at hu; cases hu
  rw [cellsD_len] at hj
  have h1 := cellsD_at zs (j / 2) (by omega)
  have h2 := hc (j / 2) (by omega)
  rcases Nat.mod_two_eq_zero_or_one j with e | e
  · have e2 : j / 2 * 2 = j := by omega
    rw [e2] at h1 h2
    rw [h1.1] at hu
    rw [h2.1]; exact hu
  · have e2 : j / 2 * 2 + 1 = j := by omega
    rw [Nat.add_assoc, e2] at h2
    rw [e2] at h1
    rw [h1.2] at hu
    rw [h2.2]; exact hu
/-- Pairs (of the kind T) that nobody else holds. -/
def Ld (T : TypeId) (w : World) (base : Nat) (v : Value) (l : List Du) : Prop := w.ownsRow base T 2 v l.length (cellsD l)
theorem Ld.zero (T : TypeId) (w : World) (base : Nat) : Ld T w base (.slice none 0 0) [] := World.ownsRow_nil _ _ _ _
theorem Ld.alloc {T : TypeId} {w : World} {base : Nat} {v : Value} {l : List Du} (h : Ld T w base v l) (o : Obj) : Ld T (w.alloc o) base v l := World.ownsRow.alloc h o
theorem Ld.next {T : TypeId} {w w' : World} {base : Nat} {v : Value} {l : List Du} (h : Ld T w base v l) (hb : Below w.heap.size w w') : Ld T w' base v l := by
  refine ⟨h.1, ?_⟩
  rcases h.2 with hn | ⟨g, cap, cur, hv, hg, hc, rest⟩
  · exact .inl hn
  · exact .inr ⟨g, cap, cur, hv, hg, Blk.next hc hb, rest⟩
theorem Ld.low {T : TypeId} {w : World} {base base' : Nat} {v : Value} {l : List Du} (h : Ld T w base v l) (hb : base' ≤ base) : Ld T w base' v l := by
  refine ⟨h.1, ?_⟩
  rcases h.2 with hn | ⟨g, cap, cur, hv, hg, rest⟩
  · exact .inl hn
  · exact .inr ⟨g, cap, cur, hv, by omega, rest⟩
theorem Ld.row {T : TypeId} {w : World} {base : Nat} {v : Value} {l : List Du} (h : Ld T w base v l) : ∃ a cap, v = .slice a l.length cap ∧ RowD w a l.length l ∧ (a = none → cap = 0) ∧ l.length ≤ cap ∧ (∀ x, a = some x → x.off = 0 ∧ x.spot = none) := by
  rcases h.2 with ⟨hv, hn⟩ | ⟨g, cap, cur, hv, _, _, h1, _⟩
  · exact ⟨none, 0, by rw [hn]; exact hv, ⟨rfl, .inl hn⟩, fun _ => rfl, by omega, fun x h => by cases h⟩
  · subst hv
    refine ⟨_, cap, rfl, ⟨rfl, .inr ⟨g, 0, rfl, fun i hi => ?_⟩⟩, (fun h => by cases h), h1, fun x h => by cases h; exact ⟨rfl, rfl⟩⟩
    have e1 := World.ownsRow.cellAt h (i * 2) (by omega)
    have e2 := World.ownsRow.cellAt h (i * 2 + 1) (by omega)
    rw [Nat.zero_add, e1, e2]
    exact cellsD_at l i hi
theorem own_far {w : World} {base n k : Nat} {t : TypeId} {v : Value} {l : List Value} (h : w.ownsRow base t n v k l) {G : Nat} (hG : G < base) : some G ≠ v.ownBlock := by
  intro e
  have := (World.ownsRow.lt h G e.symm).1
  omega
theorem own_bel {w0 w w' : World} {base B n k : Nat} {t : TypeId} {v : Value} {l : List Value} (h : w.ownsRow base t n v k l) (hg : w.grownBy w' v.ownBlock) (hb : Below B w0 w) (hB : B ≤ base) (hw : B ≤ w.heap.size) : Below B w0 w' := by
  refine ⟨hg.os.trans hb.os, hg.tape.trans hb.tape, hg.output.trans hb.output, Nat.le_trans hb.size hg.size, fun k hk => ?_⟩
  rw [← hb.block k hk]
  exact hg.block k (by omega) (own_far h (by omega))
theorem bel_drewN {B : Nat} {w w' : World} (h : Below B w w') (n : Nat) : Below B w (w'.drewN n) := ⟨h.os, h.tape, h.output, h.size, h.block⟩
/-- What is to be known of a kind T of pairs, whose slices are S. -/
structure PairT (P : Program) (T S : TypeId) : Prop where
  info : (P.info? T).map (fun i => (i.zero, i.size, i.bytes)) = some (some (.agg #[.int .i64 0, .int .i64 0]), 2, 16)
  under : P.underlying S = some (.slice T)
/-- One pair is put behind the others. -/
theorem wp_pair {P : Program} {T S : TypeId} (hP : PairT P T S) {w : World} {ops : Array Oper} {rest : List Oper} {o : Oper} {a : Act} {Q : Exit → Act → World → Prop} (hgd : o.guard = none) (s x : Operand)
    (ho : o.op = .call { callee := .builtin .append, args := #[s, x], argTypes := #[S, S] })
    (base G : Nat) (v : Value) (l : List Du) (r : Du) (hs : a.eval s = v) (hx : a.eval x = .slice (some ⟨G, 0, none⟩) 1 1) (hv : Ld T w base v l) (hu : w.cell? ⟨G, 0, none⟩ = some (.int .i64 r.a) ∧ w.cell? ⟨G, 1, none⟩ = some (.int .i64 r.b)) (hn : l.length ≤ 1000000) (hbase : base ≤ w.heap.size)
    (h : ∀ v' w', Ld T w' base v' (l ++ [r]) → w.grownBy w' v.ownBlock → wpList P ops Q rest (a.put o.dst v') w') : wpList P ops Q (o :: rest) a w := by
  obtain ⟨i0, hi, hz0, hz1, hz2⟩ := info_parts hP.info
  refine wpList_append_own w hgd s x S ho base T i0 (.agg #[.int .i64 0, .int .i64 0]) 2 16 hP.under hi hz0 hz1 hz2 rfl (by decide) v l.length (cellsD l) hs hv ⟨G, 0, none⟩ 1 1 (cellsD [r]) hx rfl ?_ (oneD [r]) (by unfold maxLen; omega) (by omega) hbase ?_
  · intro j u hj
    match j, hj with
    | 0, hj => simp [cellsD] at hj; subst hj; simpa [Addr.add] using hu.1
    | 1, hj => simp [cellsD] at hj; subst hj; simpa [Addr.add] using hu.2
    | j + 2, hj => simp [cellsD] at hj
  intro v' w' h1 h2 _
  refine h v' w' ?_ h2
  unfold Ld
  rw [List.length_append, cellsD_app]
  exact h1
/-- The same, in a region that draws its order. -/
theorem step_pair {P : Program} {T S : TypeId} (hP : PairT P T S) {w : World} {ops : Array Oper} {o : Oper} {a : Act} {K : Act → World → Prop} {Q : Exit → Act → World → Prop} {E : Prop} (hgd : o.guard = none) (s x : Operand)
    (ho : o.op = .call { callee := .builtin .append, args := #[s, x], argTypes := #[S, S] })
    (base G : Nat) (v : Value) (l : List Du) (r : Du) (hs : a.eval s = v) (hx : a.eval x = .slice (some ⟨G, 0, none⟩) 1 1) (hv : Ld T w base v l) (hu : w.cell? ⟨G, 0, none⟩ = some (.int .i64 r.a) ∧ w.cell? ⟨G, 1, none⟩ = some (.int .i64 r.b)) (hn : l.length ≤ 1000000) (hbase : base ≤ w.heap.size)
    (h : ∀ v' w', Ld T w' base v' (l ++ [r]) → w.grownBy w' v.ownBlock → K (a.put o.dst v') w') : if Region.wanted o (yielded ops a.tmps) = true then Oper.wp P o a w K Q else E := by
  have hw : Region.wanted o (yielded ops a.tmps) = true := by simp [Region.wanted, hgd]
  rw [if_pos hw]
  obtain ⟨i0, hi, hz0, hz1, hz2⟩ := info_parts hP.info
  obtain ⟨v', w', hr, h2, h3, _⟩ := run_append_own (P := P) w base S o.type T i0 (.agg #[.int .i64 0, .int .i64 0]) 2 16 hP.under hi hz0 hz1 hz2 rfl (by decide) v l.length (cellsD l) hv ⟨G, 0, none⟩ 1 1 (cellsD [r]) rfl (by
    intro j u hj
    match j, hj with
    | 0, hj => simp [cellsD] at hj; subst hj; simpa [Addr.add] using hu.1
    | 1, hj => simp [cellsD] at hj; subst hj; simpa [Addr.add] using hu.2
    | j + 2, hj => simp [cellsD] at hj) (oneD [r]) (by unfold maxLen; omega) (by omega) hbase
  unfold Oper.wp execOp
  simp only [ho, resolve, invoke, builtin, Sem.run_bind, Sem.run_pure, Result.andThen_ok, List.map_toArray, List.map_cons, List.map_nil, hs, hx, hr]
  refine h v' w' ?_ h3
  unfold Ld
  rw [List.length_append, cellsD_app]
  exact h2
/-- A copy of pairs: append(nil, l...). -/
theorem wp_pairs {P : Program} {T S : TypeId} (hP : PairT P T S) {w : World} {ops : Array Oper} {rest : List Oper} {o : Oper} {a : Act} {Q : Exit → Act → World → Prop} (hgd : o.guard = none) (s x : Operand)
    (ho : o.op = .call { callee := .builtin .append, args := #[s, x], argTypes := #[S, S] })
    (base : Nat) (A : Addr) (len cap : Nat) (zs : List Du) (hs : a.eval s = .slice none 0 0) (hx : a.eval x = .slice (some A) len cap) (hr : RowD w (some A) len zs) (hl : len * 16 ≤ 140737488351232) (hbase : base ≤ w.heap.size)
    (h : ∀ v' w', Ld T w' base v' zs → w.grownBy w' none → wpList P ops Q rest (a.put o.dst v') w') : wpList P ops Q (o :: rest) a w := by
  obtain ⟨i0, hi, hz0, hz1, hz2⟩ := info_parts hP.info
  obtain ⟨hz, hr⟩ := hr
  refine wpList_append_own w hgd s x S ho base T i0 (.agg #[.int .i64 0, .int .i64 0]) 2 16 hP.under hi hz0 hz1 hz2 rfl (by decide) _ _ _ hs (World.ownsRow_nil _ _ _ _) A len cap (cellsD zs) hx ?_ ?_ (oneD zs) (by unfold maxLen; omega) (by omega) hbase ?_
  · rw [cellsD_len, hz]
  · intro j u hu
    rcases hr with h | ⟨b, off, h, hc⟩
    · rw [List.getElem?_eq_none (by rw [cellsD_len]; omega)] at hu; cases hu
    · obtain rfl := Option.some.inj h
      rw [Addr.add_lit]
      exact cellsD_get hz hc j u hu
  · intro v' w' h1 h2 _
    refine h v' w' ?_ (by simpa [Value.ownBlock] using h2)
    show w'.ownsRow _ _ _ _ _ _
    rw [hz]; simpa using h1

end Go.Proofs.YtlicdeppfhmfjaaGreatDoor.tar

/- Rows of texts that a call owns. -/
namespace Go.Proofs.YtlicdeppfhmfjaaGreatDoor.rcp
open Go.RowKit
set_option maxRecDepth 100000

def cellsS (l : List ByteArray) : List Value := l.map Value.string
theorem oneS (l : List ByteArray) : ∀ u ∈ cellsS l, u.oneCell' = true := fun u hu => by
  obtain ⟨s, _, rfl⟩ := List.mem_map.1 hu
  rfl
/-- Texts (of the kind T) that nobody else holds. -/
def Ls (T : TypeId) (w : World) (base : Nat) (v : Value) (l : List ByteArray) : Prop := w.ownsRow base T 1 v l.length (cellsS l)
theorem Ls.zero (T : TypeId) (w : World) (base : Nat) : Ls T w base (.slice none 0 0) [] := World.ownsRow_nil _ _ _ _
theorem Ls.alloc {T : TypeId} {w : World} {base : Nat} {v : Value} {l : List ByteArray} (h : Ls T w base v l) (o : Obj) : Ls T (w.alloc o) base v l := World.ownsRow.alloc h o
theorem Ls.next {T : TypeId} {w w' : World} {base : Nat} {v : Value} {l : List ByteArray} (h : Ls T w base v l) (hb : Below w.heap.size w w') : Ls T w' base v l := by
  refine ⟨h.1, ?_⟩
  rcases h.2 with hn | ⟨g, cap, cur, hv, hg, hc, rest⟩
  · exact .inl hn
  · exact .inr ⟨g, cap, cur, hv, hg, Blk.next hc hb, rest⟩
theorem Ls.row {T : TypeId} {w : World} {base : Nat} {v : Value} {l : List ByteArray} (h : Ls T w base v l) (h0 : 0 < l.length) : ∃ g cap, v = .slice (some ⟨g, 0, none⟩) l.length cap ∧ base ≤ g ∧ g < w.heap.size ∧ l.length ≤ cap ∧ ∀ i, i < l.length → w.cell? ⟨g, i, none⟩ = some (.string (l.getD i ByteArray.empty)) := by
  rcases h.2 with ⟨hv, hn⟩ | ⟨g, cap, cur, hv, hg, hc, h1, _⟩
  · omega
  · subst hv
    refine ⟨g, cap, rfl, hg, Blk.lt hc, h1, fun i hi => ?_⟩
    have e1 := World.ownsRow.cellAt h i (by omega)
    rw [e1]
    simp [cellsS, List.getD, hi]
theorem Ls.len {T : TypeId} {w : World} {base : Nat} {v : Value} {l : List ByteArray} (h : Ls T w base v l) : ∃ a cap, v = .slice a l.length cap := by
  rcases h.2 with ⟨hv, hn⟩ | ⟨g, cap, cur, hv, _⟩
  · exact ⟨none, 0, by rw [hn]; exact hv⟩
  · exact ⟨_, cap, hv⟩
/-- What is to be known of a kind T of texts, whose slices are S. -/
structure TextT (P : Program) (T S : TypeId) : Prop where
  info : (P.info? T).map (fun i => (i.zero, i.size, i.bytes)) = some (some (.string ByteArray.empty), 1, 16)
  under : P.underlying S = some (.slice T)
/-- One text is put behind the others. -/
theorem wp_str {P : Program} {T S : TypeId} (hP : TextT P T S) {w : World} {ops : Array Oper} {rest : List Oper} {o : Oper} {a : Act} {Q : Exit → Act → World → Prop} (hgd : o.guard = none) (s x : Operand)
    (ho : o.op = .call { callee := .builtin .append, args := #[s, x], argTypes := #[S, S] })
    (base G : Nat) (v : Value) (l : List ByteArray) (r : ByteArray) (hs : a.eval s = v) (hx : a.eval x = .slice (some ⟨G, 0, none⟩) 1 1) (hv : Ls T w base v l) (hu : w.cell? ⟨G, 0, none⟩ = some (.string r)) (hn : l.length ≤ 1000000) (hbase : base ≤ w.heap.size)
    (h : ∀ v' w', Ls T w' base v' (l ++ [r]) → w.grownBy w' v.ownBlock → wpList P ops Q rest (a.put o.dst v') w') : wpList P ops Q (o :: rest) a w := by
  obtain ⟨i0, hi, hz0, hz1, hz2⟩ := info_parts hP.info
  refine wpList_append_own w hgd s x S ho base T i0 (.string ByteArray.empty) 1 16 hP.under hi hz0 hz1 hz2 rfl (by decide) v l.length (cellsS l) hs hv ⟨G, 0, none⟩ 1 1 (cellsS [r]) hx rfl ?_ (oneS [r]) (by unfold maxLen; omega) (by omega) hbase ?_
  · intro j u hj
    match j, hj with
    | 0, hj => simp [cellsS] at hj; subst hj; simpa [Addr.add] using hu
    | j + 1, hj => simp [cellsS] at hj
  intro v' w' h1 h2 _
  refine h v' w' ?_ h2
  unfold Ls
  rw [List.length_append]
  unfold cellsS at *
  rw [List.map_append]
  exact h1

end Go.Proofs.YtlicdeppfhmfjaaGreatDoor.rcp

/- What stands on the lines of a paper, as the document has it. -/
namespace Go.Proofs.YtlicdeppfhmfjaaGreatDoor.rcp
open Go.RowKit
set_option maxRecDepth 100000
set_option linter.unusedVariables false
set_option linter.unusedSimpArgs false

theorem textT : TextT Tryz.prog 9 45 := ⟨by kernel_rfl, Tryz.underlying45⟩
/-- The texts as lists. -/
def outs (l : List ByteArray) : List (List UInt8) := l.map fun s => s.data.toList
theorem outs_app (l : List ByteArray) (s : ByteArray) : outs (l ++ [s]) = outs l ++ [s.data.toList] := by unfold outs; rw [List.map_append]; rfl
theorem outs_len (l : List ByteArray) : (outs l).length = l.length := by unfold outs; rw [List.length_map]
/-- What has come behind the blank at b, when i is reached. -/
def curR (s : ByteArray) (b : Int) (i : Nat) : Option (List UInt8) := if b < 0 then none else some ((s.data.toList.drop (b.toNat + 1)).take (i - (b.toNat + 1)))
theorem drop_at (s : ByteArray) (i : Nat) (h : i < s.size) : s.data.toList.drop i = s[i] :: s.data.toList.drop (i + 1) := by
  have h' : i < s.data.toList.length := by rw [Array.length_toList]; exact h
  rw [List.drop_eq_getElem_cons h']
  congr 1
theorem take_more (s : ByteArray) (a i : Nat) (ha : a ≤ i) (h : i < s.size) : (s.data.toList.drop a).take (i + 1 - a) = (s.data.toList.drop a).take (i - a) ++ [s[i]] := by
  have h' : i < s.data.toList.length := by rw [Array.length_toList]; exact h
  rw [show i + 1 - a = (i - a) + 1 by omega, List.take_succ_eq_append_getElem (by rw [List.length_drop]; omega)]
  congr 1
  rw [List.getElem_drop]
  simp only [show a + (i - a) = i by omega]
  congr 1
theorem cut_list (s : ByteArray) (a b : Nat) : (s.extract a b).data.toList = (s.data.toList.drop a).take (b - a) := by
  have h := cut_tx s.data.toList a b
  have e : (⟨s.data.toList.toArray⟩ : ByteArray) = s := by cases s; rfl
  rw [e] at h
  rw [h]
/-- One byte more. -/
theorem v_none (s : ByteArray) (i : Nat) (h : i < s.size) (out : List (List UInt8)) (b : Bool) (h1 : s[i] ≠ 10) (h2 : s[i] ≠ 32) : valG (s.data.toList.drop i) out b none = valG (s.data.toList.drop (i + 1)) out false none := by
  rw [drop_at s i h, valG_skip h1]; dsimp only; rw [if_neg h2]
theorem v_blank (s : ByteArray) (i : Nat) (h : i < s.size) (out : List (List UInt8)) (b : Bool) (h2 : s[i] = 32) : valG (s.data.toList.drop i) out b none = valG (s.data.toList.drop (i + 1)) out false (some []) := by
  rw [drop_at s i h, valG_skip (by rw [h2]; decide)]; dsimp only; rw [if_pos h2]
theorem v_some (s : ByteArray) (i : Nat) (h : i < s.size) (out : List (List UInt8)) (b : Bool) (v : List UInt8) (h1 : s[i] ≠ 10) : valG (s.data.toList.drop i) out b (some v) = valG (s.data.toList.drop (i + 1)) out false (some (v ++ [s[i]])) := by
  rw [drop_at s i h, valG_skip h1]
theorem v_bad (s : ByteArray) (i : Nat) (h : i < s.size) (out : List (List UInt8)) (b : Bool) (h1 : s[i] = 10) : valG (s.data.toList.drop i) out b none = ([], false) := by
  rw [drop_at s i h]; unfold valG; rw [if_pos h1]
theorem v_end (s : ByteArray) (i : Nat) (h : i < s.size) (out : List (List UInt8)) (b : Bool) (v : List UInt8) (h1 : s[i] = 10) : valG (s.data.toList.drop i) out b (some v) = valG (s.data.toList.drop (i + 1)) (out ++ [v]) true none := by
  rw [drop_at s i h]
  conv => lhs; unfold valG
  rw [if_pos h1]
def ValPost (w : World) (l : List UInt8) (e : Ending) (w' : World) : Prop := ∃ v out ok, e = .returned (.tuple #[v, .bool ok]) ∧ (ok = true → (valsOf l).1 = outs out) ∧ (valsOf l).2 = ok ∧ Ls 9 w' w.heap.size v out ∧ Below w.heap.size w w'
set_option maxHeartbeats 4000000 in
theorem values_any (s : ByteArray) (w : World) (hsm : s.size ≤ 1000) : Calls Tryz.prog 18 #[.string s] w fun e w' => ValPost w s.data.toList e w' := by
  have HLN : Hid (s.data.toList.length = s.size) := Array.length_toList
  go_enter Tryz.func18, Tryz.ntmps18
  go_wp2_with fail
  go_loopw [4, 5, 6, 7] (fun v4 v5 v6 v7 wr => ∃ (i f : Nat) (b : Int) (V : Value) (out : List ByteArray), i ≤ s.size ∧ f ≤ i ∧ (-1 ≤ b ∧ b < (i : Int)) ∧ v7 = .int .i64 (i : Int) ∧ v5 = .int .i64 (f : Int) ∧ v6 = .int .i64 b ∧ V = v4 ∧ out.length ≤ i ∧ Ls 9 wr w.heap.size V out ∧ (valG (s.data.toList.drop i) (outs out) (decide (f = i)) (curR s b i) = valsOf s.data.toList) ∧ Below w.heap.size w wr) (fun _ _ _ z _ => s.size - (intOf z).toNat)
  case atStart => exact ⟨0, 0, -1, _, [], Nat.zero_le _, Nat.le_refl _, ⟨by decide, by decide⟩, rfl, rfl, rfl, rfl, Nat.le_refl _, Ls.zero _ _ _, rfl, Below.refl _ _⟩
  case round =>
    obtain ⟨i, f, b, V, out, hi, hfi, ⟨hb0, hb1⟩, rfl, rfl, rfl, hV, hol, hls, hval, hbel⟩ := hrel
    subst hV
    have HLS : Hid (Ls 9 wr w.heap.size V out) := hls
    have HVL : Hid (valG (s.data.toList.drop i) (outs out) (decide (f = i)) (curR s b i) = valsOf s.data.toList) := hval
    have HBL : Hid (Below w.heap.size w wr) := hbel
    clear hls hval hbel
    by_cases hlt : i < s.size
    · have hdl : decide ((i : Int) < (s.size : Int)) = true := by simp; omega
      have hcb : (0 : Int) ≤ (((s[i]'hlt).toNat : Nat) : Int) ∧ (((s[i]'hlt).toNat : Nat) : Int) < 256 := ⟨by omega, by have := (s[i]'hlt).toNat_lt; omega⟩
      have HFN : Hid (decide (f = i + 1) = false) := decide_eq_false (by omega)
      by_cases hc32 : (s[i]'hlt) = 32
      · have h32 : ((((s[i]'hlt).toNat : Nat) : Int) == 32) = true := by rw [hc32]; rfl
        have hc10 : (s[i]'hlt) ≠ 10 := by rw [hc32]; decide
        have h10 : ((((s[i]'hlt).toNat : Nat) : Int) == 10) = false := by rw [hc32]; rfl
        by_cases hneg : b < 0
        · have hdn : decide (b < 0) = true := decide_eq_true hneg
          have HCU : Hid (curR s b i = none) := by show _ = _; unfold curR; rw [if_pos hneg]
          have HNV : Hid (valG (s.data.toList.drop (i + 1)) (outs out) false (curR s (i : Int) (i + 1)) = valsOf s.data.toList) := by
            have h := HVL.out
            rw [HCU.out, v_blank s i hlt _ _ hc32] at h
            show _ = _
            unfold curR
            rw [if_neg (by omega), Int.toNat_natCast, Nat.sub_self, List.take_zero]
            exact h
          clear hc32 hc10 HVL
          go_wp2_with fail
          go_roundw
          case rel => exact ⟨i + 1, f, (i : Int), V, out, by omega, by omega, ⟨by omega, by omega⟩, by go_num, by first | rfl | trivial, by first | rfl | trivial, by first | rfl | trivial, by omega, HLS.out, by rw [HFN.out]; exact HNV.out, HBL.out⟩
          case measure => simp [intOf]; omega
        · have hdn : decide (b < 0) = false := decide_eq_false hneg
          have HCU : Hid (curR s b i = some ((s.data.toList.drop (b.toNat + 1)).take (i - (b.toNat + 1)))) := by show _ = _; unfold curR; rw [if_neg hneg]
          have HNV : Hid (valG (s.data.toList.drop (i + 1)) (outs out) false (curR s b (i + 1)) = valsOf s.data.toList) := by
            have h := HVL.out
            rw [HCU.out, v_some s i hlt _ _ _ hc10] at h
            show _ = _
            unfold curR
            rw [if_neg hneg, take_more s _ i (by omega) hlt]
            exact h
          clear hc32 hc10 HVL
          go_wp2_with fail
          go_roundw
          case rel => exact ⟨i + 1, f, b, V, out, by omega, by omega, ⟨by omega, by omega⟩, by go_num, by first | rfl | trivial, by first | rfl | trivial, by first | rfl | trivial, by omega, HLS.out, by rw [HFN.out]; exact HNV.out, HBL.out⟩
          case measure => simp [intOf]; omega
      · have h32 : ((((s[i]'hlt).toNat : Nat) : Int) == 32) = false := by cases hx : ((((s[i]'hlt).toNat : Nat) : Int) == 32) with | false => rfl | true => exact absurd (UInt8.toNat_inj.1 (by have := eq_of_beq hx; show (s[i]'hlt).toNat = 32; omega)) hc32
        by_cases hc10 : (s[i]'hlt) = 10
        · have h10 : ((((s[i]'hlt).toNat : Nat) : Int) == 10) = true := by rw [hc10]; rfl
          by_cases hneg : b < 0
          · have hdn : decide (b < 0) = true := decide_eq_true hneg
            have HCU : Hid (curR s b i = none) := by show _ = _; unfold curR; rw [if_pos hneg]
            have HNV : Hid ((valsOf s.data.toList).2 = false) := by show _ = _; rw [← HVL.out, HCU.out, v_bad s i hlt _ _ hc10]
            clear hc32 hc10 HVL
            go_wp2_with fail
            go_ret2
            exact ⟨_, [], false, rfl, (fun h => by cases h), HNV.out, Ls.zero _ _ _, HBL.out⟩
          · have hdn : decide (b < 0) = false := decide_eq_false hneg
            have HCU : Hid (curR s b i = some ((s.data.toList.drop (b.toNat + 1)).take (i - (b.toNat + 1)))) := by show _ = _; unfold curR; rw [if_neg hneg]
            obtain ⟨bn, rfl⟩ : ∃ bn : Nat, b = (bn : Int) := ⟨b.toNat, by omega⟩
            rw [Int.toNat_natCast] at HCU
            have HNV : Hid (valG (s.data.toList.drop (i + 1)) (outs out ++ [(s.data.toList.drop (bn + 1)).take (i - (bn + 1))]) true none = valsOf s.data.toList) := by show _ = _; rw [← HVL.out, HCU.out, v_end s i hlt _ _ _ hc10]
            clear hc32 hc10 HVL
            have hbt : ((bn + 1 : Nat) : Int) = (bn : Int) + 1 := by omega
            have hbi : bn + 1 ≤ i := by omega
            have HUA : Hid (∀ o, Ls 9 (wr.alloc o) w.heap.size V out) := fun o => HLS.out.alloc o
            have hol6 : out.length ≤ 1000000 := by omega
            have HBA : Hid (∀ o, Below w.heap.size w (wr.alloc o)) := fun o => HBL.out.alloc HBL.out.size o
            go_wp2_with (first | (refine wp_str textT rfl _ _ rfl w.heap.size wr.heap.size V out (s.extract (bn + 1) i) rfl rfl (HUA.out _) ((Blk.new wr _ _).cell 0) hol6 (by have := HBL.out.size; simp; omega) ?_; intro v3 w3 h3 hg3; have HB3 : Hid (Below w.heap.size w w3) := tar.own_bel (HUA.out _) hg3 (HBA.out _) (Nat.le_refl _) (by have := HBL.out.size; simp; omega); have H3 : Hid (Ls 9 w3 w.heap.size v3 (out ++ [s.extract (bn + 1) i])) := h3; clear h3 hg3) | fail)
            go_roundw
            case rel => exact ⟨i + 1, i + 1, -1, v3, out ++ [s.extract (bn + 1) i], by omega, Nat.le_refl _, ⟨by decide, by omega⟩, by go_num, by go_num, by first | rfl | trivial, by first | rfl | trivial, by rw [List.length_append]; simp; omega, H3.out, by rw [outs_app, cut_list, decide_eq_true rfl]; exact HNV.out, HB3.out⟩
            case measure => simp [intOf]; omega
        · have h10 : ((((s[i]'hlt).toNat : Nat) : Int) == 10) = false := by cases hx : ((((s[i]'hlt).toNat : Nat) : Int) == 10) with | false => rfl | true => exact absurd (UInt8.toNat_inj.1 (by have := eq_of_beq hx; show (s[i]'hlt).toNat = 10; omega)) hc10
          by_cases hneg : b < 0
          · have hdn : decide (b < 0) = true := decide_eq_true hneg
            have HCU : Hid (curR s b i = none) := by show _ = _; unfold curR; rw [if_pos hneg]
            have HNV : Hid (valG (s.data.toList.drop (i + 1)) (outs out) false (curR s b (i + 1)) = valsOf s.data.toList) := by
              have h := HVL.out
              rw [HCU.out, v_none s i hlt _ _ hc10 hc32] at h
              show _ = _
              unfold curR
              rw [if_pos hneg]
              exact h
            clear hc32 hc10 HVL
            go_wp2_with fail
            go_roundw
            case rel => exact ⟨i + 1, f, b, V, out, by omega, by omega, ⟨by omega, by omega⟩, by go_num, by first | rfl | trivial, by first | rfl | trivial, by first | rfl | trivial, by omega, HLS.out, by rw [HFN.out]; exact HNV.out, HBL.out⟩
            case measure => simp [intOf]; omega
          · have hdn : decide (b < 0) = false := decide_eq_false hneg
            have HCU : Hid (curR s b i = some ((s.data.toList.drop (b.toNat + 1)).take (i - (b.toNat + 1)))) := by show _ = _; unfold curR; rw [if_neg hneg]
            have HNV : Hid (valG (s.data.toList.drop (i + 1)) (outs out) false (curR s b (i + 1)) = valsOf s.data.toList) := by
              have h := HVL.out
              rw [HCU.out, v_some s i hlt _ _ _ hc10] at h
              show _ = _
              unfold curR
              rw [if_neg hneg, take_more s _ i (by omega) hlt]
              exact h
            clear hc32 hc10 HVL
            go_wp2_with fail
            go_roundw
            case rel => exact ⟨i + 1, f, b, V, out, by omega, by omega, ⟨by omega, by omega⟩, by go_num, by first | rfl | trivial, by first | rfl | trivial, by first | rfl | trivial, by omega, HLS.out, by rw [HFN.out]; exact HNV.out, HBL.out⟩
            case measure => simp [intOf]; omega
    · obtain rfl : i = s.size := by omega
      have hdl : decide ((s.size : Int) < (s.size : Int)) = false := by simp
      have HV0 : Hid (valsOf s.data.toList = (outs out, decide (out.length = 9) && decide (f = s.size))) := by
        show _ = _
        rw [← HVL.out, show s.data.toList.drop s.size = [] by rw [← HLN.out]; exact List.drop_length]
        show (outs out, decide ((outs out).length = 9) && _) = _
        rw [outs_len]
      obtain ⟨va, vc, hve⟩ := HLS.out.len
      have ho9 : out.length ≤ 9223372036854775807 := by omega
      have HVE : Hid (V = .slice va out.length vc) := hve
      clear HVL
      subst hve
      by_cases h9 : out.length = 9
      · have g9 : ((out.length : Int) == 9) = true := by rw [h9]; rfl
        by_cases hfs : f = s.size
        · have gf : ((f : Int) == (s.size : Int)) = true := by rw [hfs]; simp
          have HN : Hid ((valsOf s.data.toList).2 = true) := by show _ = _; rw [HV0.out, h9, hfs]; simp
          clear h9 hfs
          go_wp2_with fail
          go_ret2
          exact ⟨_, out, true, rfl, (fun _ => by rw [HV0.out]), HN.out, HLS.out, HBL.out⟩
        · have gf : ((f : Int) == (s.size : Int)) = false := by simp; omega
          have HN : Hid ((valsOf s.data.toList).2 = false) := by show _ = _; rw [HV0.out]; simp [hfs]
          clear h9 hfs
          go_wp2_with fail
          go_ret2
          exact ⟨_, out, false, rfl, (fun _ => by rw [HV0.out]), HN.out, HLS.out, HBL.out⟩
      · have g9 : ((out.length : Int) == 9) = false := by simp; omega
        have HN : Hid ((valsOf s.data.toList).2 = false) := by show _ = _; rw [HV0.out]; simp [h9]
        clear h9
        go_wp2_with fail
        go_ret2
        exact ⟨_, out, false, rfl, (fun _ => by rw [HV0.out]), HN.out, HLS.out, HBL.out⟩

end Go.Proofs.YtlicdeppfhmfjaaGreatDoor.rcp

/- A receipt off its paper, as the document has it. -/
namespace Go.Proofs.YtlicdeppfhmfjaaGreatDoor.rcp
open Go.RowKit
set_option maxRecDepth 100000
set_option linter.unusedVariables false
set_option linter.unusedSimpArgs false

theorem val_nine (l : List UInt8) (out : List (List UInt8)) (b : Bool) (cur : Option (List UInt8)) (h : (valG l out b cur).2 = true) : (valG l out b cur).1.length = 9 := by
  induction l generalizing out b cur with
  | nil =>
    unfold valG at h ⊢
    rw [Bool.and_eq_true] at h
    simpa using h.1
  | cons c t ih =>
    by_cases hc : c = 10
    · cases cur with
      | none => unfold valG at h; rw [if_pos hc] at h; simp at h
      | some v =>
        have e : valG (c :: t) out b (some v) = valG t (out ++ [v]) true none := by
          conv => lhs; unfold valG
          rw [if_pos hc]
        rw [e] at h ⊢
        exact ih _ _ _ h
    · rw [valG_skip hc] at h ⊢
      exact ih _ _ _ h
/-- There is no such receipt. -/
theorem no_such {l : List UInt8} (h : (valsOf l).2 = false) (q : Rc) (hq : Right q) : paper q ≠ l := fun e => by
  have := vals_paper hq
  rw [e] at this
  rw [this] at h
  simp at h
theorem no_four {l : List UInt8} {v : List (List UInt8)} (h : (valsOf l).1 = v) (h8 : (v.getD 8 []).length ≠ 24) (q : Rc) (hq : Right q) : paper q ≠ l := fun e => by
  have := vals_paper hq
  rw [e] at this
  rw [this] at h
  subst h
  exact h8 (four_len (parse_len hq.2.2.2.1).1)
theorem no_cand {l : List UInt8} {v : List (List UInt8)} {c : Rc} (h : (valsOf l).1 = v) (hc : Cand v c) (hn : ¬ (Right c ∧ paper c = l)) (q : Rc) (hq : Right q) : paper q ≠ l := fun e => by
  have := vals_paper hq
  rw [e] at this
  rw [this] at h
  subst h
  obtain rfl := hc.one (cand_right hq)
  exact hn ⟨hq, e⟩
theorem un_cut (t : ByteArray) (a b c d e f g h i j : Nat) : (((t.extract a b ++ t.extract c d) ++ t.extract e f) ++ t.extract g h) ++ t.extract i j = ⟨((t.data.toList.drop a).take (b - a) ++ ((t.data.toList.drop c).take (d - c) ++ ((t.data.toList.drop e).take (f - e) ++ ((t.data.toList.drop g).take (h - g) ++ (t.data.toList.drop i).take (j - i))))).toArray⟩ := by
  have q : ∀ x y, t.extract x y = ⟨((t.data.toList.drop x).take (y - x)).toArray⟩ := fun x y => by
    have := cut_list t x y
    cases hz : t.extract x y with
    | mk dt => rw [hz] at this; rw [← this]
  rw [q, q, q, q, q, cents.str_cat, cents.str_cat, cents.str_cat, cents.str_cat]
  simp
theorem tx_eq (s : ByteArray) : (⟨s.data.toList.toArray⟩ : ByteArray) = s := by cases s; rfl
def zr : Array Value := #[.int .i64 0, .int .i64 0, .int .i64 0, .int .i64 0, .int .i64 0, .int .i64 0, .int .i64 0, .int .i64 0, .string ⟨#[]⟩]
set_option maxHeartbeats 16000000 in
theorem rread (KP : KPar) (s : ByteArray) (w : World) : Calls Tryz.prog 9 #[.string s] w fun e w' => ReadPost w s.data.toList e w' := by
  have HLN : Hid (s.data.toList.length = s.size) := Array.length_toList
  have HR0 : Hid (Blk (w.alloc (.cells #[.int .i64 0, .int .i64 0, .int .i64 0, .int .i64 0, .int .i64 0, .int .i64 0, .int .i64 0, .int .i64 0, .string ⟨#[]⟩] 25)) w.heap.size #[.int .i64 0, .int .i64 0, .int .i64 0, .int .i64 0, .int .i64 0, .int .i64 0, .int .i64 0, .int .i64 0, .string ⟨#[]⟩] 25) := Blk.new w _ _
  have HB0 : Hid (Below w.heap.size w (w.alloc (.cells #[.int .i64 0, .int .i64 0, .int .i64 0, .int .i64 0, .int .i64 0, .int .i64 0, .int .i64 0, .int .i64 0, .string ⟨#[]⟩] 25))) := (Below.refl _ _).alloc (Nat.le_refl _) _
  have hs0 : w.heap.size < (w.alloc (.cells #[.int .i64 0, .int .i64 0, .int .i64 0, .int .i64 0, .int .i64 0, .int .i64 0, .int .i64 0, .int .i64 0, .string ⟨#[]⟩] 25)).heap.size := HR0.out.lt
  generalize hWW : w.alloc (.cells #[.int .i64 0, .int .i64 0, .int .i64 0, .int .i64 0, .int .i64 0, .int .i64 0, .int .i64 0, .int .i64 0, .string ⟨#[]⟩] 25) = W0 at *
  have HWW : Hid (w.alloc (.cells #[.int .i64 0, .int .i64 0, .int .i64 0, .int .i64 0, .int .i64 0, .int .i64 0, .int .i64 0, .int .i64 0, .string ⟨#[]⟩] 25) = W0) := hWW
  clear hWW
  by_cases h400 : 400 < s.size
  · have hd : decide ((400 : Int) < (s.size : Int)) = true := by simp; omega
    have HV : Hid (400 < s.data.toList.length) := by show _ < _; rw [HLN.out]; exact h400
    go_enter Tryz.func9, Tryz.ntmps9
    go_upto_region 1 with fail
    rw [HWW.out]
    clear HWW
    go_wp2_with (first | (refine wp_letAll rfl 25 _ _ rfl (w.heap.size) rfl #[.int .i64 0, .int .i64 0, .int .i64 0, .int .i64 0, .int .i64 0, .int .i64 0, .int .i64 0, .int .i64 0, .string ⟨#[]⟩] rfl (by kernel_rfl) (by simp [Value.oneCell']) #[.int .i64 0, .int .i64 0, .int .i64 0, .int .i64 0, .int .i64 0, .int .i64 0, .int .i64 0, .int .i64 0, .string ⟨#[]⟩] 25 HR0.out rfl ?_) | fail)
    intro WZ hU
    have HBZ : Hid (Below w.heap.size w WZ) := hU.bel _ _ (Nat.le_refl _) HB0.out
    have R0 : Hid (WZ.cell? ⟨w.heap.size, 0, none⟩ = some (.int .i64 0)) := hU.blk.cell 0
    have R1 : Hid (WZ.cell? ⟨w.heap.size, 1, none⟩ = some (.int .i64 0)) := hU.blk.cell 1
    have R2 : Hid (WZ.cell? ⟨w.heap.size, 2, none⟩ = some (.int .i64 0)) := hU.blk.cell 2
    have R3 : Hid (WZ.cell? ⟨w.heap.size, 3, none⟩ = some (.int .i64 0)) := hU.blk.cell 3
    have R4 : Hid (WZ.cell? ⟨w.heap.size, 4, none⟩ = some (.int .i64 0)) := hU.blk.cell 4
    have R5 : Hid (WZ.cell? ⟨w.heap.size, 5, none⟩ = some (.int .i64 0)) := hU.blk.cell 5
    have R6 : Hid (WZ.cell? ⟨w.heap.size, 6, none⟩ = some (.int .i64 0)) := hU.blk.cell 6
    have R7 : Hid (WZ.cell? ⟨w.heap.size, 7, none⟩ = some (.int .i64 0)) := hU.blk.cell 7
    have R8 : Hid (WZ.cell? ⟨w.heap.size, 8, none⟩ = some (.string ⟨#[]⟩)) := hU.blk.cell 8
    clear hU
    go_wp2_with fail
    exact bodyPost_ret (v := .tuple #[.agg #[.int .i64 0, .int .i64 0, .int .i64 0, .int .i64 0, .int .i64 0, .int .i64 0, .int .i64 0, .int .i64 0, .string ⟨#[]⟩], .int .i64 1]) (by simp [results, Tryz.results9, R0.out, R1.out, R2.out, R3.out, R4.out, R5.out, R6.out, R7.out, R8.out, go_sem]) rfl ⟨rc0, 1, rfl, .inl ⟨HV.out, rfl, rfl⟩, HBZ.out⟩
  · have hd : decide ((400 : Int) < (s.size : Int)) = false := by simp; omega
    have HV : Hid (¬ 400 < s.data.toList.length) := by show ¬ _ < _; rw [HLN.out]; exact h400
    have HVA : Hid (∀ W, Calls Tryz.prog 18 #[.string s] W fun e w' => ValPost W s.data.toList e w') := fun W => values_any s W (by omega)
    have hsm : s.size ≤ 400 := by omega
    clear h400
    go_enter Tryz.func9, Tryz.ntmps9
    go_upto_region 1 with fail
    rw [HWW.out]
    clear HWW
    go_wp2_with fail
    refine (HVA.out _).mono ?_
    rintro e w1 ⟨v, out, ok, rfl, ho1, ho2, hls, hb1⟩
    have HB1 : Hid (Below w.heap.size w w1) := HB0.out.trans (hb1.mono HB0.out.size)
    have HR1 : Hid (Blk w1 w.heap.size #[.int .i64 0, .int .i64 0, .int .i64 0, .int .i64 0, .int .i64 0, .int .i64 0, .int .i64 0, .int .i64 0, .string ⟨#[]⟩] 25) := HR0.out.next hb1
    have hs1 : w.heap.size < w1.heap.size := by have := hb1.size; omega
    clear hb1 HR0 HB0 HVA
    cases ok with
    | false =>
      have HNO : Hid (∀ q, Right q → paper q ≠ s.data.toList) := no_such ho2
      obtain ⟨va, vc, rfl⟩ := hls.len
      clear ho1 ho2 hls
      go_wp2_with (first | (refine wp_letAll rfl 25 _ _ rfl (w.heap.size) rfl #[.int .i64 0, .int .i64 0, .int .i64 0, .int .i64 0, .int .i64 0, .int .i64 0, .int .i64 0, .int .i64 0, .string ⟨#[]⟩] rfl (by kernel_rfl) (by simp [Value.oneCell']) #[.int .i64 0, .int .i64 0, .int .i64 0, .int .i64 0, .int .i64 0, .int .i64 0, .int .i64 0, .int .i64 0, .string ⟨#[]⟩] 25 HR1.out rfl ?_) | fail)
      intro WZ hU
      have HBZ : Hid (Below w.heap.size w WZ) := hU.bel _ _ (Nat.le_refl _) HB1.out
      have R0 : Hid (WZ.cell? ⟨w.heap.size, 0, none⟩ = some (.int .i64 0)) := hU.blk.cell 0
      have R1 : Hid (WZ.cell? ⟨w.heap.size, 1, none⟩ = some (.int .i64 0)) := hU.blk.cell 1
      have R2 : Hid (WZ.cell? ⟨w.heap.size, 2, none⟩ = some (.int .i64 0)) := hU.blk.cell 2
      have R3 : Hid (WZ.cell? ⟨w.heap.size, 3, none⟩ = some (.int .i64 0)) := hU.blk.cell 3
      have R4 : Hid (WZ.cell? ⟨w.heap.size, 4, none⟩ = some (.int .i64 0)) := hU.blk.cell 4
      have R5 : Hid (WZ.cell? ⟨w.heap.size, 5, none⟩ = some (.int .i64 0)) := hU.blk.cell 5
      have R6 : Hid (WZ.cell? ⟨w.heap.size, 6, none⟩ = some (.int .i64 0)) := hU.blk.cell 6
      have R7 : Hid (WZ.cell? ⟨w.heap.size, 7, none⟩ = some (.int .i64 0)) := hU.blk.cell 7
      have R8 : Hid (WZ.cell? ⟨w.heap.size, 8, none⟩ = some (.string ⟨#[]⟩)) := hU.blk.cell 8
      clear hU
      go_wp2_with fail
      exact bodyPost_ret (v := .tuple #[.agg #[.int .i64 0, .int .i64 0, .int .i64 0, .int .i64 0, .int .i64 0, .int .i64 0, .int .i64 0, .int .i64 0, .string ⟨#[]⟩], .int .i64 3]) (by simp [results, Tryz.results9, R0.out, R1.out, R2.out, R3.out, R4.out, R5.out, R6.out, R7.out, R8.out, go_sem]) rfl ⟨rc0, 3, rfl, .inr (.inl ⟨HV.out, HNO.out, rfl, rfl⟩), HBZ.out⟩
    | true =>
      have HO : Hid ((valsOf s.data.toList).1 = outs out) := ho1 rfl
      have h9 : out.length = 9 := by have h := val_nine s.data.toList [] true none ho2; have h2 := HO.out; unfold valsOf at h2; rw [h2, outs_len] at h; exact h
      obtain ⟨g, cap, hv, hg1, hg2, hcap, hcl⟩ := hls.row (by omega)
      subst hv
      rw [h9] at hcap hcl ⊢
      obtain ⟨O, hO⟩ : ∃ O : Nat → ByteArray, ∀ i, out.getD i ByteArray.empty = O i := ⟨_, fun _ => rfl⟩
      have HC1 : Hid (∀ i, i < 9 → w1.cell? ⟨g, i, none⟩ = some (.string (O i))) := fun i hi => by rw [← hO]; exact hcl i hi
      have HOU : Hid (∀ i, i < 9 → (outs out).getD i [] = (O i).data.toList) := fun i hi => by
        rw [← hO]
        unfold outs
        have hi2 : i < out.length := by omega
        simp [List.getD, hi2]
      clear ho1 ho2 hls hcl hO h9
      have c8 : w1.cell? ⟨g, 8, none⟩ = some (.string (O 8)) := HC1.out 8 (by decide)
      by_cases h24 : (O 8).size = 24
      · have n24 : (((O 8).size : Int) != 24) = false := by rw [h24]; rfl
        have H6 : Hid (Blk (w1.alloc (.cells #[.int .i64 0, .int .i64 0, .int .i64 0, .int .i64 0, .int .i64 0, .int .i64 0, .int .i64 0, .int .i64 0, .string ⟨#[]⟩] 25)) w1.heap.size #[.int .i64 0, .int .i64 0, .int .i64 0, .int .i64 0, .int .i64 0, .int .i64 0, .int .i64 0, .int .i64 0, .string ⟨#[]⟩] 25) := Blk.new w1 _ _
        have HR2 : Hid (Blk (w1.alloc (.cells #[.int .i64 0, .int .i64 0, .int .i64 0, .int .i64 0, .int .i64 0, .int .i64 0, .int .i64 0, .int .i64 0, .string ⟨#[]⟩] 25)) w.heap.size #[.int .i64 0, .int .i64 0, .int .i64 0, .int .i64 0, .int .i64 0, .int .i64 0, .int .i64 0, .int .i64 0, .string ⟨#[]⟩] 25) := HR1.out.alloc _
        have HB2 : Hid (Below w.heap.size w (w1.alloc (.cells #[.int .i64 0, .int .i64 0, .int .i64 0, .int .i64 0, .int .i64 0, .int .i64 0, .int .i64 0, .int .i64 0, .string ⟨#[]⟩] 25))) := HB1.out.alloc HB1.out.size _
        have HC2 : Hid (∀ i, i < 9 → (w1.alloc (.cells #[.int .i64 0, .int .i64 0, .int .i64 0, .int .i64 0, .int .i64 0, .int .i64 0, .int .i64 0, .int .i64 0, .string ⟨#[]⟩] 25)).cell? ⟨g, i, none⟩ = some (.string (O i))) := fun i hi => (World.cell?_alloc_lt w1 _ ⟨g, i, none⟩ hg2).trans (HC1.out i hi)
        go_upto_region 7 with fail
        generalize hG6 : w1.heap.size = g6 at *
        generalize (w1.alloc (.cells #[.int .i64 0, .int .i64 0, .int .i64 0, .int .i64 0, .int .i64 0, .int .i64 0, .int .i64 0, .int .i64 0, .string ⟨#[]⟩] 25)) = V0 at *
        clear HR1 HB1 HC1 c8
        have hgg : g ≠ g6 := by omega
        have hgw : w.heap.size ≠ g6 := by omega
        have hgr : w.heap.size ≤ g6 := by omega
        have HMT : Hid (∀ W, Calls Tryz.prog 19 #[.string (O 0)] W fun e w' => MeterPost W (O 0).data.toList e w') := fun W => meter_any (O 0) W
        have d0 : V0.cell? ⟨g, 0, none⟩ = some (.string (O 0)) := HC2.out 0 (by decide)
        go_wp2_with fail
        refine (HMT.out _).mono ?_
        rintro e VM ⟨mm, me, rfl, hmi, hbm⟩
        have HMI : Hid (MeterV (O 0).data.toList mm) := ⟨me, hmi⟩
        clear hmi HMT d0
        have H6m : Hid (Blk VM g6 #[.int .i64 0, .int .i64 0, .int .i64 0, .int .i64 0, .int .i64 0, .int .i64 0, .int .i64 0, .int .i64 0, .string ⟨#[]⟩] 25) := H6.out.next hbm
        have HRm : Hid (Blk VM w.heap.size #[.int .i64 0, .int .i64 0, .int .i64 0, .int .i64 0, .int .i64 0, .int .i64 0, .int .i64 0, .int .i64 0, .string ⟨#[]⟩] 25) := HR2.out.next hbm
        have HBm : Hid (Below w.heap.size w VM) := HB2.out.trans (hbm.mono HB2.out.size)
        have HCm : Hid (∀ i, i < 9 → VM.cell? ⟨g, i, none⟩ = some (.string (O i))) := fun i hi => (hbm.cell (p := ⟨g, i, none⟩) (World.block_lt_of_cell? V0 _ (HC2.out i hi))).trans (HC2.out i hi)
        clear hbm H6 HR2 HB2 HC2
        go_wp2_with (first | (refine wp_let1 rfl 3 _ _ rfl (g6) 0 rfl .i64 (mm) rfl (by kernel_rfl) #[.int .i64 0, .int .i64 0, .int .i64 0, .int .i64 0, .int .i64 0, .int .i64 0, .int .i64 0, .int .i64 0, .string ⟨#[]⟩] 25 H6m.out (by simp) ?_) | fail)
        intro V1 hU
        have H6x1 : Hid (Blk V1 g6 #[.int .i64 (mm), .int .i64 0, .int .i64 0, .int .i64 0, .int .i64 0, .int .i64 0, .int .i64 0, .int .i64 0, .string ⟨#[]⟩] 25) := hU.blk
        have HRx1 : Hid (Blk V1 w.heap.size #[.int .i64 0, .int .i64 0, .int .i64 0, .int .i64 0, .int .i64 0, .int .i64 0, .int .i64 0, .int .i64 0, .string ⟨#[]⟩] 25) := hU.keep HRm.out hgw
        have HBx1 : Hid (Below w.heap.size w V1) := hU.bel _ _ hgr HBm.out
        have HCx1 : Hid (∀ i, i < 9 → V1.cell? ⟨g, i, none⟩ = some (.string (O i))) := fun i hi => (hU.cell ⟨g, i, none⟩ hgg rfl).trans (HCm.out i hi)
        clear hU H6m HRm HBm HCm
        have HN1 : Hid (∀ W, Calls Tryz.prog 20 #[.string (O 1)] W fun e w' => e = .returned (.int .i64 (wholeR (O 1).data.toList)) ∧ w' = W) := fun W => whole_any (O 1) W
        generalize hx1 : wholeR (O 1).data.toList = x1 at HN1
        have HX1 : Hid (wholeR (O 1).data.toList = x1) := hx1
        clear hx1
        have d1 : V1.cell? ⟨g, 1, none⟩ = some (.string (O 1)) := HCx1.out 1 (by decide)
        go_wp2_with fail
        refine (HN1.out _).mono ?_
        rintro e wz ⟨rfl, hwz⟩
        subst wz
        clear HN1 d1
        go_wp2_with (first | (refine wp_let1 rfl 3 _ _ rfl (g6) 1 rfl .i64 (x1) rfl (by kernel_rfl) #[.int .i64 (mm), .int .i64 0, .int .i64 0, .int .i64 0, .int .i64 0, .int .i64 0, .int .i64 0, .int .i64 0, .string ⟨#[]⟩] 25 H6x1.out (by simp) ?_) | fail)
        intro V2 hU
        have H6x2 : Hid (Blk V2 g6 #[.int .i64 (mm), .int .i64 (x1), .int .i64 0, .int .i64 0, .int .i64 0, .int .i64 0, .int .i64 0, .int .i64 0, .string ⟨#[]⟩] 25) := hU.blk
        have HRx2 : Hid (Blk V2 w.heap.size #[.int .i64 0, .int .i64 0, .int .i64 0, .int .i64 0, .int .i64 0, .int .i64 0, .int .i64 0, .int .i64 0, .string ⟨#[]⟩] 25) := hU.keep HRx1.out hgw
        have HBx2 : Hid (Below w.heap.size w V2) := hU.bel _ _ hgr HBx1.out
        have HCx2 : Hid (∀ i, i < 9 → V2.cell? ⟨g, i, none⟩ = some (.string (O i))) := fun i hi => (hU.cell ⟨g, i, none⟩ hgg rfl).trans (HCx1.out i hi)
        clear hU H6x1 HRx1 HBx1 HCx1
        have HN2 : Hid (∀ W, Calls Tryz.prog 21 #[.string (O 2)] W fun e w' => e = .returned (.tuple #[.int .i64 (cents.readR (O 2).data.toList).1, .int .i64 (cents.readR (O 2).data.toList).2]) ∧ w' = W) := fun W => cents.readCents_any (O 2) W
        generalize hy2 : (cents.readR (O 2).data.toList).2 = y2 at HN2
        generalize hx2 : (cents.readR (O 2).data.toList).1 = x2 at HN2
        have HX2 : Hid ((cents.readR (O 2).data.toList).1 = x2) := hx2
        clear hx2 hy2
        have d2 : V2.cell? ⟨g, 2, none⟩ = some (.string (O 2)) := HCx2.out 2 (by decide)
        go_wp2_with fail
        refine (HN2.out _).mono ?_
        rintro e wz ⟨rfl, hwz⟩
        subst wz
        clear HN2 d2
        go_wp2_with (first | (refine wp_let1 rfl 3 _ _ rfl (g6) 2 rfl .i64 (x2) rfl (by kernel_rfl) #[.int .i64 (mm), .int .i64 (x1), .int .i64 0, .int .i64 0, .int .i64 0, .int .i64 0, .int .i64 0, .int .i64 0, .string ⟨#[]⟩] 25 H6x2.out (by simp) ?_) | fail)
        intro V3 hU
        have H6x3 : Hid (Blk V3 g6 #[.int .i64 (mm), .int .i64 (x1), .int .i64 (x2), .int .i64 0, .int .i64 0, .int .i64 0, .int .i64 0, .int .i64 0, .string ⟨#[]⟩] 25) := hU.blk
        have HRx3 : Hid (Blk V3 w.heap.size #[.int .i64 0, .int .i64 0, .int .i64 0, .int .i64 0, .int .i64 0, .int .i64 0, .int .i64 0, .int .i64 0, .string ⟨#[]⟩] 25) := hU.keep HRx2.out hgw
        have HBx3 : Hid (Below w.heap.size w V3) := hU.bel _ _ hgr HBx2.out
        have HCx3 : Hid (∀ i, i < 9 → V3.cell? ⟨g, i, none⟩ = some (.string (O i))) := fun i hi => (hU.cell ⟨g, i, none⟩ hgg rfl).trans (HCx2.out i hi)
        clear hU H6x2 HRx2 HBx2 HCx2
        have HN3 : Hid (∀ W, Calls Tryz.prog 21 #[.string (O 3)] W fun e w' => e = .returned (.tuple #[.int .i64 (cents.readR (O 3).data.toList).1, .int .i64 (cents.readR (O 3).data.toList).2]) ∧ w' = W) := fun W => cents.readCents_any (O 3) W
        generalize hy3 : (cents.readR (O 3).data.toList).2 = y3 at HN3
        generalize hx3 : (cents.readR (O 3).data.toList).1 = x3 at HN3
        have HX3 : Hid ((cents.readR (O 3).data.toList).1 = x3) := hx3
        clear hx3 hy3
        have d3 : V3.cell? ⟨g, 3, none⟩ = some (.string (O 3)) := HCx3.out 3 (by decide)
        go_wp2_with fail
        refine (HN3.out _).mono ?_
        rintro e wz ⟨rfl, hwz⟩
        subst wz
        clear HN3 d3
        go_wp2_with (first | (refine wp_let1 rfl 3 _ _ rfl (g6) 3 rfl .i64 (x3) rfl (by kernel_rfl) #[.int .i64 (mm), .int .i64 (x1), .int .i64 (x2), .int .i64 0, .int .i64 0, .int .i64 0, .int .i64 0, .int .i64 0, .string ⟨#[]⟩] 25 H6x3.out (by simp) ?_) | fail)
        intro V4 hU
        have H6x4 : Hid (Blk V4 g6 #[.int .i64 (mm), .int .i64 (x1), .int .i64 (x2), .int .i64 (x3), .int .i64 0, .int .i64 0, .int .i64 0, .int .i64 0, .string ⟨#[]⟩] 25) := hU.blk
        have HRx4 : Hid (Blk V4 w.heap.size #[.int .i64 0, .int .i64 0, .int .i64 0, .int .i64 0, .int .i64 0, .int .i64 0, .int .i64 0, .int .i64 0, .string ⟨#[]⟩] 25) := hU.keep HRx3.out hgw
        have HBx4 : Hid (Below w.heap.size w V4) := hU.bel _ _ hgr HBx3.out
        have HCx4 : Hid (∀ i, i < 9 → V4.cell? ⟨g, i, none⟩ = some (.string (O i))) := fun i hi => (hU.cell ⟨g, i, none⟩ hgg rfl).trans (HCx3.out i hi)
        clear hU H6x3 HRx3 HBx3 HCx3
        have HN4 : Hid (∀ W, Calls Tryz.prog 21 #[.string (O 4)] W fun e w' => e = .returned (.tuple #[.int .i64 (cents.readR (O 4).data.toList).1, .int .i64 (cents.readR (O 4).data.toList).2]) ∧ w' = W) := fun W => cents.readCents_any (O 4) W
        generalize hy4 : (cents.readR (O 4).data.toList).2 = y4 at HN4
        generalize hx4 : (cents.readR (O 4).data.toList).1 = x4 at HN4
        have HX4 : Hid ((cents.readR (O 4).data.toList).1 = x4) := hx4
        clear hx4 hy4
        have d4 : V4.cell? ⟨g, 4, none⟩ = some (.string (O 4)) := HCx4.out 4 (by decide)
        go_wp2_with fail
        refine (HN4.out _).mono ?_
        rintro e wz ⟨rfl, hwz⟩
        subst wz
        clear HN4 d4
        go_wp2_with (first | (refine wp_let1 rfl 3 _ _ rfl (g6) 4 rfl .i64 (x4) rfl (by kernel_rfl) #[.int .i64 (mm), .int .i64 (x1), .int .i64 (x2), .int .i64 (x3), .int .i64 0, .int .i64 0, .int .i64 0, .int .i64 0, .string ⟨#[]⟩] 25 H6x4.out (by simp) ?_) | fail)
        intro V5 hU
        have H6x5 : Hid (Blk V5 g6 #[.int .i64 (mm), .int .i64 (x1), .int .i64 (x2), .int .i64 (x3), .int .i64 (x4), .int .i64 0, .int .i64 0, .int .i64 0, .string ⟨#[]⟩] 25) := hU.blk
        have HRx5 : Hid (Blk V5 w.heap.size #[.int .i64 0, .int .i64 0, .int .i64 0, .int .i64 0, .int .i64 0, .int .i64 0, .int .i64 0, .int .i64 0, .string ⟨#[]⟩] 25) := hU.keep HRx4.out hgw
        have HBx5 : Hid (Below w.heap.size w V5) := hU.bel _ _ hgr HBx4.out
        have HCx5 : Hid (∀ i, i < 9 → V5.cell? ⟨g, i, none⟩ = some (.string (O i))) := fun i hi => (hU.cell ⟨g, i, none⟩ hgg rfl).trans (HCx4.out i hi)
        clear hU H6x4 HRx4 HBx4 HCx4
        have HN5 : Hid (∀ W, Calls Tryz.prog 21 #[.string (O 5)] W fun e w' => e = .returned (.tuple #[.int .i64 (cents.readR (O 5).data.toList).1, .int .i64 (cents.readR (O 5).data.toList).2]) ∧ w' = W) := fun W => cents.readCents_any (O 5) W
        generalize hy5 : (cents.readR (O 5).data.toList).2 = y5 at HN5
        generalize hx5 : (cents.readR (O 5).data.toList).1 = x5 at HN5
        have HX5 : Hid ((cents.readR (O 5).data.toList).1 = x5) := hx5
        clear hx5 hy5
        have d5 : V5.cell? ⟨g, 5, none⟩ = some (.string (O 5)) := HCx5.out 5 (by decide)
        go_wp2_with fail
        refine (HN5.out _).mono ?_
        rintro e wz ⟨rfl, hwz⟩
        subst wz
        clear HN5 d5
        go_wp2_with (first | (refine wp_let1 rfl 3 _ _ rfl (g6) 5 rfl .i64 (x5) rfl (by kernel_rfl) #[.int .i64 (mm), .int .i64 (x1), .int .i64 (x2), .int .i64 (x3), .int .i64 (x4), .int .i64 0, .int .i64 0, .int .i64 0, .string ⟨#[]⟩] 25 H6x5.out (by simp) ?_) | fail)
        intro V6 hU
        have H6x6 : Hid (Blk V6 g6 #[.int .i64 (mm), .int .i64 (x1), .int .i64 (x2), .int .i64 (x3), .int .i64 (x4), .int .i64 (x5), .int .i64 0, .int .i64 0, .string ⟨#[]⟩] 25) := hU.blk
        have HRx6 : Hid (Blk V6 w.heap.size #[.int .i64 0, .int .i64 0, .int .i64 0, .int .i64 0, .int .i64 0, .int .i64 0, .int .i64 0, .int .i64 0, .string ⟨#[]⟩] 25) := hU.keep HRx5.out hgw
        have HBx6 : Hid (Below w.heap.size w V6) := hU.bel _ _ hgr HBx5.out
        have HCx6 : Hid (∀ i, i < 9 → V6.cell? ⟨g, i, none⟩ = some (.string (O i))) := fun i hi => (hU.cell ⟨g, i, none⟩ hgg rfl).trans (HCx5.out i hi)
        clear hU H6x5 HRx5 HBx5 HCx5
        have HN6 : Hid (∀ W, Calls Tryz.prog 21 #[.string (O 6)] W fun e w' => e = .returned (.tuple #[.int .i64 (cents.readR (O 6).data.toList).1, .int .i64 (cents.readR (O 6).data.toList).2]) ∧ w' = W) := fun W => cents.readCents_any (O 6) W
        generalize hy6 : (cents.readR (O 6).data.toList).2 = y6 at HN6
        generalize hx6 : (cents.readR (O 6).data.toList).1 = x6 at HN6
        have HX6 : Hid ((cents.readR (O 6).data.toList).1 = x6) := hx6
        clear hx6 hy6
        have d6 : V6.cell? ⟨g, 6, none⟩ = some (.string (O 6)) := HCx6.out 6 (by decide)
        go_wp2_with fail
        refine (HN6.out _).mono ?_
        rintro e wz ⟨rfl, hwz⟩
        subst wz
        clear HN6 d6
        go_wp2_with (first | (refine wp_let1 rfl 3 _ _ rfl (g6) 6 rfl .i64 (x6) rfl (by kernel_rfl) #[.int .i64 (mm), .int .i64 (x1), .int .i64 (x2), .int .i64 (x3), .int .i64 (x4), .int .i64 (x5), .int .i64 0, .int .i64 0, .string ⟨#[]⟩] 25 H6x6.out (by simp) ?_) | fail)
        intro V7 hU
        have H6x7 : Hid (Blk V7 g6 #[.int .i64 (mm), .int .i64 (x1), .int .i64 (x2), .int .i64 (x3), .int .i64 (x4), .int .i64 (x5), .int .i64 (x6), .int .i64 0, .string ⟨#[]⟩] 25) := hU.blk
        have HRx7 : Hid (Blk V7 w.heap.size #[.int .i64 0, .int .i64 0, .int .i64 0, .int .i64 0, .int .i64 0, .int .i64 0, .int .i64 0, .int .i64 0, .string ⟨#[]⟩] 25) := hU.keep HRx6.out hgw
        have HBx7 : Hid (Below w.heap.size w V7) := hU.bel _ _ hgr HBx6.out
        have HCx7 : Hid (∀ i, i < 9 → V7.cell? ⟨g, i, none⟩ = some (.string (O i))) := fun i hi => (hU.cell ⟨g, i, none⟩ hgg rfl).trans (HCx6.out i hi)
        clear hU H6x6 HRx6 HBx6 HCx6
        have HN7 : Hid (∀ W, Calls Tryz.prog 20 #[.string (O 7)] W fun e w' => e = .returned (.int .i64 (wholeR (O 7).data.toList)) ∧ w' = W) := fun W => whole_any (O 7) W
        generalize hx7 : wholeR (O 7).data.toList = x7 at HN7
        have HX7 : Hid (wholeR (O 7).data.toList = x7) := hx7
        clear hx7
        have d7 : V7.cell? ⟨g, 7, none⟩ = some (.string (O 7)) := HCx7.out 7 (by decide)
        go_wp2_with fail
        refine (HN7.out _).mono ?_
        rintro e wz ⟨rfl, hwz⟩
        subst wz
        clear HN7 d7
        go_wp2_with (first | (refine wp_let1 rfl 3 _ _ rfl (g6) 7 rfl .i64 (x7) rfl (by kernel_rfl) #[.int .i64 (mm), .int .i64 (x1), .int .i64 (x2), .int .i64 (x3), .int .i64 (x4), .int .i64 (x5), .int .i64 (x6), .int .i64 0, .string ⟨#[]⟩] 25 H6x7.out (by simp) ?_) | fail)
        intro V8 hU
        have H6x8 : Hid (Blk V8 g6 #[.int .i64 (mm), .int .i64 (x1), .int .i64 (x2), .int .i64 (x3), .int .i64 (x4), .int .i64 (x5), .int .i64 (x6), .int .i64 (x7), .string ⟨#[]⟩] 25) := hU.blk
        have HRx8 : Hid (Blk V8 w.heap.size #[.int .i64 0, .int .i64 0, .int .i64 0, .int .i64 0, .int .i64 0, .int .i64 0, .int .i64 0, .int .i64 0, .string ⟨#[]⟩] 25) := hU.keep HRx7.out hgw
        have HBx8 : Hid (Below w.heap.size w V8) := hU.bel _ _ hgr HBx7.out
        have HCx8 : Hid (∀ i, i < 9 → V8.cell? ⟨g, i, none⟩ = some (.string (O i))) := fun i hi => (hU.cell ⟨g, i, none⟩ hgg rfl).trans (HCx7.out i hi)
        clear hU H6x7 HRx7 HBx7 HCx7
        have d8 : V8.cell? ⟨g, 8, none⟩ = some (.string (O 8)) := HCx8.out 8 (by decide)
        obtain ⟨E0, hE0⟩ : ∃ x : ByteArray, (O 8).extract 0 4 = x := ⟨_, rfl⟩
        have sE0 : E0.size ≤ 4 := by rw [← hE0]; have := cut_list (O 8) 0 4; have h3 : ((O 8).extract 0 4).data.toList.length = ((O 8).extract 0 4).size := Array.length_toList; rw [← h3, this, List.length_take]; omega
        obtain ⟨E1, hE1⟩ : ∃ x : ByteArray, (O 8).extract 5 9 = x := ⟨_, rfl⟩
        have sE1 : E1.size ≤ 4 := by rw [← hE1]; have := cut_list (O 8) 5 9; have h3 : ((O 8).extract 5 9).data.toList.length = ((O 8).extract 5 9).size := Array.length_toList; rw [← h3, this, List.length_take]; omega
        obtain ⟨E2, hE2⟩ : ∃ x : ByteArray, (O 8).extract 10 14 = x := ⟨_, rfl⟩
        have sE2 : E2.size ≤ 4 := by rw [← hE2]; have := cut_list (O 8) 10 14; have h3 : ((O 8).extract 10 14).data.toList.length = ((O 8).extract 10 14).size := Array.length_toList; rw [← h3, this, List.length_take]; omega
        obtain ⟨E3, hE3⟩ : ∃ x : ByteArray, (O 8).extract 15 19 = x := ⟨_, rfl⟩
        have sE3 : E3.size ≤ 4 := by rw [← hE3]; have := cut_list (O 8) 15 19; have h3 : ((O 8).extract 15 19).data.toList.length = ((O 8).extract 15 19).size := Array.length_toList; rw [← h3, this, List.length_take]; omega
        obtain ⟨E4, hE4⟩ : ∃ x : ByteArray, (O 8).extract 20 24 = x := ⟨_, rfl⟩
        have sE4 : E4.size ≤ 4 := by rw [← hE4]; have := cut_list (O 8) 20 24; have h3 : ((O 8).extract 20 24).data.toList.length = ((O 8).extract 20 24).size := Array.length_toList; rw [← h3, this, List.length_take]; omega
        obtain ⟨Y1, hY1⟩ : ∃ x : ByteArray, E0 ++ E1 = x := ⟨_, rfl⟩
        have sY1 : Y1.size ≤ 8 := by rw [← hY1]; have : (E0 ++ E1).size = E0.size + E1.size := ByteArray.size_append; omega
        have pY1 : ¬ (9223372036854775807 < E0.size + E1.size) := by omega
        obtain ⟨Y2, hY2⟩ : ∃ x : ByteArray, Y1 ++ E2 = x := ⟨_, rfl⟩
        have sY2 : Y2.size ≤ 12 := by rw [← hY2]; have : (Y1 ++ E2).size = Y1.size + E2.size := ByteArray.size_append; omega
        have pY2 : ¬ (9223372036854775807 < Y1.size + E2.size) := by omega
        obtain ⟨Y3, hY3⟩ : ∃ x : ByteArray, Y2 ++ E3 = x := ⟨_, rfl⟩
        have sY3 : Y3.size ≤ 16 := by rw [← hY3]; have : (Y2 ++ E3).size = Y2.size + E3.size := ByteArray.size_append; omega
        have pY3 : ¬ (9223372036854775807 < Y2.size + E3.size) := by omega
        obtain ⟨Y4, hY4⟩ : ∃ x : ByteArray, Y3 ++ E4 = x := ⟨_, rfl⟩
        have sY4 : Y4.size ≤ 20 := by rw [← hY4]; have : (Y3 ++ E4).size = Y3.size + E4.size := ByteArray.size_append; omega
        have pY4 : ¬ (9223372036854775807 < Y3.size + E4.size) := by omega
        have HUN : Hid (Y4 = ⟨(unfour (O 8).data.toList).toArray⟩) := by
          show _ = _
          rw [← hY4, ← hY3, ← hY2, ← hY1, ← hE0, ← hE1, ← hE2, ← hE3, ← hE4, un_cut]
          rfl
        go_wp2_with fail
        refine wp_region_held_drew (S := fun v => True) (by kernel_rfl) trivial (fun hHeld => ?_)
        refine take_at 0 97 (.string (O 8)) _ rfl rfl (by kernel_rfl) (by kernel_rfl) (by kernel_rfl) (fun _ _ _ h => h) (Or.inl ⟨by rfl, fun v hv => by skip; clear hv; go_simp⟩) hHeld ?_
        simp only [Act.put, List.setIfInBounds_toArray, List.set_cons_zero, List.set_cons_succ]
        refine take_at 1 98 (.string E0) _ rfl rfl (by kernel_rfl) (by kernel_rfl) (by kernel_rfl) (fun _ _ _ h => h) (Or.inl ⟨by rfl, fun v hv => by skip; clear hv; go_simp⟩) hHeld ?_
        simp only [Act.put, List.setIfInBounds_toArray, List.set_cons_zero, List.set_cons_succ]
        refine take_at 2 99 (.string (O 8)) _ rfl rfl (by kernel_rfl) (by kernel_rfl) (by kernel_rfl) (fun _ _ _ h => h) (Or.inl ⟨by rfl, fun v hv => by skip; clear hv; go_simp⟩) hHeld ?_
        simp only [Act.put, List.setIfInBounds_toArray, List.set_cons_zero, List.set_cons_succ]
        refine take_at 3 100 (.string E1) _ rfl rfl (by kernel_rfl) (by kernel_rfl) (by kernel_rfl) (fun _ _ _ h => h) (Or.inl ⟨by rfl, fun v hv => by skip; clear hv; go_simp⟩) hHeld ?_
        simp only [Act.put, List.setIfInBounds_toArray, List.set_cons_zero, List.set_cons_succ]
        refine take_at 4 101 (.string Y1) _ rfl rfl (by kernel_rfl) (by kernel_rfl) (by kernel_rfl) (fun _ _ _ h => h) (Or.inl ⟨by rfl, fun v hv => by skip; clear hv; go_simp⟩) hHeld ?_
        simp only [Act.put, List.setIfInBounds_toArray, List.set_cons_zero, List.set_cons_succ]
        refine take_at 5 102 (.string (O 8)) _ rfl rfl (by kernel_rfl) (by kernel_rfl) (by kernel_rfl) (fun _ _ _ h => h) (Or.inl ⟨by rfl, fun v hv => by skip; clear hv; go_simp⟩) hHeld ?_
        simp only [Act.put, List.setIfInBounds_toArray, List.set_cons_zero, List.set_cons_succ]
        refine take_at 6 103 (.string E2) _ rfl rfl (by kernel_rfl) (by kernel_rfl) (by kernel_rfl) (fun _ _ _ h => h) (Or.inl ⟨by rfl, fun v hv => by skip; clear hv; go_simp⟩) hHeld ?_
        simp only [Act.put, List.setIfInBounds_toArray, List.set_cons_zero, List.set_cons_succ]
        refine take_at 7 104 (.string Y2) _ rfl rfl (by kernel_rfl) (by kernel_rfl) (by kernel_rfl) (fun _ _ _ h => h) (Or.inl ⟨by rfl, fun v hv => by skip; clear hv; go_simp⟩) hHeld ?_
        simp only [Act.put, List.setIfInBounds_toArray, List.set_cons_zero, List.set_cons_succ]
        refine take_at 8 105 (.string (O 8)) _ rfl rfl (by kernel_rfl) (by kernel_rfl) (by kernel_rfl) (fun _ _ _ h => h) (Or.inl ⟨by rfl, fun v hv => by skip; clear hv; go_simp⟩) hHeld ?_
        simp only [Act.put, List.setIfInBounds_toArray, List.set_cons_zero, List.set_cons_succ]
        refine take_at 9 106 (.string E3) _ rfl rfl (by kernel_rfl) (by kernel_rfl) (by kernel_rfl) (fun _ _ _ h => h) (Or.inl ⟨by rfl, fun v hv => by skip; clear hv; go_simp⟩) hHeld ?_
        simp only [Act.put, List.setIfInBounds_toArray, List.set_cons_zero, List.set_cons_succ]
        refine take_at 10 107 (.string Y3) _ rfl rfl (by kernel_rfl) (by kernel_rfl) (by kernel_rfl) (fun _ _ _ h => h) (Or.inl ⟨by rfl, fun v hv => by skip; clear hv; go_simp⟩) hHeld ?_
        simp only [Act.put, List.setIfInBounds_toArray, List.set_cons_zero, List.set_cons_succ]
        refine take_at 11 108 (.string (O 8)) _ rfl rfl (by kernel_rfl) (by kernel_rfl) (by kernel_rfl) (fun _ _ _ h => h) (Or.inl ⟨by rfl, fun v hv => by skip; clear hv; go_simp⟩) hHeld ?_
        simp only [Act.put, List.setIfInBounds_toArray, List.set_cons_zero, List.set_cons_succ]
        refine take_at 12 109 (.string E4) _ rfl rfl (by kernel_rfl) (by kernel_rfl) (by kernel_rfl) (fun _ _ _ h => h) (Or.inl ⟨by rfl, fun v hv => by skip; clear hv; go_simp⟩) hHeld ?_
        simp only [Act.put, List.setIfInBounds_toArray, List.set_cons_zero, List.set_cons_succ]
        refine take_at 13 110 (.string Y4) _ rfl rfl (by kernel_rfl) (by kernel_rfl) (by kernel_rfl) (fun _ _ _ h => h) (Or.inl ⟨by rfl, fun v hv => by skip; clear hv; go_simp⟩) hHeld ?_
        simp only [Act.put, List.setIfInBounds_toArray, List.set_cons_zero, List.set_cons_succ]
        refine take_at 14 111 (.pointer (some ⟨g6, 8, none⟩)) _ rfl rfl (by kernel_rfl) (by kernel_rfl) (by kernel_rfl) (fun _ _ _ h => h) (Or.inl ⟨by rfl, fun v hv => by skip; clear hv; go_simp⟩) hHeld ?_
        simp only [Act.put, List.setIfInBounds_toArray, List.set_cons_zero, List.set_cons_succ]
        refine wpAnyH_ready (rs := [15]) (by kernel_rfl) (by simp) (AllReadyH.cons rfl (fun K hK => ?_) AllReadyH.nil)
        have z1 : V8.drew.cell? ⟨g6, 8, none⟩ = some (.string ⟨#[]⟩) := H6x8.out.cell 8
        have z2 : V8.drew.frozen? ⟨g6, 8, none⟩ = false := H6x8.out.free 8
        have z3 : V8.cell? ⟨g6, 8, none⟩ = some (.string ⟨#[]⟩) := H6x8.out.cell 8
        have z4 : V8.frozen? ⟨g6, 8, none⟩ = false := H6x8.out.free 8
        go_simp
        have H69 : Hid (Blk (V8.setCell ⟨g6, 8, none⟩ (.string Y4)).drew g6 #[.int .i64 (mm), .int .i64 (x1), .int .i64 (x2), .int .i64 (x3), .int .i64 (x4), .int .i64 (x5), .int .i64 (x6), .int .i64 (x7), .string Y4] 25) := H6x8.out.set 8 (.string Y4)
        have HR9 : Hid (Blk (V8.setCell ⟨g6, 8, none⟩ (.string Y4)).drew w.heap.size #[.int .i64 0, .int .i64 0, .int .i64 0, .int .i64 0, .int .i64 0, .int .i64 0, .int .i64 0, .int .i64 0, .string ⟨#[]⟩] 25) := HRx8.out.other 8 (.string Y4) hgw.symm
        have HB9 : Hid (Below w.heap.size w (V8.setCell ⟨g6, 8, none⟩ (.string Y4)).drew) := (bel_set HBx8.out g6 8 (.string Y4) hgr).drew
        refine hK.out _ _ trivial (fun hHeld => ?_)
        clear hK K z1 z2 z3 z4 d8 H6x8 HRx8 HBx8 HCx8
        refine wpAnyH_done (by kernel_rfl) ?_ _
        clear hHeld
        generalize (V8.setCell ⟨g6, 8, none⟩ (.string Y4)).drew = W9 at *
        have HCA : Hid (Cand (outs out) (⟨mm, x1, x2, x3, x4, x5, x6, x7, unfour (O 8).data.toList⟩ : Rc)) := by
          refine ⟨?_, ?_⟩
          · rw [HOU.out 0 (by decide)]; exact HMI.out
          · rw [HOU.out 1 (by decide), HOU.out 2 (by decide), HOU.out 3 (by decide), HOU.out 4 (by decide), HOU.out 5 (by decide), HOU.out 6 (by decide), HOU.out 7 (by decide), HOU.out 8 (by decide), HX1.out, HX2.out, HX3.out, HX4.out, HX5.out, HX6.out, HX7.out]
        obtain ⟨cr, hcr⟩ : ∃ c, (⟨mm, x1, x2, x3, x4, x5, x6, x7, unfour (O 8).data.toList⟩ : Rc) = c := ⟨_, rfl⟩
        have HSH : Hid (Calls Tryz.prog 7 #[.agg #[.int .i64 (mm), .int .i64 (x1), .int .i64 (x2), .int .i64 (x3), .int .i64 (x4), .int .i64 (x5), .int .i64 (x6), .int .i64 (x7), .string Y4]] W9 fun e w' => ShowPost W9 cr e w') := by
          have h := rshown KP cr W9
          rw [← hcr] at h ⊢
          unfold Rc.v Rc.cs at h
          rw [← HUN.out] at h
          exact h
        have HRV : Hid (Ending.returned (.tuple #[.agg #[.int .i64 (mm), .int .i64 (x1), .int .i64 (x2), .int .i64 (x3), .int .i64 (x4), .int .i64 (x5), .int .i64 (x6), .int .i64 (x7), .string Y4], .int .i64 0]) = .returned (.tuple #[Rc.v cr, .int .i64 0])) := by show _ = _; rw [← hcr]; unfold Rc.v Rc.cs; rw [← HUN.out]
        rw [hcr] at HCA
        clear hcr HMI HOU HX1 HX2 HX3 HX4 HX5 HX6 HX7 hY1 sY1 pY1 hY2 sY2 pY2 hY3 sY3 pY3 hY4 sY4 pY4 hE0 sE0 hE1 sE1 hE2 sE2 hE3 sE3 hE4 sE4
        go_wp2_with (first | (refine wp_whole rfl 25 _ rfl (g6) rfl 25 #[.int .i64 (mm), .int .i64 (x1), .int .i64 (x2), .int .i64 (x3), .int .i64 (x4), .int .i64 (x5), .int .i64 (x6), .int .i64 (x7), .string Y4] _ H69.out Tryz.underlying25 rfl (by kernel_rfl) ?_) | fail)
        refine HSH.out.mono ?_
        rintro e wA ⟨pl, pf, rfl, hsi, hbA⟩
        have H6A : Hid (Blk wA g6 #[.int .i64 (mm), .int .i64 (x1), .int .i64 (x2), .int .i64 (x3), .int .i64 (x4), .int .i64 (x5), .int .i64 (x6), .int .i64 (x7), .string Y4] 25) := H69.out.next hbA
        have HRA : Hid (Blk wA w.heap.size #[.int .i64 0, .int .i64 0, .int .i64 0, .int .i64 0, .int .i64 0, .int .i64 0, .int .i64 0, .int .i64 0, .string ⟨#[]⟩] 25) := HR9.out.next hbA
        have HBA : Hid (Below w.heap.size w wA) := HB9.out.trans (hbA.mono HB9.out.size)
        clear hbA H69 HR9 HB9 HSH HUN
        have HEQ : Hid (((⟨pl.toArray⟩ : ByteArray).toList == s.toList) = (pl == s.data.toList)) := by show _ = _; rw [ByteArray.toList_eq, ByteArray.toList_eq]
        by_cases hpf : pf = 0
        · subst hpf
          have hri := hsi.1.ok.1 rfl
          have hpl : pl = paper cr := by rcases hsi.2 with ⟨_, h⟩ | ⟨h, _⟩; exact h; exact absurd rfl h
          by_cases hps : pl = s.data.toList
          · have hse : ((⟨pl.toArray⟩ : ByteArray).toList == s.toList) = true := by rw [HEQ.out, hps]; simp
            have HOK : Hid (Right cr ∧ paper cr = s.data.toList) := ⟨hri, hpl.symm.trans hps⟩
            clear hps hpl hri hsi HEQ
            generalize (⟨pl.toArray⟩ : ByteArray) = A at *
            go_wp2_with (first | (refine wp_letAll rfl 25 _ _ rfl (w.heap.size) rfl #[.int .i64 (mm), .int .i64 (x1), .int .i64 (x2), .int .i64 (x3), .int .i64 (x4), .int .i64 (x5), .int .i64 (x6), .int .i64 (x7), .string Y4] rfl (by kernel_rfl) (by simp [Value.oneCell']) #[.int .i64 0, .int .i64 0, .int .i64 0, .int .i64 0, .int .i64 0, .int .i64 0, .int .i64 0, .int .i64 0, .string ⟨#[]⟩] 25 HRA.out rfl ?_) | (refine wp_whole rfl 25 _ rfl (g6) rfl 25 #[.int .i64 (mm), .int .i64 (x1), .int .i64 (x2), .int .i64 (x3), .int .i64 (x4), .int .i64 (x5), .int .i64 (x6), .int .i64 (x7), .string Y4] _ H6A.out Tryz.underlying25 rfl (by kernel_rfl) ?_) | fail)
            intro WZ hU
            have HBZ : Hid (Below w.heap.size w WZ) := hU.bel _ _ (Nat.le_refl _) HBA.out
            have R0 : Hid (WZ.cell? ⟨w.heap.size, 0, none⟩ = some (.int .i64 (mm))) := hU.blk.cell 0
            have R1 : Hid (WZ.cell? ⟨w.heap.size, 1, none⟩ = some (.int .i64 (x1))) := hU.blk.cell 1
            have R2 : Hid (WZ.cell? ⟨w.heap.size, 2, none⟩ = some (.int .i64 (x2))) := hU.blk.cell 2
            have R3 : Hid (WZ.cell? ⟨w.heap.size, 3, none⟩ = some (.int .i64 (x3))) := hU.blk.cell 3
            have R4 : Hid (WZ.cell? ⟨w.heap.size, 4, none⟩ = some (.int .i64 (x4))) := hU.blk.cell 4
            have R5 : Hid (WZ.cell? ⟨w.heap.size, 5, none⟩ = some (.int .i64 (x5))) := hU.blk.cell 5
            have R6 : Hid (WZ.cell? ⟨w.heap.size, 6, none⟩ = some (.int .i64 (x6))) := hU.blk.cell 6
            have R7 : Hid (WZ.cell? ⟨w.heap.size, 7, none⟩ = some (.int .i64 (x7))) := hU.blk.cell 7
            have R8 : Hid (WZ.cell? ⟨w.heap.size, 8, none⟩ = some (.string Y4)) := hU.blk.cell 8
            clear hU
            go_wp2_with fail
            exact bodyPost_ret (v := .tuple #[.agg #[.int .i64 (mm), .int .i64 (x1), .int .i64 (x2), .int .i64 (x3), .int .i64 (x4), .int .i64 (x5), .int .i64 (x6), .int .i64 (x7), .string Y4], .int .i64 0]) (by simp [results, Tryz.results9, R0.out, R1.out, R2.out, R3.out, R4.out, R5.out, R6.out, R7.out, R8.out, go_sem]) rfl ⟨cr, 0, HRV.out, .inr (.inr ⟨HV.out, HOK.out.1, HOK.out.2, rfl⟩), HBZ.out⟩
          · have hse : ((⟨pl.toArray⟩ : ByteArray).toList == s.toList) = false := by rw [HEQ.out]; simpa using hps
            have HNO : Hid (∀ q, Right q → paper q ≠ s.data.toList) := no_cand HO.out HCA.out (fun h => hps (hpl.trans h.2))
            clear hps hpl hri hsi HEQ
            generalize (⟨pl.toArray⟩ : ByteArray) = A at *
            go_wp2_with (first | (refine wp_letAll rfl 25 _ _ rfl (w.heap.size) rfl #[.int .i64 0, .int .i64 0, .int .i64 0, .int .i64 0, .int .i64 0, .int .i64 0, .int .i64 0, .int .i64 0, .string ⟨#[]⟩] rfl (by kernel_rfl) (by simp [Value.oneCell']) #[.int .i64 0, .int .i64 0, .int .i64 0, .int .i64 0, .int .i64 0, .int .i64 0, .int .i64 0, .int .i64 0, .string ⟨#[]⟩] 25 HRA.out rfl ?_) | fail)
            intro WZ hU
            have HBZ : Hid (Below w.heap.size w WZ) := hU.bel _ _ (Nat.le_refl _) HBA.out
            have R0 : Hid (WZ.cell? ⟨w.heap.size, 0, none⟩ = some (.int .i64 0)) := hU.blk.cell 0
            have R1 : Hid (WZ.cell? ⟨w.heap.size, 1, none⟩ = some (.int .i64 0)) := hU.blk.cell 1
            have R2 : Hid (WZ.cell? ⟨w.heap.size, 2, none⟩ = some (.int .i64 0)) := hU.blk.cell 2
            have R3 : Hid (WZ.cell? ⟨w.heap.size, 3, none⟩ = some (.int .i64 0)) := hU.blk.cell 3
            have R4 : Hid (WZ.cell? ⟨w.heap.size, 4, none⟩ = some (.int .i64 0)) := hU.blk.cell 4
            have R5 : Hid (WZ.cell? ⟨w.heap.size, 5, none⟩ = some (.int .i64 0)) := hU.blk.cell 5
            have R6 : Hid (WZ.cell? ⟨w.heap.size, 6, none⟩ = some (.int .i64 0)) := hU.blk.cell 6
            have R7 : Hid (WZ.cell? ⟨w.heap.size, 7, none⟩ = some (.int .i64 0)) := hU.blk.cell 7
            have R8 : Hid (WZ.cell? ⟨w.heap.size, 8, none⟩ = some (.string ⟨#[]⟩)) := hU.blk.cell 8
            clear hU
            go_wp2_with fail
            exact bodyPost_ret (v := .tuple #[.agg #[.int .i64 0, .int .i64 0, .int .i64 0, .int .i64 0, .int .i64 0, .int .i64 0, .int .i64 0, .int .i64 0, .string ⟨#[]⟩], .int .i64 3]) (by simp [results, Tryz.results9, R0.out, R1.out, R2.out, R3.out, R4.out, R5.out, R6.out, R7.out, R8.out, go_sem]) rfl ⟨rc0, 3, rfl, .inr (.inl ⟨HV.out, HNO.out, rfl, rfl⟩), HBZ.out⟩
        · have hpn : (pf != 0) = true := by simpa using hpf
          have HNO : Hid (∀ q, Right q → paper q ≠ s.data.toList) := no_cand HO.out HCA.out (fun h => hpf (hsi.1.ok.2 h.1))
          clear hpf hsi HEQ
          generalize (⟨pl.toArray⟩ : ByteArray) = A at *
          go_wp2_with (first | (refine wp_letAll rfl 25 _ _ rfl (w.heap.size) rfl #[.int .i64 0, .int .i64 0, .int .i64 0, .int .i64 0, .int .i64 0, .int .i64 0, .int .i64 0, .int .i64 0, .string ⟨#[]⟩] rfl (by kernel_rfl) (by simp [Value.oneCell']) #[.int .i64 0, .int .i64 0, .int .i64 0, .int .i64 0, .int .i64 0, .int .i64 0, .int .i64 0, .int .i64 0, .string ⟨#[]⟩] 25 HRA.out rfl ?_) | fail)
          intro WZ hU
          have HBZ : Hid (Below w.heap.size w WZ) := hU.bel _ _ (Nat.le_refl _) HBA.out
          have R0 : Hid (WZ.cell? ⟨w.heap.size, 0, none⟩ = some (.int .i64 0)) := hU.blk.cell 0
          have R1 : Hid (WZ.cell? ⟨w.heap.size, 1, none⟩ = some (.int .i64 0)) := hU.blk.cell 1
          have R2 : Hid (WZ.cell? ⟨w.heap.size, 2, none⟩ = some (.int .i64 0)) := hU.blk.cell 2
          have R3 : Hid (WZ.cell? ⟨w.heap.size, 3, none⟩ = some (.int .i64 0)) := hU.blk.cell 3
          have R4 : Hid (WZ.cell? ⟨w.heap.size, 4, none⟩ = some (.int .i64 0)) := hU.blk.cell 4
          have R5 : Hid (WZ.cell? ⟨w.heap.size, 5, none⟩ = some (.int .i64 0)) := hU.blk.cell 5
          have R6 : Hid (WZ.cell? ⟨w.heap.size, 6, none⟩ = some (.int .i64 0)) := hU.blk.cell 6
          have R7 : Hid (WZ.cell? ⟨w.heap.size, 7, none⟩ = some (.int .i64 0)) := hU.blk.cell 7
          have R8 : Hid (WZ.cell? ⟨w.heap.size, 8, none⟩ = some (.string ⟨#[]⟩)) := hU.blk.cell 8
          clear hU
          go_wp2_with fail
          exact bodyPost_ret (v := .tuple #[.agg #[.int .i64 0, .int .i64 0, .int .i64 0, .int .i64 0, .int .i64 0, .int .i64 0, .int .i64 0, .int .i64 0, .string ⟨#[]⟩], .int .i64 3]) (by simp [results, Tryz.results9, R0.out, R1.out, R2.out, R3.out, R4.out, R5.out, R6.out, R7.out, R8.out, go_sem]) rfl ⟨rc0, 3, rfl, .inr (.inl ⟨HV.out, HNO.out, rfl, rfl⟩), HBZ.out⟩
      · have n24 : (((O 8).size : Int) != 24) = true := by simp; omega
        have HNO : Hid (∀ q, Right q → paper q ≠ s.data.toList) := no_four HO.out (by rw [HOU.out 8 (by decide), Array.length_toList]; exact h24)
        clear h24
        go_wp2_with (first | (refine wp_letAll rfl 25 _ _ rfl (w.heap.size) rfl #[.int .i64 0, .int .i64 0, .int .i64 0, .int .i64 0, .int .i64 0, .int .i64 0, .int .i64 0, .int .i64 0, .string ⟨#[]⟩] rfl (by kernel_rfl) (by simp [Value.oneCell']) #[.int .i64 0, .int .i64 0, .int .i64 0, .int .i64 0, .int .i64 0, .int .i64 0, .int .i64 0, .int .i64 0, .string ⟨#[]⟩] 25 HR1.out rfl ?_) | fail)
        intro WZ hU
        have HBZ : Hid (Below w.heap.size w WZ) := hU.bel _ _ (Nat.le_refl _) HB1.out
        have R0 : Hid (WZ.cell? ⟨w.heap.size, 0, none⟩ = some (.int .i64 0)) := hU.blk.cell 0
        have R1 : Hid (WZ.cell? ⟨w.heap.size, 1, none⟩ = some (.int .i64 0)) := hU.blk.cell 1
        have R2 : Hid (WZ.cell? ⟨w.heap.size, 2, none⟩ = some (.int .i64 0)) := hU.blk.cell 2
        have R3 : Hid (WZ.cell? ⟨w.heap.size, 3, none⟩ = some (.int .i64 0)) := hU.blk.cell 3
        have R4 : Hid (WZ.cell? ⟨w.heap.size, 4, none⟩ = some (.int .i64 0)) := hU.blk.cell 4
        have R5 : Hid (WZ.cell? ⟨w.heap.size, 5, none⟩ = some (.int .i64 0)) := hU.blk.cell 5
        have R6 : Hid (WZ.cell? ⟨w.heap.size, 6, none⟩ = some (.int .i64 0)) := hU.blk.cell 6
        have R7 : Hid (WZ.cell? ⟨w.heap.size, 7, none⟩ = some (.int .i64 0)) := hU.blk.cell 7
        have R8 : Hid (WZ.cell? ⟨w.heap.size, 8, none⟩ = some (.string ⟨#[]⟩)) := hU.blk.cell 8
        clear hU
        go_wp2_with fail
        exact bodyPost_ret (v := .tuple #[.agg #[.int .i64 0, .int .i64 0, .int .i64 0, .int .i64 0, .int .i64 0, .int .i64 0, .int .i64 0, .int .i64 0, .string ⟨#[]⟩], .int .i64 3]) (by simp [results, Tryz.results9, R0.out, R1.out, R2.out, R3.out, R4.out, R5.out, R6.out, R7.out, R8.out, go_sem]) rfl ⟨rc0, 3, rfl, .inr (.inl ⟨HV.out, HNO.out, rfl, rfl⟩), HBZ.out⟩

end Go.Proofs.YtlicdeppfhmfjaaGreatDoor.rcp

/- The statement ReceiptReads. -/
namespace Go.Proofs.YtlicdeppfhmfjaaGreatDoor.rcp
open Go.RowKit
set_option maxRecDepth 100000
set_option linter.unusedVariables false
set_option linter.unusedSimpArgs false

set_option maxHeartbeats 2000000 in
theorem ReceiptReads_walk (s : ByteArray) (w : World) (K : KrRead w) (KP : KPar) : Calls Tryz.prog 4 #[.string s] w fun e w' => e = .returned (.bool true) ∧ Below w.heap.size w w' := by
  have H1 : Hid (∀ W, Below w.heap.size w W → Calls Tryz.prog 8 #[.string s] W fun e w' => ReadPost W s.data.toList e w') := fun W hW => K W s hW
  have H2 : Hid (∀ W, Calls Tryz.prog 9 #[.string s] W fun e w' => ReadPost W s.data.toList e w') := fun W => rread KP s W
  go_enter Tryz.func4, Tryz.ntmps4
  go_wp2_with fail
  refine (H1.out _ (Below.refl _ _)).mono ?_
  rintro e w1 ⟨r, f, rfl, h1, hb1⟩
  unfold Rc.v Rc.cs
  have HI : Hid (ReadIs s.data.toList r f) := h1
  obtain ⟨S, hS⟩ : ∃ S : ByteArray, (⟨r.tk.toArray⟩ : ByteArray) = S := ⟨_, rfl⟩
  rw [hS]
  have HSS : Hid ((⟨r.tk.toArray⟩ : ByteArray) = S) := hS
  have HX : Hid (Blk (w1.alloc (.cells #[.int .i64 r.me, .int .i64 r.id, .int .i64 r.te, .int .i64 r.de, .int .i64 r.fe, .int .i64 r.pr, .int .i64 r.ch, .int .i64 r.un, .string S] 25)) w1.heap.size #[.int .i64 r.me, .int .i64 r.id, .int .i64 r.te, .int .i64 r.de, .int .i64 r.fe, .int .i64 r.pr, .int .i64 r.ch, .int .i64 r.un, .string S] 25) := Blk.new w1 _ _
  have HB1 : Hid (Below w.heap.size w (w1.alloc (.cells #[.int .i64 r.me, .int .i64 r.id, .int .i64 r.te, .int .i64 r.de, .int .i64 r.fe, .int .i64 r.pr, .int .i64 r.ch, .int .i64 r.un, .string S] 25))) := hb1.alloc hb1.size _
  clear h1 hb1 hS
  go_upto_region 2 with fail
  generalize w1.alloc (.cells #[.int .i64 r.me, .int .i64 r.id, .int .i64 r.te, .int .i64 r.de, .int .i64 r.fe, .int .i64 r.pr, .int .i64 r.ch, .int .i64 r.un, .string S] 25) = W1 at *
  generalize w1.heap.size = ga at *
  go_wp2_with fail
  refine (H2.out _).mono ?_
  rintro e w2 ⟨r2, f2, rfl, h2, hb2⟩
  obtain ⟨rfl, rfl⟩ := HI.out.one h2
  unfold Rc.v Rc.cs
  rw [HSS.out]
  have HY : Hid (Blk (w2.alloc (.cells #[.int .i64 r.me, .int .i64 r.id, .int .i64 r.te, .int .i64 r.de, .int .i64 r.fe, .int .i64 r.pr, .int .i64 r.ch, .int .i64 r.un, .string S] 25)) w2.heap.size #[.int .i64 r.me, .int .i64 r.id, .int .i64 r.te, .int .i64 r.de, .int .i64 r.fe, .int .i64 r.pr, .int .i64 r.ch, .int .i64 r.un, .string S] 25) := Blk.new w2 _ _
  have HX2 : Hid (Blk (w2.alloc (.cells #[.int .i64 r.me, .int .i64 r.id, .int .i64 r.te, .int .i64 r.de, .int .i64 r.fe, .int .i64 r.pr, .int .i64 r.ch, .int .i64 r.un, .string S] 25)) ga #[.int .i64 r.me, .int .i64 r.id, .int .i64 r.te, .int .i64 r.de, .int .i64 r.fe, .int .i64 r.pr, .int .i64 r.ch, .int .i64 r.un, .string S] 25) := (HX.out.next hb2).alloc _
  have HB2 : Hid (Below w.heap.size w (w2.alloc (.cells #[.int .i64 r.me, .int .i64 r.id, .int .i64 r.te, .int .i64 r.de, .int .i64 r.fe, .int .i64 r.pr, .int .i64 r.ch, .int .i64 r.un, .string S] 25))) := (HB1.out.trans (hb2.mono HB1.out.size)).alloc (Nat.le_trans HB1.out.size hb2.size) _
  clear h2 hb2 HX HB1 H1 H2
  go_upto_region 3 with fail
  generalize w2.alloc (.cells #[.int .i64 r.me, .int .i64 r.id, .int .i64 r.te, .int .i64 r.de, .int .i64 r.fe, .int .i64 r.pr, .int .i64 r.ch, .int .i64 r.un, .string S] 25) = W2 at *
  generalize w2.heap.size = gb at *
  have ef : (f == f) = true := by simp
  have eb : ∀ wz : World, (Op.equalIn 10000 25 (.agg #[.int .i64 r.me, .int .i64 r.id, .int .i64 r.te, .int .i64 r.de, .int .i64 r.fe, .int .i64 r.pr, .int .i64 r.ch, .int .i64 r.un, .string S]) (.agg #[.int .i64 r.me, .int .i64 r.id, .int .i64 r.te, .int .i64 r.de, .int .i64 r.fe, .int .i64 r.pr, .int .i64 r.ch, .int .i64 r.un, .string S])).run Tryz.prog wz = .ok true wz := fun wz => eqRc _ _ _ _ _ _ _ _ _ wz
  go_wp2_with (first | (refine wp_whole rfl 25 _ rfl (ga) rfl 25 #[.int .i64 r.me, .int .i64 r.id, .int .i64 r.te, .int .i64 r.de, .int .i64 r.fe, .int .i64 r.pr, .int .i64 r.ch, .int .i64 r.un, .string S] _ HX2.out Tryz.underlying25 rfl (by kernel_rfl) ?_) | (refine wp_whole rfl 25 _ rfl (gb) rfl 25 #[.int .i64 r.me, .int .i64 r.id, .int .i64 r.te, .int .i64 r.de, .int .i64 r.fe, .int .i64 r.pr, .int .i64 r.ch, .int .i64 r.un, .string S] _ HY.out Tryz.underlying25 rfl (by kernel_rfl) ?_) | fail)
  go_ret
  exact ⟨rfl, HB2.out⟩

end Go.Proofs.YtlicdeppfhmfjaaGreatDoor.rcp

/- What the small functions of package cents, and of the document's answer to it, give back: one contract a function. -/
namespace Go.Proofs.YtlicdeppfhmfjaaGreatDoor.cents
open Go.RowKit

/-- The slice a, len, cap reads as the numbers zs: its elements alone. -/
def Row (w : World) (a : Option Addr) (len : Nat) (zs : List Int) : Prop :=
  zs.length = len ∧ (len = 0 ∨ ∃ b off, a = some ⟨b, off, none⟩ ∧ ∀ i, i < len → w.cell? ⟨b, off + i, none⟩ = some (.int .i64 (zs.getD i 0)))

def okAll (lo hi : Int) (l : List Int) : Bool := l.all fun n => decide (lo ≤ n) && decide (n ≤ hi)

theorem okAll_step (lo hi : Int) (zs : List Int) (k : Nat) (hk : k < zs.length) (h : okAll lo hi (zs.take k) = true) (h1 : lo ≤ zs.getD k 0) (h2 : zs.getD k 0 ≤ hi) : okAll lo hi (zs.take (k + 1)) = true := by
  unfold okAll at *
  rw [List.take_add_one, List.all_append, h]
  simp only [List.getD, List.getElem?_eq_getElem hk, Option.getD] at h1 h2 ⊢
  simp [h1, h2]

theorem okAll_no (lo hi : Int) (zs : List Int) (k : Nat) (hk : k < zs.length) (h : zs.getD k 0 < lo ∨ hi < zs.getD k 0) : okAll lo hi zs = false := by
  unfold okAll
  rw [List.all_eq_false]
  refine ⟨zs[k], List.getElem_mem hk, ?_⟩
  simp only [List.getD, List.getElem?_eq_getElem hk, Option.getD] at h
  simp; omega

theorem ret_bool {a b : Bool} (h : a = b) : Ending.returned (.bool a) = .returned (.bool b) := by rw [h]

set_option maxHeartbeats 400000 in
theorem within_any (lo hi : Int) (a : Option Addr) (len cap : Nat) (zs : List Int) (w : World) (hr : Row w a len zs) (hl : len ≤ maxLen) :
    Calls Tryz.prog 58 #[.int .i64 lo, .int .i64 hi, .slice a len cap] w fun e w' => e = .returned (.bool (okAll lo hi zs)) ∧ w' = w := by
  unfold maxLen at hl
  obtain ⟨hz, hr⟩ := hr
  go_enter Tryz.func58, Tryz.ntmps58
  go_wp2
  go_loop [11] (fun i => ∃ k : Nat, k ≤ len ∧ i = .int .i64 k ∧ okAll lo hi (zs.take k) = true) (fun i => len - (intOf i).toNat)
  case atStart => exact ⟨0, Nat.zero_le _, rfl, rfl⟩
  case round =>
    obtain ⟨k, hk, rfl, hok⟩ := hrel
    have HK : Hid (okAll lo hi (zs.take k) = true) := hok
    clear hok
    by_cases hlt : k < len
    · rcases hr with h0 | ⟨b, off, rfl, hc⟩
      · omega
      have hcell := hc k hlt
      clear hc
      generalize hzk : zs.getD k 0 = z at hcell
      have HZ : Hid (zs.getD k 0 = z) := hzk
      clear hzk
      by_cases h1 : z < lo
      · go_wp2
        go_ret
        exact ⟨ret_bool (okAll_no lo hi zs k (by omega) (.inl (by rw [HZ.out]; exact h1))).symm, rfl⟩
      · by_cases h2 : hi < z
        · go_wp2
          go_ret
          exact ⟨ret_bool (okAll_no lo hi zs k (by omega) (.inr (by rw [HZ.out]; exact h2))).symm, rfl⟩
        · go_wp2
          go_round
          case rel => exact ⟨k + 1, by omega, by go_num, okAll_step lo hi zs k (by omega) HK.out (by rw [HZ.out]; omega) (by rw [HZ.out]; omega)⟩
          case measure => simp [intOf]; omega
    · go_wp2
      go_ret
      refine ⟨ret_bool ?_, rfl⟩
      have := HK.out
      rw [List.take_of_length_le (by omega)] at this
      exact this.symm

end Go.Proofs.YtlicdeppfhmfjaaGreatDoor.cents

/- What comes back, by its number. -/
namespace Go.Proofs.YtlicdeppfhmfjaaGreatDoor.cents
open Go.RowKit
theorem ret_int {k : IntKind} {a b : Int} (h : a = b) : Ending.returned (.int k a) = .returned (.int k b) := by rw [h]
end Go.Proofs.YtlicdeppfhmfjaaGreatDoor.cents

/- Digits: whether a text is made of them alone, and the number that they make. -/
namespace Go.Proofs.YtlicdeppfhmfjaaGreatDoor.cents
open Go.RowKit

theorem iter_below (w : World) (s : ByteArray) (k : Nat) : Below w.heap.size w (w.iter s k) := (Below.refl _ _).alloc (Nat.le_refl _) _

set_option maxHeartbeats 400000 in
theorem allDigits_any (s : ByteArray) (w : World) :
    Calls Tryz.prog 77 #[.string s] w fun e w' => e = .returned (.bool (allD s.data.toList)) ∧ Below w.heap.size w w' := by
  go_enter Tryz.func77, Tryz.ntmps77
  go_wp2
  go_loopw [] (fun wr => ∃ k : Nat, k ≤ s.size ∧ wr = w.iter s k ∧ allD (s.data.toList.take k) = true) (fun wr => s.size - wr.iterPos w.heap.size)
  case atStart => exact ⟨0, Nat.zero_le _, rfl, rfl⟩
  case round =>
    obtain ⟨k, hk, rfl, hok⟩ := hrel
    have HK : Hid (allD (s.data.toList.take k) = true) := hok
    clear hok
    by_cases hp : k < s.size
    · by_cases ha : (s[k]'hp).toNat < 128
      · have hnx : ∀ ty, (Instr.next (.pointer (some ⟨w.heap.size, 0, none⟩)) true ty).run Tryz.prog (w.iter s k) = _ := fun ty => run_next_ascii w s k ty hp ha
        have HT : Hid (s.data.toList.take (k + 1) = s.data.toList.take k ++ [s[k]]) := take_snoc s k hp
        have HN : Hid (isD s[k] = false → allD s.data.toList = false) := allD_take_no s k hp
        have HY : Hid (48 ≤ ((s[k].toNat : Nat) : Int) → ((s[k].toNat : Nat) : Int) ≤ 57 → isD s[k] = true) := fun a b => isD_yes a b
        have HL : Hid (((s[k].toNat : Nat) : Int) < 48 → isD s[k] = false) := fun a => isD_lo a
        have HH : Hid (57 < ((s[k].toNat : Nat) : Int) → isD s[k] = false) := fun a => isD_hi a
        clear ha
        generalize s[k] = c at *
        generalize hcc : ((c.toNat : Nat) : Int) = z at *
        clear hcc
        by_cases h1 : z < 48
        · go_wp2
          go_ret
          exact ⟨ret_bool (HN.out (HL.out h1)).symm, iter_below _ _ _⟩
        · by_cases h2 : 57 < z
          · go_wp2
            go_ret
            exact ⟨ret_bool (HN.out (HH.out h2)).symm, iter_below _ _ _⟩
          · go_wp2
            go_roundw
            case rel => exact ⟨k + 1, by omega, rfl, by rw [HT.out, allD_append, HK.out]; simp [allD, HY.out (by omega) (by omega)]⟩
            case measure => simp; omega
      · have hd := (decode_high s k hp (by omega)).1
        have hnx : ∀ ty, (Instr.next (.pointer (some ⟨w.heap.size, 0, none⟩)) true ty).run Tryz.prog (w.iter s k) = _ := fun ty => run_next_any w s k ty hp
        have HN : Hid (allD s.data.toList = false) := allD_take_no s k hp (isD_hi (by omega))
        clear ha
        have hd2 := decode_le s k
        generalize (Utf8.decode s k).1 = r at *
        generalize (Utf8.decode s k).2 = n at *
        go_wp2
        go_ret
        exact ⟨ret_bool HN.out.symm, iter_below _ _ _⟩
    · have hnx : ∀ ty, (Instr.next (.pointer (some ⟨w.heap.size, 0, none⟩)) true ty).run Tryz.prog (w.iter s k) = _ := fun ty => run_next_end w s k ty hp
      go_wp2
      go_ret
      refine ⟨ret_bool ?_, iter_below _ _ _⟩
      have := HK.out
      rw [List.take_of_length_le (by simp; omega)] at this
      exact this.symm

set_option maxHeartbeats 400000 in
theorem value_any (s : ByteArray) (w : World) (hd : allD s.data.toList = true) :
    Calls Tryz.prog 78 #[.string s] w fun e w' => e = .returned (.int .i64 (cval s.data.toList)) ∧ Below w.heap.size w w' := by
  have HD : Hid (allD s.data.toList = true) := hd
  clear hd
  go_enter Tryz.func78, Tryz.ntmps78
  go_wp2
  go_loopw [3] (fun v wr => ∃ k : Nat, k ≤ s.size ∧ wr = w.iter s k ∧ v = .int .i64 (cval (s.data.toList.take k))) (fun _ wr => s.size - wr.iterPos w.heap.size)
  case atStart => exact ⟨0, Nat.zero_le _, rfl, rfl⟩
  case round =>
    obtain ⟨k, hk, rfl, rfl⟩ := hrel
    by_cases hp : k < s.size
    · have hdk : allD (s.data.toList.take k) = true ∧ isD s[k] = true := by
        have h := HD.out
        have e : s.data.toList = s.data.toList.take k ++ [s[k]] ++ s.data.toList.drop (k + 1) := by rw [← take_snoc s k hp, List.take_append_drop]
        rw [e, allD_append, allD_append] at h
        simp [allD] at h ⊢
        exact h.1
      have hb := cval_eq _ hdk.1
      have hcb := isD_bd hdk.2
      have ha : (s[k]'hp).toNat < 128 := by omega
      have hnx : ∀ ty, (Instr.next (.pointer (some ⟨w.heap.size, 0, none⟩)) true ty).run Tryz.prog (w.iter s k) = _ := fun ty => run_next_ascii w s k ty hp ha
      have HT : Hid (cval (s.data.toList.take (k + 1)) = if cval (s.data.toList.take k) ≤ 1000000000000 then cval (s.data.toList.take k) * 10 + (((s[k].toNat : Nat) : Int) - 48) else cval (s.data.toList.take k)) := by
        show _ = _
        rw [take_snoc s k hp, cval_snoc]
      obtain ⟨_, b1, b2, _, _⟩ := hb
      clear hdk ha
      generalize cval (s.data.toList.take k) = v at *
      generalize s[k] = c at *
      generalize hcc : ((c.toNat : Nat) : Int) = z at *
      clear hcc
      obtain ⟨z1, z2⟩ := hcb
      by_cases h1 : v ≤ 1000000000000
      · go_wp2
        go_roundw
        case rel => exact ⟨k + 1, by omega, rfl, by rw [HT.out, if_pos h1]⟩
        case measure => simp; omega
      · go_wp2
        go_roundw
        case rel => exact ⟨k + 1, by omega, rfl, by rw [HT.out, if_neg h1]⟩
        case measure => simp; omega
    · have hnx : ∀ ty, (Instr.next (.pointer (some ⟨w.heap.size, 0, none⟩)) true ty).run Tryz.prog (w.iter s k) = _ := fun ty => run_next_end w s k ty hp
      go_wp2
      go_ret
      exact ⟨ret_int (by rw [List.take_of_length_le (by simp; omega)]), iter_below _ _ _⟩

end Go.Proofs.YtlicdeppfhmfjaaGreatDoor.cents

/- A text cut: its sign ahead, and at the first dot; whether the units are a whole number. -/
namespace Go.Proofs.YtlicdeppfhmfjaaGreatDoor.cents
open Go.RowKit
set_option maxRecDepth 100000

theorem indexByte_any (s : ByteArray) (c : Int) (w : World) :
    Calls Tryz.prog 171 #[.string s, .int .u8 c] w fun e w' => e = .returned (.int .i64 (Lib.indexByte s.data.toList c.toNat.toUInt8)) ∧ w' = w := by
  go_enter Tryz.func171, Tryz.ntmps171
  go_wp2
  rw [run_callFunc_extern Tryz.func179 (by kernel_rfl) (by kernel_rfl) (by kernel_rfl) (e := Extern.BytealgIndexByte.indexByte) (by kernel_rfl), Lib.run_indexByteString]
  simp only [Result.andThen]
  rw [Oper.upon_value]
  go_wp2
  go_ret
  exact ⟨rfl, rfl⟩

set_option maxHeartbeats 400000 in
theorem index_dot (s : ByteArray) (w : World) :
    Calls Tryz.prog 155 #[.string s, .string ⟨#[46]⟩] w fun e w' => e = .returned (.int .i64 (Lib.indexByte s.data.toList 46)) ∧ w' = w := by
  cases h : ([46] == s.toList)
  · go_enter Tryz.func155, Tryz.ntmps155
    go_wp2_with fail
    refine (indexByte_any _ _ _).mono ?_
    rintro e w' ⟨rfl, rfl⟩
    go_wp2
    go_ret
    exact ⟨rfl, rfl⟩
  · have e : s.data.toList = [46] := by rw [← ByteArray.toList_eq]; exact (by simpa using h : [46] = s.toList).symm
    rw [e, ix_self]
    go_enter Tryz.func155, Tryz.ntmps155
    go_wp2
    go_ret
    exact ⟨rfl, rfl⟩

set_option maxHeartbeats 400000 in
theorem cutLite_yes (s : ByteArray) (i : Nat) (w : World) (hs : s.size ≤ 140737488351232) (h : Lib.indexByte s.data.toList 46 = i) :
    Calls Tryz.prog 111 #[.string s, .string ⟨#[46]⟩] w fun e w' => e = .returned (.tuple #[.string (s.extract 0 i), .string (s.extract (i + 1) s.size), .bool true]) ∧ Below w.heap.size w w' := by
  have hi := ix_bd h
  have HI : Hid (Lib.indexByte s.data.toList 46 = i) := h
  clear h
  go_enter Tryz.func111, Tryz.ntmps111
  go_wp2_with fail
  refine (index_dot _ _).mono ?_
  rintro e w' ⟨rfl, rfl⟩
  rw [HI.out]
  have h0 : (0 : Int) ≤ (i : Int) := by omega
  go_wp2
  go_region
  all_goals go_wp2
  go_ret3
  exact ⟨rfl, (Below.refl _ _).drew⟩

set_option maxHeartbeats 400000 in
theorem cutLite_no (s : ByteArray) (w : World) (h : Lib.indexByte s.data.toList 46 = -1) :
    Calls Tryz.prog 111 #[.string s, .string ⟨#[46]⟩] w fun e w' => e = .returned (.tuple #[.string s, .string ⟨#[]⟩, .bool false]) ∧ Below w.heap.size w w' := by
  have HI : Hid (Lib.indexByte s.data.toList 46 = -1) := h
  clear h
  go_enter Tryz.func111, Tryz.ntmps111
  go_wp2_with fail
  refine (index_dot _ _).mono ?_
  rintro e w' ⟨rfl, rfl⟩
  rw [HI.out]
  go_wp2
  go_ret3
  exact ⟨rfl, Below.refl _ _⟩

theorem cut_yes (s : ByteArray) (i : Nat) (w : World) (hs : s.size ≤ 140737488351232) (h : Lib.indexByte s.data.toList 46 = i) :
    Calls Tryz.prog 74 #[.string s, .string ⟨#[46]⟩] w fun e w' => e = .returned (.tuple #[.string (s.extract 0 i), .string (s.extract (i + 1) s.size), .bool true]) ∧ Below w.heap.size w w' := by
  have H := cutLite_yes s i w hs h
  clear h
  go_enter Tryz.func74, Tryz.ntmps74
  go_wp2_with fail
  refine H.mono ?_
  rintro e w' ⟨rfl, hb⟩
  clear H
  go_wp2
  go_ret3
  exact ⟨rfl, hb⟩

theorem cut_no (s : ByteArray) (w : World) (h : Lib.indexByte s.data.toList 46 = -1) :
    Calls Tryz.prog 74 #[.string s, .string ⟨#[46]⟩] w fun e w' => e = .returned (.tuple #[.string s, .string ⟨#[]⟩, .bool false]) ∧ Below w.heap.size w w' := by
  have H := cutLite_no s w h
  clear h
  go_enter Tryz.func74, Tryz.ntmps74
  go_wp2_with fail
  refine H.mono ?_
  rintro e w' ⟨rfl, hb⟩
  clear H
  go_wp2
  go_ret3
  exact ⟨rfl, hb⟩

set_option maxHeartbeats 400000 in
theorem cutPrefix_yes (s : ByteArray) (w : World) (h : neg s.data.toList = true) :
    Calls Tryz.prog 75 #[.string s, .string ⟨#[45]⟩] w fun e w' => e = .returned (.tuple #[.string (s.extract 1 s.size), .bool true]) ∧ w' = w := by
  have h0 := neg_size h
  have ht := neg_take h0
  rw [h] at ht
  clear h
  have h1 : (1 : Int) ≤ (s.size : Int) := by omega
  go_enter Tryz.func75, Tryz.ntmps75
  go_wp2
  go_ret2
  exact ⟨rfl, rfl⟩

set_option maxHeartbeats 400000 in
theorem cutPrefix_no (s : ByteArray) (w : World) (h : neg s.data.toList = false) :
    Calls Tryz.prog 75 #[.string s, .string ⟨#[45]⟩] w fun e w' => e = .returned (.tuple #[.string s, .bool false]) ∧ w' = w := by
  by_cases h0 : 0 < s.size
  · have ht := neg_take h0
    rw [h] at ht
    clear h
    have h1 : (1 : Int) ≤ (s.size : Int) := by omega
    go_enter Tryz.func75, Tryz.ntmps75
    go_wp2
    go_ret2
    exact ⟨rfl, rfl⟩
  · have h1 : ¬ (1 : Int) ≤ (s.size : Int) := by omega
    clear h
    go_enter Tryz.func75, Tryz.ntmps75
    go_wp2
    go_ret2
    exact ⟨rfl, rfl⟩

set_option maxHeartbeats 400000 in
theorem isWhole_any (s : ByteArray) (w : World) :
    Calls Tryz.prog 76 #[.string s] w fun e w' => e = .returned (.bool (whole s.data.toList)) ∧ Below w.heap.size w w' := by
  have el := ByteArray.toList_eq s
  by_cases h1 : s.data.toList = [48]
  · have e : whole s.data.toList = true := by rw [h1]; rfl
    rw [e]
    have h2 : (s.toList == [48]) = true := by rw [el, h1]; rfl
    clear el h1 e
    go_enter Tryz.func76, Tryz.ntmps76
    go_wp2
    go_ret
    exact ⟨rfl, Below.refl _ _⟩
  · have h1' : (s.toList == [48]) = false := by rw [el]; simpa using h1
    by_cases h2 : s.data.toList = []
    · have e : whole s.data.toList = false := by rw [h2]; rfl
      rw [e]
      have h3 : (s.toList == []) = true := by rw [el, h2]; rfl
      have h4 : (s.toList != []) = false := by rw [el, h2]; rfl
      clear el h1 h2 e
      go_enter Tryz.func76, Tryz.ntmps76
      go_wp2
      go_ret
      exact ⟨rfl, Below.refl _ _⟩
    · have hsz : 0 < s.size := by
        by_cases h0 : 0 < s.size
        · exact h0
        · exact absurd (List.eq_nil_of_length_eq_zero (by rw [len_eq]; omega)) h2
      have h3 : (s.toList == []) = false := by rw [el]; simpa using h2
      have h4 : (s.toList != []) = true := by rw [el]; simpa using h2
      have hd : s.data.toList.head? = some s[0] := by
        rw [List.head?_eq_getElem?, List.getElem?_eq_getElem (by simpa using hsz)]; rfl
      by_cases h5 : s[0].toNat = 48
      · have e : whole s.data.toList = false := by
          unfold whole
          have : s[0] = 48 := UInt8.toNat_inj.1 h5
          rw [hd, this]
          simp [h1]
        rw [e]
        have h6 : (((s[0].toNat : Nat) : Int) != 48) = false := by simp; omega
        clear el h1 h2 e hd h5
        go_enter Tryz.func76, Tryz.ntmps76
        go_wp2
        go_ret
        exact ⟨rfl, Below.refl _ _⟩
      · have e : whole s.data.toList = allD s.data.toList := by
          unfold whole
          have : ¬ s[0] = 48 := fun h => h5 (by rw [h]; rfl)
          rw [hd]
          have e1 : (s.data.toList == [48]) = false := by simpa using h1
          have e2 : (s.data.toList != []) = true := by simpa using h2
          have e3 : (some s[0] != some 48) = true := by simpa using this
          rw [e1, e2, e3, Bool.false_or, Bool.true_and, Bool.true_and]
        rw [e]
        have h6 : (((s[0].toNat : Nat) : Int) != 48) = true := by simp; omega
        clear el h1 h2 e hd h5
        go_enter Tryz.func76, Tryz.ntmps76
        go_wp2_with fail
        refine (allDigits_any _ _).mono ?_
        rintro e w' ⟨rfl, hb⟩
        go_wp2
        go_ret
        exact ⟨rfl, hb⟩

end Go.Proofs.YtlicdeppfhmfjaaGreatDoor.cents

/- What cents.Read gives back. -/
namespace Go.Proofs.YtlicdeppfhmfjaaGreatDoor.cents
open Go.RowKit

theorem cutPrefix_any (s : ByteArray) (w : World) :
    Calls Tryz.prog 75 #[.string s, .string ⟨#[45]⟩] w fun e w' => e = .returned (.tuple #[.string (cutT s), .bool (neg s.data.toList)]) ∧ w' = w := by
  cases h : neg s.data.toList
  · have e : cutT s = s := by unfold cutT; rw [h]; rfl
    rw [e]; exact cutPrefix_no s w h
  · have e : cutT s = s.extract 1 s.size := by unfold cutT; rw [h]; rfl
    rw [e]; exact cutPrefix_yes s w h

set_option maxHeartbeats 1000000 in
theorem read_any (s : ByteArray) (w : World) :
    Calls Tryz.prog 42 #[.string s] w fun e w' => e = .returned (.tuple #[.int .i64 (readR s.data.toList).1, .int .i64 (readR s.data.toList).2]) ∧ Below w.heap.size w w' := by
  have hlen := len_eq s
  by_cases h20 : 20 < s.size
  · have e : readR s.data.toList = (0, 1) := by unfold readR; rw [if_pos (by omega)]
    rw [e]
    have h21 : (20 : Int) < (s.size : Int) := by omega
    clear e hlen
    go_enter Tryz.func42, Tryz.ntmps42
    go_wp2
    go_ret2
    exact ⟨rfl, Below.refl _ _⟩
  · have hl20 : ¬ 20 < s.data.toList.length := by omega
    have ht := cutT_size s
    have HT : Hid ((cutT s).data.toList = body s.data.toList) := cutT_list s
    have HL : Hid (¬ 20 < s.data.toList.length) := hl20
    clear hlen hl20
    have hcp := cutPrefix_any s w
    rcases ix_lt (cutT s).data.toList 46 with hix | hix
    · have E : Hid (readR s.data.toList = (0, 3)) := readR_form HL.out (by rw [← HT.out]; exact form_no hix)
      have hc := cut_no (cutT s) w hix
      clear hix HT
      generalize cutT s = t at *
      go_enter Tryz.func42, Tryz.ntmps42
      go_wp2_with fail
      refine hcp.mono ?_
      rintro e w' ⟨rfl, rfl⟩
      clear hcp
      go_wp2_with fail
      refine hc.mono ?_
      rintro e w1 ⟨rfl, hb⟩
      clear hc
      go_wp2
      go_ret2
      exact ⟨ret_err E.out, hb⟩
    · obtain ⟨i, hi⟩ := Int.eq_ofNat_of_zero_le hix.1
      have hc := cut_yes (cutT s) i w (by omega) hi
      have hb := ix_bd hi
      have HF : Hid (form (body s.data.toList) = (whole ((cutT s).extract 0 i).data.toList && (((cutT s).extract (i + 1) (cutT s).size).data.toList.length == 2 && allD ((cutT s).extract (i + 1) (cutT s).size).data.toList))) := by
        show _ = _
        rw [← HT.out, form_eq hi, Lib.extract_data, Lib.extract_to_end]; rfl
      have HU : Hid (units (body s.data.toList) = ((cutT s).extract 0 i).data.toList) := by
        show _ = _
        rw [← HT.out, Lib.extract_data]; unfold units; rw [hi]; rfl
      have HR : Hid (rests (body s.data.toList) = ((cutT s).extract (i + 1) (cutT s).size).data.toList) := by
        show _ = _
        rw [← HT.out, Lib.extract_to_end]; unfold rests; rw [hi]; rfl
      have hu : ((cutT s).extract 0 i).size ≤ 20 := by rw [← len_eq, Lib.extract_data]; simp; omega
      have hr : ((cutT s).extract (i + 1) (cutT s).size).size ≤ 20 := by rw [← len_eq, Lib.extract_to_end, List.length_drop, len_eq]; omega
      clear hi hix HT ht hb
      generalize (cutT s).extract 0 i = u at *
      generalize (cutT s).extract (i + 1) (cutT s).size = r at *
      generalize cutT s = t at *
      have hrl := len_eq r
      generalize hbn : neg s.data.toList = b at hcp
      have HB : Hid (neg s.data.toList = b) := hbn
      have HS : Hid (s.toList = s.data.toList) := ByteArray.toList_eq s
      clear hbn
      go_enter Tryz.func42, Tryz.ntmps42
      go_wp2_with fail
      refine hcp.mono ?_
      rintro e w' ⟨rfl, rfl⟩
      clear hcp
      go_wp2_with fail
      refine hc.mono ?_
      rintro e w1 ⟨rfl, hb1⟩
      clear hc
      go_wp2_with fail
      refine (isWhole_any _ _).mono ?_
      rintro e w2 ⟨rfl, hb2⟩
      have hb := hb1.trans (hb2.mono hb1.size)
      clear hb1 hb2
      cases hw : whole u.data.toList
      · have E : Hid (readR s.data.toList = (0, 3)) := readR_form HL.out (by rw [HF.out, hw]; rfl)
        clear hw
        go_wp2
        go_ret2
        exact ⟨ret_err E.out, hb⟩
      have HW : Hid (whole u.data.toList = true) := hw
      clear hw
      by_cases h2 : r.size = 2
      · have hne : ((r.size : Int) != 2) = false := by simp; omega
        go_wp2_with fail
        refine (allDigits_any _ _).mono ?_
        rintro e w3 ⟨rfl, hb3⟩
        have hb' := hb.trans (hb3.mono hb.size)
        clear hb hb3
        cases hd : allD r.data.toList
        · have E : Hid (readR s.data.toList = (0, 3)) := readR_form HL.out (by rw [HF.out, HW.out, hd]; simp)
          clear hd
          go_wp2
          go_ret2
          exact ⟨ret_err E.out, hb'⟩
        have HD : Hid (allD r.data.toList = true) := hd
        clear hd
        by_cases hz : s.data.toList = [45, 48, 46, 48, 48]
        · have E : Hid (readR s.data.toList = (0, 3)) := readR_zero HL.out hz
          have hq : (s.toList == [45, 48, 46, 48, 48]) = true := by rw [HS.out, hz]; rfl
          clear hz
          go_wp2
          go_ret2
          exact ⟨ret_err E.out, hb'⟩
        · have hq : (s.toList == [45, 48, 46, 48, 48]) = false := by rw [HS.out]; simpa using hz
          have E : Hid (readR s.data.toList = _) := readR_good HL.out (by rw [HF.out, HW.out, HD.out, hrl, h2]; rfl) hz
          clear hz
          go_wp2_with fail
          have ea : (u ++ r).data.toList = u.data.toList ++ r.data.toList := by simp
          have hall : allD (u ++ r).data.toList = true := by rw [ea, allD_append, whole_D HW.out, HD.out]; rfl
          have hv := cval_eq _ hall
          have E2 : Hid (readR s.data.toList = if 1000000000000 < dval (u ++ r).data.toList then (0, 2) else (if b then -dval (u ++ r).data.toList else dval (u ++ r).data.toList, 0)) := by
            show _ = _
            rw [E.out, HU.out, HR.out, ← ea, HB.out]
          have hvd := value_any (u ++ r)
          clear ea E HU HR HF
          refine (hvd _ hall).mono ?_
          rintro e w4 ⟨rfl, hb4⟩
          have hb5 := hb'.trans (hb4.mono hb'.size)
          clear hvd hall hb4 hb'
          obtain ⟨v1, v2, v3, v4, v5⟩ := hv
          generalize dval (u ++ r).data.toList = dv at *
          generalize cval (u ++ r).data.toList = cv at *
          by_cases hM : 1000000000000 < dv
          · have hcv := v5 hM
            have E3 : Hid (readR s.data.toList = (0, 2)) := by show _ = _; rw [E2.out, if_pos hM]
            clear v4 v5
            go_wp2
            go_ret2
            exact ⟨ret_err E3.out, hb5⟩
          · have hcv := v4 (by omega)
            subst hcv
            clear v4 v5
            cases b
            · have E3 : Hid (readR s.data.toList = (cv, 0)) := by show _ = _; rw [E2.out, if_neg hM]; rfl
              go_wp2
              go_ret2
              exact ⟨ret_pair' E3.out, hb5⟩
            · have E3 : Hid (readR s.data.toList = (-cv, 0)) := by show _ = _; rw [E2.out, if_neg hM]; rfl
              go_wp2
              go_ret2
              exact ⟨ret_pair' E3.out, hb5⟩
      · have hne : ((r.size : Int) != 2) = true := by simp; omega
        have E : Hid (readR s.data.toList = (0, 3)) := readR_form HL.out (by rw [HF.out, hrl]; simp [h2])
        go_wp2
        go_ret2
        exact ⟨ret_err E.out, hb⟩

end Go.Proofs.YtlicdeppfhmfjaaGreatDoor.cents

/- Numbers of meters, and numbers in decimal: plain facts. -/
namespace Go.Proofs.YtlicdeppfhmfjaaGreatDoor.rcp
open Go.Proofs.YtlicdeppfhmfjaaGreatDoor.check (digitR goodR flawR allD)
open Go.Proofs.YtlicdeppfhmfjaaGreatDoor.token (dv dv_inj dv_lt dv_snoc)
set_option linter.unusedVariables false
set_option linter.unusedSimpArgs false

theorem allD_same (l : List UInt8) : cents.allD l = allD l := rfl
/-- What Atoi gives back, whatever the text. -/
def atoiV (l : List UInt8) : Int := match Lib.atoiAll l with
  | .ok v => v
  | .range => Lib.atoiSat l
  | _ => 0
theorem parse_digits : ∀ (l : List UInt8) (acc : Nat), allD l = true → (acc + 1) * 10 ^ l.length ≤ 1000000000000000000 → Lib.parseUint10 acc l = .ok (l.foldl (fun n c => n * 10 + (c.toNat - 48)) acc) := by
  intro l
  induction l with
  | nil => intro acc _ _; rfl
  | cons c r ih =>
    intro acc hd hb
    have hd' : check.isD c = true ∧ allD r = true := by simpa [allD] using hd
    have hc : 48 ≤ c.toNat ∧ c.toNat ≤ 57 := by simpa [check.isD] using hd'.1
    have hp : 0 < 10 ^ r.length := Nat.pow_pos (by decide)
    have hb' : (acc * 10 + 10) * 10 ^ r.length ≤ 1000000000000000000 := by
      rw [List.length_cons, Nat.pow_succ, Nat.mul_comm (10 ^ r.length) 10, ← Nat.mul_assoc] at hb
      rw [show acc * 10 + 10 = (acc + 1) * 10 by omega]
      exact hb
    have h1 : acc * 10 + 10 ≤ 1000000000000000000 := Nat.le_trans (Nat.le_mul_of_pos_right _ hp) hb'
    unfold Lib.parseUint10
    rw [if_pos hc, if_neg (by omega), if_neg (by omega), List.foldl_cons]
    refine ih _ hd'.2 (Nat.le_trans (Nat.mul_le_mul_right _ ?_) hb')
    omega
theorem atoi_of {c : UInt8} {r : List UInt8} {u : Nat} (h1 : ¬ (c.toNat = 43 ∨ c.toNat = 45)) (hm : Lib.parseMag (c :: r) = .ok u) (hu : u < 9223372036854775808) : Lib.atoiAll (c :: r) = .ok (u : Int) := by
  unfold Lib.atoiAll
  dsimp only
  rw [if_neg h1]
  generalize Lib.parseMag (c :: r) = x at hm ⊢
  subst hm
  dsimp only
  rw [if_neg (by omega), if_neg (by omega), if_neg (by omega)]
theorem atoi_digits {l : List UInt8} (h : allD l = true) (h0 : l ≠ []) (h1 : l.length ≤ 18) : Lib.atoiAll l = .ok ((dv l : Nat) : Int) := by
  have hp := parse_digits l 0 h (by
    have := Nat.pow_le_pow_right (n := 10) (by decide) h1
    simpa using this)
  have hlt := dv_lt l h
  have h18 : dv l < 1000000000000000000 := Nat.lt_of_lt_of_le hlt (by simpa using Nat.pow_le_pow_right (n := 10) (by decide) h1)
  cases l with
  | nil => exact absurd rfl h0
  | cons c r =>
    have hd' : check.isD c = true ∧ allD r = true := by simpa [allD] using h
    have hc : 48 ≤ c.toNat ∧ c.toNat ≤ 57 := by simpa [check.isD] using hd'.1
    have hm : Lib.parseMag (c :: r) = .ok (dv (c :: r)) := by
      unfold Lib.parseMag
      rw [if_neg (by simp)]
      exact hp
    exact atoi_of (by omega) hm (by omega)
theorem atoiV_bounds (l : List UInt8) : -9223372036854775808 ≤ atoiV l ∧ atoiV l ≤ 9223372036854775807 := by
  unfold atoiV
  cases h : Lib.atoiAll l with
  | ok v =>
    cases l with
    | nil => cases h
    | cons c r =>
      unfold Lib.atoiAll at h
      simp only at h
      split at h
      · cases h
      · cases h
      · split at h
        · cases h
        · split at h
          · cases h
          · injection h with h
            subst h
            dsimp only
            split <;> omega
  | range => dsimp only; unfold Lib.atoiSat; split <;> omega
  | _ => dsimp only; omega
theorem pad_facts : ∀ k, k < 50 → (pad k 10).length = 10 ∧ allD (pad k 10) = true ∧ dv (pad k 10) = k := by decide +kernel
theorem last_one : ∀ k, k < 50 → ∀ d, d < 10 → goodR (pad k 10 ++ [(48 + d).toUInt8]) = true → pad k 10 ++ [(48 + d).toUInt8] = numL k := by decide +kernel
theorem named_of {l : List UInt8} (h : l.length = 11) (hd : allD l = true) (hg : goodR l = true) (hk : dv (l.take 10) < 50) : Named l (dv (l.take 10)) := by
  refine ⟨hk, ?_⟩
  have hdt : allD (l.take 10) = true := List.all_eq_true.2 fun c hc => List.all_eq_true.1 hd c (List.mem_of_mem_take hc)
  have hlt : (l.take 10).length = 10 := by rw [List.length_take]; omega
  generalize hkk : dv (l.take 10) = k at hk ⊢
  obtain ⟨p1, p2, p3⟩ := pad_facts k hk
  have e : l.take 10 = pad k 10 := dv_inj 10 _ _ hlt p1 hdt p2 (by rw [hkk, p3])
  have hl10 : 10 < l.length := by omega
  have e2 : l = l.take 10 ++ [l[10]] := by
    have := List.take_succ_eq_append_getElem hl10
    rw [List.take_of_length_le (by omega)] at this
    exact this
  have hc : check.isD l[10] = true := List.all_eq_true.1 hd _ (List.getElem_mem hl10)
  have hc' : 48 ≤ l[10].toNat ∧ l[10].toNat ≤ 57 := by simpa [check.isD] using hc
  obtain ⟨d, hd10, hdd⟩ : ∃ d, d < 10 ∧ l[10] = (48 + d).toUInt8 := ⟨l[10].toNat - 48, by omega, by rw [show 48 + (l[10].toNat - 48) = l[10].toNat by omega]; simp⟩
  rw [e2, e, hdd] at hg
  rw [← last_one k hk d hd10 hg, ← hdd, ← e, ← e2]
theorem named_val {l : List UInt8} {k : Nat} (h : Named l k) : dv (l.take 10) = k := by
  rw [← h.2]; exact (num_all k h.1).2.2.2.1

end Go.Proofs.YtlicdeppfhmfjaaGreatDoor.rcp

/- Contracts of the library, laid at this dump in plain words: strconv_Atoi_ok, strconv_Atoi_syntax_var, strconv_Atoi_range_var. -/
namespace Go.Proofs
open Go.Shelf
def Tryz.laysC172_ren : Go.Shelf.Ren := ⟨fun | 172 => 44 | 244 => 79 | 245 => 80 | 247 => 113 | 279 => 114 | 280 => 115 | 281 => 116 | 282 => 117 | 287 => 156 | 316 => 157 | 171 => 33 | 205 => 158 | 321 => 175 | 322 => 176 | 243 => 62 | 246 => 100 | 283 => 139 | 284 => 140 | 285 => 141 | 286 => 142 | 129 => 167 | 317 => 166 | 318 => 168 | 319 => 169 | 320 => 170 | 337 => 177 | 338 => 178 | n => n, fun | 9 => 9 | 3 => 3 | 75 => 77 | 76 => 78 | 4 => 4 | 5 => 5 | 167 => 155 | 37 => 61 | 0 => 0 | 85 => 156 | 2 => 2 | 168 => 158 | 53 => 129 | 175 => 196 | 46 => 111 | 210 => 199 | 127 => 100 | 145 => 212 | 143 => 210 | 21 => 21 | 171 => 183 | 173 => 186 | 212 => 206 | 51 => 83 | 20 => 20 | 213 => 207 | 232 => 220 | 233 => 221 | 80 => 69 | n => n, fun | 15 => 2 | 16 => 3 | 17 => 4 | 18 => 9 | 19 => 10 | n => n⟩
theorem Tryz.laysC172 : Go.Proofs.LaysC.n172 Tryz.prog Tryz.laysC172_ren := {
  mixed := by kernel_rfl
  f129 := Tryz.func167.trans (congrArg some (by kernel_rfl))
  f171 := Tryz.func33.trans (congrArg some (by kernel_rfl))
  f172 := Tryz.func44.trans (congrArg some (by kernel_rfl))
  f205 := Tryz.func158.trans (congrArg some (by kernel_rfl))
  f243 := Tryz.func62.trans (congrArg some (by kernel_rfl))
  f244 := Tryz.func79.trans (congrArg some (by kernel_rfl))
  f245 := Tryz.func80.trans (congrArg some (by kernel_rfl))
  f246 := Tryz.func100.trans (congrArg some (by kernel_rfl))
  f247 := Tryz.func113.trans (congrArg some (by kernel_rfl))
  f279 := Tryz.func114.trans (congrArg some (by kernel_rfl))
  f280 := Tryz.func115.trans (congrArg some (by kernel_rfl))
  f281 := Tryz.func116.trans (congrArg some (by kernel_rfl))
  f282 := Tryz.func117.trans (congrArg some (by kernel_rfl))
  f283 := Tryz.func139.trans (congrArg some (by kernel_rfl))
  f284 := Tryz.func140.trans (congrArg some (by kernel_rfl))
  f285 := Tryz.func141.trans (congrArg some (by kernel_rfl))
  f286 := Tryz.func142.trans (congrArg some (by kernel_rfl))
  f287 := Tryz.func156.trans (congrArg some (by kernel_rfl))
  f316 := Tryz.func157.trans (congrArg some (by kernel_rfl))
  f317 := Tryz.func166.trans (congrArg some (by kernel_rfl))
  f318 := Tryz.func168.trans (congrArg some (by kernel_rfl))
  f319 := Tryz.func169.trans (congrArg some (by kernel_rfl))
  f320 := Tryz.func170.trans (congrArg some (by kernel_rfl))
  f321 := Tryz.func175.trans (congrArg some (by kernel_rfl))
  f322 := Tryz.func176.trans (congrArg some (by kernel_rfl))
  f337 := Tryz.func177.trans (congrArg some (by kernel_rfl))
  f338 := Tryz.func178.trans (congrArg some (by kernel_rfl))
  t0 := Tryz.underlying0
  a0 := Tryz.isAgg0
  z0 := Tryz.sizeOf0
  v0 := Tryz.zeroValue0
  t2 := Tryz.underlying2
  a2 := Tryz.isAgg2
  z2 := Tryz.sizeOf2
  v2 := Tryz.zeroValue2
  t3 := Tryz.underlying3
  a3 := Tryz.isAgg3
  z3 := Tryz.sizeOf3
  v3 := Tryz.zeroValue3
  t4 := Tryz.underlying4
  a4 := Tryz.isAgg4
  z4 := Tryz.sizeOf4
  v4 := Tryz.zeroValue4
  t5 := Tryz.underlying5
  a5 := Tryz.isAgg5
  z5 := Tryz.sizeOf5
  v5 := Tryz.zeroValue5
  t9 := Tryz.underlying9
  a9 := Tryz.isAgg9
  z9 := Tryz.sizeOf9
  v9 := Tryz.zeroValue9
  t20 := Tryz.underlying20
  a20 := Tryz.isAgg20
  z20 := Tryz.sizeOf20
  v20 := Tryz.zeroValue20
  t21 := Tryz.underlying21
  a21 := Tryz.isAgg21
  z21 := Tryz.sizeOf21
  v21 := Tryz.zeroValue21
  t37 := Tryz.underlying61
  a37 := Tryz.isAgg61
  z37 := Tryz.sizeOf61
  v37 := Tryz.zeroValue61
  t46 := Tryz.underlying111
  a46 := Tryz.isAgg111
  z46 := Tryz.sizeOf111
  v46 := Tryz.zeroValue111
  t51 := Tryz.underlying83
  a51 := Tryz.isAgg83
  z51 := Tryz.sizeOf83
  v51 := Tryz.zeroValue83
  t53 := Tryz.underlying129
  a53 := Tryz.isAgg129
  z53 := Tryz.sizeOf129
  v53 := Tryz.zeroValue129
  t75 := Tryz.underlying77
  a75 := Tryz.isAgg77
  z75 := Tryz.sizeOf77
  v75 := Tryz.zeroValue77
  t76 := Tryz.underlying78
  a76 := Tryz.isAgg78
  z76 := Tryz.sizeOf78
  v76 := Tryz.zeroValue78
  t85 := Tryz.underlying156
  a85 := Tryz.isAgg156
  z85 := Tryz.sizeOf156
  v85 := Tryz.zeroValue156
  t127 := Tryz.underlying100
  a127 := Tryz.isAgg100
  z127 := Tryz.sizeOf100
  v127 := Tryz.zeroValue100
  t143 := Tryz.underlying210
  a143 := Tryz.isAgg210
  z143 := Tryz.sizeOf210
  v143 := Tryz.zeroValue210
  t145 := Tryz.underlying212
  a145 := Tryz.isAgg212
  z145 := Tryz.sizeOf212
  v145 := Tryz.zeroValue212
  t167 := Tryz.underlying155
  a167 := Tryz.isAgg155
  z167 := Tryz.sizeOf155
  v167 := Tryz.zeroValue155
  t168 := Tryz.underlying158
  a168 := Tryz.isAgg158
  z168 := Tryz.sizeOf158
  v168 := Tryz.zeroValue158
  t171 := Tryz.underlying183
  a171 := Tryz.isAgg183
  z171 := Tryz.sizeOf183
  v171 := Tryz.zeroValue183
  t173 := Tryz.underlying186
  a173 := Tryz.isAgg186
  z173 := Tryz.sizeOf186
  v173 := Tryz.zeroValue186
  t175 := Tryz.underlying196
  a175 := Tryz.isAgg196
  z175 := Tryz.sizeOf196
  v175 := Tryz.zeroValue196
  t210 := Tryz.underlying199
  a210 := Tryz.isAgg199
  z210 := Tryz.sizeOf199
  v210 := Tryz.zeroValue199
  t212 := Tryz.underlying206
  a212 := Tryz.isAgg206
  z212 := Tryz.sizeOf206
  v212 := Tryz.zeroValue206
  t213 := Tryz.underlying207
  a213 := Tryz.isAgg207
  z213 := Tryz.sizeOf207
  t232 := Tryz.underlying220
  a232 := Tryz.isAgg220
  z232 := Tryz.sizeOf220
  v232 := Tryz.zeroValue220
  t233 := Tryz.underlying221
  a233 := Tryz.isAgg221
  z233 := Tryz.sizeOf221
  v233 := Tryz.zeroValue221
  g15 := by kernel_rfl
  g16 := by kernel_rfl
  g17 := by kernel_rfl
  g18 := by kernel_rfl
  g19 := by kernel_rfl
  t80 := Tryz.underlying69
  a80 := Tryz.isAgg69
  z80 := Tryz.sizeOf69
  v80 := Tryz.zeroValue69
  i0 := by kernel_rfl
  i2 := by kernel_rfl
  i3 := by kernel_rfl
  i4 := by kernel_rfl
  i5 := by kernel_rfl
  i9 := by kernel_rfl
  i20 := by kernel_rfl
  i21 := by kernel_rfl
  i37 := by kernel_rfl
  i46 := by kernel_rfl
  i51 := by kernel_rfl
  i53 := by kernel_rfl
  i75 := by kernel_rfl
  i76 := by kernel_rfl
  i80 := by kernel_rfl
  i85 := by kernel_rfl
  i127 := by kernel_rfl
  i143 := by kernel_rfl
  i145 := by kernel_rfl
  i167 := by kernel_rfl
  i168 := by kernel_rfl
  i171 := by kernel_rfl
  i173 := by kernel_rfl
  i175 := by kernel_rfl
  i210 := by kernel_rfl
  i212 := by kernel_rfl
  i232 := by kernel_rfl
  i233 := by kernel_rfl
  m15 := by kernel_rfl
  m16 := by kernel_rfl
  m17 := by kernel_rfl
  m18 := by kernel_rfl
  m19 := by kernel_rfl
  c0 := by kernel_rfl
  c2 := by kernel_rfl
  c3 := by kernel_rfl
  c4 := by kernel_rfl
  c5 := by kernel_rfl
  c9 := by kernel_rfl
  c20 := by kernel_rfl
  c21 := by kernel_rfl
  c37 := by kernel_rfl
  c46 := by kernel_rfl
  c51 := by kernel_rfl
  c53 := by kernel_rfl
  c75 := by kernel_rfl
  c76 := by kernel_rfl
  c80 := by kernel_rfl
  c85 := by kernel_rfl
  c127 := by kernel_rfl
  c143 := by kernel_rfl
  c145 := by kernel_rfl
  c167 := by kernel_rfl
  c168 := by kernel_rfl
  c171 := by kernel_rfl
  c173 := by kernel_rfl
  c175 := by kernel_rfl
  c210 := by kernel_rfl
  c212 := by kernel_rfl
  c213 := by kernel_rfl
  c232 := by kernel_rfl
  c233 := by kernel_rfl }
open Go.RowKit in
theorem Tryz.strconv_Atoi_ok (s : ByteArray) (hmax : s.size ≤ 9223372036854775806) (v : Int) (h : Lib.atoiAll s.data.toList = .ok v) (w : World) :
    Calls Tryz.prog 44 #[.string s] w fun e w' => e = .returned (.tuple #[.int .i64 v, .nilIface]) ∧ (w' = w ∨ ∃ t, w' = Lib.bytesWorld w 5 t) := Any.strconv_Atoi_ok Tryz.laysC172 s hmax v h w
open Go.RowKit in
theorem Tryz.strconv_Atoi_syntax_var (s : ByteArray) (hlim : s.size ≤ 281474976710656) (h : Lib.atoiAll s.data.toList = Lib.atoiAll []) (tp : TypeId) (p : Value) (w : World) (hvar : w.var? Tryz.prog "strconv.ErrSyntax" = some #[.iface tp p]) :
    Calls Tryz.prog 44 #[.string s] w fun e w' => ∃ N, e = .returned (.tuple #[.int .i64 0, .iface 158 (.pointer (some ⟨N, 0, none⟩))]) ∧ w.heap.size ≤ N ∧ w'.heap[N]? = some (.cells #[.string ⟨#[65, 116, 111, 105]⟩, .string s, .iface tp p] 199 (0, 0)) ∧ Below w.heap.size w w' := Any.strconv_Atoi_syntax_var Tryz.laysC172 s hlim h tp p w hvar
open Go.RowKit in
theorem Tryz.strconv_Atoi_range_var (s : ByteArray) (hlim : s.size ≤ 281474976710656) (h : Lib.atoiAll s.data.toList = .range) (tp : TypeId) (p : Value) (w : World) (hvar : w.var? Tryz.prog "strconv.ErrRange" = some #[.iface tp p]) :
    Calls Tryz.prog 44 #[.string s] w fun e w' => ∃ N, e = .returned (.tuple #[.int .i64 (Lib.atoiSat s.data.toList), .iface 158 (.pointer (some ⟨N, 0, none⟩))]) ∧ w.heap.size ≤ N ∧ w'.heap[N]? = some (.cells #[.string ⟨#[65, 116, 111, 105]⟩, .string s, .iface tp p] 199 (0, 0)) ∧ Below w.heap.size w w' := Any.strconv_Atoi_range_var Tryz.laysC172 s hlim h tp p w hvar
end Go.Proofs

/- strconv.Atoi, whatever the text. -/
namespace Go.Proofs.YtlicdeppfhmfjaaGreatDoor.rcg
open Go.Proofs.YtlicdeppfhmfjaaGreatDoor.rcp (atoiV)
open Go.RowKit

theorem var_below {P : Program} {n : String} {cs : Array Value} {w w' : World} (h : w.var? P n = some cs) (hb : Below w.heap.size w w') : w'.var? P n = some cs := by
  unfold World.var? at h ⊢
  cases hg : P.globalNamed n with
  | none => simp [hg] at h
  | some g =>
    simp only [hg, Option.bind_some] at h ⊢
    have hlt : g < w.heap.size := by
      rcases Nat.lt_or_ge g w.heap.size with h' | h'
      · exact h'
      · simp [Array.getElem?_eq_none h'] at h
    rw [hb.block g hlt]
    exact h
/-- The library's two errors are there. -/
structure Errs (w : World) : Prop where
  s : ∃ tp p, w.var? Tryz.prog "strconv.ErrSyntax" = some #[.iface tp p]
  r : ∃ tp p, w.var? Tryz.prog "strconv.ErrRange" = some #[.iface tp p]
theorem Errs.below {w w' : World} (h : Errs w) (hb : Below w.heap.size w w') : Errs w' := by
  obtain ⟨⟨a, x, hx⟩, ⟨b, y, hy⟩⟩ := h
  exact ⟨⟨a, x, var_below hx hb⟩, ⟨b, y, var_below hy hb⟩⟩
theorem atoi_any (s : ByteArray) (w : World) (hs : s.size ≤ 1000) (he : Errs w) :
    Calls Tryz.prog 44 #[.string s] w fun e w' => ∃ x, e = .returned (.tuple #[.int .i64 (atoiV s.data.toList), x]) ∧ Below w.heap.size w w' := by
  unfold atoiV
  cases h : Lib.atoiAll s.data.toList with
  | ok v =>
    refine (Tryz.strconv_Atoi_ok s (by omega) v h w).mono ?_
    rintro e w' ⟨rfl, hw⟩
    refine ⟨_, rfl, ?_⟩
    rcases hw with rfl | ⟨t, rfl⟩
    · exact Below.refl _ _
    · exact Lib.bytesWorld_below _ _ _
  | range =>
    obtain ⟨tp, p, hv⟩ := he.r
    refine (Tryz.strconv_Atoi_range_var s (by omega) h tp p w hv).mono ?_
    rintro e w' ⟨N, rfl, _, _, hb⟩
    exact ⟨_, rfl, hb⟩
  | _ =>
    obtain ⟨tp, p, hv⟩ := he.s
    refine (Tryz.strconv_Atoi_syntax_var s (by omega) h tp p w hv).mono ?_
    rintro e w' ⟨N, rfl, _, _, hb⟩
    exact ⟨_, rfl, hb⟩

end Go.Proofs.YtlicdeppfhmfjaaGreatDoor.rcg

/- The lines of a paper, told by their names: plain facts. -/
namespace Go.Proofs.YtlicdeppfhmfjaaGreatDoor.rcp
open Go.Proofs.YtlicdeppfhmfjaaGreatDoor.cents (showT readR read_shown)
open Go.Proofs.YtlicdeppfhmfjaaGreatDoor.token (dv)
set_option linter.unusedVariables false
set_option linter.unusedSimpArgs false

/-- A byte is not there. -/
def Not (c : UInt8) (l : List UInt8) : Prop := ∀ x ∈ l, x ≠ c
theorem Not.of_all {c : UInt8} {l : List UInt8} (h : l.all (fun x => x != c) = true) : Not c l := fun x hx => by
  have := List.all_eq_true.1 h x hx
  simpa using this
theorem Not.app {c : UInt8} {l m : List UInt8} (h : Not c l) (h' : Not c m) : Not c (l ++ m) := fun x hx => (List.mem_append.1 hx).elim (h x) (h' x)
theorem idx_app (c : UInt8) (n t : List UInt8) (h : Not c n) : Lib.index (n ++ c :: t) [c] = (n.length : Int) := by
  induction n with
  | nil => show Lib.index (c :: t) [c] = 0; unfold Lib.index; simp
  | cons x n ih =>
    have hx : x ≠ c := h x (by simp)
    have hn := ih (fun y hy => h y (by simp [hy]))
    show Lib.index (x :: (n ++ c :: t)) [c] = _
    unfold Lib.index
    have hp : ([c] : List UInt8).isPrefixOf (x :: (n ++ c :: t)) = false := by simp [List.isPrefixOf]; intro e; exact absurd e.symm hx
    rw [hp, hn]
    simp
theorem idx_none (c : UInt8) (l : List UInt8) (h : Not c l) : Lib.index l [c] = -1 := by
  induction l with
  | nil => rfl
  | cons x l ih =>
    have hx : x ≠ c := h x (by simp)
    have hn := ih (fun y hy => h y (by simp [hy]))
    unfold Lib.index
    have hp : ([c] : List UInt8).isPrefixOf (x :: l) = false := by simp [List.isPrefixOf]; intro e; exact absurd e.symm hx
    rw [hp, hn]
    rfl
theorem split_line (c : UInt8) (k : Nat) (n t : List UInt8) (h : Not c n) : Lib.splitK [c] 0 (k + 1) (n ++ c :: t) = n :: Lib.splitK [c] 0 k t := by
  rw [Lib.splitK, idx_app c n t h]
  have e : ((n.length : Int) == -1) = false := by simp
  rw [e]
  simp
theorem cut_line (c : UInt8) (n t : List UInt8) (h : Not c n) : (Lib.cut (n ++ c :: t) [c]).1 = n ∧ (Lib.cut (n ++ c :: t) [c]).2.1 = t := by
  unfold Lib.cut
  rw [idx_app c n t h, if_pos (by omega)]
  simp
theorem rep_line (k : Nat) (n t : List UInt8) (h : Not 32 n) : Lib.replaceK [32] [] (k + 1) (n ++ 32 :: t) = n ++ Lib.replaceK [32] [] k t := by
  rw [Lib.replaceK_hit [32] [] k _ n.length (idx_app 32 n t h)]
  simp
/-- One line more: what stands behind its first blank, by what stands ahead of it. -/
def putL (F : List UInt8 → List UInt8) (l : List UInt8) : List UInt8 → List UInt8 := fun k => if k = (Lib.cut l [32]).1 then (Lib.cut l [32]).2.1 else F k
def foldL (ls : List (List UInt8)) : List UInt8 → List UInt8 := ls.foldl putL (fun _ => [])
theorem fold_snoc (ls : List (List UInt8)) (l : List UInt8) : foldL (ls ++ [l]) = putL (foldL ls) l := by unfold foldL; rw [List.foldl_append]; rfl
/-- The texts of a paper by their names. -/
def found (l : List UInt8) : List UInt8 → List UInt8 := foldL (Lib.splitK [10] 0 (Lib.count l [10]) l)
theorem cut_len (l : List UInt8) : (Lib.cut l [32]).2.1.length ≤ l.length := by
  unfold Lib.cut
  split
  · simp
  · simp
/-- The lines of a receipt, without their line feeds, and what is behind the last. -/
def nl (n v : List UInt8) : List UInt8 := n ++ 32 :: v
theorem line_nl (n v t : List UInt8) : line n v ++ t = nl n v ++ 10 :: t := by unfold line nl; simp
theorem not_nl {n v : List UInt8} (hn : n.all (fun c => c != 10) = true) (hv : v.all (fun c => c != 10) = true) : Not 10 (nl n v) := by
  refine (Not.of_all hn).app fun x hx => ?_
  rcases List.mem_cons.1 hx with rfl | hx
  · decide
  · exact Not.of_all hv x hx
theorem put_nl (F : List UInt8 → List UInt8) (n v : List UInt8) (h : Not 32 n) (k : List UInt8) : putL F (nl n v) k = if k = n then v else F k := by
  unfold putL nl
  obtain ⟨a, b⟩ := cut_line 32 n v h
  rw [a, b]
theorem count_line (n v t : List UInt8) (hn : n.all (fun c => c != 10) = true) (hv : v.all (fun c => c != 10) = true) : (line n v ++ t).count 10 = 1 + t.count 10 := by
  have z : ∀ l : List UInt8, l.all (fun c => c != 10) = true → l.count 10 = 0 := fun l hl => List.count_eq_zero.2 fun hm => Not.of_all hl 10 hm rfl
  unfold line
  rw [List.count_append, List.count_append, z n hn, List.count_cons, List.count_append, z v hv]
  simp
theorem lines9 {r : Rc} (h : Right r) : Lib.splitK [10] 0 (Lib.count (paper r) [10]) (paper r) = [nl nMETER (numL r.me.toNat), nl nNUMBER (Lib.decDigits r.id.toNat), nl nTENDER (showT r.te), nl nDEBT (showT r.de), nl nFEE (showT r.fe), nl nPRICE (showT r.pr), nl nCHANGE (showT r.ch), nl nUNITS (Lib.decDigits r.un.toNat), nl nTOKEN (four r.tk), []] := by
  obtain ⟨⟨m0, m1⟩, ⟨⟨⟨t0, _⟩, ⟨d0, _⟩, ⟨f0, _⟩, p0, _⟩, ⟨c0, _⟩, _⟩, _, hp, _⟩ := h
  have hn := (num_all r.me.toNat (by omega)).2.2.2.2
  have hk := four_no10 (parse_len hp).2
  have hcount : Lib.count (paper r) [10] = 9 := by
    rw [Lib.count_one]
    unfold paper
    rw [count_line _ _ _ (by decide) hn, count_line _ _ _ (by decide) (dec_no10 _), count_line _ _ _ (by decide) (show_no10 _ t0), count_line _ _ _ (by decide) (show_no10 _ d0), count_line _ _ _ (by decide) (show_no10 _ f0), count_line _ _ _ (by decide) (show_no10 _ p0), count_line _ _ _ (by decide) (show_no10 _ c0), count_line _ _ _ (by decide) (dec_no10 _)]
    have e := count_line nTOKEN (four r.tk) [] (by decide) hk
    rw [List.append_nil] at e
    rw [e]
    rfl
  rw [hcount]
  unfold paper
  rw [line_nl, split_line 10 8 _ _ (not_nl (by decide) hn), line_nl, split_line 10 7 _ _ (not_nl (by decide) (dec_no10 _)), line_nl, split_line 10 6 _ _ (not_nl (by decide) (show_no10 _ t0)), line_nl, split_line 10 5 _ _ (not_nl (by decide) (show_no10 _ d0)), line_nl, split_line 10 4 _ _ (not_nl (by decide) (show_no10 _ f0)), line_nl, split_line 10 3 _ _ (not_nl (by decide) (show_no10 _ p0)), line_nl, split_line 10 2 _ _ (not_nl (by decide) (show_no10 _ c0)), line_nl, split_line 10 1 _ _ (not_nl (by decide) (dec_no10 _))]
  have e := line_nl nTOKEN (four r.tk) []
  rw [List.append_nil] at e
  rw [e, split_line 10 0 _ _ (not_nl (by decide) hk)]
  rfl
theorem found_paper {r : Rc} (h : Right r) : found (paper r) nMETER = numL r.me.toNat ∧ found (paper r) nNUMBER = Lib.decDigits r.id.toNat ∧ found (paper r) nTENDER = showT r.te ∧ found (paper r) nDEBT = showT r.de ∧ found (paper r) nFEE = showT r.fe ∧ found (paper r) nPRICE = showT r.pr ∧ found (paper r) nCHANGE = showT r.ch ∧ found (paper r) nUNITS = Lib.decDigits r.un.toNat ∧ found (paper r) nTOKEN = four r.tk := by
  have q : ∀ n : List UInt8, n.all (fun x => x != 32) = true → Not 32 n := fun n hn => Not.of_all hn
  unfold found
  rw [lines9 h]
  unfold foldL
  simp only [List.foldl_cons, List.foldl_nil]
  have e0 : ∀ (F : List UInt8 → List UInt8) (k : List UInt8), k ≠ [] → putL F [] k = F k := fun F k hk => by
    unfold putL
    rw [if_neg (by simpa [Lib.cut, idx_none 32 [] (fun x hx => by simp at hx)] using hk)]
  refine ⟨?_, ?_, ?_, ?_, ?_, ?_, ?_, ?_, ?_⟩ <;> rw [e0 _ _ (by decide)] <;> simp only [put_nl _ nMETER _ (q _ (by decide)), put_nl _ nNUMBER _ (q _ (by decide)), put_nl _ nTENDER _ (q _ (by decide)), put_nl _ nDEBT _ (q _ (by decide)), put_nl _ nFEE _ (q _ (by decide)), put_nl _ nPRICE _ (q _ (by decide)), put_nl _ nCHANGE _ (q _ (by decide)), put_nl _ nUNITS _ (q _ (by decide)), put_nl _ nTOKEN _ (q _ (by decide))] <;> rfl
theorem dval_dv (l : List UInt8) (h : check.allD l = true) : cents.dval l = ((dv l : Nat) : Int) := by
  induction l using cents.snoc_ind with
  | h0 => rfl
  | h1 l c ih =>
    have h' : check.allD l = true ∧ check.isD c = true := by simpa [check.allD] using h
    have hc : 48 ≤ c.toNat := by have := h'.2; simp [check.isD] at this; exact this.1
    rw [cents.dval_snoc, token.dv_snoc, ih h'.1]
    omega
theorem atoi_dec {u : Nat} (h : u ≤ 2097151) : atoiV (Lib.decDigits u) = (u : Int) := by
  have h1 := dec_len7 u h
  have h2 := cents.dec_facts u u (Nat.le_refl _)
  have hd : check.allD (Lib.decDigits u) = true := h2.1
  have e := dval_dv _ hd
  rw [h2.2.1] at e
  unfold atoiV
  rw [atoi_digits hd h2.2.2.1 (by omega)]
  exact e.symm
theorem rep_four {k : List UInt8} (h : k.length = 20) (hd : check.allD k = true) : Lib.replaceAll (four k) [32] [] = k := by
  have hk : ∀ l : List UInt8, (∀ c ∈ l, c ∈ k) → Not 32 l := fun l hl c hc => by
    have := List.all_eq_true.1 hd c (hl c hc)
    simp [check.isD] at this
    rintro rfl
    exact absurd this.1 (by decide)
  have n1 := hk (k.take 4) (fun c hc => List.mem_of_mem_take hc)
  have n2 := hk ((k.drop 4).take 4) (fun c hc => List.mem_of_mem_drop (List.mem_of_mem_take hc))
  have n3 := hk ((k.drop 8).take 4) (fun c hc => List.mem_of_mem_drop (List.mem_of_mem_take hc))
  have n4 := hk ((k.drop 12).take 4) (fun c hc => List.mem_of_mem_drop (List.mem_of_mem_take hc))
  have n5 := hk ((k.drop 16).take 4) (fun c hc => List.mem_of_mem_drop (List.mem_of_mem_take hc))
  have z : ∀ l : List UInt8, Not 32 l → l.count 32 = 0 := fun l hl => List.count_eq_zero.2 fun hm => hl 32 hm rfl
  have hc : Lib.count (four k) [32] = 4 := by
    rw [Lib.count_one]
    unfold four
    simp only [List.count_append, List.count_cons, z _ n1, z _ n2, z _ n3, z _ n4, z _ n5]
    rfl
  unfold Lib.replaceAll Lib.replace Lib.replaceNum
  rw [if_neg (by decide), if_pos (Or.inl (by decide)), hc]
  unfold four
  rw [rep_line 3 _ _ n1, rep_line 2 _ _ n2, rep_line 1 _ _ n3, rep_line 0 _ _ n4]
  match k, h with
  | [a, b, c, d, e, f, g, i, j, l, m, n, o, p, q, r, s, t, u, v], _ => rfl
/-- The receipt that is guessed. -/
def gs (l : List UInt8) (me : Int) : Rc := ⟨me, atoiV (found l nNUMBER), (readR (found l nTENDER)).1, (readR (found l nDEBT)).1, (readR (found l nFEE)).1, (readR (found l nPRICE)).1, (readR (found l nCHANGE)).1, atoiV (found l nUNITS), Lib.replaceAll (found l nTOKEN) [32] []⟩
theorem gs_right {r : Rc} (h : Right r) {me e : Int} (hm : MeterIs (found (paper r) nMETER) me e) : gs (paper r) me = r := by
  obtain ⟨f0, f1, f2, f3, f4, f5, f6, f7, f8⟩ := found_paper h
  obtain ⟨⟨m0, m1⟩, ⟨⟨⟨t0, t1⟩, ⟨d0, d1⟩, ⟨g0, g1⟩, p0, p1⟩, ⟨c0, c1⟩, ⟨i0, i1⟩, u0, u1⟩, _, hp, _⟩ := h
  rw [f0] at hm
  have hme := (meter_back (by omega) hm).1
  unfold gs
  rw [f1, f2, f3, f4, f5, f6, f7, f8, atoi_dec (by omega), atoi_dec (by omega), read_shown _ (by omega) (by omega), read_shown _ (by omega) (by omega), read_shown _ (by omega) (by omega), read_shown _ (by omega) (by omega), read_shown _ (by omega) (by omega), rep_four (parse_len hp).1 (parse_len hp).2, hme]
  obtain ⟨me', id, te, de, fe, pr, ch, un, tk⟩ := r
  simp only at *
  rw [Int.toNat_of_nonneg (by omega), Int.toNat_of_nonneg (by omega), Int.toNat_of_nonneg (by omega)]
theorem whole_allD {l : List UInt8} (h : cents.whole l = true) : cents.allD l = true := by
  unfold cents.whole at h
  rw [Bool.or_eq_true] at h
  rcases h with h | h
  · rw [eq_of_beq h]; rfl
  · simp only [Bool.and_eq_true] at h
    exact h.2
theorem readR_bd (l : List UInt8) : -1000000000000 ≤ (readR l).1 ∧ (readR l).1 ≤ 1000000000000 := by
  unfold readR
  split
  · exact ⟨by decide, by decide⟩
  · split
    · exact ⟨by decide, by decide⟩
    · rename_i h2
      split
      · exact ⟨by decide, by decide⟩
      · have h0 : 0 ≤ cents.dval (cents.units (cents.body l) ++ cents.rests (cents.body l)) := by
          by_cases hd : cents.allD (cents.units (cents.body l) ++ cents.rests (cents.body l)) = true
          · exact (cents.cval_eq _ hd).1
          · exfalso
            apply hd
            have hf : cents.form (cents.body l) = true := by
              cases hx : cents.form (cents.body l) with
              | true => rfl
              | false => exact absurd (Or.inl hx) h2
            unfold cents.form at hf
            simp only [Bool.and_eq_true] at hf
            rw [cents.allD_append, hf.2.2.2, Bool.and_true]
            exact whole_allD hf.2.1
        dsimp only
        split <;> omega

end Go.Proofs.YtlicdeppfhmfjaaGreatDoor.rcp

/- Contracts of the library, laid at this dump in plain words: strings_Cut, strings_Split, strings_ReplaceAll. -/
namespace Go.Proofs
open Go.Shelf
def Tryz.lays145_ren : Go.Shelf.Ren := ⟨fun | 145 => 74 | 220 => 111 | 219 => 155 | 217 => 171 | 225 => 172 | 224 => 173 | 267 => 174 | 266 => 179 | 314 => 180 | n => n, fun | 9 => 9 | 4 => 4 | 59 => 114 | 3 => 3 | 5 => 5 | 46 => 111 | 146 => 167 | 51 => 83 | n => n, fun | 1 => 5 | n => n⟩
theorem Tryz.lays145 : Go.Proofs.Lays.n145 Tryz.prog Tryz.lays145_ren := {
  mixed := by kernel_rfl
  f145 := Tryz.func74.trans (congrArg some (by kernel_rfl))
  f217 := Tryz.func171.trans (congrArg some (by kernel_rfl))
  f219 := Tryz.func155.trans (congrArg some (by kernel_rfl))
  f220 := Tryz.func111.trans (congrArg some (by kernel_rfl))
  f224 := Tryz.func173.trans (congrArg some (by kernel_rfl))
  f225 := Tryz.func172.trans (congrArg some (by kernel_rfl))
  f266 := Tryz.func179.trans (congrArg some (by kernel_rfl))
  f267 := Tryz.func174.trans (congrArg some (by kernel_rfl))
  f314 := Tryz.func180.trans (congrArg some (by kernel_rfl))
  t3 := Tryz.underlying3
  a3 := Tryz.isAgg3
  z3 := Tryz.sizeOf3
  v3 := Tryz.zeroValue3
  t4 := Tryz.underlying4
  a4 := Tryz.isAgg4
  z4 := Tryz.sizeOf4
  v4 := Tryz.zeroValue4
  t5 := Tryz.underlying5
  a5 := Tryz.isAgg5
  z5 := Tryz.sizeOf5
  v5 := Tryz.zeroValue5
  t9 := Tryz.underlying9
  a9 := Tryz.isAgg9
  z9 := Tryz.sizeOf9
  v9 := Tryz.zeroValue9
  t46 := Tryz.underlying111
  a46 := Tryz.isAgg111
  z46 := Tryz.sizeOf111
  v46 := Tryz.zeroValue111
  t51 := Tryz.underlying83
  a51 := Tryz.isAgg83
  z51 := Tryz.sizeOf83
  v51 := Tryz.zeroValue83
  t59 := Tryz.underlying114
  a59 := Tryz.isAgg114
  z59 := Tryz.sizeOf114
  v59 := Tryz.zeroValue114
  t146 := Tryz.underlying167
  a146 := Tryz.isAgg167
  z146 := Tryz.sizeOf167
  v146 := Tryz.zeroValue167
  g1 := by kernel_rfl }
open Go.RowKit Go.Lib in
theorem Tryz.strings_Cut (s sep : ByteArray) (m : Int) (w : World) (hs : s.size < 4294967281) (hm : w.cell? ⟨5, 0, none⟩ = some (.int .i64 m)) :
    Calls Tryz.prog 74 #[.string s, .string sep] w fun e w' => e = .returned (.tuple #[.string ⟨(Lib.cut s.data.toList sep.data.toList).1.toArray⟩, .string ⟨(Lib.cut s.data.toList sep.data.toList).2.1.toArray⟩, .bool (Lib.cut s.data.toList sep.data.toList).2.2]) ∧ ∃ n, w' = w.drewN n := Any.strings_Cut Tryz.lays145 s sep m w hs hm
def Tryz.lays146_ren : Go.Shelf.Ren := ⟨fun | 146 => 73 | 221 => 110 | 268 => 154 | 138 => 118 | 143 => 119 | 195 => 159 | 197 => 120 | 218 => 160 | 219 => 155 | 260 => 161 | 217 => 171 | 225 => 172 | 224 => 173 | 267 => 174 | 266 => 179 | 314 => 180 | n => n, fun | 9 => 9 | 31 => 45 | 3 => 3 | 4 => 4 | 0 => 0 | 105 => 162 | 21 => 21 | 5 => 5 | 46 => 111 | 119 => 213 | 139 => 216 | 138 => 215 | 146 => 167 | 51 => 83 | n => n, fun | 1 => 5 | 3 => 6 | 4 => 7 | n => n⟩
theorem Tryz.lays146 : Go.Proofs.Lays.n146 Tryz.prog Tryz.lays146_ren := {
  mixed := by kernel_rfl
  f138 := Tryz.func118.trans (congrArg some (by kernel_rfl))
  f143 := Tryz.func119.trans (congrArg some (by kernel_rfl))
  f146 := Tryz.func73.trans (congrArg some (by kernel_rfl))
  f195 := Tryz.func159.trans (congrArg some (by kernel_rfl))
  f197 := Tryz.func120.trans (congrArg some (by kernel_rfl))
  f217 := Tryz.func171.trans (congrArg some (by kernel_rfl))
  f218 := Tryz.func160.trans (congrArg some (by kernel_rfl))
  f219 := Tryz.func155.trans (congrArg some (by kernel_rfl))
  f221 := Tryz.func110.trans (congrArg some (by kernel_rfl))
  f224 := Tryz.func173.trans (congrArg some (by kernel_rfl))
  f225 := Tryz.func172.trans (congrArg some (by kernel_rfl))
  f260 := Tryz.func161.trans (congrArg some (by kernel_rfl))
  f266 := Tryz.func179.trans (congrArg some (by kernel_rfl))
  f267 := Tryz.func174.trans (congrArg some (by kernel_rfl))
  f268 := Tryz.func154.trans (congrArg some (by kernel_rfl))
  f314 := Tryz.func180.trans (congrArg some (by kernel_rfl))
  t0 := Tryz.underlying0
  a0 := Tryz.isAgg0
  z0 := Tryz.sizeOf0
  v0 := Tryz.zeroValue0
  t3 := Tryz.underlying3
  a3 := Tryz.isAgg3
  z3 := Tryz.sizeOf3
  v3 := Tryz.zeroValue3
  t4 := Tryz.underlying4
  a4 := Tryz.isAgg4
  z4 := Tryz.sizeOf4
  v4 := Tryz.zeroValue4
  t5 := Tryz.underlying5
  a5 := Tryz.isAgg5
  z5 := Tryz.sizeOf5
  v5 := Tryz.zeroValue5
  t9 := Tryz.underlying9
  a9 := Tryz.isAgg9
  z9 := Tryz.sizeOf9
  v9 := Tryz.zeroValue9
  t21 := Tryz.underlying21
  a21 := Tryz.isAgg21
  z21 := Tryz.sizeOf21
  v21 := Tryz.zeroValue21
  t31 := Tryz.underlying45
  a31 := Tryz.isAgg45
  z31 := Tryz.sizeOf45
  v31 := Tryz.zeroValue45
  t46 := Tryz.underlying111
  a46 := Tryz.isAgg111
  z46 := Tryz.sizeOf111
  v46 := Tryz.zeroValue111
  t51 := Tryz.underlying83
  a51 := Tryz.isAgg83
  z51 := Tryz.sizeOf83
  v51 := Tryz.zeroValue83
  t105 := Tryz.underlying162
  a105 := Tryz.isAgg162
  z105 := Tryz.sizeOf162
  v105 := Tryz.zeroValue162
  t119 := Tryz.underlying213
  a119 := Tryz.isAgg213
  z119 := Tryz.sizeOf213
  t138 := Tryz.underlying215
  a138 := Tryz.isAgg215
  z138 := Tryz.sizeOf215
  v138 := Tryz.zeroValue215
  t139 := Tryz.underlying216
  a139 := Tryz.isAgg216
  z139 := Tryz.sizeOf216
  v139 := Tryz.zeroValue216
  t146 := Tryz.underlying167
  a146 := Tryz.isAgg167
  z146 := Tryz.sizeOf167
  v146 := Tryz.zeroValue167
  g1 := by kernel_rfl
  g3 := by kernel_rfl
  g4 := by kernel_rfl }
open Go.RowKit Go.Lib in
theorem Tryz.strings_Split (s sep : ByteArray) (m : Int) (w : World) (hs : s.size < 4294967281) (hm : w.cell? ⟨5, 0, none⟩ = some (.int .i64 m)) (h1 : 1 ≤ sep.size) :
    Calls Tryz.prog 73 #[.string s, .string sep] w fun e w' =>
      e = .returned (.slice (some ⟨w.heap.size, 0, none⟩) (Lib.countB s sep + 1) (Lib.countB s sep + 1)) ∧ w' = w.alloc (.cells ((Lib.splitB sep 0 (Lib.countB s sep) s).map Value.string).toArray 9) := Any.strings_Split Tryz.lays146 (by kernel_rfl) s sep m w hs hm h1
def Tryz.lays155_ren : Go.Shelf.Ren := ⟨fun | 155 => 46 | 154 => 83 | 138 => 118 | 165 => 88 | 143 => 119 | 166 => 59 | 197 => 120 | 169 => 35 | 195 => 159 | 218 => 160 | 240 => 96 | 241 => 128 | 219 => 155 | 260 => 161 | 276 => 134 | 277 => 163 | 217 => 171 | 225 => 172 | 224 => 173 | 267 => 174 | 266 => 179 | 314 => 180 | n => n, fun | 9 => 9 | 3 => 3 | 4 => 4 | 72 => 63 | 0 => 0 | 76 => 78 | 105 => 162 | 21 => 21 | 5 => 5 | 70 => 60 | 20 => 20 | 37 => 61 | 75 => 77 | 127 => 100 | 164 => 175 | 46 => 111 | 119 => 213 | 139 => 216 | 138 => 215 | 146 => 167 | 51 => 83 | 80 => 69 | n => n, fun | 1 => 5 | 3 => 6 | 4 => 7 | n => n⟩
theorem Tryz.lays155 : Go.Proofs.Lays.n155 Tryz.prog Tryz.lays155_ren := {
  mixed := by kernel_rfl
  f138 := Tryz.func118.trans (congrArg some (by kernel_rfl))
  f143 := Tryz.func119.trans (congrArg some (by kernel_rfl))
  f154 := Tryz.func83.trans (congrArg some (by kernel_rfl))
  f155 := Tryz.func46.trans (congrArg some (by kernel_rfl))
  f165 := Tryz.func88.trans (congrArg some (by kernel_rfl))
  f166 := Tryz.func59.trans (congrArg some (by kernel_rfl))
  f169 := Tryz.func35.trans (congrArg some (by kernel_rfl))
  f195 := Tryz.func159.trans (congrArg some (by kernel_rfl))
  f197 := Tryz.func120.trans (congrArg some (by kernel_rfl))
  f217 := Tryz.func171.trans (congrArg some (by kernel_rfl))
  f218 := Tryz.func160.trans (congrArg some (by kernel_rfl))
  f219 := Tryz.func155.trans (congrArg some (by kernel_rfl))
  f224 := Tryz.func173.trans (congrArg some (by kernel_rfl))
  f225 := Tryz.func172.trans (congrArg some (by kernel_rfl))
  f240 := Tryz.func96.trans (congrArg some (by kernel_rfl))
  f241 := Tryz.func128.trans (congrArg some (by kernel_rfl))
  f260 := Tryz.func161.trans (congrArg some (by kernel_rfl))
  f266 := Tryz.func179.trans (congrArg some (by kernel_rfl))
  f267 := Tryz.func174.trans (congrArg some (by kernel_rfl))
  f276 := Tryz.func134.trans (congrArg some (by kernel_rfl))
  f277 := Tryz.func163.trans (congrArg some (by kernel_rfl))
  f314 := Tryz.func180.trans (congrArg some (by kernel_rfl))
  t0 := Tryz.underlying0
  a0 := Tryz.isAgg0
  z0 := Tryz.sizeOf0
  v0 := Tryz.zeroValue0
  t3 := Tryz.underlying3
  a3 := Tryz.isAgg3
  z3 := Tryz.sizeOf3
  v3 := Tryz.zeroValue3
  t4 := Tryz.underlying4
  a4 := Tryz.isAgg4
  z4 := Tryz.sizeOf4
  v4 := Tryz.zeroValue4
  t5 := Tryz.underlying5
  a5 := Tryz.isAgg5
  z5 := Tryz.sizeOf5
  v5 := Tryz.zeroValue5
  t9 := Tryz.underlying9
  a9 := Tryz.isAgg9
  z9 := Tryz.sizeOf9
  v9 := Tryz.zeroValue9
  t20 := Tryz.underlying20
  a20 := Tryz.isAgg20
  z20 := Tryz.sizeOf20
  v20 := Tryz.zeroValue20
  t21 := Tryz.underlying21
  a21 := Tryz.isAgg21
  z21 := Tryz.sizeOf21
  v21 := Tryz.zeroValue21
  t37 := Tryz.underlying61
  a37 := Tryz.isAgg61
  z37 := Tryz.sizeOf61
  v37 := Tryz.zeroValue61
  t46 := Tryz.underlying111
  a46 := Tryz.isAgg111
  z46 := Tryz.sizeOf111
  v46 := Tryz.zeroValue111
  t51 := Tryz.underlying83
  a51 := Tryz.isAgg83
  z51 := Tryz.sizeOf83
  v51 := Tryz.zeroValue83
  t70 := Tryz.underlying60
  a70 := Tryz.isAgg60
  z70 := Tryz.sizeOf60
  v70 := Tryz.zeroValue60
  t72 := Tryz.underlying63
  a72 := Tryz.isAgg63
  z72 := Tryz.sizeOf63
  v72 := Tryz.zeroValue63
  t75 := Tryz.underlying77
  a75 := Tryz.isAgg77
  z75 := Tryz.sizeOf77
  v75 := Tryz.zeroValue77
  t76 := Tryz.underlying78
  a76 := Tryz.isAgg78
  z76 := Tryz.sizeOf78
  v76 := Tryz.zeroValue78
  t105 := Tryz.underlying162
  a105 := Tryz.isAgg162
  z105 := Tryz.sizeOf162
  v105 := Tryz.zeroValue162
  t119 := Tryz.underlying213
  a119 := Tryz.isAgg213
  z119 := Tryz.sizeOf213
  t127 := Tryz.underlying100
  a127 := Tryz.isAgg100
  z127 := Tryz.sizeOf100
  v127 := Tryz.zeroValue100
  t138 := Tryz.underlying215
  a138 := Tryz.isAgg215
  z138 := Tryz.sizeOf215
  v138 := Tryz.zeroValue215
  t139 := Tryz.underlying216
  a139 := Tryz.isAgg216
  z139 := Tryz.sizeOf216
  v139 := Tryz.zeroValue216
  t146 := Tryz.underlying167
  a146 := Tryz.isAgg167
  z146 := Tryz.sizeOf167
  v146 := Tryz.zeroValue167
  t164 := Tryz.underlying175
  a164 := Tryz.isAgg175
  z164 := Tryz.sizeOf175
  v164 := Tryz.zeroValue175
  g1 := by kernel_rfl
  g3 := by kernel_rfl
  g4 := by kernel_rfl }
theorem Tryz.Builder_Extra_155 : Builder.Extra Tryz.prog Tryz.lays155_ren := {
  sizeBuilder := by kernel_rfl
  liesBuilder := by kernel_rfl
  t5 := Tryz.underlying5
  a5 := Tryz.isAgg5
  z5 := Tryz.sizeOf5
  v5 := Tryz.zeroValue5
  infoByte := by kernel_rfl
  cellsByte := by kernel_rfl
  sizeByte := by kernel_rfl
  neB5 := by decide }
open Go.RowKit Go.Lib in
theorem Tryz.strings_ReplaceAll (s old new : ByteArray) (m : Int) (w : World) (hs : s.size < 4294967281) (hm : w.cell? ⟨5, 0, none⟩ = some (.int .i64 m)) (h1 : 1 ≤ old.size) (hlen : s.size + Lib.countB s old * new.size ≤ 140737488355328) :
    Calls Tryz.prog 46 #[.string s, .string old, .string new] w fun e w' =>
      e = .returned (.string ⟨(Lib.replaceAll s.data.toList old.data.toList new.data.toList).toArray⟩) ∧ Below w.heap.size w w' := Any.strings_ReplaceAll Tryz.lays155 Tryz.Builder_Extra_155 s old new m w hs hm h1 hlen
end Go.Proofs

/- The lines of a text, told by their names, in the program. -/
namespace Go.Proofs.YtlicdeppfhmfjaaGreatDoor.rcg
open Go.Proofs.YtlicdeppfhmfjaaGreatDoor.rcp (putL foldL fold_snoc found cut_len)
open Go.RowKit
open Go.Maps (Keyed IsMap)
open Go.WideMaps (keyOf_string_mk)
set_option maxRecDepth 100000
set_option linter.unusedVariables false
set_option linter.unusedSimpArgs false

/-- How an element reads: a struct with one text. -/
def RE (v : Value) : Option (DataW Unit × List MemPlace) := match v with
  | .agg cs => match cs.toList with
    | [.string s] => some (.lit (.string s.data.toList), [])
    | _ => none
  | _ => none
theorem RE_mk (s : ByteArray) : RE (.agg #[.string s]) = some (.lit (.string s.data.toList), []) := rfl
theorem RE_inv {v : Value} {d : DataW Unit} {ps : List MemPlace} (h : RE v = some (d, ps)) : ∃ s : ByteArray, v = .agg #[.string s] ∧ d = .lit (.string s.data.toList) := by
  cases v with
  | agg cs =>
    cases cs with
    | mk l =>
      match l, h with
      | [.string s], h =>
        have h' : (DataW.lit (.string s.data.toList), ([] : List MemPlace)) = (d, ps) := Option.some.inj h
        injection h' with h1 h2
        exact ⟨s, rfl, h1.symm⟩
  | _ => cases h
/-- The map in block b: what it tells of each name. -/
def Fd (w : World) (b c : Nat) (F : List UInt8 → List UInt8) : Prop :=
  ∃ D, w.ownsMap Tryz.prog 9 RE b c D ∧ IsMap D ∧ (∀ k, D.atKey (.string k) (.lit (.string [])) = .lit (.string (F k)))
theorem keyS : Keyed Tryz.prog 9 := Maps.string_keyed Tryz.underlying9
theorem own_next {w w' : World} {b n : Nat} {D : DataW Unit} (h : w.ownsMap Tryz.prog 9 RE b n D) (hb : Below w.heap.size w w') : w'.ownsMap Tryz.prog 9 RE b n D := by
  have hl := h.lt
  obtain ⟨es, c, h1, h2, h3, h4⟩ := h
  exact ⟨es, c, by rw [hb.block b hl]; exact h1, h2, h3, h4⟩
theorem Fd.next {w w' : World} {b c : Nat} {F : List UInt8 → List UInt8} (h : Fd w b c F) (hb : Below w.heap.size w w') : Fd w' b c F := by
  obtain ⟨D, h2, h3, h4⟩ := h
  exact ⟨D, own_next h2 hb, h3, h4⟩
theorem Fd.lt {w : World} {b c : Nat} {F : List UInt8 → List UInt8} (h : Fd w b c F) : b < w.heap.size := by
  obtain ⟨D, h2, h3, h4⟩ := h
  exact h2.lt
theorem zeroB (w : World) : (zeroValue 75).run Tryz.prog w = .ok (.agg #[.string ByteArray.empty]) w := by kernel_rfl
/-- A name is looked up. -/
theorem Fd.look {w : World} {b c : Nat} {F : List UInt8 → List UInt8} (h : Fd w b c F) (k : ByteArray) (hk : k.size ≤ 1000) :
    (Instr.lookup 72 (.map (some b)) (.string k) false).run Tryz.prog w = .ok (.agg #[.string ⟨(F k.data.toList).toArray⟩]) w := by
  obtain ⟨D, h2, h3, h4⟩ := h
  obtain ⟨v, ps, hrun, hv⟩ := h2.lookup keyS Tryz.underlying72 (zeroB w) (RE_mk _) (keyOf_string_mk Tryz.underlying9 (s := k) (by unfold maxLen; omega))
  have e : D.atKey (.string k.data.toList) (.lit (.string ByteArray.empty.data.toList)) = .lit (.string (F k.data.toList)) := h4 _
  rw [e] at hv
  obtain ⟨s, rfl, hs⟩ := RE_inv hv
  injection hs with hs
  injection hs with hs
  rw [hrun, hs]
/-- The length of the library's greatest text for a quick look: whatever it is. -/
def XL (w : World) : Prop := ∃ m, w.cell? ⟨5, 0, none⟩ = some (.int .i64 m)
theorem XL.below {w w' : World} (h : XL w) (hb : Below w.heap.size w w') : XL w' := by
  obtain ⟨m, hm⟩ := h
  exact ⟨m, by rw [hb.cell (World.block_lt_of_cell? w _ hm)]; exact hm⟩
theorem Fd.new (w : World) : Fd (w.alloc (.map #[] 0)) w.heap.size 0 (fun _ => []) :=
  ⟨.map [], World.ownsMap_made w _ _ _, Maps.isMap_empty, fun k => rfl⟩
theorem Fd.put {w' : World} {b c : Nat} {F : List UInt8 → List UInt8} {D : DataW Unit} {K T : List UInt8} (hD : IsMap D) (hF : ∀ k, D.atKey (.string k) (.lit (.string [])) = .lit (.string (F k)))
    (h : w'.ownsMap Tryz.prog 9 RE b c (D.put (.string K) (.lit (.string T)))) : Fd w' b c (fun k => if k = K then T else F k) := by
  refine ⟨_, h, hD.put _ _, fun k => ?_⟩
  by_cases hk : k = K
  · subst hk
    rw [Maps.atKey_put_same hD (by first | trivial | simp [WideAt.IsKeyLit] | exact ⟨_, rfl⟩)]; dsimp only; rw [if_pos rfl]
  · rw [Maps.atKey_put_other (fun e => hk (by injection e)), hF]; dsimp only; rw [if_neg hk]
theorem run_mk (w : World) : (Instr.makeMap 72 none).run Tryz.prog w = .ok (.map (some w.heap.size)) (w.alloc (.map #[] 0)) := by kernel_rfl
/-- The lines of a text. -/
def pcs (s : ByteArray) : List ByteArray := Lib.splitB ⟨#[10]⟩ 0 (Lib.countB s ⟨#[10]⟩) s
theorem pcs_list (s : ByteArray) : (pcs s).map (·.data.toList) = Lib.splitK [10] 0 (Lib.count s.data.toList [10]) s.data.toList := Lib.splitB_data _ _ _ _
theorem pcs_len (s : ByteArray) : (pcs s).length = Lib.countB s ⟨#[10]⟩ + 1 := Lib.splitB_all _ (by decide) 0 _ s rfl
theorem splitB_small (sep : ByteArray) : ∀ (k : Nat) (s x : ByteArray), x ∈ Lib.splitB sep 0 k s → x.size ≤ s.size
  | 0, s, x, h => by
    have : x = s := by simpa [Lib.splitB] using h
    rw [this]; exact Nat.le_refl _
  | k + 1, s, x, h => by
    unfold Lib.splitB at h
    split at h
    · have : x = s := by simpa using h
      rw [this]; exact Nat.le_refl _
    · rcases List.mem_cons.1 h with rfl | h
      · rw [ByteArray.size_extract]; omega
      · have := splitB_small sep k _ x h
        rw [ByteArray.size_extract] at this
        omega
theorem pcs_small (s x : ByteArray) (h : x ∈ pcs s) : x.size ≤ s.size := splitB_small _ _ s x h
def pfx (s : ByteArray) (i : Nat) : List UInt8 → List UInt8 := foldL (((pcs s).take i).map (·.data.toList))
theorem pfx_next (s : ByteArray) (i : Nat) (h : i < (pcs s).length) : pfx s (i + 1) = putL (pfx s i) ((pcs s).getD i ByteArray.empty).data.toList := by
  unfold pfx
  rw [List.take_succ_eq_append_getElem h, List.map_append, List.map_singleton, fold_snoc]
  simp [List.getD, h]
theorem pfx_all (s : ByteArray) : pfx s (pcs s).length = found s.data.toList := by
  unfold pfx found
  rw [List.take_of_length_le (Nat.le_refl _), pcs_list]

theorem fold_small (M : Nat) : ∀ (ls : List (List UInt8)), (∀ l ∈ ls, l.length ≤ M) → ∀ (F : List UInt8 → List UInt8), (∀ k, (F k).length ≤ M) → ∀ k, (ls.foldl putL F k).length ≤ M
  | [], _, F, hF, k => hF k
  | l :: ls, hl, F, hF, k => by
    rw [List.foldl_cons]
    refine fold_small M ls (fun x hx => hl x (List.mem_cons_of_mem _ hx)) _ (fun k => ?_) k
    unfold putL
    split
    · exact Nat.le_trans (cut_len l) (hl l (by simp))
    · exact hF k
theorem found_small (s : ByteArray) (k : List UInt8) : (found s.data.toList k).length ≤ s.size := by
  rw [← pfx_all]
  unfold pfx foldL
  refine fold_small s.size _ (fun l hl => ?_) _ (fun _ => Nat.zero_le _) k
  obtain ⟨x, hx, rfl⟩ := List.mem_map.1 hl
  have := pcs_small s x (List.mem_of_mem_take hx)
  rw [Array.length_toList]
  exact this

set_option maxHeartbeats 2000000 in
theorem named_any (s : ByteArray) (w : World) (hs : s.size ≤ 400) (hx : XL w) :
    Calls Tryz.prog 40 #[.string s] w fun e w' => ∃ b c, e = .returned (.map (some b)) ∧ Fd w' b c (found s.data.toList) ∧ w.heap.size ≤ b ∧ Below w.heap.size w w' := by
  have hcb := Lib.countB_le ⟨#[10]⟩ (by decide) s.size s (Nat.le_refl _)
  have hpl := pcs_len s
  have hn400 : (pcs s).length ≤ 401 := by omega
  have HXL : Hid (∀ w', Below w.heap.size w w' → XL w') := fun w' hb => hx.below hb
  have HW1 : Hid (Below w.heap.size w (w.alloc (.map #[] 0))) := (Below.refl _ _).alloc (Nat.le_refl _) _
  obtain ⟨m1, hm1⟩ := HXL.out _ HW1.out
  have HSP := Tryz.strings_Split s ⟨#[10]⟩ m1 (w.alloc (.map #[] 0)) (by omega) hm1 (by decide)
  rw [show Lib.splitB ⟨#[10]⟩ 0 (Lib.countB s ⟨#[10]⟩) s = pcs s from rfl, ← hpl] at HSP
  have hmk := run_mk
  have HF1 : Hid (Fd (w.alloc (.map #[] 0)) w.heap.size 0 (fun _ => [])) := Fd.new w
  clear hx hm1 hcb
  go_enter Tryz.func40, Tryz.ntmps40
  go_upto_region 2 with fail
  clear hmk
  have hgs : (w.alloc (.map #[] 0)).heap.size = w.heap.size + 1 := by simp
  generalize w.alloc (.map #[] 0) = W1 at *
  go_wp2_with fail
  refine HSP.mono ?_
  rintro e W2 ⟨rfl, rfl⟩
  have HBC : Hid (Blk (W1.alloc (.cells ((pcs s).map Value.string).toArray 9)) W1.heap.size ((pcs s).map Value.string).toArray 9) := Blk.new _ _ _
  have HF2 : Hid (Fd (W1.alloc (.cells ((pcs s).map Value.string).toArray 9)) w.heap.size 0 (pfx s 0)) := HF1.out.next ((Below.refl _ _).alloc (Nat.le_refl _) _)
  have HB2 : Hid (Below w.heap.size w (W1.alloc (.cells ((pcs s).map Value.string).toArray 9))) := HW1.out.alloc HW1.out.size _
  have HNE : Hid (W1.heap.size ≠ w.heap.size) := by show _ ≠ _; omega
  clear HSP HF1 HW1 hpl hgs
  generalize hW2 : W1.alloc (.cells ((pcs s).map Value.string).toArray 9) = W2 at *
  clear hW2
  generalize W1.heap.size = gs at *
  have HPS : Hid (∀ i, i < (pcs s).length → ((pcs s).getD i ByteArray.empty).size ≤ 400) := fun i hi => by
    have e : (pcs s).getD i ByteArray.empty = (pcs s)[i] := by simp [List.getD, hi]
    rw [e]
    exact Nat.le_trans (pcs_small s _ (List.getElem_mem hi)) hs
  generalize hN : (pcs s).length = N at *
  have HN : Hid ((pcs s).length = N) := hN
  clear hN hs
  go_wp2_with fail
  go_loopw [13] (fun v13 wr => ∃ i : Nat, i ≤ N ∧ v13 = .int .i64 (i : Int) ∧ Fd wr w.heap.size i (pfx s i) ∧ Blk wr gs ((pcs s).map Value.string).toArray 9 ∧ Below w.heap.size w wr) (fun z _ => N - (intOf z).toNat)
  case atStart => exact ⟨0, Nat.zero_le _, rfl, HF2.out, HBC.out, HB2.out⟩
  case round =>
    obtain ⟨i, hi, rfl, hf, hbc, hbl⟩ := hrel
    have HF : Hid (Fd wr w.heap.size i (pfx s i)) := hf
    have HC : Hid (Blk wr gs ((pcs s).map Value.string).toArray 9) := hbc
    have HB : Hid (Below w.heap.size w wr) := hbl
    clear hf hbc hbl HF2 HBC HB2
    by_cases hlt : i < N
    · have hcell : wr.cell? ⟨gs, i, none⟩ = some (.string ((pcs s).getD i ByteArray.empty)) := by
        rw [HC.out.cell i]
        have hi' : i < (pcs s).length := by have := HN.out; omega
        simp [List.getD, hi']
      have HNX : Hid (pfx s (i + 1) = putL (pfx s i) ((pcs s).getD i ByteArray.empty).data.toList) := pfx_next s i (by have := HN.out; omega)
      have hL4 := HPS.out i (by have := HN.out; omega)
      generalize (pcs s).getD i ByteArray.empty = L at *
      obtain ⟨m, hm⟩ := HXL.out wr HB.out
      have HCU := Tryz.strings_Cut L ⟨#[32]⟩ m wr (by omega) hm
      have hb1 : ((⟨(Lib.cut L.data.toList [32]).1.toArray⟩ : ByteArray)).size ≤ 1000 := by
        show (Lib.cut L.data.toList [32]).1.length ≤ 1000
        have hl : L.data.toList.length = L.size := Array.length_toList
        unfold Lib.cut
        split
        · simp; omega
        · simp; omega
      clear hm
      have HP : Hid (pfx s (i + 1) = fun k => if k = (⟨(Lib.cut L.data.toList [32]).1.toArray⟩ : ByteArray).data.toList then (⟨(Lib.cut L.data.toList [32]).2.1.toArray⟩ : ByteArray).data.toList else pfx s i k) := HNX.out
      have e32 : (⟨#[32]⟩ : ByteArray).data.toList = [32] := rfl
      rw [e32] at HCU
      generalize (⟨(Lib.cut L.data.toList [32]).1.toArray⟩ : ByteArray) = K at *
      generalize (⟨(Lib.cut L.data.toList [32]).2.1.toArray⟩ : ByteArray) = T at *
      generalize (Lib.cut L.data.toList [32]).2.2 = fnd at *
      clear HNX e32 hL4
      have hkey : keyOf Tryz.prog 9 (.string K) = some (.string K.data.toList) := keyOf_string_mk Tryz.underlying9 (s := K) (by unfold maxLen; omega)
      go_wp2_with fail
      refine HCU.mono ?_
      rintro e w1 ⟨rfl, q, rfl⟩
      clear HCU
      obtain ⟨D, hown, hD, hF⟩ := HF.out
      have HD : Hid (IsMap D) := hD
      have HFK : Hid (∀ k, D.atKey (.string k) (.lit (.string [])) = .lit (.string (pfx s i k))) := hF
      have hown1 : (wr.drewN q).ownsMap Tryz.prog 9 RE w.heap.size i D := hown
      have HC1 : Hid (Blk (wr.drewN q) gs ((pcs s).map Value.string).toArray 9) := HC.out
      have HB1 : Hid (Below w.heap.size w (wr.drewN q)) := bel_drew HB.out q
      clear hD hF hown HF HC HB hcell
      generalize wr.drewN q = wq at *
      go_wp2_with (first | (at_mapUpdate; refine wpList_mapUpdate_own _ rfl _ _ _ 72 rfl 9 75 keyS Tryz.underlying72 RE w.heap.size i D rfl hown1 (by unfold maxLen; omega) _ _ (.string K.data.toList) rfl rfl hkey (.lit (.string T.data.toList)) [] (RE_mk T) ?_; intro w2 hown2 hg2; have HF2 : Hid (Fd w2 w.heap.size (i + 1) (pfx s (i + 1))) := (by show Fd _ _ _ _; rw [HP.out]; exact Fd.put HD.out HFK.out hown2); have HC2 : Hid (Blk w2 gs ((pcs s).map Value.string).toArray 9) := ((hg2.block gs HC1.out.lt (fun e => HNE.out (by injection e))).trans HC1.out); have HB2 : Hid (Below w.heap.size w w2) := HB1.out.grown hg2 HB1.out.size (fun k hk => by injection hk with hk; omega); clear hown1 hown2 hg2 HP HC1 HB1) | fail)
      go_roundw
      case rel => exact ⟨i + 1, by omega, by go_num, HF2.out, HC2.out, HB2.out⟩
      case measure => simp [intOf]; omega
    · have HFF : Hid (Fd wr w.heap.size i (found s.data.toList)) := by
        have e : i = (pcs s).length := by have := HN.out; omega
        show Fd _ _ _ _
        rw [← pfx_all, ← e]
        exact HF.out
      clear HF
      go_wp2_with fail
      go_ret
      exact ⟨_, _, rfl, HFF.out, Nat.le_refl _, HB.out⟩

end Go.Proofs.YtlicdeppfhmfjaaGreatDoor.rcg

/- Texts of digits: what flaw gives back. -/
namespace Go.Proofs.YtlicdeppfhmfjaaGreatDoor.check
open Go.RowKit

set_option maxHeartbeats 400000 in
theorem flaw_any (s : ByteArray) (w : World) :
    Calls Tryz.prog 97 #[.string s] w fun e w' => e = .returned (.int .i64 (flawR s.data.toList)) ∧ Below w.heap.size w w' := by
  have el := ByteArray.toList_eq s
  have ln := len_eq s
  by_cases h0 : s.size = 0
  · rw [flawR_size (.inl (by omega))]
    have e : (s.toList == []) = true := by rw [el, List.eq_nil_of_length_eq_zero (by omega : s.data.toList.length = 0)]; rfl
    clear el ln
    go_enter Tryz.func97, Tryz.ntmps97
    go_wp2
    go_ret
    exact ⟨rfl, Below.refl _ _⟩
  · have e : (s.toList == []) = false := by
      rw [el]; cases hl : s.data.toList with
      | nil => rw [hl] at ln; simp at ln; omega
      | cons a r => rfl
    by_cases h2 : 200 < s.size
    · rw [flawR_size (.inr (by omega))]
      have h3 : (200 : Int) < (s.size : Int) := by omega
      clear el ln
      go_enter Tryz.func97, Tryz.ntmps97
      go_wp2
      go_ret
      exact ⟨rfl, Below.refl _ _⟩
    · have h3 : ¬ (200 : Int) < (s.size : Int) := by omega
      have HS : Hid (¬ (s.data.toList.length = 0 ∨ 200 < s.data.toList.length)) := by intro h; omega
      clear el ln
      go_enter Tryz.func97, Tryz.ntmps97
      go_wp2
      go_loopw [] (fun wr => ∃ k : Nat, k ≤ s.size ∧ wr = w.iter s k ∧ allD (s.data.toList.take k) = true) (fun wr => s.size - wr.iterPos w.heap.size)
      case atStart => exact ⟨0, Nat.zero_le _, rfl, rfl⟩
      case round =>
        obtain ⟨k, hk, rfl, hok⟩ := hrel
        have HK : Hid (allD (s.data.toList.take k) = true) := hok
        clear hok
        by_cases hp : k < s.size
        · by_cases ha : (s[k]'hp).toNat < 128
          · have hnx : ∀ ty, (Instr.next (.pointer (some ⟨w.heap.size, 0, none⟩)) true ty).run Tryz.prog (w.iter s k) = _ := fun ty => run_next_ascii w s k ty hp ha
            have HT : Hid (s.data.toList.take (k + 1) = s.data.toList.take k ++ [s[k]]) := take_snoc s k hp
            have HN : Hid (isD s[k] = false → allD s.data.toList = false) := allD_take_no s k hp
            have HY : Hid (48 ≤ ((s[k].toNat : Nat) : Int) → ((s[k].toNat : Nat) : Int) ≤ 57 → isD s[k] = true) := fun a b => isD_yes a b
            have HL : Hid (((s[k].toNat : Nat) : Int) < 48 → isD s[k] = false) := fun a => isD_lo a
            have HH : Hid (57 < ((s[k].toNat : Nat) : Int) → isD s[k] = false) := fun a => isD_hi a
            clear ha
            generalize s[k] = c at *
            generalize hcc : ((c.toNat : Nat) : Int) = z at *
            clear hcc
            by_cases h1 : z < 48
            · go_wp2
              go_ret
              exact ⟨ret_int (flawR_no HS.out (HN.out (HL.out h1))).symm, iter_below _ _ _⟩
            · by_cases h2 : 57 < z
              · go_wp2
                go_ret
                exact ⟨ret_int (flawR_no HS.out (HN.out (HH.out h2))).symm, iter_below _ _ _⟩
              · go_wp2
                go_roundw
                case rel => exact ⟨k + 1, by omega, rfl, by rw [HT.out, allD_append, HK.out]; simp [allD, HY.out (by omega) (by omega)]⟩
                case measure => simp; omega
          · have hd := (decode_high s k hp (by omega)).1
            have hnx : ∀ ty, (Instr.next (.pointer (some ⟨w.heap.size, 0, none⟩)) true ty).run Tryz.prog (w.iter s k) = _ := fun ty => run_next_any w s k ty hp
            have HN : Hid (allD s.data.toList = false) := allD_take_no s k hp (isD_hi (by omega))
            clear ha
            have hd2 := decode_le s k
            generalize (Utf8.decode s k).1 = r at *
            generalize (Utf8.decode s k).2 = n at *
            go_wp2
            go_ret
            exact ⟨ret_int (flawR_no HS.out HN.out).symm, iter_below _ _ _⟩
        · have hnx : ∀ ty, (Instr.next (.pointer (some ⟨w.heap.size, 0, none⟩)) true ty).run Tryz.prog (w.iter s k) = _ := fun ty => run_next_end w s k ty hp
          go_wp2
          go_ret
          refine ⟨ret_int ?_, iter_below _ _ _⟩
          have := HK.out
          rw [List.take_of_length_le (by simp; omega)] at this
          exact (flawR_ok HS.out this).symm

theorem value_any (z : Int) (w : World) (h1 : 48 ≤ z) (h2 : z ≤ 57) :
    Calls Tryz.prog 165 #[.int .i32 z] w fun e w' => e = .returned (.int .i64 (z - 48)) ∧ w' = w := by
  go_enter Tryz.func165, Tryz.ntmps165
  go_wp2
  go_ret
  exact ⟨rfl, rfl⟩

end Go.Proofs.YtlicdeppfhmfjaaGreatDoor.check

/- The motions of a pentagon: what Mul and Inv give back. -/
namespace Go.Proofs.YtlicdeppfhmfjaaGreatDoor.check
open Go.RowKit

theorem flips_yes (n : Int) (w : World) (h : 5 ≤ n) :
    Calls Tryz.prog 138 #[.int .i64 n] w fun e w' => e = .returned (.bool true) ∧ w' = w := by
  go_enter Tryz.func138, Tryz.ntmps138
  go_wp2
  go_ret
  exact ⟨rfl, rfl⟩
theorem flips_no (n : Int) (w : World) (h : n < 5) :
    Calls Tryz.prog 138 #[.int .i64 n] w fun e w' => e = .returned (.bool false) ∧ w' = w := by
  have h1 : decide (5 ≤ n) = false := by simp; omega
  go_enter Tryz.func138, Tryz.ntmps138
  go_wp2
  go_ret
  exact ⟨rfl, rfl⟩

theorem mul_form (a b : Nat) (ha : a < 10) (hb : b < 10) : ((mulN a b : Nat) : Int) =
    if (a : Int) < 5 then (if (b : Int) < 5 then ((a : Int) + b) % 5 else 5 + ((a : Int) + b) % 5)
    else (if (b : Int) < 5 then 5 + ((a : Int) - (b : Int)) % 5 else ((a : Int) % 5 - (b : Int) % 5 + 5) % 5) := by
  unfold mulN
  split <;> split <;> (first | omega | (rw [if_pos (by omega), if_pos (by omega)]; omega) | (rw [if_pos (by omega), if_neg (by omega)]; omega) | (rw [if_neg (by omega), if_pos (by omega)]; omega) | (rw [if_neg (by omega), if_neg (by omega)]; omega))

set_option maxHeartbeats 400000 in
theorem then_ll (x y : Int) (w : World) (x0 : 0 ≤ x) (x1 : x < 5) (y0 : 0 ≤ y) (y1 : y < 5) :
    Calls Tryz.prog 137 #[.int .i64 x, .int .i64 y] w fun e w' => e = .returned (.int .i64 ((x + y) % 5)) ∧ w' = w := by
  go_enter Tryz.func137, Tryz.ntmps137
  go_wp2
  go_ret
  exact ⟨rfl, rfl⟩
set_option maxHeartbeats 400000 in
theorem then_lh (x y : Int) (w : World) (x0 : 0 ≤ x) (x1 : x < 5) (y0 : 5 ≤ y) (y1 : y < 10) :
    Calls Tryz.prog 137 #[.int .i64 x, .int .i64 y] w fun e w' => e = .returned (.int .i64 (5 + (x + y) % 5)) ∧ w' = w := by
  go_enter Tryz.func137, Tryz.ntmps137
  go_wp2
  go_ret
  exact ⟨rfl, rfl⟩
set_option maxHeartbeats 400000 in
theorem then_hl (x y : Int) (w : World) (x0 : 5 ≤ x) (x1 : x < 10) (y0 : 0 ≤ y) (y1 : y < 5) :
    Calls Tryz.prog 137 #[.int .i64 x, .int .i64 y] w fun e w' => e = .returned (.int .i64 (5 + (x - y) % 5)) ∧ w' = w := by
  have hd : decide (5 ≤ y) = false := by simp; omega
  go_enter Tryz.func137, Tryz.ntmps137
  go_wp2
  go_ret
  exact ⟨rfl, rfl⟩
set_option maxHeartbeats 400000 in
theorem then_hh (x y : Int) (w : World) (x0 : 5 ≤ x) (x1 : x < 10) (y0 : 5 ≤ y) (y1 : y < 10) :
    Calls Tryz.prog 137 #[.int .i64 x, .int .i64 y] w fun e w' => e = .returned (.int .i64 ((x % 5 - y % 5 + 5) % 5)) ∧ w' = w := by
  go_enter Tryz.func137, Tryz.ntmps137
  go_wp2
  go_ret
  exact ⟨rfl, rfl⟩

theorem then_any (a b : Nat) (w : World) (ha : a < 10) (hb : b < 10) :
    Calls Tryz.prog 137 #[.int .i64 (a : Int), .int .i64 (b : Int)] w fun e w' => e = .returned (.int .i64 ((mulN a b : Nat) : Int)) ∧ w' = w := by
  rw [mul_form a b ha hb]
  by_cases h1 : (a : Int) < 5
  · by_cases h2 : (b : Int) < 5
    · rw [if_pos h1, if_pos h2]; exact then_ll _ _ w (by omega) h1 (by omega) h2
    · rw [if_pos h1, if_neg h2]; exact then_lh _ _ w (by omega) h1 (by omega) (by omega)
  · by_cases h2 : (b : Int) < 5
    · rw [if_neg h1, if_pos h2]; exact then_hl _ _ w (by omega) (by omega) (by omega) h2
    · rw [if_neg h1, if_neg h2]; exact then_hh _ _ w (by omega) (by omega) (by omega) (by omega)

theorem undo_any (a : Nat) (w : World) (ha : a < 10) :
    Calls Tryz.prog 99 #[.int .i64 (a : Int)] w fun e w' => e = .returned (.int .i64 ((invN a : Nat) : Int)) ∧ w' = w := by
  by_cases h : a < 5
  · have e : ((invN a : Nat) : Int) = (5 - (a : Int)) % 5 := by unfold invN; rw [if_pos h]; omega
    rw [e]
    have x0 : (0 : Int) ≤ a := by omega
    have x1 : (a : Int) < 5 := by omega
    clear e h ha
    generalize (a : Int) = x at *
    go_enter Tryz.func99, Tryz.ntmps99
    go_wp2
    go_ret
    exact ⟨rfl, rfl⟩
  · have e : ((invN a : Nat) : Int) = (a : Int) := by unfold invN; rw [if_neg h]
    rw [e]
    have x1 : 5 ≤ (a : Int) := by omega
    clear e h ha
    generalize (a : Int) = x at *
    go_enter Tryz.func99, Tryz.ntmps99
    go_wp2
    go_ret
    exact ⟨rfl, rfl⟩

end Go.Proofs.YtlicdeppfhmfjaaGreatDoor.check

/- Where a digit comes to, and the motions of a text. -/
namespace Go.Proofs.YtlicdeppfhmfjaaGreatDoor.check
open Go.RowKit

/-- The table of the moves, in memory. -/
def MTab (w : World) : Prop := ∀ d, d < 10 → w.cell? ⟨8, d, none⟩ = some (.int .i64 ((mv1 d : Nat) : Int))
theorem MTab.below {w w' : World} (h : MTab w) (hb : Below w.heap.size w w') : MTab w' := fun d hd => by
  have h1 := h d hd
  rw [hb.cell (World.block_lt_of_cell? w _ h1)]; exact h1
theorem mtab_of {w : World} {name : String} (hg : Tryz.prog.globalNamed name = some 8) (h : Lib.TabIs Tryz.prog w name .i64 [1, 5, 7, 6, 2, 8, 3, 0, 9, 4]) : MTab w := by
  unfold Lib.TabIs World.var? at h
  rw [hg] at h
  simp only [Option.bind_some] at h
  intro d hd
  split at h
  · rename_i cs t fr hc
    have hcs := Option.some.inj h
    simp only [World.cell?, hc]
    rw [hcs]
    have : ∀ d, d < 10 → (List.map (fun z => Value.int .i64 z) [1, 5, 7, 6, 2, 8, 3, 0, 9, 4]).toArray[d]? = some (Value.int .i64 ((mv1 d : Nat) : Int)) := by
      intro d hd
      match d, hd with
      | 0, _ | 1, _ | 2, _ | 3, _ | 4, _ | 5, _ | 6, _ | 7, _ | 8, _ | 9, _ => rfl
    simpa using this d hd
  · cases h

set_option maxHeartbeats 400000 in
theorem moved_any (d place : Nat) (w : World) (hd : d < 10) (hp : place ≤ 1000) (ht : MTab w) :
    Calls Tryz.prog 164 #[.int .i64 (d : Int), .int .i64 (place : Int)] w fun e w' => e = .returned (.int .i64 ((mvN (place % 8) d : Nat) : Int)) ∧ w' = w := by
  have e8 : ((place : Nat) : Int) % 8 = ((place % 8 : Nat) : Int) := by omega
  have hm : place % 8 < 8 := Nat.mod_lt _ (by decide)
  have HT : Hid (MTab w) := ht
  clear ht
  generalize hq : place % 8 = q at *
  clear hq
  go_enter Tryz.func164, Tryz.ntmps164
  go_wp2_with fail
  go_loop [0, 7] (fun v i => ∃ k : Nat, k ≤ q ∧ i = .int .i64 (k : Int) ∧ v = .int .i64 ((mvN k d : Nat) : Int)) (fun _ i => q - (intOf i).toNat)
  case atStart => exact ⟨0, Nat.zero_le _, rfl, rfl⟩
  case round =>
    obtain ⟨k, hk, rfl, rfl⟩ := hrel
    have hx := mvN_lt k d hd
    have HS : Hid (mvN (k + 1) d = mv1 (mvN k d)) := rfl
    by_cases hlt : k < q
    · have hcell := HT.out (mvN k d) hx
      generalize mvN k d = x at *
      generalize mv1 x = y at *
      go_wp2_with fail
      go_round
      case rel => exact ⟨k + 1, by omega, by go_num, by rw [HS.out]⟩
      case measure => simp [intOf]; omega
    · have hkq : k = q := by omega
      rw [hkq]
      generalize hgx : mvN q d = x at *
      have HG : Hid (mvN q d = x) := hgx
      clear hkq hgx
      go_wp2_with fail
      go_ret
      exact ⟨by rw [HG.out]; rfl, rfl⟩

/-- Block g holds the n motions f. -/
def RowM (w : World) (g n : Nat) (f : Nat → Nat) : Prop := w.heap[g]? = some (.cells ((List.range n).map fun i => Value.int .i64 ((f i : Nat) : Int)).toArray 141 (0, 0))
variable {w w' : World} {g n : Nat} {f : Nat → Nat}
theorem RowM.cell (h : RowM w g n f) {i : Nat} (hi : i < n) : w.cell? ⟨g, i, none⟩ = some (.int .i64 ((f i : Nat) : Int)) := by unfold RowM at h; simp [World.cell?, h, hi]
theorem RowM.free (h : RowM w g n f) (i : Nat) : w.frozen? ⟨g, i, none⟩ = false := by unfold RowM at h; simp [World.frozen?, h]
def updM (f : Nat → Nat) (i v : Nat) : Nat → Nat := fun k => if k = i then v else f k
theorem RowM.set (h : RowM w g n f) (i v : Nat) : RowM (w.setCell ⟨g, i, none⟩ (.int .i64 ((v : Nat) : Int))) g n (updM f i v) := by
  unfold RowM at *
  simp only [World.setCell, Array.getElem?_modify, h, if_true, Option.map_some]
  congr 2
  simp only [Option.isSome_none, Bool.false_eq_true, if_false]
  apply Array.ext'
  simp only [Array.toList_setIfInBounds]
  apply List.ext_getElem?
  intro k
  by_cases hk : k < n
  · by_cases e : k = i
    · subst e; simp [updM, hk]
    · rw [List.getElem?_set_ne (by omega)]; simp [updM, hk, e]
  · rw [List.getElem?_eq_none (by simp; omega), List.getElem?_eq_none (by simp; omega)]
theorem rowM_made {w1 : World} {n g base : Nat} (h : w1.ownsRow base 141 1 (.slice (some ⟨g, 0, none⟩) n n) n (madeCells #[Value.int .i64 0] n).toList) : RowM w1 g n (fun _ => 0) := by
  rcases h.2 with ⟨h1, _⟩ | ⟨g', cap, cur, h1, _, h2, _, _, h3, h4⟩
  · cases h1
  · simp only [Value.slice.injEq, Option.some.injEq, Addr.mk.injEq] at h1
    obtain ⟨⟨rfl, -⟩, -, rfl⟩ := h1
    unfold RowM
    rw [h2]
    congr 2
    apply Array.ext'
    have e1 : cur.toList = (madeCells #[Value.int .i64 0] n).toList := by
      rw [← h4, List.take_of_length_le (by simp; omega)]
    rw [e1, toList_madeCells_one]
    apply List.ext_getElem?
    intro k
    by_cases hk : k < n
    · simp [hk]
    · rw [List.getElem?_eq_none (by simp; omega), List.getElem?_eq_none (by simp; omega)]
theorem info_motion : (Tryz.prog.info? 141).map (fun i => (i.zero, i.size, i.bytes)) = some (some (.int .i64 0), 1, 8) := by kernel_rfl

/-- What motions make, one behind the other. -/
def foldM (f : Nat → Nat) : Nat → Nat
  | 0 => 0
  | k + 1 => mulN (foldM f k) (f k)
theorem foldM_lt (f : Nat → Nat) (k : Nat) (h : ∀ j, j < k → f j < 10) : foldM f k < 10 := by
  induction k with
  | zero => exact (by decide : 0 < 10)
  | succ k ih => exact mul_lt _ (ih fun j hj => h j (by omega)) _ (h k (by omega))
theorem foldM_congr {f f' : Nat → Nat} (k : Nat) (h : ∀ j, j < k → f j = f' j) : foldM f k = foldM f' k := by
  induction k with
  | zero => rfl
  | succ k ih => simp only [foldM]; rw [ih fun j hj => h j (by omega), h k (by omega)]
/-- The motion of the digit at a place. -/
def motN (last : Nat) (l : List Nat) (j : Nat) : Nat := mvN ((last + j) % 8) (l.getD j 0)
theorem foldM_fold (last : Nat) (l : List Nat) : foldM (motN last l) l.length = foldN last 0 l := by
  induction l using list_snoc_ind with
  | h0 => rfl
  | h1 l d ih =>
    rw [foldN_append, List.length_append, List.length_singleton, foldM]
    have e1 : foldM (motN last (l ++ [d])) l.length = foldM (motN last l) l.length := foldM_congr _ fun j hj => by
      unfold motN; congr 1; simp [List.getD, List.getElem?_append_left hj]
    rw [e1, ih]
    show mulN _ (motN last (l ++ [d]) l.length) = mulN _ _
    congr 1
    unfold motN; congr 1; simp [List.getD]

set_option maxHeartbeats 400000 in
theorem follow_any (g n : Nat) (f : Nat → Nat) (w : World) (hr : RowM w g n f) (hf : ∀ j, j < n → f j < 10) (hn : n ≤ 200) :
    Calls Tryz.prog 135 #[.slice (some ⟨g, 0, none⟩) n n, .func (.func 137) #[] #[]] w fun e w' => e = .returned (.int .i64 ((foldM f n : Nat) : Int)) ∧ w' = w := by
  have HR : Hid (RowM w g n f ∧ ∀ j, j < n → f j < 10) := ⟨hr, hf⟩
  clear hr hf
  go_enter Tryz.func135, Tryz.ntmps135
  go_wp2_with fail
  go_loop [5, 10] (fun v i => ∃ k : Nat, k ≤ n ∧ i = .int .i64 (k : Int) ∧ v = .int .i64 ((foldM f k : Nat) : Int)) (fun _ i => n - (intOf i).toNat)
  case atStart => exact ⟨0, Nat.zero_le _, rfl, rfl⟩
  case round =>
    obtain ⟨k, hk, rfl, rfl⟩ := hrel
    have hx := foldM_lt f k fun j hj => HR.out.2 j (by omega)
    have HS : Hid (foldM f (k + 1) = mulN (foldM f k) (f k)) := rfl
    by_cases hlt : k < n
    · have hcell := HR.out.1.cell hlt
      have hy := HR.out.2 k hlt
      have HC := then_any (foldM f k) (f k) w hx hy
      generalize foldM f k = x at *
      generalize f k = y at *
      generalize mulN x y = z at *
      go_wp2_with fail
      refine HC.mono ?_
      rintro e w1 ⟨rfl, rfl⟩
      go_wp2_with fail
      go_round
      case rel => exact ⟨k + 1, by omega, by go_num, by rw [HS.out]⟩
      case measure => simp [intOf]; omega
    · have hkq : k = n := by omega
      rw [hkq]
      generalize hgx : foldM f n = x at *
      have HG : Hid (foldM f n = x) := hgx
      clear hkq hgx
      go_wp2_with fail
      go_ret
      exact ⟨by rw [HG.out]; rfl, rfl⟩

end Go.Proofs.YtlicdeppfhmfjaaGreatDoor.check

/- The motions of a text, and its sum. -/
namespace Go.Proofs.YtlicdeppfhmfjaaGreatDoor.check
open Go.RowKit

theorem below_set {B : Nat} {w w' : World} (h : Below B w w') (G i : Nat) (u : Value) (hG : B ≤ G) : Below B w (w'.setCell ⟨G, i, none⟩ u) := by
  refine ⟨h.os, h.tape, h.output, by simp [World.setCell]; exact h.size, fun k hk => ?_⟩
  rw [← h.block k hk]
  simp only [World.setCell, Array.getElem?_modify]
  rw [if_neg (by omega)]
theorem it_set {w : World} {I G : Nat} {o : Obj} (h : w.heap[I]? = some o) (i : Nat) (u : Value) (hne : G ≠ I) : (w.setCell ⟨G, i, none⟩ u).heap[I]? = some o := by
  simp only [World.setCell, Array.getElem?_modify]; rw [if_neg hne]; exact h
theorem iterPos_of {w : World} {I p : Nat} {s : ByteArray} (h : w.heap[I]? = some (.stringIter s p)) : w.iterPos I = p := by simp [World.iterPos, h]
theorem RowM.iter {w : World} {g n I : Nat} {f : Nat → Nat} {s : ByteArray} {k : Nat} (h : RowM w g n f) (hne : g ≠ I) : RowM (w.iterAt I s k) g n f := by
  unfold RowM at *
  rw [Lib.iterAt_other _ _ _ _ _ hne]; exact h
theorem RowM.alloc {w : World} {g n : Nat} {f : Nat → Nat} (h : RowM w g n f) (o : Obj) : RowM (w.alloc o) g n f := by
  unfold RowM at *
  have hlt : g < w.heap.size := by
    by_cases hh : g < w.heap.size
    · exact hh
    · rw [Array.getElem?_eq_none (by omega)] at h; cases h
  show (w.heap.push o)[g]? = _
  rw [Array.getElem?_push, if_neg (by omega)]; exact h

theorem rev_getD (s : ByteArray) (k j : Nat) (h : k < s.size) (hj : j + 1 + k = s.size) : (digs s.data.toList).reverse.getD j 0 = s[k].toNat - 48 := by
  have hl : (digs s.data.toList).length = s.size := by rw [digs_len, len_eq]
  rw [List.getD, List.getElem?_reverse (by omega), hl, show s.size - 1 - j = k by omega]
  simp only [digs, List.getElem?_map]
  rw [List.getElem?_eq_getElem (by simpa using h)]
  rfl

/-- What holds of the world while motions are laid: k digits are. -/
structure Lay (w wr : World) (s : ByteArray) (last I k : Nat) (f : Nat → Nat) : Prop where
  below : Below w.heap.size w wr
  row : RowM wr w.heap.size s.size f
  it : wr.heap[I]? = some (.stringIter s k)
  done : ∀ j, j < s.size → s.size ≤ j + k → f j = motN last (digs s.data.toList).reverse j

/-- The motions were given back, in a new row. -/
def MotPost (w : World) (s : ByteArray) (last : Nat) (e : Ending) (w' : World) : Prop :=
  ∃ f, e = .returned (.slice (some ⟨w.heap.size, 0, none⟩) s.size s.size) ∧ RowM w' w.heap.size s.size f ∧ (∀ j, j < s.size → f j = motN last (digs s.data.toList).reverse j) ∧ Below w.heap.size w w'

set_option maxHeartbeats 2000000 in
theorem motions_any (s : ByteArray) (last : Nat) (w : World) (h1 : 1 ≤ s.size) (h2 : s.size ≤ 200) (hd : allD s.data.toList = true) (hlast : last ≤ 1) (ht : MTab w) :
    Calls Tryz.prog 136 #[.string s, .int .i64 (last : Int)] w fun e w' => MotPost w s last e w' := by
  obtain ⟨i0, hi, hz0, hz1, hz2⟩ := info_parts info_motion
  have HD : Hid (allD s.data.toList = true) := hd
  have HT : Hid (MTab w) := ht
  clear hd ht
  go_enter Tryz.func136, Tryz.ntmps136
  go_wp2_with (first
    | (at_make; refine wpList_make_full _ rfl _ _ 178 rfl w.heap.size 141 i0 (.int .i64 0) 1 Tryz.underlying178 hi hz0 hz1 _ _ _ _ s.size rfl rfl ?c0 ?c1 ?c2 ?c3 ?c4 ?_))
  try (case c0 => first | rfl | (congr 1; omega))
  try (case c1 => first | rfl | (congr 1; omega))
  case c2 => first | omega | (rw [hz2]; omega)
  case c3 => unfold maxLen; omega
  try (case c4 => simp)
  intro w1 hown hgr
  have HR1 : Hid (RowM w1 w.heap.size s.size (fun _ => 0)) := rowM_made hown
  have HB1 : Hid (Below w.heap.size w w1) := (Below.refl _ _).grown hgr (Nat.le_refl _) (fun k hk => by cases hk)
  clear hown hgr hi hz0 hz1 hz2
  have hw1 : w.heap.size < w1.heap.size := by
    have h := HR1.out
    unfold RowM at h
    by_cases hh : w.heap.size < w1.heap.size
    · exact hh
    · rw [Array.getElem?_eq_none (by omega)] at h; cases h
  have HL0 : Hid (Lay w (w1.iter s 0) s last w1.heap.size 0 (fun _ => 0)) := ⟨HB1.out.alloc HB1.out.size _, HR1.out.alloc _, World.iter_heap w1 s 0, fun j h1 h2 => by omega⟩
  generalize hI : w1.heap.size = I at *
  have HI : Hid (w1.heap.size = I) := hI
  clear hI HR1 HB1
  go_wp2_with fail
  rw [HI.out]
  go_loopw [] (fun wr => ∃ (k : Nat) (f : Nat → Nat), k ≤ s.size ∧ Lay w wr s last I k f) (fun wr => s.size - wr.iterPos I)
  case atStart => exact ⟨0, _, Nat.zero_le _, HL0.out⟩
  case round =>
    obtain ⟨k, f, hk, hl⟩ := hrel
    have HP0 : Hid (wr.iterPos I = k) := iterPos_of hl.it
    by_cases hp : k < s.size
    · obtain ⟨hk1, hk2, hk3⟩ := take_parts s k hp HD.out
      have hcb := isD_bd hk2
      have ha : (s[k]'hp).toNat < 128 := by omega
      have hnx : ∀ ty, (Instr.next (.pointer (some ⟨I, 0, none⟩)) true ty).run Tryz.prog wr = _ := fun ty => Lib.run_next_ascii_at wr I s k ty hl.it hp ha
      obtain ⟨j, hj⟩ : ∃ j, j + 1 + k = s.size := ⟨s.size - 1 - k, by omega⟩
      have BN := Lib.below_iterAt hl.below (k := I) (by omega) s (k + 1)
      have IT := Lib.iterAt_heap wr I s k (k + 1) hl.it
      have RN := hl.row.iter (I := I) (s := s) (k := k + 1) (by omega)
      have HM : Hid (motN last (digs s.data.toList).reverse j = mvN ((last + j) % 8) (s[k].toNat - 48)) := by
        show _ = _
        unfold motN; rw [rev_getD s k j hp hj]
      have HDN : Hid (∀ i, i < s.size → s.size ≤ i + k → f i = motN last (digs s.data.toList).reverse i) := hl.done
      clear hk1 hk2 hk3 ha hl
      generalize hwn : wr.iterAt I s (k + 1) = wn at *
      clear hwn
      have r0 := RN.cell (i := j) (by omega)
      have f0 := RN.free j
      have hcz : ((s[k].toNat - 48 : Nat) : Int) = ((s[k].toNat : Nat) : Int) - 48 := by omega
      have HMV := moved_any (s[k].toNat - 48) (last + j) wn (by omega) (by omega) (HT.out.below BN)
      rw [hcz, Int.natCast_add] at HMV
      have HMV' : Hid (Calls Tryz.prog 164 #[.int .i64 (((s[k].toNat : Nat) : Int) - 48), .int .i64 ((last : Int) + (j : Int))] wn fun e w' => e = .returned (.int .i64 ((mvN ((last + j) % 8) (s[k].toNat - 48) : Nat) : Int)) ∧ w' = wn) := HMV
      have HLN : Hid (Lay w (wn.setCell ⟨w.heap.size, j, none⟩ (.int .i64 ((mvN ((last + j) % 8) (s[k].toNat - 48) : Nat) : Int))) s last I (k + 1) (updM f j (mvN ((last + j) % 8) (s[k].toNat - 48)))) := by
        refine ⟨below_set BN _ _ _ (Nat.le_refl _), RN.set _ _, it_set IT _ _ (by omega), fun i h1 h2 => ?_⟩
        unfold updM
        by_cases e : i = j
        · rw [if_pos e, e, HM.out]
        · rw [if_neg e]; exact HDN.out i h1 (by omega)
      clear BN IT RN HM HDN HMV hcz
      have ej : ((s.size : Int) - 1 - (k : Int)) = (j : Int) := by omega
      generalize ((mvN ((last + j) % 8) (s[k].toNat - 48) : Nat) : Int) = mv at *
      generalize ((f j : Nat) : Int) = old at *
      generalize updM f j (mvN ((last + j) % 8) (s[k].toNat - 48)) = f' at *
      generalize s[k] = c at *
      generalize hcc : ((c.toNat : Nat) : Int) = z at *
      clear hcc
      obtain ⟨z1, z2⟩ := hcb
      have hjs : (j : Int) < (s.size : Int) := by omega
      clear hj
      go_wp2_with fail
      refine (value_any _ _ z1 z2).mono ?_
      rintro e w' ⟨rfl, rfl⟩
      go_wp2_with fail
      refine HMV'.out.mono ?_
      rintro e w' ⟨rfl, rfl⟩
      go_wp2_with fail
      go_roundw
      case rel => exact ⟨k + 1, f', by omega, HLN.out⟩
      case measure =>
        rw [HP0.out, iterPos_of HLN.out.it]
        omega
    · have hnx : ∀ ty, (Instr.next (.pointer (some ⟨I, 0, none⟩)) true ty).run Tryz.prog wr = _ := fun ty => Lib.run_next_end_at wr I s k ty hl.it hp
      have HP : Hid (MotPost w s last (.returned (.slice (some ⟨w.heap.size, 0, none⟩) s.size s.size)) wr) := ⟨f, rfl, hl.row, fun j hj => hl.done j hj (by omega), hl.below⟩
      clear hl
      go_wp2_with fail
      go_ret
      exact HP.out

theorem motN_lt {last : Nat} {l : List Nat} (h : AllD l) {j : Nat} (hj : j < l.length) : motN last l j < 10 := by
  unfold motN
  exact mvN_lt _ _ (h _ (by simp [List.getD, List.getElem?_eq_getElem hj]))
set_option maxHeartbeats 400000 in
theorem sum_any (s : ByteArray) (last : Nat) (w : World) (h1 : 1 ≤ s.size) (h2 : s.size ≤ 200) (hd : allD s.data.toList = true) (hlast : last ≤ 1) (ht : MTab w) :
    Calls Tryz.prog 98 #[.string s, .int .i64 (last : Int)] w fun e w' => e = .returned (.int .i64 ((foldN last 0 (digs s.data.toList).reverse : Nat) : Int)) ∧ Below w.heap.size w w' := by
  have HM : Hid (Calls Tryz.prog 136 #[.string s, .int .i64 (last : Int)] w fun e w' => MotPost w s last e w') := motions_any s last w h1 h2 hd hlast ht
  have hL : (digs s.data.toList).reverse.length = s.size := by rw [List.length_reverse, digs_len, len_eq]
  have HK : Hid (∀ f, (∀ j, j < s.size → f j = motN last (digs s.data.toList).reverse j) → (∀ j, j < s.size → f j < 10) ∧ foldM f s.size = foldN last 0 (digs s.data.toList).reverse) := fun f hf => by
    refine ⟨fun j hj => by rw [hf j hj]; exact motN_lt (digs_ok hd).rev (by omega), ?_⟩
    rw [← foldM_fold, hL]
    exact foldM_congr _ hf
  clear hd ht hL
  go_enter Tryz.func98, Tryz.ntmps98
  go_wp2_with fail
  refine HM.out.mono ?_
  rintro e w1 ⟨f, rfl, hrow, hf, hb⟩
  obtain ⟨k1, k2⟩ := HK.out f hf
  have HF := follow_any w.heap.size s.size f w1 hrow k1 h2
  rw [k2] at HF
  have HFF : Hid (Calls Tryz.prog 135 #[.slice (some ⟨w.heap.size, 0, none⟩) s.size s.size, .func (.func 137) #[] #[]] w1 fun e w' => e = .returned (.int .i64 ((foldN last 0 (digs s.data.toList).reverse : Nat) : Int)) ∧ w' = w1) := HF
  have HB : Hid (Below w.heap.size w w1) := hb
  clear HF hrow hf hb k1 k2 HK HM
  go_wp2_with fail
  refine HFF.out.mono ?_
  rintro e w2 ⟨rfl, rfl⟩
  go_wp2_with fail
  go_ret
  exact ⟨rfl, HB.out⟩

end Go.Proofs.YtlicdeppfhmfjaaGreatDoor.check

/- What check.Digit and check.Good give back. -/
namespace Go.Proofs.YtlicdeppfhmfjaaGreatDoor.check
open Go.RowKit

set_option maxHeartbeats 400000 in
theorem digit_any (s : ByteArray) (w : World) (ht : MTab w) :
    Calls Tryz.prog 61 #[.string s] w fun e w' => e = .returned (.tuple #[.int .i64 (digitR s.data.toList), .int .i64 (flawR s.data.toList)]) ∧ Below w.heap.size w w' := by
  have HF := flaw_any s w
  by_cases h0 : flawR s.data.toList = 0
  · have e : digitR s.data.toList = ((invN (sumR s.data.toList 1) : Nat) : Int) := by unfold digitR; rw [if_pos h0]
    rw [e, h0]
    rw [h0] at HF
    obtain ⟨⟨l1, l2⟩, hd⟩ := flawR_zero h0
    rw [len_eq] at l1 l2
    have HU : Hid (∀ w, Calls Tryz.prog 99 #[.int .i64 ((sumR s.data.toList 1 : Nat) : Int)] w fun e w' => e = .returned (.int .i64 ((invN (sumR s.data.toList 1) : Nat) : Int)) ∧ w' = w) := fun w => undo_any _ w (sumR_lt hd 1)
    have HS : Hid (∀ w', Below w.heap.size w w' → Calls Tryz.prog 98 #[.string s, .int .i64 1] w' fun e w'' => e = .returned (.int .i64 ((sumR s.data.toList 1 : Nat) : Int)) ∧ Below w'.heap.size w' w'') := fun w' hb => sum_any s 1 w' l1 l2 hd (by omega) (ht.below hb)
    clear e h0 hd ht
    generalize ((invN (sumR s.data.toList 1) : Nat) : Int) = y at *
    generalize ((sumR s.data.toList 1 : Nat) : Int) = x at *
    go_enter Tryz.func61, Tryz.ntmps61
    go_wp2_with fail
    refine HF.mono ?_
    rintro e w1 ⟨rfl, hb⟩
    have HB : Hid (Below w.heap.size w w1) := hb
    clear hb HF
    go_wp2_with fail
    refine (HS.out _ HB.out).mono ?_
    rintro e w2 ⟨rfl, hb2⟩
    have HB2 : Hid (Below w.heap.size w w2) := HB.out.trans (hb2.mono HB.out.size)
    clear hb2
    go_wp2_with fail
    refine (HU.out _).mono ?_
    rintro e w3 ⟨rfl, rfl⟩
    go_wp2_with fail
    go_ret2
    exact ⟨rfl, HB2.out⟩
  · have e : digitR s.data.toList = 0 := by unfold digitR; rw [if_neg h0]
    rw [e]
    have hne : (flawR s.data.toList != 0) = true := by simpa using h0
    clear e h0 ht
    generalize flawR s.data.toList = f at *
    go_enter Tryz.func61, Tryz.ntmps61
    go_wp2_with fail
    refine HF.mono ?_
    rintro e w1 ⟨rfl, hb⟩
    clear HF
    go_wp2_with fail
    go_ret2
    exact ⟨rfl, hb⟩

set_option maxHeartbeats 400000 in
theorem good_any (s : ByteArray) (w : World) (ht : MTab w) :
    Calls Tryz.prog 82 #[.string s] w fun e w' => e = .returned (.bool (goodR s.data.toList)) ∧ Below w.heap.size w w' := by
  have HF := flaw_any s w
  by_cases h2 : 2 ≤ s.size
  · have h2' : (2 : Int) ≤ (s.size : Int) := by omega
    by_cases h0 : flawR s.data.toList = 0
    · have e : goodR s.data.toList = (sumR s.data.toList 0 == 0) := by unfold goodR; rw [len_eq, h0]; simp [h2]
      rw [e]
      rw [h0] at HF
      obtain ⟨⟨l1, l2⟩, hd⟩ := flawR_zero h0
      rw [len_eq] at l1 l2
      have HS : Hid (∀ w', Below w.heap.size w w' → Calls Tryz.prog 98 #[.string s, .int .i64 0] w' fun e w'' => e = .returned (.int .i64 ((sumR s.data.toList 0 : Nat) : Int)) ∧ Below w'.heap.size w' w'') := fun w' hb => sum_any s 0 w' l1 l2 hd (by omega) (ht.below hb)
      have e2 : (sumR s.data.toList 0 == 0) = (((sumR s.data.toList 0 : Nat) : Int) == 0) := by
        by_cases h : sumR s.data.toList 0 = 0
        · rw [h]; rfl
        · rw [beq_eq_false_iff_ne.2 h, beq_eq_false_iff_ne.2 (by omega)]
      rw [e2]
      clear e h0 hd ht e2
      generalize ((sumR s.data.toList 0 : Nat) : Int) = x at *
      go_enter Tryz.func82, Tryz.ntmps82
      go_wp2_with fail
      refine HF.mono ?_
      rintro e w1 ⟨rfl, hb⟩
      have HB : Hid (Below w.heap.size w w1) := hb
      clear hb HF
      go_wp2_with fail
      refine (HS.out _ HB.out).mono ?_
      rintro e w2 ⟨rfl, hb2⟩
      have HB2 : Hid (Below w.heap.size w w2) := HB.out.trans (hb2.mono HB.out.size)
      clear hb2
      go_wp2_with fail
      go_ret
      exact ⟨rfl, HB2.out⟩
    · have e : goodR s.data.toList = false := by unfold goodR; rw [beq_eq_false_iff_ne.2 h0]; simp
      rw [e]
      have hne : (flawR s.data.toList == 0) = false := by simpa using h0
      clear e h0 ht
      generalize flawR s.data.toList = f at *
      go_enter Tryz.func82, Tryz.ntmps82
      go_wp2_with fail
      refine HF.mono ?_
      rintro e w1 ⟨rfl, hb⟩
      clear HF
      go_wp2_with fail
      go_ret
      exact ⟨rfl, hb⟩
  · have e : goodR s.data.toList = false := by unfold goodR; rw [len_eq]; simp [h2]
    rw [e]
    have h2' : decide ((2 : Int) ≤ (s.size : Int)) = false := by simp; omega
    clear e HF ht
    go_enter Tryz.func82, Tryz.ntmps82
    go_wp2_with fail
    go_ret
    exact ⟨rfl, Below.refl _ _⟩

end Go.Proofs.YtlicdeppfhmfjaaGreatDoor.check

/- receipt.Meter: what is asked of it. -/
namespace Go.Proofs.YtlicdeppfhmfjaaGreatDoor.rcp
open Go.RowKit

def KrMeter (w0 : World) : Prop := ∀ (W : World) (s : ByteArray), Below w0.heap.size w0 W →  Calls Tryz.prog 45 #[.string s] W fun e w' => MeterPost W s.data.toList e w'

end Go.Proofs.YtlicdeppfhmfjaaGreatDoor.rcp

/- Is there nothing but digits, in the program. -/
namespace Go.Proofs.YtlicdeppfhmfjaaGreatDoor.rca
open Go.Proofs.YtlicdeppfhmfjaaGreatDoor.cents
open Go.RowKit
theorem ret_bool {a b : Bool} (h : a = b) : Ending.returned (.bool a) = .returned (.bool b) := by rw [h]
theorem iter_below (w : World) (s : ByteArray) (k : Nat) : Below w.heap.size w (w.iter s k) := (Below.refl _ _).alloc (Nat.le_refl _) _

set_option maxHeartbeats 400000 in
theorem allDigits_any (s : ByteArray) (w : World) :
    Calls Tryz.prog 81 #[.string s] w fun e w' => e = .returned (.bool (allD s.data.toList)) ∧ Below w.heap.size w w' := by
  go_enter Tryz.func81, Tryz.ntmps81
  go_wp2
  go_loopw [] (fun wr => ∃ k : Nat, k ≤ s.size ∧ wr = w.iter s k ∧ allD (s.data.toList.take k) = true) (fun wr => s.size - wr.iterPos w.heap.size)
  case atStart => exact ⟨0, Nat.zero_le _, rfl, rfl⟩
  case round =>
    obtain ⟨k, hk, rfl, hok⟩ := hrel
    have HK : Hid (allD (s.data.toList.take k) = true) := hok
    clear hok
    by_cases hp : k < s.size
    · by_cases ha : (s[k]'hp).toNat < 128
      · have hnx : ∀ ty, (Instr.next (.pointer (some ⟨w.heap.size, 0, none⟩)) true ty).run Tryz.prog (w.iter s k) = _ := fun ty => run_next_ascii w s k ty hp ha
        have HT : Hid (s.data.toList.take (k + 1) = s.data.toList.take k ++ [s[k]]) := take_snoc s k hp
        have HN : Hid (isD s[k] = false → allD s.data.toList = false) := allD_take_no s k hp
        have HY : Hid (48 ≤ ((s[k].toNat : Nat) : Int) → ((s[k].toNat : Nat) : Int) ≤ 57 → isD s[k] = true) := fun a b => isD_yes a b
        have HL : Hid (((s[k].toNat : Nat) : Int) < 48 → isD s[k] = false) := fun a => isD_lo a
        have HH : Hid (57 < ((s[k].toNat : Nat) : Int) → isD s[k] = false) := fun a => isD_hi a
        clear ha
        generalize s[k] = c at *
        generalize hcc : ((c.toNat : Nat) : Int) = z at *
        clear hcc
        by_cases h1 : z < 48
        · go_wp2
          go_ret
          exact ⟨ret_bool (HN.out (HL.out h1)).symm, iter_below _ _ _⟩
        · by_cases h2 : 57 < z
          · go_wp2
            go_ret
            exact ⟨ret_bool (HN.out (HH.out h2)).symm, iter_below _ _ _⟩
          · go_wp2
            go_roundw
            case rel => exact ⟨k + 1, by omega, rfl, by rw [HT.out, allD_append, HK.out]; simp [allD, HY.out (by omega) (by omega)]⟩
            case measure => simp; omega
      · have hd := (decode_high s k hp (by omega)).1
        have hnx : ∀ ty, (Instr.next (.pointer (some ⟨w.heap.size, 0, none⟩)) true ty).run Tryz.prog (w.iter s k) = _ := fun ty => run_next_any w s k ty hp
        have HN : Hid (allD s.data.toList = false) := allD_take_no s k hp (isD_hi (by omega))
        clear ha
        have hd2 := decode_le s k
        generalize (Utf8.decode s k).1 = r at *
        generalize (Utf8.decode s k).2 = n at *
        go_wp2
        go_ret
        exact ⟨ret_bool HN.out.symm, iter_below _ _ _⟩
    · have hnx : ∀ ty, (Instr.next (.pointer (some ⟨w.heap.size, 0, none⟩)) true ty).run Tryz.prog (w.iter s k) = _ := fun ty => run_next_end w s k ty hp
      go_wp2
      go_ret
      refine ⟨ret_bool ?_, iter_below _ _ _⟩
      have := HK.out
      rw [List.take_of_length_le (by simp; omega)] at this
      exact this.symm

end Go.Proofs.YtlicdeppfhmfjaaGreatDoor.rca

/- Lie numbers within their bounds, in the program. -/
namespace Go.Proofs.YtlicdeppfhmfjaaGreatDoor.rci
open Go.RowKit

/-- The slice a, len, cap reads as the numbers zs: its elements alone. -/
def Row (w : World) (a : Option Addr) (len : Nat) (zs : List Int) : Prop :=
  zs.length = len ∧ (len = 0 ∨ ∃ b off, a = some ⟨b, off, none⟩ ∧ ∀ i, i < len → w.cell? ⟨b, off + i, none⟩ = some (.int .i64 (zs.getD i 0)))

def okAll (lo hi : Int) (l : List Int) : Bool := l.all fun n => decide (lo ≤ n) && decide (n ≤ hi)

theorem okAll_step (lo hi : Int) (zs : List Int) (k : Nat) (hk : k < zs.length) (h : okAll lo hi (zs.take k) = true) (h1 : lo ≤ zs.getD k 0) (h2 : zs.getD k 0 ≤ hi) : okAll lo hi (zs.take (k + 1)) = true := by
  unfold okAll at *
  rw [List.take_add_one, List.all_append, h]
  simp only [List.getD, List.getElem?_eq_getElem hk, Option.getD] at h1 h2 ⊢
  simp [h1, h2]

theorem okAll_no (lo hi : Int) (zs : List Int) (k : Nat) (hk : k < zs.length) (h : zs.getD k 0 < lo ∨ hi < zs.getD k 0) : okAll lo hi zs = false := by
  unfold okAll
  rw [List.all_eq_false]
  refine ⟨zs[k], List.getElem_mem hk, ?_⟩
  simp only [List.getD, List.getElem?_eq_getElem hk, Option.getD] at h
  simp; omega

theorem ret_bool {a b : Bool} (h : a = b) : Ending.returned (.bool a) = .returned (.bool b) := by rw [h]

set_option maxHeartbeats 400000 in
theorem within_any (lo hi : Int) (a : Option Addr) (len cap : Nat) (zs : List Int) (w : World) (hr : Row w a len zs) (hl : len ≤ maxLen) :
    Calls Tryz.prog 26 #[.int .i64 lo, .int .i64 hi, .slice a len cap] w fun e w' => e = .returned (.bool (okAll lo hi zs)) ∧ w' = w := by
  unfold maxLen at hl
  obtain ⟨hz, hr⟩ := hr
  go_enter Tryz.func26, Tryz.ntmps26
  go_wp2
  go_loop [11] (fun i => ∃ k : Nat, k ≤ len ∧ i = .int .i64 k ∧ okAll lo hi (zs.take k) = true) (fun i => len - (intOf i).toNat)
  case atStart => exact ⟨0, Nat.zero_le _, rfl, rfl⟩
  case round =>
    obtain ⟨k, hk, rfl, hok⟩ := hrel
    have HK : Hid (okAll lo hi (zs.take k) = true) := hok
    clear hok
    by_cases hlt : k < len
    · rcases hr with h0 | ⟨b, off, rfl, hc⟩
      · omega
      have hcell := hc k hlt
      clear hc
      generalize hzk : zs.getD k 0 = z at hcell
      have HZ : Hid (zs.getD k 0 = z) := hzk
      clear hzk
      by_cases h1 : z < lo
      · go_wp2
        go_ret
        exact ⟨ret_bool (okAll_no lo hi zs k (by omega) (.inl (by rw [HZ.out]; exact h1))).symm, rfl⟩
      · by_cases h2 : hi < z
        · go_wp2
          go_ret
          exact ⟨ret_bool (okAll_no lo hi zs k (by omega) (.inr (by rw [HZ.out]; exact h2))).symm, rfl⟩
        · go_wp2
          go_round
          case rel => exact ⟨k + 1, by omega, by go_num, okAll_step lo hi zs k (by omega) HK.out (by rw [HZ.out]; omega) (by rw [HZ.out]; omega)⟩
          case measure => simp [intOf]; omega
    · go_wp2
      go_ret
      refine ⟨ret_bool ?_, rfl⟩
      have := HK.out
      rw [List.take_of_length_le (by omega)] at this
      exact this.symm

theorem row_one (w : World) (z : Int) (t : TypeId) : Row (w.alloc (.cells #[.int .i64 z] t)) (some ⟨w.heap.size, 0, none⟩) 1 [z] := by
  refine ⟨rfl, .inr ⟨_, _, rfl, fun i hi => ?_⟩⟩
  obtain rfl : i = 0 := by omega
  simp

theorem okAll_yes {lo hi z : Int} (h1 : lo ≤ z) (h2 : z ≤ hi) : okAll lo hi [z] = true := by simp [okAll, h1, h2]
theorem okAll_not {lo hi z : Int} (h : z < lo ∨ hi < z) : okAll lo hi [z] = false := by simp [okAll]; omega

/-- One number alone, laid in a new block: it lies within the bounds. -/
theorem within_one_yes (lo hi z : Int) (w : World) (b : Nat) (hb : b = w.heap.size) (h1 : lo ≤ z) (h2 : z ≤ hi) :
    Calls Tryz.prog 26 #[.int .i64 lo, .int .i64 hi, .slice (some ⟨b, 0, none⟩) 1 1] (w.alloc (.cells #[.int .i64 z] 3)) fun e w' => e = .returned (.bool true) ∧ w' = w.alloc (.cells #[.int .i64 z] 3) := by
  have h := within_any lo hi _ 1 1 [z] _ (row_one w z 3) (by decide)
  rw [okAll_yes h1 h2] at h
  rw [hb]
  exact h

theorem within_one_no (lo hi z : Int) (w : World) (b : Nat) (hb : b = w.heap.size) (h0 : z < lo ∨ hi < z) :
    Calls Tryz.prog 26 #[.int .i64 lo, .int .i64 hi, .slice (some ⟨b, 0, none⟩) 1 1] (w.alloc (.cells #[.int .i64 z] 3)) fun e w' => e = .returned (.bool false) ∧ w' = w.alloc (.cells #[.int .i64 z] 3) := by
  have h := within_any lo hi _ 1 1 [z] _ (row_one w z 3) (by decide)
  rw [okAll_not h0] at h
  rw [hb]
  exact h

theorem bel1 (w : World) (o : Obj) : Below w.heap.size w (w.alloc o) := (Below.refl _ _).alloc (Nat.le_refl _) _
theorem bel2 (w : World) (o o' : Obj) : Below w.heap.size w ((w.alloc o).alloc o') := (bel1 w o).alloc (by simp) _

theorem row_five (w : World) (a b c d e : Int) (t : TypeId) : Row (w.alloc (.cells #[.int .i64 a, .int .i64 b, .int .i64 c, .int .i64 d, .int .i64 e] t)) (some ⟨w.heap.size, 0, none⟩) 5 [a, b, c, d, e] := by
  refine ⟨rfl, .inr ⟨_, _, rfl, fun i hi => ?_⟩⟩
  match i, hi with
  | 0, _ => simp
  | 1, _ => simp
  | 2, _ => simp
  | 3, _ => simp
  | 4, _ => simp
/-- One number alone. -/
theorem within_one (lo hi z : Int) (w : World) (b : Nat) (hb : b = w.heap.size) :
    Calls Tryz.prog 26 #[.int .i64 lo, .int .i64 hi, .slice (some ⟨b, 0, none⟩) 1 1] (w.alloc (.cells #[.int .i64 z] 3)) fun e w' => e = .returned (.bool (decide (lo ≤ z ∧ z ≤ hi))) ∧ w' = w.alloc (.cells #[.int .i64 z] 3) := by
  have h := within_any lo hi _ 1 1 [z] _ (row_one w z 3) (by decide)
  have e : okAll lo hi [z] = decide (lo ≤ z ∧ z ≤ hi) := by simp [okAll]
  rw [e] at h
  rw [hb]
  exact h
theorem isMeter_any (z : Int) (w : World) :
    Calls Tryz.prog 25 #[.int .i64 z] w fun e w' => e = .returned (.bool (decide (0 ≤ z ∧ z ≤ 49))) ∧ Below w.heap.size w w' := by
  have HW : Hid (∀ (w : World) (b : Nat), b = w.heap.size → Calls Tryz.prog 26 #[.int .i64 0, .int .i64 49, .slice (some ⟨b, 0, none⟩) 1 1] (w.alloc (.cells #[.int .i64 z] 3)) fun e w' => e = .returned (.bool (decide (0 ≤ z ∧ z ≤ 49))) ∧ w' = w.alloc (.cells #[.int .i64 z] 3)) := fun w b hb => within_one 0 49 z w b hb
  generalize decide (0 ≤ z ∧ z ≤ 49) = d at *
  go_enter Tryz.func25, Tryz.ntmps25
  go_wp2_with fail
  refine (HW.out _ _ rfl).mono ?_
  rintro e w' ⟨rfl, rfl⟩
  go_wp2_with fail
  go_ret
  exact ⟨rfl, bel1 _ _⟩

end Go.Proofs.YtlicdeppfhmfjaaGreatDoor.rci
