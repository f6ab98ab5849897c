import Derived.Shelf.LaysM
import Derived.Shelf.Strconv.Itoa3
import Derived.Shelf.LaysC
import Derived.Test.YtlicdeppfhmfjabGreatDoorProg
import Derived.Shelf.Strings.Repeat
import Derived.Test.YtlicdeppfhmfjabGreatDoorJReceiptFixed1
import Derived.Test.YtlicdeppfhmfjabGreatDoorShowT
import Derived.Lib.AppendIntMem
import Derived.Test.YtlicdeppfhmfjabGreatDoorKrS
import Derived.Test.YtlicdeppfhmfjabGreatDoorLet
import Derived.WalkKit
import Derived.Deep.DeepCutAuto
import Derived.Test.YtlicdeppfhmfjabGreatDoorKrR
import Derived.Test.YtlicdeppfhmfjabGreatDoorLetG
import Derived.Test.YtlicdeppfhmfjabGreatDoorTkOpen
import Derived.LaidLaws
import Derived.FnData
import Derived.Shelf.Vars

/- Contracts of the library, laid at this dump in plain words: strconv_Itoa, strconv_Itoa_small. -/
namespace Go.Proofs
open Go.Shelf
def Tryz.laysM171_ren : Go.Shelf.Ren := ⟨fun | 171 => 24 | 243 => 48 | 246 => 76 | 283 => 102 | 284 => 103 | 285 => 104 | 286 => 105 | 129 => 116 | 317 => 115 | 318 => 117 | 319 => 118 | 320 => 119 | 337 => 122 | 338 => 123 | n => n, fun | 3 => 3 | 9 => 9 | 2 => 2 | 4 => 4 | 171 => 151 | 0 => 0 | 53 => 107 | 37 => 55 | 5 => 5 | 173 => 154 | 212 => 169 | 51 => 75 | 20 => 20 | 213 => 170 | 46 => 109 | 232 => 175 | 233 => 176 | n => n, fun | 17 => 7 | 18 => 9 | 19 => 10 | n => n⟩
theorem Tryz.laysM171 : Go.Proofs.LaysM.n171 Tryz.prog Tryz.laysM171_ren := {
  mixed := by kernel_rfl
  f129 := Tryz.func116.trans (congrArg some (by kernel_rfl))
  f171 := Tryz.func24.trans (congrArg some (by kernel_rfl))
  f243 := Tryz.func48.trans (congrArg some (by kernel_rfl))
  f246 := Tryz.func76.trans (congrArg some (by kernel_rfl))
  f283 := Tryz.func102.trans (congrArg some (by kernel_rfl))
  f284 := Tryz.func103.trans (congrArg some (by kernel_rfl))
  f285 := Tryz.func104.trans (congrArg some (by kernel_rfl))
  f286 := Tryz.func105.trans (congrArg some (by kernel_rfl))
  f317 := Tryz.func115.trans (congrArg some (by kernel_rfl))
  f318 := Tryz.func117.trans (congrArg some (by kernel_rfl))
  f319 := Tryz.func118.trans (congrArg some (by kernel_rfl))
  f320 := Tryz.func119.trans (congrArg some (by kernel_rfl))
  f337 := Tryz.func122.trans (congrArg some (by kernel_rfl))
  f338 := Tryz.func123.trans (congrArg some (by kernel_rfl))
  t0 := Tryz.underlying0
  a0 := Tryz.isAgg0
  z0 := Tryz.sizeOf0
  v0 := Tryz.zeroValue0
  t2 := Tryz.underlying2
  a2 := Tryz.isAgg2
  z2 := Tryz.sizeOf2
  v2 := Tryz.zeroValue2
  t3 := Tryz.underlying3
  a3 := Tryz.isAgg3
  z3 := Tryz.sizeOf3
  v3 := Tryz.zeroValue3
  t4 := Tryz.underlying4
  a4 := Tryz.isAgg4
  z4 := Tryz.sizeOf4
  v4 := Tryz.zeroValue4
  t5 := Tryz.underlying5
  a5 := Tryz.isAgg5
  z5 := Tryz.sizeOf5
  v5 := Tryz.zeroValue5
  t9 := Tryz.underlying9
  a9 := Tryz.isAgg9
  z9 := Tryz.sizeOf9
  v9 := Tryz.zeroValue9
  t20 := Tryz.underlying20
  a20 := Tryz.isAgg20
  z20 := Tryz.sizeOf20
  v20 := Tryz.zeroValue20
  t37 := Tryz.underlying55
  a37 := Tryz.isAgg55
  z37 := Tryz.sizeOf55
  v37 := Tryz.zeroValue55
  t46 := Tryz.underlying109
  a46 := Tryz.isAgg109
  z46 := Tryz.sizeOf109
  v46 := Tryz.zeroValue109
  t51 := Tryz.underlying75
  a51 := Tryz.isAgg75
  z51 := Tryz.sizeOf75
  v51 := Tryz.zeroValue75
  t53 := Tryz.underlying107
  a53 := Tryz.isAgg107
  z53 := Tryz.sizeOf107
  v53 := Tryz.zeroValue107
  t171 := Tryz.underlying151
  a171 := Tryz.isAgg151
  z171 := Tryz.sizeOf151
  v171 := Tryz.zeroValue151
  t173 := Tryz.underlying154
  a173 := Tryz.isAgg154
  z173 := Tryz.sizeOf154
  v173 := Tryz.zeroValue154
  t212 := Tryz.underlying169
  a212 := Tryz.isAgg169
  z212 := Tryz.sizeOf169
  v212 := Tryz.zeroValue169
  t213 := Tryz.underlying170
  a213 := Tryz.isAgg170
  z213 := Tryz.sizeOf170
  t232 := Tryz.underlying175
  a232 := Tryz.isAgg175
  z232 := Tryz.sizeOf175
  v232 := Tryz.zeroValue175
  t233 := Tryz.underlying176
  a233 := Tryz.isAgg176
  z233 := Tryz.sizeOf176
  v233 := Tryz.zeroValue176
  g17 := by kernel_rfl
  g18 := by kernel_rfl
  g19 := by kernel_rfl
  i0 := by kernel_rfl
  i2 := by kernel_rfl
  i3 := by kernel_rfl
  i4 := by kernel_rfl
  i5 := by kernel_rfl
  i9 := by kernel_rfl
  i20 := by kernel_rfl
  i37 := by kernel_rfl
  i46 := by kernel_rfl
  i51 := by kernel_rfl
  i53 := by kernel_rfl
  i171 := by kernel_rfl
  i173 := by kernel_rfl
  i212 := by kernel_rfl
  i232 := by kernel_rfl
  i233 := by kernel_rfl
  m17 := by kernel_rfl
  m18 := by kernel_rfl
  m19 := by kernel_rfl }
open Go.RowKit Go.Sort Go.Lib in
theorem Tryz.strconv_Itoa (n : Int) (h0 : -9223372036854775808 ≤ n) (h1 : n ≤ 9223372036854775807) (w : World) (htab : Lib.TabIs Tryz.prog w "internal/strconv.uint64pow10" .u64 Lib.pow10Tab) :
    Calls Tryz.prog 24 #[.int .i64 n] w fun e w' => e = .returned (.string ⟨(Lib.itoa n).toArray⟩) ∧ ∃ k os, w' = grow (w.drewN k) os := Any.strconv_Itoa Tryz.laysM171 n h0 h1 w htab
def Tryz.lays171_ren : Go.Shelf.Ren := ⟨fun | 171 => 24 | 243 => 48 | 246 => 76 | 283 => 102 | 284 => 103 | 285 => 104 | 286 => 105 | 129 => 116 | 317 => 115 | 318 => 117 | 319 => 118 | 320 => 119 | 337 => 122 | 338 => 123 | n => n, fun | 3 => 3 | 9 => 9 | 2 => 2 | 4 => 4 | 171 => 151 | 0 => 0 | 53 => 107 | 37 => 55 | 5 => 5 | 173 => 154 | 212 => 169 | 51 => 75 | 20 => 20 | 213 => 170 | 46 => 109 | 232 => 175 | 233 => 176 | n => n, fun | 17 => 7 | 18 => 9 | 19 => 10 | n => n⟩
theorem Tryz.lays171 : Go.Proofs.Lays.n171 Tryz.prog Tryz.lays171_ren := {
  mixed := by kernel_rfl
  f129 := Tryz.func116.trans (congrArg some (by kernel_rfl))
  f171 := Tryz.func24.trans (congrArg some (by kernel_rfl))
  f243 := Tryz.func48.trans (congrArg some (by kernel_rfl))
  f246 := Tryz.func76.trans (congrArg some (by kernel_rfl))
  f283 := Tryz.func102.trans (congrArg some (by kernel_rfl))
  f284 := Tryz.func103.trans (congrArg some (by kernel_rfl))
  f285 := Tryz.func104.trans (congrArg some (by kernel_rfl))
  f286 := Tryz.func105.trans (congrArg some (by kernel_rfl))
  f317 := Tryz.func115.trans (congrArg some (by kernel_rfl))
  f318 := Tryz.func117.trans (congrArg some (by kernel_rfl))
  f319 := Tryz.func118.trans (congrArg some (by kernel_rfl))
  f320 := Tryz.func119.trans (congrArg some (by kernel_rfl))
  f337 := Tryz.func122.trans (congrArg some (by kernel_rfl))
  f338 := Tryz.func123.trans (congrArg some (by kernel_rfl))
  t0 := Tryz.underlying0
  a0 := Tryz.isAgg0
  z0 := Tryz.sizeOf0
  v0 := Tryz.zeroValue0
  t2 := Tryz.underlying2
  a2 := Tryz.isAgg2
  z2 := Tryz.sizeOf2
  v2 := Tryz.zeroValue2
  t3 := Tryz.underlying3
  a3 := Tryz.isAgg3
  z3 := Tryz.sizeOf3
  v3 := Tryz.zeroValue3
  t4 := Tryz.underlying4
  a4 := Tryz.isAgg4
  z4 := Tryz.sizeOf4
  v4 := Tryz.zeroValue4
  t5 := Tryz.underlying5
  a5 := Tryz.isAgg5
  z5 := Tryz.sizeOf5
  v5 := Tryz.zeroValue5
  t9 := Tryz.underlying9
  a9 := Tryz.isAgg9
  z9 := Tryz.sizeOf9
  v9 := Tryz.zeroValue9
  t20 := Tryz.underlying20
  a20 := Tryz.isAgg20
  z20 := Tryz.sizeOf20
  v20 := Tryz.zeroValue20
  t37 := Tryz.underlying55
  a37 := Tryz.isAgg55
  z37 := Tryz.sizeOf55
  v37 := Tryz.zeroValue55
  t46 := Tryz.underlying109
  a46 := Tryz.isAgg109
  z46 := Tryz.sizeOf109
  v46 := Tryz.zeroValue109
  t51 := Tryz.underlying75
  a51 := Tryz.isAgg75
  z51 := Tryz.sizeOf75
  v51 := Tryz.zeroValue75
  t53 := Tryz.underlying107
  a53 := Tryz.isAgg107
  z53 := Tryz.sizeOf107
  v53 := Tryz.zeroValue107
  t171 := Tryz.underlying151
  a171 := Tryz.isAgg151
  z171 := Tryz.sizeOf151
  v171 := Tryz.zeroValue151
  t173 := Tryz.underlying154
  a173 := Tryz.isAgg154
  z173 := Tryz.sizeOf154
  v173 := Tryz.zeroValue154
  t212 := Tryz.underlying169
  a212 := Tryz.isAgg169
  z212 := Tryz.sizeOf169
  v212 := Tryz.zeroValue169
  t213 := Tryz.underlying170
  a213 := Tryz.isAgg170
  z213 := Tryz.sizeOf170
  t232 := Tryz.underlying175
  a232 := Tryz.isAgg175
  z232 := Tryz.sizeOf175
  v232 := Tryz.zeroValue175
  t233 := Tryz.underlying176
  a233 := Tryz.isAgg176
  z233 := Tryz.sizeOf176
  v233 := Tryz.zeroValue176
  g17 := by kernel_rfl
  g18 := by kernel_rfl
  g19 := by kernel_rfl }
open Go.RowKit Go.Sort Go.Lib in
theorem Tryz.strconv_Itoa_small (i : Nat) (hi : i < 100) (w : World) :
    Calls Tryz.prog 24 #[.int .i64 i] w fun e w' => e = .returned (.string ⟨(Lib.decDigits i).toArray⟩) ∧ w' = w := Any.strconv_Itoa_small Tryz.lays171 i hi w
end Go.Proofs

/- Contracts of the library, laid at this dump in plain words: strings_Repeat. -/
namespace Go.Proofs
open Go.Shelf
def Tryz.lays105_ren : Go.Shelf.Ren := ⟨fun | 105 => 46 | 212 => 72 | 99 => 73 | 165 => 61 | 166 => 44 | 170 => 74 | 169 => 26 | 263 => 99 | 264 => 100 | 206 => 79 | 240 => 71 | 241 => 88 | 276 => 98 | 277 => 114 | n => n, fun | 9 => 9 | 3 => 3 | 4 => 4 | 20 => 20 | 0 => 0 | 46 => 109 | 109 => 120 | 5 => 5 | 72 => 57 | 76 => 44 | 51 => 75 | 146 => 146 | 53 => 107 | 148 => 148 | 70 => 54 | 37 => 55 | 75 => 43 | 127 => 89 | 164 => 144 | 80 => 65 | n => n, fun | n => n⟩
theorem Tryz.lays105 : Go.Proofs.Lays.n105 Tryz.prog Tryz.lays105_ren := {
  mixed := by kernel_rfl
  f99 := Tryz.func73.trans (congrArg some (by kernel_rfl))
  f105 := Tryz.func46.trans (congrArg some (by kernel_rfl))
  f165 := Tryz.func61.trans (congrArg some (by kernel_rfl))
  f166 := Tryz.func44.trans (congrArg some (by kernel_rfl))
  f169 := Tryz.func26.trans (congrArg some (by kernel_rfl))
  f170 := Tryz.func74.trans (congrArg some (by kernel_rfl))
  f206 := Tryz.func79.trans (congrArg some (by kernel_rfl))
  f212 := Tryz.func72.trans (congrArg some (by kernel_rfl))
  f240 := Tryz.func71.trans (congrArg some (by kernel_rfl))
  f241 := Tryz.func88.trans (congrArg some (by kernel_rfl))
  f263 := Tryz.func99.trans (congrArg some (by kernel_rfl))
  f264 := Tryz.func100.trans (congrArg some (by kernel_rfl))
  f276 := Tryz.func98.trans (congrArg some (by kernel_rfl))
  f277 := Tryz.func114.trans (congrArg some (by kernel_rfl))
  t0 := Tryz.underlying0
  a0 := Tryz.isAgg0
  z0 := Tryz.sizeOf0
  v0 := Tryz.zeroValue0
  t3 := Tryz.underlying3
  a3 := Tryz.isAgg3
  z3 := Tryz.sizeOf3
  v3 := Tryz.zeroValue3
  t4 := Tryz.underlying4
  a4 := Tryz.isAgg4
  z4 := Tryz.sizeOf4
  v4 := Tryz.zeroValue4
  t5 := Tryz.underlying5
  a5 := Tryz.isAgg5
  z5 := Tryz.sizeOf5
  v5 := Tryz.zeroValue5
  t9 := Tryz.underlying9
  a9 := Tryz.isAgg9
  z9 := Tryz.sizeOf9
  v9 := Tryz.zeroValue9
  t20 := Tryz.underlying20
  a20 := Tryz.isAgg20
  z20 := Tryz.sizeOf20
  v20 := Tryz.zeroValue20
  t37 := Tryz.underlying55
  a37 := Tryz.isAgg55
  z37 := Tryz.sizeOf55
  v37 := Tryz.zeroValue55
  t46 := Tryz.underlying109
  a46 := Tryz.isAgg109
  z46 := Tryz.sizeOf109
  v46 := Tryz.zeroValue109
  t51 := Tryz.underlying75
  a51 := Tryz.isAgg75
  z51 := Tryz.sizeOf75
  v51 := Tryz.zeroValue75
  t53 := Tryz.underlying107
  a53 := Tryz.isAgg107
  z53 := Tryz.sizeOf107
  v53 := Tryz.zeroValue107
  t70 := Tryz.underlying54
  a70 := Tryz.isAgg54
  z70 := Tryz.sizeOf54
  v70 := Tryz.zeroValue54
  t72 := Tryz.underlying57
  a72 := Tryz.isAgg57
  z72 := Tryz.sizeOf57
  v72 := Tryz.zeroValue57
  t75 := Tryz.underlying43
  a75 := Tryz.isAgg43
  z75 := Tryz.sizeOf43
  v75 := Tryz.zeroValue43
  t76 := Tryz.underlying44
  a76 := Tryz.isAgg44
  z76 := Tryz.sizeOf44
  v76 := Tryz.zeroValue44
  t109 := Tryz.underlying120
  a109 := Tryz.isAgg120
  z109 := Tryz.sizeOf120
  v109 := Tryz.zeroValue120
  t127 := Tryz.underlying89
  a127 := Tryz.isAgg89
  z127 := Tryz.sizeOf89
  v127 := Tryz.zeroValue89
  t146 := Tryz.underlying146
  a146 := Tryz.isAgg146
  z146 := Tryz.sizeOf146
  v146 := Tryz.zeroValue146
  t148 := Tryz.underlying148
  a148 := Tryz.isAgg148
  z148 := Tryz.sizeOf148
  v148 := Tryz.zeroValue148
  t164 := Tryz.underlying144
  a164 := Tryz.isAgg144
  z164 := Tryz.sizeOf144
  v164 := Tryz.zeroValue144 }
theorem Tryz.Builder_Extra_105 : Builder.Extra Tryz.prog Tryz.lays105_ren := {
  sizeBuilder := by kernel_rfl
  liesBuilder := by kernel_rfl
  t5 := Tryz.underlying5
  a5 := Tryz.isAgg5
  z5 := Tryz.sizeOf5
  v5 := Tryz.zeroValue5
  infoByte := by kernel_rfl
  cellsByte := by kernel_rfl
  sizeByte := by kernel_rfl
  neB5 := by decide }
open Go.RowKit Go.Lib in
theorem Tryz.strings_Repeat (s : ByteArray) (c : Nat) (w : World) (hc : c ≤ 9223372036854775807) (hlen : s.size * c ≤ 140737488355328) :
    Calls Tryz.prog 46 #[.string s, .int .i64 c] w fun e w' => e = .returned (.string ⟨(Lib.repeatL s.data.toList c).toArray⟩) ∧ Below w.heap.size w w' := Any.strings_Repeat Tryz.lays105 Tryz.Builder_Extra_105 s c w hc hlen
end Go.Proofs

/- A meter's number, in the program. -/
namespace Go.Proofs.YtlicdeppfhmfjabGreatDoor.rcp
open Go.Proofs.YtlicdeppfhmfjabGreatDoor.check (digitR MTab digit_any flawR)
open Go.RowKit
set_option maxRecDepth 100000
set_option linter.unusedVariables false

theorem rep_noughts (k : Nat) : Lib.repeatL [48] k = List.replicate k 48 := by
  induction k with
  | zero => rfl
  | succ k ih => simp [Lib.repeatL, List.replicate_succ] at *; exact ih
theorem dec_len2 : ∀ m : Nat, m < 50 → (Lib.decDigits m).length = (if m < 10 then 1 else 2) := by decide +kernel
theorem digit_bd : ∀ m : Nat, m < 50 → 0 ≤ digitR (pad m 10) ∧ digitR (pad m 10) < 10 := by decide +kernel
theorem itoa_2 (n : Int) (w : World) (h0 : 0 ≤ n) (h1 : n < 100) :
    Calls Tryz.prog 24 #[.int .i64 n] w fun e w' => e = .returned (.string ⟨(Lib.decDigits n.toNat).toArray⟩) ∧ w' = w := by
  obtain ⟨i, rfl⟩ := Int.eq_ofNat_of_zero_le h0
  exact Tryz.strconv_Itoa_small i (by omega) w

set_option maxHeartbeats 1000000 in
theorem number_abs (m d : Nat) (f : Int) (X Y Z PX : ByteArray) (w : World) (hm : m ≤ 49) (hX : X.size = (if m < 10 then 1 else 2)) (hY : Y.size ≤ 10) (hZ : Z.size ≤ 10) (hPX : PX = Y ++ X)
    (hI : ∀ w, Calls Tryz.prog 16 #[.int .i64 (m : Int)] w fun e w' => e = .returned (.bool true) ∧ Below w.heap.size w w')
    (hA : ∀ w, Calls Tryz.prog 24 #[.int .i64 (m : Int)] w fun e w' => e = .returned (.string X) ∧ w' = w)
    (hR : ∀ (w : World) (k : Int), k = ((10 - X.size : Nat) : Int) → Calls Tryz.prog 46 #[.string ⟨#[48]⟩, .int .i64 k] w fun e w' => e = .returned (.string Y) ∧ Below w.heap.size w w')
    (hD : ∀ w', Below w.heap.size w w' → Calls Tryz.prog 47 #[.string PX] w' fun e w'' => e = .returned (.tuple #[.int .i64 (d : Int), .int .i64 f]) ∧ Below w'.heap.size w' w'')
    (hB : ∀ w, Calls Tryz.prog 24 #[.int .i64 (d : Int)] w fun e w' => e = .returned (.string Z) ∧ w' = w) :
    Calls Tryz.prog 23 #[.int .i64 (m : Int)] w fun e w' => e = .returned (.tuple #[.string (PX ++ Z), .int .i64 0]) ∧ Below w.heap.size w w' := by
  have HI : Hid (∀ w, Calls Tryz.prog 16 #[.int .i64 (m : Int)] w fun e w' => e = .returned (.bool true) ∧ Below w.heap.size w w') := hI
  have HA : Hid (∀ w, Calls Tryz.prog 24 #[.int .i64 (m : Int)] w fun e w' => e = .returned (.string X) ∧ w' = w) := hA
  have HR : Hid (∀ (w : World) (k : Int), k = ((10 - X.size : Nat) : Int) → Calls Tryz.prog 46 #[.string ⟨#[48]⟩, .int .i64 k] w fun e w' => e = .returned (.string Y) ∧ Below w.heap.size w w') := hR
  have HD : Hid (∀ w', Below w.heap.size w w' → Calls Tryz.prog 47 #[.string (Y ++ X)] w' fun e w'' => e = .returned (.tuple #[.int .i64 (d : Int), .int .i64 f]) ∧ Below w'.heap.size w' w'') := hPX ▸ hD
  have HB : Hid (∀ w, Calls Tryz.prog 24 #[.int .i64 (d : Int)] w fun e w' => e = .returned (.string Z) ∧ w' = w) := hB
  have hX2 : X.size ≤ 2 := by split at hX <;> omega
  have hw : IntKind.i64.wrap (10 - (X.size : Int)) = 10 - (X.size : Int) := by rw [IntKind.wrap_i64]; omega
  have HK : Hid (10 - (X.size : Int) = ((10 - X.size : Nat) : Int)) := by show _ = _; omega
  have hs1 : ¬ (9223372036854775807 < Y.size + X.size) := by omega
  have hs2 : ¬ (9223372036854775807 < Y.size + X.size + Z.size) := by omega
  subst hPX
  clear hI hA hR hD hB hX hm
  go_enter Tryz.func23, Tryz.ntmps23
  go_wp2_with fail
  refine (HI.out _).mono ?_
  rintro e w1 ⟨rfl, hb⟩
  have HB1 : Hid (Below w.heap.size w w1) := hb
  clear hb HI
  go_wp2_with fail
  refine (HA.out _).mono ?_
  rintro e w1' ⟨rfl, rfl⟩
  clear HA
  go_wp2_with fail
  refine (HR.out _ _ HK.out).mono ?_
  rintro e w2 ⟨rfl, hb⟩
  have HB2 : Hid (Below w.heap.size w w2) := HB1.out.trans (hb.mono HB1.out.size)
  clear hb HR HB1
  go_wp2_with fail
  refine (HD.out _ HB2.out).mono ?_
  rintro e w3 ⟨rfl, hb⟩
  have HB3 : Hid (Below w.heap.size w w3) := HB2.out.trans (hb.mono HB2.out.size)
  clear hb HD HB2
  go_wp2_with fail
  refine (HB.out _).mono ?_
  rintro e w3' ⟨rfl, rfl⟩
  clear HB
  go_wp2_with fail
  go_ret2
  exact ⟨rfl, HB3.out⟩

set_option maxHeartbeats 1000000 in
theorem number_no (m : Int) (w : World) (h : ¬ MMay m) :
    Calls Tryz.prog 23 #[.int .i64 m] w fun e w' => e = .returned (.tuple #[.string ⟨#[]⟩, .int .i64 18]) ∧ Below w.heap.size w w' := by
  have HI := rci.isMeter_any m w
  rw [decide_eq_false (show ¬ (0 ≤ m ∧ m ≤ 49) from h)] at HI
  clear h
  go_enter Tryz.func23, Tryz.ntmps23
  go_wp2_with fail
  refine HI.mono ?_
  rintro e w1 ⟨rfl, hb⟩
  clear HI
  go_wp2_with fail
  go_ret2
  exact ⟨rfl, hb⟩

theorem pnumber_any (m : Int) (w : World) (ht : MTab w) : Calls Tryz.prog 23 #[.int .i64 m] w fun e w' => NumPost w m e w' := by
  by_cases h : MMay m
  · obtain ⟨n, rfl⟩ : ∃ n : Nat, m = (n : Int) := ⟨m.toNat, by have := h.1; omega⟩
    have hn : n ≤ 49 := by have := h.2; omega
    obtain ⟨d0, d1⟩ := digit_bd n (by omega)
    obtain ⟨d, hd⟩ : ∃ d : Nat, digitR (pad n 10) = (d : Int) := ⟨(digitR (pad n 10)).toNat, by omega⟩
    have hl := dec_len2 n (by omega)
    have hxs : (⟨(Lib.decDigits n).toArray⟩ : ByteArray).size = (if n < 10 then 1 else 2) := hl
    have hx2 : (if n < 10 then 1 else 2) ≤ 2 := by split <;> omega
    have hk : 10 - (Lib.decDigits n).length ≤ 10 := by omega
    have hrl : ∀ k, (Lib.repeatL [48] k).length = k := fun k => by rw [rep_noughts, List.length_replicate]
    refine (number_abs n d (flawR (pad n 10)) ⟨(Lib.decDigits n).toArray⟩ ⟨(Lib.repeatL [48] (10 - (Lib.decDigits n).length)).toArray⟩ ⟨(Lib.decDigits d).toArray⟩ ⟨(pad n 10).toArray⟩ w hn hxs
      (by show (Lib.repeatL [48] _).length ≤ 10; rw [hrl]; omega) ?_ ?_ (fun w => ?_) (fun w => itoa_2 (n : Int) w (by omega) (by omega)) (fun w k hk' => ?_) (fun w' hb => ?_) (fun w => itoa_2 (d : Int) w (by omega) (by omega))).mono ?_
    · have : ∀ d, d < 10 → (Lib.decDigits d).length ≤ 10 := by decide +kernel
      exact this d (by omega)
    · apply ByteArray.ext
      show (pad n 10).toArray = _
      rw [rep_noughts]
      simp [pad]
    · have := rci.isMeter_any (n : Int) w
      rw [decide_eq_true (show 0 ≤ (n : Int) ∧ (n : Int) ≤ 49 from h)] at this
      exact this
    · subst hk'
      exact Tryz.strings_Repeat ⟨#[48]⟩ (10 - (Lib.decDigits n).length) w (by omega) (by show 1 * _ ≤ _; omega)
    · have := digit_any ⟨(pad n 10).toArray⟩ w' (ht.below hb)
      simp only at this
      rw [hd] at this
      exact this
    · rintro e w' ⟨rfl, hb⟩
      refine ⟨numL n, 0, ?_, .inl ⟨h, ?_, rfl⟩, hb⟩
      · have e : ((⟨(pad n 10).toArray⟩ : ByteArray) ++ ⟨(Lib.decDigits d).toArray⟩) = ⟨(numL n).toArray⟩ := by
          apply ByteArray.ext
          simp [numL, hd]
        rw [e]
      · simp
  · refine (number_no m w h).mono ?_
    rintro e w' ⟨rfl, hb⟩
    exact ⟨[], 18, rfl, .inr ⟨h, rfl, rfl⟩, hb⟩
theorem knumber {w : World} (ht : MTab w) : KrNumber w := fun W m hb _ => pnumber_any m W (ht.below hb)

end Go.Proofs.YtlicdeppfhmfjabGreatDoor.rcp

/- One number alone, held against its bounds. -/
namespace Go.Proofs.YtlicdeppfhmfjabGreatDoor.cents
open Go.RowKit

theorem row_one (w : World) (z : Int) (t : TypeId) : Row (w.alloc (.cells #[.int .i64 z] t)) (some ⟨w.heap.size, 0, none⟩) 1 [z] := by
  refine ⟨rfl, .inr ⟨_, _, rfl, fun i hi => ?_⟩⟩
  obtain rfl : i = 0 := by omega
  simp

theorem okAll_yes {lo hi z : Int} (h1 : lo ≤ z) (h2 : z ≤ hi) : okAll lo hi [z] = true := by simp [okAll, h1, h2]
theorem okAll_not {lo hi z : Int} (h : z < lo ∨ hi < z) : okAll lo hi [z] = false := by simp [okAll]; omega

/-- One number alone, laid in a new block: it lies within the bounds. -/
theorem within_one_yes (lo hi z : Int) (w : World) (b : Nat) (hb : b = w.heap.size) (h1 : lo ≤ z) (h2 : z ≤ hi) :
    Calls Tryz.prog 43 #[.int .i64 lo, .int .i64 hi, .slice (some ⟨b, 0, none⟩) 1 1] (w.alloc (.cells #[.int .i64 z] 3)) fun e w' => e = .returned (.bool true) ∧ w' = w.alloc (.cells #[.int .i64 z] 3) := by
  have h := within_any lo hi _ 1 1 [z] _ (row_one w z 3) (by decide)
  rw [okAll_yes h1 h2] at h
  rw [hb]
  exact h

theorem within_one_no (lo hi z : Int) (w : World) (b : Nat) (hb : b = w.heap.size) (h0 : z < lo ∨ hi < z) :
    Calls Tryz.prog 43 #[.int .i64 lo, .int .i64 hi, .slice (some ⟨b, 0, none⟩) 1 1] (w.alloc (.cells #[.int .i64 z] 3)) fun e w' => e = .returned (.bool false) ∧ w' = w.alloc (.cells #[.int .i64 z] 3) := by
  have h := within_any lo hi _ 1 1 [z] _ (row_one w z 3) (by decide)
  rw [okAll_not h0] at h
  rw [hb]
  exact h

theorem prod_bd (a b A B : Int) (h1 : 0 ≤ a) (h2 : a ≤ A) (h3 : 0 ≤ b) (h4 : b ≤ B) : 0 ≤ a * b ∧ a * b ≤ A * B :=
  ⟨Int.mul_nonneg h1 h3, Int.mul_le_mul h2 h4 h3 (by omega)⟩

theorem bel1 (w : World) (o : Obj) : Below w.heap.size w (w.alloc o) := (Below.refl _ _).alloc (Nat.le_refl _) _
theorem bel2 (w : World) (o o' : Obj) : Below w.heap.size w ((w.alloc o).alloc o') := (bel1 w o).alloc (by simp) _

end Go.Proofs.YtlicdeppfhmfjabGreatDoor.cents

/- What cents.Show gives back. -/
namespace Go.Proofs.YtlicdeppfhmfjabGreatDoor.cents
open Go.RowKit

abbrev Tab (w : World) : Prop := Lib.TabIs Tryz.prog w "internal/strconv.uint64pow10" .u64 Lib.pow10Tab

theorem tab_below {w w' : World} (h : Tab w) (hb : Below w.heap.size w w') : Tab w' := Lib.tabBelow_of_tabIs h w' hb

theorem itoa_pos {n : Int} (h : 0 ≤ n) : Lib.itoa n = Lib.decDigits n.toNat := by unfold Lib.itoa; rw [if_neg (by omega)]

theorem itoa_big (n : Int) (w : World) (h0 : 0 ≤ n) (h1 : n ≤ 1000000000000) (ht : Tab w) :
    Calls Tryz.prog 24 #[.int .i64 n] w fun e w' => e = .returned (.string ⟨(Lib.decDigits n.toNat).toArray⟩) ∧ Below w.heap.size w w' := by
  refine (Tryz.strconv_Itoa n (by omega) (by omega) w ht).mono ?_
  rintro e w' ⟨rfl, k, os, rfl⟩
  rw [itoa_pos h0]
  exact ⟨rfl, Lib.below_grow _ _ (Nat.le_refl _) _ _⟩

theorem itoa_small (n : Int) (w : World) (h0 : 0 ≤ n) (h1 : n < 100) :
    Calls Tryz.prog 24 #[.int .i64 n] w fun e w' => e = .returned (.string ⟨(Lib.decDigits n.toNat).toArray⟩) ∧ w' = w := by
  obtain ⟨i, rfl⟩ := Int.eq_ofNat_of_zero_le h0
  exact Tryz.strconv_Itoa_small i (by omega) w

set_option maxHeartbeats 400000 in
theorem show_pos (n : Int) (w : World) (h0 : 0 ≤ n) (h1 : n ≤ 1000000000000) (ht : Tab w) :
    Calls Tryz.prog 21 #[.int .i64 n] w fun e w' => e = .returned (.tuple #[.string ⟨(showP n).toArray⟩, .int .i64 0]) ∧ Below w.heap.size w w' := by
  have hl1 := dec_len (n / 100).toNat (by omega)
  have hl2 := dec_len (n / 10 % 10).toNat (by omega)
  have hl3 := dec_len (n % 10).toNat (by omega)
  have hq : -1000000000000 ≤ n := by omega
  have HT : Hid (Tab w) := ht
  clear ht
  go_enter Tryz.func21, Tryz.ntmps21
  go_wp2_with fail
  refine (within_one_yes _ _ _ _ _ rfl hq h1).mono ?_
  rintro e w' ⟨rfl, rfl⟩
  go_wp2_with fail
  refine (itoa_big (n / 100) _ (by omega) (by omega) (Lib.tabIs_alloc HT.out _)).mono ?_
  rintro e w1 ⟨rfl, hb1⟩
  have hb : Below w.heap.size w w1 := (bel1 w _).trans (hb1.mono (by simp))
  clear hb1
  go_wp2_with fail
  refine (itoa_small (n / 10 % 10) _ (by omega) (by omega)).mono ?_
  rintro e w2 ⟨rfl, rfl⟩
  go_wp2_with fail
  refine (itoa_small (n % 10) _ (by omega) (by omega)).mono ?_
  rintro e w3 ⟨rfl, rfl⟩
  go_wp2_with fail
  go_ret2
  refine ⟨ret_str ?_, hb⟩
  apply ByteArray.ext
  simp [showP]

set_option maxHeartbeats 400000 in
theorem show_neg (m : Int) (w : World) (hm : 0 < m) (h1 : m ≤ 1000000000000) (ht : Tab w) :
    Calls Tryz.prog 21 #[.int .i64 (-m)] w fun e w' => e = .returned (.tuple #[.string ⟨(45 :: showP m).toArray⟩, .int .i64 0]) ∧ Below w.heap.size w w' := by
  have hl1 := dec_len (m / 100).toNat (by omega)
  have hl2 := dec_len (m / 10 % 10).toNat (by omega)
  have hl3 := dec_len (m % 10).toNat (by omega)
  have h0 : -1000000000000 ≤ -m := by omega
  have h2 : -m ≤ 1000000000000 := by omega
  have h3 : -m < 0 := by omega
  have HT : Hid (Tab w) := ht
  clear ht
  go_enter Tryz.func21, Tryz.ntmps21
  go_wp2_with fail
  refine (within_one_yes _ _ _ _ _ rfl h0 h2).mono ?_
  rintro e w' ⟨rfl, rfl⟩
  go_wp2_with fail
  refine (itoa_big (m / 100) _ (by omega) (by omega) (Lib.tabIs_alloc HT.out _)).mono ?_
  rintro e w1 ⟨rfl, hb1⟩
  have hb : Below w.heap.size w w1 := (bel1 w _).trans (hb1.mono (by simp))
  clear hb1
  go_wp2_with fail
  refine (itoa_small (m / 10 % 10) _ (by omega) (by omega)).mono ?_
  rintro e w2 ⟨rfl, rfl⟩
  go_wp2_with fail
  refine (itoa_small (m % 10) _ (by omega) (by omega)).mono ?_
  rintro e w3 ⟨rfl, rfl⟩
  go_wp2_with fail
  go_ret2
  refine ⟨ret_str ?_, hb⟩
  apply ByteArray.ext
  simp [showP]

theorem show_any (n : Int) (w : World) (h0 : -1000000000000 ≤ n) (h1 : n ≤ 1000000000000) (ht : Tab w) :
    Calls Tryz.prog 21 #[.int .i64 n] w fun e w' => e = .returned (.tuple #[.string ⟨(showT n).toArray⟩, .int .i64 0]) ∧ Below w.heap.size w w' := by
  by_cases hn : n < 0
  · have hs : showT n = 45 :: showP (-n) := by unfold showT; rw [if_pos hn]
    rw [hs]
    obtain ⟨m, rfl⟩ : ∃ m, n = -m := ⟨-n, by omega⟩
    rw [Int.neg_neg]
    exact show_neg m w (by omega) (by omega) ht
  · have hs : showT n = showP n := by unfold showT; rw [if_neg hn]
    rw [hs]; exact show_pos n w (by omega) h1 ht

set_option maxHeartbeats 400000 in
theorem show_no (n : Int) (w : World) (h : n < -1000000000000 ∨ 1000000000000 < n) :
    Calls Tryz.prog 21 #[.int .i64 n] w fun e w' => e = .returned (.tuple #[.string ⟨#[]⟩, .int .i64 2]) ∧ Below w.heap.size w w' := by
  go_enter Tryz.func21, Tryz.ntmps21
  go_wp2_with fail
  refine (within_one_no _ _ _ _ _ rfl h).mono ?_
  rintro e w' ⟨rfl, rfl⟩
  clear h
  go_wp2_with fail
  go_ret2
  exact ⟨rfl, bel1 _ _⟩

end Go.Proofs.YtlicdeppfhmfjabGreatDoor.cents

/- A receipt is written. -/
namespace Go.Proofs.YtlicdeppfhmfjabGreatDoor.rcp
open Go.Proofs.YtlicdeppfhmfjabGreatDoor.rcb (Sb line_any amount_any text_any)
open Go.RowKit
set_option maxRecDepth 100000
set_option linter.unusedVariables false
set_option linter.unusedSimpArgs false

def EqL (a b : List UInt8) : Prop := a = b
/-- The lines, one behind the other. -/
def lns (l : List (List UInt8 × List UInt8)) : List UInt8 := l.foldl (fun a p => a ++ line p.1 p.2) []
theorem lns_snoc (l : List (List UInt8 × List UInt8)) (p : List UInt8 × List UInt8) : lns (l ++ [p]) = lns l ++ line p.1 p.2 := by unfold lns; rw [List.foldl_append]; rfl
theorem pline_len (n v : List UInt8) : (line n v).length = n.length + v.length + 2 := by unfold line; simp; omega
set_option maxHeartbeats 4000000 in
theorem write_abs (me id te de fe pr ch un : Int) (S X0 X1 X2 X3 X4 X5 X6 X7 X8 : ByteArray) (w : World) (z0 : X0.size ≤ 40) (z1 : X1.size ≤ 40) (z2 : X2.size ≤ 40) (z3 : X3.size ≤ 40) (z4 : X4.size ≤ 40) (z5 : X5.size ≤ 40) (z6 : X6.size ≤ 40) (z7 : X7.size ≤ 40) (z8 : X8.size ≤ 40)
    (h0 : ∀ w', Below w.heap.size w w' → Calls Tryz.prog 23 #[.int .i64 me] w' fun e w'' => e = .returned (.tuple #[.string X0, .int .i64 0]) ∧ Below w'.heap.size w' w'')
    (h1 : ∀ w', Below w.heap.size w w' → Calls Tryz.prog 24 #[.int .i64 id] w' fun e w'' => e = .returned (.string X1) ∧ Below w'.heap.size w' w'')
    (h2 : ∀ w', Below w.heap.size w w' → Calls Tryz.prog 21 #[.int .i64 te] w' fun e w'' => e = .returned (.tuple #[.string X2, .int .i64 0]) ∧ Below w'.heap.size w' w'')
    (h3 : ∀ w', Below w.heap.size w w' → Calls Tryz.prog 21 #[.int .i64 de] w' fun e w'' => e = .returned (.tuple #[.string X3, .int .i64 0]) ∧ Below w'.heap.size w' w'')
    (h4 : ∀ w', Below w.heap.size w w' → Calls Tryz.prog 21 #[.int .i64 fe] w' fun e w'' => e = .returned (.tuple #[.string X4, .int .i64 0]) ∧ Below w'.heap.size w' w'')
    (h5 : ∀ w', Below w.heap.size w w' → Calls Tryz.prog 21 #[.int .i64 pr] w' fun e w'' => e = .returned (.tuple #[.string X5, .int .i64 0]) ∧ Below w'.heap.size w' w'')
    (h6 : ∀ w', Below w.heap.size w w' → Calls Tryz.prog 21 #[.int .i64 ch] w' fun e w'' => e = .returned (.tuple #[.string X6, .int .i64 0]) ∧ Below w'.heap.size w' w'')
    (h7 : ∀ w', Below w.heap.size w w' → Calls Tryz.prog 24 #[.int .i64 un] w' fun e w'' => e = .returned (.string X7) ∧ Below w'.heap.size w' w'')
    (h8 : ∀ w', Below w.heap.size w w' → Calls Tryz.prog 25 #[.string S] w' fun e w'' => e = .returned (.string X8) ∧ Below w'.heap.size w' w'') :
    Calls Tryz.prog 8 #[.agg #[.int .i64 me, .int .i64 id, .int .i64 te, .int .i64 de, .int .i64 fe, .int .i64 pr, .int .i64 ch, .int .i64 un, .string S]] w fun e w' => ∃ L : List UInt8, e = .returned (.string ⟨L.toArray⟩) ∧ L = (((((((((([] : List UInt8) ++ line (⟨#[77, 69, 84, 69, 82]⟩ : ByteArray).data.toList X0.data.toList) ++ line (⟨#[78, 85, 77, 66, 69, 82]⟩ : ByteArray).data.toList X1.data.toList) ++ line (⟨#[84, 69, 78, 68, 69, 82]⟩ : ByteArray).data.toList X2.data.toList) ++ line (⟨#[68, 69, 66, 84]⟩ : ByteArray).data.toList X3.data.toList) ++ line (⟨#[70, 69, 69]⟩ : ByteArray).data.toList X4.data.toList) ++ line (⟨#[80, 82, 73, 67, 69]⟩ : ByteArray).data.toList X5.data.toList) ++ line (⟨#[67, 72, 65, 78, 71, 69]⟩ : ByteArray).data.toList X6.data.toList) ++ line (⟨#[85, 78, 73, 84, 83]⟩ : ByteArray).data.toList X7.data.toList) ++ line (⟨#[84, 79, 75, 69, 78]⟩ : ByteArray).data.toList X8.data.toList) ∧ Below w.heap.size w w' := by
  have H0 : Hid (∀ w', Below w.heap.size w w' → Calls Tryz.prog 23 #[.int .i64 me] w' fun e w'' => e = .returned (.tuple #[.string X0, .int .i64 0]) ∧ Below w'.heap.size w' w'') := h0
  have H1 : Hid (∀ w', Below w.heap.size w w' → Calls Tryz.prog 24 #[.int .i64 id] w' fun e w'' => e = .returned (.string X1) ∧ Below w'.heap.size w' w'') := h1
  have H2 : Hid (∀ w', Below w.heap.size w w' → Calls Tryz.prog 21 #[.int .i64 te] w' fun e w'' => e = .returned (.tuple #[.string X2, .int .i64 0]) ∧ Below w'.heap.size w' w'') := h2
  have H3 : Hid (∀ w', Below w.heap.size w w' → Calls Tryz.prog 21 #[.int .i64 de] w' fun e w'' => e = .returned (.tuple #[.string X3, .int .i64 0]) ∧ Below w'.heap.size w' w'') := h3
  have H4 : Hid (∀ w', Below w.heap.size w w' → Calls Tryz.prog 21 #[.int .i64 fe] w' fun e w'' => e = .returned (.tuple #[.string X4, .int .i64 0]) ∧ Below w'.heap.size w' w'') := h4
  have H5 : Hid (∀ w', Below w.heap.size w w' → Calls Tryz.prog 21 #[.int .i64 pr] w' fun e w'' => e = .returned (.tuple #[.string X5, .int .i64 0]) ∧ Below w'.heap.size w' w'') := h5
  have H6 : Hid (∀ w', Below w.heap.size w w' → Calls Tryz.prog 21 #[.int .i64 ch] w' fun e w'' => e = .returned (.tuple #[.string X6, .int .i64 0]) ∧ Below w'.heap.size w' w'') := h6
  have H7 : Hid (∀ w', Below w.heap.size w w' → Calls Tryz.prog 24 #[.int .i64 un] w' fun e w'' => e = .returned (.string X7) ∧ Below w'.heap.size w' w'') := h7
  have H8 : Hid (∀ w', Below w.heap.size w w' → Calls Tryz.prog 25 #[.string S] w' fun e w'' => e = .returned (.string X8) ∧ Below w'.heap.size w' w'') := h8
  clear h0 h1 h2 h3 h4 h5 h6 h7 h8
  have HX0 : Hid (Blk ((w.alloc (.cells #[.int .i64 me, .int .i64 id, .int .i64 te, .int .i64 de, .int .i64 fe, .int .i64 pr, .int .i64 ch, .int .i64 un, .string S] 25)).alloc (.cells #[.pointer none, .slice none 0 0] 59)) w.heap.size #[.int .i64 me, .int .i64 id, .int .i64 te, .int .i64 de, .int .i64 fe, .int .i64 pr, .int .i64 ch, .int .i64 un, .string S] 25) := (Blk.new _ _ _).alloc _
  have HB0 : Hid (Below w.heap.size w ((w.alloc (.cells #[.int .i64 me, .int .i64 id, .int .i64 te, .int .i64 de, .int .i64 fe, .int .i64 pr, .int .i64 ch, .int .i64 un, .string S] 25)).alloc (.cells #[.pointer none, .slice none 0 0] 59))) := ((Below.refl _ _).alloc (Nat.le_refl _) _).alloc (by simp) _
  have HS0 : Hid (Sb (w.heap.size + 1) (w.heap.size + 1) (Lib.byteCells []) ((w.alloc (.cells #[.int .i64 me, .int .i64 id, .int .i64 te, .int .i64 de, .int .i64 fe, .int .i64 pr, .int .i64 ch, .int .i64 un, .string S] 25)).alloc (.cells #[.pointer none, .slice none 0 0] 59))) := by
    have := Sb.fresh (w.alloc (.cells #[.int .i64 me, .int .i64 id, .int .i64 te, .int .i64 de, .int .i64 fe, .int .i64 pr, .int .i64 ch, .int .i64 un, .string S] 25))
    simp only [World.size_alloc] at this
    exact this
  have hz0 : w.heap.size + 1 ≤ ((w.alloc (.cells #[.int .i64 me, .int .i64 id, .int .i64 te, .int .i64 de, .int .i64 fe, .int .i64 pr, .int .i64 ch, .int .i64 un, .string S] 25)).alloc (.cells #[.pointer none, .slice none 0 0] 59)).heap.size := by simp
  go_enter Tryz.func8, Tryz.ntmps8
  go_upto_region 3 with fail
  generalize hgp : w.heap.size + 1 = gp at *
  have HGP : Hid (w.heap.size < gp) := by show _ < _; omega
  clear hgp
  generalize ((w.alloc (.cells #[.int .i64 me, .int .i64 id, .int .i64 te, .int .i64 de, .int .i64 fe, .int .i64 pr, .int .i64 ch, .int .i64 un, .string S] 25)).alloc (.cells #[.pointer none, .slice none 0 0] 59)) = V0 at *
  have x0 : V0.cell? ⟨w.heap.size, 0, none⟩ = some (.int .i64 me) := HX0.out.cell 0
  have HL0 : Hid (([] : List UInt8).length ≤ 0) := Nat.le_refl _
  have HE0 : Hid (EqL [] ([] : List UInt8)) := rfl
  have HC0 := H0.out V0 HB0.out
  go_wp2_with fail
  refine HC0.mono ?_
  rintro e U0 ⟨rfl, hb⟩
  have HSU0 : Hid (Sb gp gp (Lib.byteCells ([] : List UInt8)) U0) := HS0.out.next hb
  have HXU0 : Hid (Blk U0 w.heap.size #[.int .i64 me, .int .i64 id, .int .i64 te, .int .i64 de, .int .i64 fe, .int .i64 pr, .int .i64 ch, .int .i64 un, .string S] 25) := HX0.out.next hb
  have HBU0 : Hid (Below w.heap.size w U0) := bel_step HB0.out hb
  have hzU0 : gp ≤ U0.heap.size := Nat.le_trans hz0 hb.size
  clear hb HC0 HS0 HX0 HB0 hz0 x0
  have HA0 := line_any gp gp ([] : List UInt8) (⟨#[77, 69, 84, 69, 82]⟩ : ByteArray) X0 U0 HSU0.out (by have := HL0.out; omega) (by decide) (by omega) hzU0
  go_wp2_with fail
  refine HA0.mono ?_
  rintro e V1 ⟨rfl, hs, hb⟩
  have HX1 : Hid (Blk V1 w.heap.size #[.int .i64 me, .int .i64 id, .int .i64 te, .int .i64 de, .int .i64 fe, .int .i64 pr, .int .i64 ch, .int .i64 un, .string S] 25) := HXU0.out.below hb HGP.out
  have HB1 : Hid (Below w.heap.size w V1) := HBU0.out.trans (hb.mono (Nat.le_of_lt HGP.out))
  have hz1 : gp ≤ V1.heap.size := Nat.le_trans hzU0 hb.size
  have HL1 : Hid ((([] : List UInt8) ++ line (⟨#[77, 69, 84, 69, 82]⟩ : ByteArray).data.toList X0.data.toList).length ≤ 60) := by
    show _ ≤ _
    rw [List.length_append, pline_len]
    have h1 := HL0.out
    have h2 : X0.data.toList.length = X0.size := Array.length_toList
    have h3 : (⟨#[77, 69, 84, 69, 82]⟩ : ByteArray).data.toList.length ≤ 6 := by decide
    omega
  have HS1 : Hid (Sb gp gp (Lib.byteCells (([] : List UInt8) ++ line (⟨#[77, 69, 84, 69, 82]⟩ : ByteArray).data.toList X0.data.toList)) V1) := hs
  generalize hq : ([] : List UInt8) ++ line (⟨#[77, 69, 84, 69, 82]⟩ : ByteArray).data.toList X0.data.toList = l1 at HS1 HL1
  have HE1 : Hid (EqL l1 (([] : List UInt8) ++ line (⟨#[77, 69, 84, 69, 82]⟩ : ByteArray).data.toList X0.data.toList)) := by show l1 = _; rw [← hq, ← show ([] : List UInt8) = ([] : List UInt8) from HE0.out]
  clear hs hb HA0 HXU0 HBU0 hzU0 HSU0 H0 HL0 HE0 hq
  have x1 : V1.cell? ⟨w.heap.size, 1, none⟩ = some (.int .i64 id) := HX1.out.cell 1
  have HC1 := H1.out V1 HB1.out
  go_wp2_with fail
  refine HC1.mono ?_
  rintro e U1 ⟨rfl, hb⟩
  have HSU1 : Hid (Sb gp gp (Lib.byteCells l1) U1) := HS1.out.next hb
  have HXU1 : Hid (Blk U1 w.heap.size #[.int .i64 me, .int .i64 id, .int .i64 te, .int .i64 de, .int .i64 fe, .int .i64 pr, .int .i64 ch, .int .i64 un, .string S] 25) := HX1.out.next hb
  have HBU1 : Hid (Below w.heap.size w U1) := bel_step HB1.out hb
  have hzU1 : gp ≤ U1.heap.size := Nat.le_trans hz1 hb.size
  clear hb HC1 HS1 HX1 HB1 hz1 x1
  have HA1 := line_any gp gp l1 (⟨#[78, 85, 77, 66, 69, 82]⟩ : ByteArray) X1 U1 HSU1.out (by have := HL1.out; omega) (by decide) (by omega) hzU1
  go_wp2_with fail
  refine HA1.mono ?_
  rintro e V2 ⟨rfl, hs, hb⟩
  have HX2 : Hid (Blk V2 w.heap.size #[.int .i64 me, .int .i64 id, .int .i64 te, .int .i64 de, .int .i64 fe, .int .i64 pr, .int .i64 ch, .int .i64 un, .string S] 25) := HXU1.out.below hb HGP.out
  have HB2 : Hid (Below w.heap.size w V2) := HBU1.out.trans (hb.mono (Nat.le_of_lt HGP.out))
  have hz2 : gp ≤ V2.heap.size := Nat.le_trans hzU1 hb.size
  have HL2 : Hid ((l1 ++ line (⟨#[78, 85, 77, 66, 69, 82]⟩ : ByteArray).data.toList X1.data.toList).length ≤ 120) := by
    show _ ≤ _
    rw [List.length_append, pline_len]
    have h1 := HL1.out
    have h2 : X1.data.toList.length = X1.size := Array.length_toList
    have h3 : (⟨#[78, 85, 77, 66, 69, 82]⟩ : ByteArray).data.toList.length ≤ 6 := by decide
    omega
  have HS2 : Hid (Sb gp gp (Lib.byteCells (l1 ++ line (⟨#[78, 85, 77, 66, 69, 82]⟩ : ByteArray).data.toList X1.data.toList)) V2) := hs
  generalize hq : l1 ++ line (⟨#[78, 85, 77, 66, 69, 82]⟩ : ByteArray).data.toList X1.data.toList = l2 at HS2 HL2
  have HE2 : Hid (EqL l2 ((([] : List UInt8) ++ line (⟨#[77, 69, 84, 69, 82]⟩ : ByteArray).data.toList X0.data.toList) ++ line (⟨#[78, 85, 77, 66, 69, 82]⟩ : ByteArray).data.toList X1.data.toList)) := by show l2 = _; rw [← hq, ← show l1 = (([] : List UInt8) ++ line (⟨#[77, 69, 84, 69, 82]⟩ : ByteArray).data.toList X0.data.toList) from HE1.out]
  clear hs hb HA1 HXU1 HBU1 hzU1 HSU1 H1 HL1 HE1 hq
  have x2 : V2.cell? ⟨w.heap.size, 2, none⟩ = some (.int .i64 te) := HX2.out.cell 2
  have HA2 := amount_any gp gp l2 (⟨#[84, 69, 78, 68, 69, 82]⟩ : ByteArray) X2 te V2 HS2.out (by have := HL2.out; omega) (by decide) (by omega) hz2 (H2.out V2 HB2.out)
  go_wp2_with fail
  refine HA2.mono ?_
  rintro e V3 ⟨rfl, hs, hb⟩
  have HX3 : Hid (Blk V3 w.heap.size #[.int .i64 me, .int .i64 id, .int .i64 te, .int .i64 de, .int .i64 fe, .int .i64 pr, .int .i64 ch, .int .i64 un, .string S] 25) := HX2.out.below hb HGP.out
  have HB3 : Hid (Below w.heap.size w V3) := HB2.out.trans (hb.mono (Nat.le_of_lt HGP.out))
  have hz3 : gp ≤ V3.heap.size := Nat.le_trans hz2 hb.size
  have HL3 : Hid ((l2 ++ line (⟨#[84, 69, 78, 68, 69, 82]⟩ : ByteArray).data.toList X2.data.toList).length ≤ 180) := by
    show _ ≤ _
    rw [List.length_append, pline_len]
    have h1 := HL2.out
    have h2 : X2.data.toList.length = X2.size := Array.length_toList
    have h3 : (⟨#[84, 69, 78, 68, 69, 82]⟩ : ByteArray).data.toList.length ≤ 6 := by decide
    omega
  have HS3 : Hid (Sb gp gp (Lib.byteCells (l2 ++ line (⟨#[84, 69, 78, 68, 69, 82]⟩ : ByteArray).data.toList X2.data.toList)) V3) := hs
  generalize hq : l2 ++ line (⟨#[84, 69, 78, 68, 69, 82]⟩ : ByteArray).data.toList X2.data.toList = l3 at HS3 HL3
  have HE3 : Hid (EqL l3 (((([] : List UInt8) ++ line (⟨#[77, 69, 84, 69, 82]⟩ : ByteArray).data.toList X0.data.toList) ++ line (⟨#[78, 85, 77, 66, 69, 82]⟩ : ByteArray).data.toList X1.data.toList) ++ line (⟨#[84, 69, 78, 68, 69, 82]⟩ : ByteArray).data.toList X2.data.toList)) := by show l3 = _; rw [← hq, ← show l2 = ((([] : List UInt8) ++ line (⟨#[77, 69, 84, 69, 82]⟩ : ByteArray).data.toList X0.data.toList) ++ line (⟨#[78, 85, 77, 66, 69, 82]⟩ : ByteArray).data.toList X1.data.toList) from HE2.out]
  clear hs hb HA2 HX2 HB2 hz2 HS2 x2 H2 HL2 HE2 hq
  have x3 : V3.cell? ⟨w.heap.size, 3, none⟩ = some (.int .i64 de) := HX3.out.cell 3
  have HA3 := amount_any gp gp l3 (⟨#[68, 69, 66, 84]⟩ : ByteArray) X3 de V3 HS3.out (by have := HL3.out; omega) (by decide) (by omega) hz3 (H3.out V3 HB3.out)
  go_wp2_with fail
  refine HA3.mono ?_
  rintro e V4 ⟨rfl, hs, hb⟩
  have HX4 : Hid (Blk V4 w.heap.size #[.int .i64 me, .int .i64 id, .int .i64 te, .int .i64 de, .int .i64 fe, .int .i64 pr, .int .i64 ch, .int .i64 un, .string S] 25) := HX3.out.below hb HGP.out
  have HB4 : Hid (Below w.heap.size w V4) := HB3.out.trans (hb.mono (Nat.le_of_lt HGP.out))
  have hz4 : gp ≤ V4.heap.size := Nat.le_trans hz3 hb.size
  have HL4 : Hid ((l3 ++ line (⟨#[68, 69, 66, 84]⟩ : ByteArray).data.toList X3.data.toList).length ≤ 240) := by
    show _ ≤ _
    rw [List.length_append, pline_len]
    have h1 := HL3.out
    have h2 : X3.data.toList.length = X3.size := Array.length_toList
    have h3 : (⟨#[68, 69, 66, 84]⟩ : ByteArray).data.toList.length ≤ 6 := by decide
    omega
  have HS4 : Hid (Sb gp gp (Lib.byteCells (l3 ++ line (⟨#[68, 69, 66, 84]⟩ : ByteArray).data.toList X3.data.toList)) V4) := hs
  generalize hq : l3 ++ line (⟨#[68, 69, 66, 84]⟩ : ByteArray).data.toList X3.data.toList = l4 at HS4 HL4
  have HE4 : Hid (EqL l4 ((((([] : List UInt8) ++ line (⟨#[77, 69, 84, 69, 82]⟩ : ByteArray).data.toList X0.data.toList) ++ line (⟨#[78, 85, 77, 66, 69, 82]⟩ : ByteArray).data.toList X1.data.toList) ++ line (⟨#[84, 69, 78, 68, 69, 82]⟩ : ByteArray).data.toList X2.data.toList) ++ line (⟨#[68, 69, 66, 84]⟩ : ByteArray).data.toList X3.data.toList)) := by show l4 = _; rw [← hq, ← show l3 = (((([] : List UInt8) ++ line (⟨#[77, 69, 84, 69, 82]⟩ : ByteArray).data.toList X0.data.toList) ++ line (⟨#[78, 85, 77, 66, 69, 82]⟩ : ByteArray).data.toList X1.data.toList) ++ line (⟨#[84, 69, 78, 68, 69, 82]⟩ : ByteArray).data.toList X2.data.toList) from HE3.out]
  clear hs hb HA3 HX3 HB3 hz3 HS3 x3 H3 HL3 HE3 hq
  have x4 : V4.cell? ⟨w.heap.size, 4, none⟩ = some (.int .i64 fe) := HX4.out.cell 4
  have HA4 := amount_any gp gp l4 (⟨#[70, 69, 69]⟩ : ByteArray) X4 fe V4 HS4.out (by have := HL4.out; omega) (by decide) (by omega) hz4 (H4.out V4 HB4.out)
  go_wp2_with fail
  refine HA4.mono ?_
  rintro e V5 ⟨rfl, hs, hb⟩
  have HX5 : Hid (Blk V5 w.heap.size #[.int .i64 me, .int .i64 id, .int .i64 te, .int .i64 de, .int .i64 fe, .int .i64 pr, .int .i64 ch, .int .i64 un, .string S] 25) := HX4.out.below hb HGP.out
  have HB5 : Hid (Below w.heap.size w V5) := HB4.out.trans (hb.mono (Nat.le_of_lt HGP.out))
  have hz5 : gp ≤ V5.heap.size := Nat.le_trans hz4 hb.size
  have HL5 : Hid ((l4 ++ line (⟨#[70, 69, 69]⟩ : ByteArray).data.toList X4.data.toList).length ≤ 300) := by
    show _ ≤ _
    rw [List.length_append, pline_len]
    have h1 := HL4.out
    have h2 : X4.data.toList.length = X4.size := Array.length_toList
    have h3 : (⟨#[70, 69, 69]⟩ : ByteArray).data.toList.length ≤ 6 := by decide
    omega
  have HS5 : Hid (Sb gp gp (Lib.byteCells (l4 ++ line (⟨#[70, 69, 69]⟩ : ByteArray).data.toList X4.data.toList)) V5) := hs
  generalize hq : l4 ++ line (⟨#[70, 69, 69]⟩ : ByteArray).data.toList X4.data.toList = l5 at HS5 HL5
  have HE5 : Hid (EqL l5 (((((([] : List UInt8) ++ line (⟨#[77, 69, 84, 69, 82]⟩ : ByteArray).data.toList X0.data.toList) ++ line (⟨#[78, 85, 77, 66, 69, 82]⟩ : ByteArray).data.toList X1.data.toList) ++ line (⟨#[84, 69, 78, 68, 69, 82]⟩ : ByteArray).data.toList X2.data.toList) ++ line (⟨#[68, 69, 66, 84]⟩ : ByteArray).data.toList X3.data.toList) ++ line (⟨#[70, 69, 69]⟩ : ByteArray).data.toList X4.data.toList)) := by show l5 = _; rw [← hq, ← show l4 = ((((([] : List UInt8) ++ line (⟨#[77, 69, 84, 69, 82]⟩ : ByteArray).data.toList X0.data.toList) ++ line (⟨#[78, 85, 77, 66, 69, 82]⟩ : ByteArray).data.toList X1.data.toList) ++ line (⟨#[84, 69, 78, 68, 69, 82]⟩ : ByteArray).data.toList X2.data.toList) ++ line (⟨#[68, 69, 66, 84]⟩ : ByteArray).data.toList X3.data.toList) from HE4.out]
  clear hs hb HA4 HX4 HB4 hz4 HS4 x4 H4 HL4 HE4 hq
  have x5 : V5.cell? ⟨w.heap.size, 5, none⟩ = some (.int .i64 pr) := HX5.out.cell 5
  have HA5 := amount_any gp gp l5 (⟨#[80, 82, 73, 67, 69]⟩ : ByteArray) X5 pr V5 HS5.out (by have := HL5.out; omega) (by decide) (by omega) hz5 (H5.out V5 HB5.out)
  go_wp2_with fail
  refine HA5.mono ?_
  rintro e V6 ⟨rfl, hs, hb⟩
  have HX6 : Hid (Blk V6 w.heap.size #[.int .i64 me, .int .i64 id, .int .i64 te, .int .i64 de, .int .i64 fe, .int .i64 pr, .int .i64 ch, .int .i64 un, .string S] 25) := HX5.out.below hb HGP.out
  have HB6 : Hid (Below w.heap.size w V6) := HB5.out.trans (hb.mono (Nat.le_of_lt HGP.out))
  have hz6 : gp ≤ V6.heap.size := Nat.le_trans hz5 hb.size
  have HL6 : Hid ((l5 ++ line (⟨#[80, 82, 73, 67, 69]⟩ : ByteArray).data.toList X5.data.toList).length ≤ 360) := by
    show _ ≤ _
    rw [List.length_append, pline_len]
    have h1 := HL5.out
    have h2 : X5.data.toList.length = X5.size := Array.length_toList
    have h3 : (⟨#[80, 82, 73, 67, 69]⟩ : ByteArray).data.toList.length ≤ 6 := by decide
    omega
  have HS6 : Hid (Sb gp gp (Lib.byteCells (l5 ++ line (⟨#[80, 82, 73, 67, 69]⟩ : ByteArray).data.toList X5.data.toList)) V6) := hs
  generalize hq : l5 ++ line (⟨#[80, 82, 73, 67, 69]⟩ : ByteArray).data.toList X5.data.toList = l6 at HS6 HL6
  have HE6 : Hid (EqL l6 ((((((([] : List UInt8) ++ line (⟨#[77, 69, 84, 69, 82]⟩ : ByteArray).data.toList X0.data.toList) ++ line (⟨#[78, 85, 77, 66, 69, 82]⟩ : ByteArray).data.toList X1.data.toList) ++ line (⟨#[84, 69, 78, 68, 69, 82]⟩ : ByteArray).data.toList X2.data.toList) ++ line (⟨#[68, 69, 66, 84]⟩ : ByteArray).data.toList X3.data.toList) ++ line (⟨#[70, 69, 69]⟩ : ByteArray).data.toList X4.data.toList) ++ line (⟨#[80, 82, 73, 67, 69]⟩ : ByteArray).data.toList X5.data.toList)) := by show l6 = _; rw [← hq, ← show l5 = (((((([] : List UInt8) ++ line (⟨#[77, 69, 84, 69, 82]⟩ : ByteArray).data.toList X0.data.toList) ++ line (⟨#[78, 85, 77, 66, 69, 82]⟩ : ByteArray).data.toList X1.data.toList) ++ line (⟨#[84, 69, 78, 68, 69, 82]⟩ : ByteArray).data.toList X2.data.toList) ++ line (⟨#[68, 69, 66, 84]⟩ : ByteArray).data.toList X3.data.toList) ++ line (⟨#[70, 69, 69]⟩ : ByteArray).data.toList X4.data.toList) from HE5.out]
  clear hs hb HA5 HX5 HB5 hz5 HS5 x5 H5 HL5 HE5 hq
  have x6 : V6.cell? ⟨w.heap.size, 6, none⟩ = some (.int .i64 ch) := HX6.out.cell 6
  have HA6 := amount_any gp gp l6 (⟨#[67, 72, 65, 78, 71, 69]⟩ : ByteArray) X6 ch V6 HS6.out (by have := HL6.out; omega) (by decide) (by omega) hz6 (H6.out V6 HB6.out)
  go_wp2_with fail
  refine HA6.mono ?_
  rintro e V7 ⟨rfl, hs, hb⟩
  have HX7 : Hid (Blk V7 w.heap.size #[.int .i64 me, .int .i64 id, .int .i64 te, .int .i64 de, .int .i64 fe, .int .i64 pr, .int .i64 ch, .int .i64 un, .string S] 25) := HX6.out.below hb HGP.out
  have HB7 : Hid (Below w.heap.size w V7) := HB6.out.trans (hb.mono (Nat.le_of_lt HGP.out))
  have hz7 : gp ≤ V7.heap.size := Nat.le_trans hz6 hb.size
  have HL7 : Hid ((l6 ++ line (⟨#[67, 72, 65, 78, 71, 69]⟩ : ByteArray).data.toList X6.data.toList).length ≤ 420) := by
    show _ ≤ _
    rw [List.length_append, pline_len]
    have h1 := HL6.out
    have h2 : X6.data.toList.length = X6.size := Array.length_toList
    have h3 : (⟨#[67, 72, 65, 78, 71, 69]⟩ : ByteArray).data.toList.length ≤ 6 := by decide
    omega
  have HS7 : Hid (Sb gp gp (Lib.byteCells (l6 ++ line (⟨#[67, 72, 65, 78, 71, 69]⟩ : ByteArray).data.toList X6.data.toList)) V7) := hs
  generalize hq : l6 ++ line (⟨#[67, 72, 65, 78, 71, 69]⟩ : ByteArray).data.toList X6.data.toList = l7 at HS7 HL7
  have HE7 : Hid (EqL l7 (((((((([] : List UInt8) ++ line (⟨#[77, 69, 84, 69, 82]⟩ : ByteArray).data.toList X0.data.toList) ++ line (⟨#[78, 85, 77, 66, 69, 82]⟩ : ByteArray).data.toList X1.data.toList) ++ line (⟨#[84, 69, 78, 68, 69, 82]⟩ : ByteArray).data.toList X2.data.toList) ++ line (⟨#[68, 69, 66, 84]⟩ : ByteArray).data.toList X3.data.toList) ++ line (⟨#[70, 69, 69]⟩ : ByteArray).data.toList X4.data.toList) ++ line (⟨#[80, 82, 73, 67, 69]⟩ : ByteArray).data.toList X5.data.toList) ++ line (⟨#[67, 72, 65, 78, 71, 69]⟩ : ByteArray).data.toList X6.data.toList)) := by show l7 = _; rw [← hq, ← show l6 = ((((((([] : List UInt8) ++ line (⟨#[77, 69, 84, 69, 82]⟩ : ByteArray).data.toList X0.data.toList) ++ line (⟨#[78, 85, 77, 66, 69, 82]⟩ : ByteArray).data.toList X1.data.toList) ++ line (⟨#[84, 69, 78, 68, 69, 82]⟩ : ByteArray).data.toList X2.data.toList) ++ line (⟨#[68, 69, 66, 84]⟩ : ByteArray).data.toList X3.data.toList) ++ line (⟨#[70, 69, 69]⟩ : ByteArray).data.toList X4.data.toList) ++ line (⟨#[80, 82, 73, 67, 69]⟩ : ByteArray).data.toList X5.data.toList) from HE6.out]
  clear hs hb HA6 HX6 HB6 hz6 HS6 x6 H6 HL6 HE6 hq
  have x7 : V7.cell? ⟨w.heap.size, 7, none⟩ = some (.int .i64 un) := HX7.out.cell 7
  have HC7 := H7.out V7 HB7.out
  go_wp2_with fail
  refine HC7.mono ?_
  rintro e U7 ⟨rfl, hb⟩
  have HSU7 : Hid (Sb gp gp (Lib.byteCells l7) U7) := HS7.out.next hb
  have HXU7 : Hid (Blk U7 w.heap.size #[.int .i64 me, .int .i64 id, .int .i64 te, .int .i64 de, .int .i64 fe, .int .i64 pr, .int .i64 ch, .int .i64 un, .string S] 25) := HX7.out.next hb
  have HBU7 : Hid (Below w.heap.size w U7) := bel_step HB7.out hb
  have hzU7 : gp ≤ U7.heap.size := Nat.le_trans hz7 hb.size
  clear hb HC7 HS7 HX7 HB7 hz7 x7
  have HA7 := line_any gp gp l7 (⟨#[85, 78, 73, 84, 83]⟩ : ByteArray) X7 U7 HSU7.out (by have := HL7.out; omega) (by decide) (by omega) hzU7
  go_wp2_with fail
  refine HA7.mono ?_
  rintro e V8 ⟨rfl, hs, hb⟩
  have HX8 : Hid (Blk V8 w.heap.size #[.int .i64 me, .int .i64 id, .int .i64 te, .int .i64 de, .int .i64 fe, .int .i64 pr, .int .i64 ch, .int .i64 un, .string S] 25) := HXU7.out.below hb HGP.out
  have HB8 : Hid (Below w.heap.size w V8) := HBU7.out.trans (hb.mono (Nat.le_of_lt HGP.out))
  have hz8 : gp ≤ V8.heap.size := Nat.le_trans hzU7 hb.size
  have HL8 : Hid ((l7 ++ line (⟨#[85, 78, 73, 84, 83]⟩ : ByteArray).data.toList X7.data.toList).length ≤ 480) := by
    show _ ≤ _
    rw [List.length_append, pline_len]
    have h1 := HL7.out
    have h2 : X7.data.toList.length = X7.size := Array.length_toList
    have h3 : (⟨#[85, 78, 73, 84, 83]⟩ : ByteArray).data.toList.length ≤ 6 := by decide
    omega
  have HS8 : Hid (Sb gp gp (Lib.byteCells (l7 ++ line (⟨#[85, 78, 73, 84, 83]⟩ : ByteArray).data.toList X7.data.toList)) V8) := hs
  generalize hq : l7 ++ line (⟨#[85, 78, 73, 84, 83]⟩ : ByteArray).data.toList X7.data.toList = l8 at HS8 HL8
  have HE8 : Hid (EqL l8 ((((((((([] : List UInt8) ++ line (⟨#[77, 69, 84, 69, 82]⟩ : ByteArray).data.toList X0.data.toList) ++ line (⟨#[78, 85, 77, 66, 69, 82]⟩ : ByteArray).data.toList X1.data.toList) ++ line (⟨#[84, 69, 78, 68, 69, 82]⟩ : ByteArray).data.toList X2.data.toList) ++ line (⟨#[68, 69, 66, 84]⟩ : ByteArray).data.toList X3.data.toList) ++ line (⟨#[70, 69, 69]⟩ : ByteArray).data.toList X4.data.toList) ++ line (⟨#[80, 82, 73, 67, 69]⟩ : ByteArray).data.toList X5.data.toList) ++ line (⟨#[67, 72, 65, 78, 71, 69]⟩ : ByteArray).data.toList X6.data.toList) ++ line (⟨#[85, 78, 73, 84, 83]⟩ : ByteArray).data.toList X7.data.toList)) := by show l8 = _; rw [← hq, ← show l7 = (((((((([] : List UInt8) ++ line (⟨#[77, 69, 84, 69, 82]⟩ : ByteArray).data.toList X0.data.toList) ++ line (⟨#[78, 85, 77, 66, 69, 82]⟩ : ByteArray).data.toList X1.data.toList) ++ line (⟨#[84, 69, 78, 68, 69, 82]⟩ : ByteArray).data.toList X2.data.toList) ++ line (⟨#[68, 69, 66, 84]⟩ : ByteArray).data.toList X3.data.toList) ++ line (⟨#[70, 69, 69]⟩ : ByteArray).data.toList X4.data.toList) ++ line (⟨#[80, 82, 73, 67, 69]⟩ : ByteArray).data.toList X5.data.toList) ++ line (⟨#[67, 72, 65, 78, 71, 69]⟩ : ByteArray).data.toList X6.data.toList) from HE7.out]
  clear hs hb HA7 HXU7 HBU7 hzU7 HSU7 H7 HL7 HE7 hq
  have x8 : V8.cell? ⟨w.heap.size, 8, none⟩ = some (.string S) := HX8.out.cell 8
  have HC8 := H8.out V8 HB8.out
  go_wp2_with fail
  refine HC8.mono ?_
  rintro e U8 ⟨rfl, hb⟩
  have HSU8 : Hid (Sb gp gp (Lib.byteCells l8) U8) := HS8.out.next hb
  have HXU8 : Hid (Blk U8 w.heap.size #[.int .i64 me, .int .i64 id, .int .i64 te, .int .i64 de, .int .i64 fe, .int .i64 pr, .int .i64 ch, .int .i64 un, .string S] 25) := HX8.out.next hb
  have HBU8 : Hid (Below w.heap.size w U8) := bel_step HB8.out hb
  have hzU8 : gp ≤ U8.heap.size := Nat.le_trans hz8 hb.size
  clear hb HC8 HS8 HX8 HB8 hz8 x8
  have HA8 := line_any gp gp l8 (⟨#[84, 79, 75, 69, 78]⟩ : ByteArray) X8 U8 HSU8.out (by have := HL8.out; omega) (by decide) (by omega) hzU8
  go_wp2_with fail
  refine HA8.mono ?_
  rintro e V9 ⟨rfl, hs, hb⟩
  have HX9 : Hid (Blk V9 w.heap.size #[.int .i64 me, .int .i64 id, .int .i64 te, .int .i64 de, .int .i64 fe, .int .i64 pr, .int .i64 ch, .int .i64 un, .string S] 25) := HXU8.out.below hb HGP.out
  have HB9 : Hid (Below w.heap.size w V9) := HBU8.out.trans (hb.mono (Nat.le_of_lt HGP.out))
  have hz9 : gp ≤ V9.heap.size := Nat.le_trans hzU8 hb.size
  have HL9 : Hid ((l8 ++ line (⟨#[84, 79, 75, 69, 78]⟩ : ByteArray).data.toList X8.data.toList).length ≤ 540) := by
    show _ ≤ _
    rw [List.length_append, pline_len]
    have h1 := HL8.out
    have h2 : X8.data.toList.length = X8.size := Array.length_toList
    have h3 : (⟨#[84, 79, 75, 69, 78]⟩ : ByteArray).data.toList.length ≤ 6 := by decide
    omega
  have HS9 : Hid (Sb gp gp (Lib.byteCells (l8 ++ line (⟨#[84, 79, 75, 69, 78]⟩ : ByteArray).data.toList X8.data.toList)) V9) := hs
  generalize hq : l8 ++ line (⟨#[84, 79, 75, 69, 78]⟩ : ByteArray).data.toList X8.data.toList = l9 at HS9 HL9
  have HE9 : Hid (EqL l9 (((((((((([] : List UInt8) ++ line (⟨#[77, 69, 84, 69, 82]⟩ : ByteArray).data.toList X0.data.toList) ++ line (⟨#[78, 85, 77, 66, 69, 82]⟩ : ByteArray).data.toList X1.data.toList) ++ line (⟨#[84, 69, 78, 68, 69, 82]⟩ : ByteArray).data.toList X2.data.toList) ++ line (⟨#[68, 69, 66, 84]⟩ : ByteArray).data.toList X3.data.toList) ++ line (⟨#[70, 69, 69]⟩ : ByteArray).data.toList X4.data.toList) ++ line (⟨#[80, 82, 73, 67, 69]⟩ : ByteArray).data.toList X5.data.toList) ++ line (⟨#[67, 72, 65, 78, 71, 69]⟩ : ByteArray).data.toList X6.data.toList) ++ line (⟨#[85, 78, 73, 84, 83]⟩ : ByteArray).data.toList X7.data.toList) ++ line (⟨#[84, 79, 75, 69, 78]⟩ : ByteArray).data.toList X8.data.toList)) := by show l9 = _; rw [← hq, ← show l8 = ((((((((([] : List UInt8) ++ line (⟨#[77, 69, 84, 69, 82]⟩ : ByteArray).data.toList X0.data.toList) ++ line (⟨#[78, 85, 77, 66, 69, 82]⟩ : ByteArray).data.toList X1.data.toList) ++ line (⟨#[84, 69, 78, 68, 69, 82]⟩ : ByteArray).data.toList X2.data.toList) ++ line (⟨#[68, 69, 66, 84]⟩ : ByteArray).data.toList X3.data.toList) ++ line (⟨#[70, 69, 69]⟩ : ByteArray).data.toList X4.data.toList) ++ line (⟨#[80, 82, 73, 67, 69]⟩ : ByteArray).data.toList X5.data.toList) ++ line (⟨#[67, 72, 65, 78, 71, 69]⟩ : ByteArray).data.toList X6.data.toList) ++ line (⟨#[85, 78, 73, 84, 83]⟩ : ByteArray).data.toList X7.data.toList) from HE8.out]
  clear hs hb HA8 HXU8 HBU8 hzU8 HSU8 H8 HL8 HE8 hq
  have hne : l9 ≠ [] := by
    rw [show l9 = _ from HE9.out]
    intro h
    have := congrArg List.length h
    rw [List.length_append, pline_len] at this
    simp at this
  have HT := text_any gp gp l9 V9 HS9.out hne
  clear HS9 HX9
  go_wp2_with fail
  refine HT.mono ?_
  rintro e V10 ⟨rfl, hb⟩
  have HB10 : Hid (Below w.heap.size w V10) := HB9.out.trans (hb.mono (Nat.le_of_lt HGP.out))
  clear hb HT HB9
  go_wp2_with fail
  go_ret
  exact ⟨l9, rfl, HE9.out, HB10.out⟩

theorem big_itoa (n : Int) (w : World) (h0 : 0 ≤ n) (h1 : n ≤ 1000000000000) (ht : cents.Tab w) :
    Calls Tryz.prog 24 #[.int .i64 n] w fun e w' => e = .returned (.string ⟨(Lib.decDigits n.toNat).toArray⟩) ∧ Below w.heap.size w w' := cents.itoa_big n w h0 h1 ht
theorem dec_len40 (n : Nat) (h : n ≤ 100000000) : (Lib.decDigits n).length ≤ 20 := by
  have step : ∀ k : Nat, ∀ v : Nat, v < 10 ^ (k + 1) → (Lib.decDigits v).length ≤ k + 1 := fun k => by
    induction k with
    | zero =>
      intro v hv
      have : ∀ x, x < 10 → (Lib.decDigits x).length ≤ 0 + 1 := by decide +kernel
      exact this v (by omega)
    | succ k ih =>
      intro v hv
      by_cases h10 : v < 10
      · have : ∀ x, x < 10 → (Lib.decDigits x).length ≤ 1 := by decide +kernel
        have := this v h10
        omega
      · rw [cents.dec_step h10, List.length_append]
        have := ih (v / 10) (by rw [Nat.pow_succ] at hv; omega)
        simp
        omega
  have := step 8 n (by omega)
  omega
theorem show_len40 {n : Int} (h0 : 0 ≤ n) (h1 : n ≤ 100000000) : (cents.showT n).length ≤ 40 := by
  unfold cents.showT
  rw [if_neg (by omega)]
  unfold cents.showP
  have a := dec_len40 (n / 100).toNat (by omega)
  have b : ∀ x, x < 10 → (Lib.decDigits x).length = 1 := by decide +kernel
  have b1 := b (n / 10 % 10).toNat (by omega)
  have b2 := b (n % 10).toNat (by omega)
  simp only [List.length_append, List.length_cons, List.length_nil]
  omega
theorem write_any (r : Rc) (w : World) (hr : Right r) (hm : check.MTab w) (hc : cents.Tab w) : Calls Tryz.prog 8 #[r.v] w fun e w' => e = .returned (.string ⟨(paper r).toArray⟩) ∧ Below w.heap.size w w' := by
  obtain ⟨hme, ⟨⟨⟨t0, t1⟩, ⟨d0, d1⟩, ⟨f0, f1⟩, p0, p1⟩, ⟨c0, c1⟩, ⟨i0, i1⟩, u0, u1⟩, _, hp, _⟩ := hr
  have hl20 := (parse_len hp).1
  have sh : ∀ (n : Int) (w' : World), Below w.heap.size w w' → 0 ≤ n → n ≤ 100000000 → Calls Tryz.prog 21 #[.int .i64 n] w' fun e w'' => e = .returned (.tuple #[.string ⟨(cents.showT n).toArray⟩, .int .i64 0]) ∧ Below w'.heap.size w' w'' := fun n w' hb a b => cents.show_any n w' (by omega) (by omega) (cents.tab_below hc hb)
  refine (write_abs r.me r.id r.te r.de r.fe r.pr r.ch r.un ⟨r.tk.toArray⟩ ⟨(numL r.me.toNat).toArray⟩ ⟨(Lib.decDigits r.id.toNat).toArray⟩ ⟨(cents.showT r.te).toArray⟩ ⟨(cents.showT r.de).toArray⟩ ⟨(cents.showT r.fe).toArray⟩ ⟨(cents.showT r.pr).toArray⟩ ⟨(cents.showT r.ch).toArray⟩ ⟨(Lib.decDigits r.un.toNat).toArray⟩ ⟨(four r.tk).toArray⟩ w
    ?_ ?_ (show_len40 t0 t1) (show_len40 d0 d1) (show_len40 f0 f1) (show_len40 p0 p1) (show_len40 c0 c1) ?_ ?_ ?_ ?_ (fun w' hb => sh _ w' hb t0 t1) (fun w' hb => sh _ w' hb d0 d1) (fun w' hb => sh _ w' hb f0 f1) (fun w' hb => sh _ w' hb p0 p1) (fun w' hb => sh _ w' hb c0 c1) ?_ ?_).mono ?_
  · show (numL r.me.toNat).length ≤ 40
    have := (num_all r.me.toNat (by have := hme.2; have := hme.1; omega)).1
    omega
  · have := dec_len40 r.id.toNat (by omega); show (Lib.decDigits r.id.toNat).length ≤ 40; omega
  · have := dec_len40 r.un.toNat (by omega); show (Lib.decDigits r.un.toNat).length ≤ 40; omega
  · show (four r.tk).length ≤ 40; rw [four_len hl20]; decide
  · intro w' hb
    refine (pnumber_any r.me w' (hm.below hb)).mono ?_
    rintro e w'' ⟨l, f, rfl, hi, hb2⟩
    rcases hi with ⟨_, rfl, rfl⟩ | ⟨h, _⟩
    · exact ⟨rfl, hb2⟩
    · exact absurd hme h
  · intro w' hb; exact big_itoa _ w' (by omega) (by omega) (cents.tab_below hc hb)
  · intro w' hb; exact big_itoa _ w' (by omega) (by omega) (cents.tab_below hc hb)
  · intro w' hb; exact rcf.fours_any ⟨r.tk.toArray⟩ w' hl20
  · rintro e w' ⟨L, rfl, hL, hb⟩
    refine ⟨?_, hb⟩
    have e : L = paper r := by
      rw [hL]
      unfold paper
      simp only [List.nil_append, List.append_assoc]
      rfl
    rw [e]

end Go.Proofs.YtlicdeppfhmfjabGreatDoor.rcp

/- A receipt is shown. -/
namespace Go.Proofs.YtlicdeppfhmfjabGreatDoor.rcp
open Go.RowKit
set_option maxRecDepth 100000
set_option linter.unusedVariables false
set_option linter.unusedSimpArgs false

/-- The tables that showing a receipt reads. -/
structure STab (w : World) : Prop where
  m : check.MTab w
  c : cents.Tab w
  t : token.TTab w
theorem STab.below {w w' : World} (h : STab w) (hb : Below w.heap.size w w') : STab w' := ⟨h.m.below hb, cents.tab_below h.c hb, h.t.below hb⟩
set_option maxHeartbeats 2000000 in
theorem show_abs (me id te de fe pr ch un f : Int) (S T R : ByteArray) (w : World) (hf : -1000 ≤ f ∧ f ≤ 1000) (hR0 : f = 0 → R = T) (hR1 : f ≠ 0 → R = ⟨#[]⟩)
    (hC : ∀ w', Below w.heap.size w w' → Calls Tryz.prog 7 #[.agg #[.int .i64 me, .int .i64 id, .int .i64 te, .int .i64 de, .int .i64 fe, .int .i64 pr, .int .i64 ch, .int .i64 un, .string S]] w' fun e w'' => e = .returned (.int .i64 f) ∧ Below w'.heap.size w' w'')
    (hW : f = 0 → ∀ w', Below w.heap.size w w' → Calls Tryz.prog 8 #[.agg #[.int .i64 me, .int .i64 id, .int .i64 te, .int .i64 de, .int .i64 fe, .int .i64 pr, .int .i64 ch, .int .i64 un, .string S]] w' fun e w'' => e = .returned (.string T) ∧ Below w'.heap.size w' w'') :
    Calls Tryz.prog 5 #[.agg #[.int .i64 me, .int .i64 id, .int .i64 te, .int .i64 de, .int .i64 fe, .int .i64 pr, .int .i64 ch, .int .i64 un, .string S]] w fun e w' => e = .returned (.tuple #[.string R, .int .i64 f]) ∧ Below w.heap.size w w' := by
  have HX0 : Hid (Blk (w.alloc (.cells #[.int .i64 me, .int .i64 id, .int .i64 te, .int .i64 de, .int .i64 fe, .int .i64 pr, .int .i64 ch, .int .i64 un, .string S] 25)) w.heap.size #[.int .i64 me, .int .i64 id, .int .i64 te, .int .i64 de, .int .i64 fe, .int .i64 pr, .int .i64 ch, .int .i64 un, .string S] 25) := Blk.new _ _ _
  have HB0 : Hid (Below w.heap.size w (w.alloc (.cells #[.int .i64 me, .int .i64 id, .int .i64 te, .int .i64 de, .int .i64 fe, .int .i64 pr, .int .i64 ch, .int .i64 un, .string S] 25))) := (Below.refl _ _).alloc (Nat.le_refl _) _
  go_enter Tryz.func5, Tryz.ntmps5
  go_upto_region 1 with fail
  generalize w.alloc (.cells #[.int .i64 me, .int .i64 id, .int .i64 te, .int .i64 de, .int .i64 fe, .int .i64 pr, .int .i64 ch, .int .i64 un, .string S] 25) = W0 at *
  have HC := hC W0 HB0.out
  have HW : Hid (f = 0 → ∀ w', Below w.heap.size w w' → Calls Tryz.prog 8 #[.agg #[.int .i64 me, .int .i64 id, .int .i64 te, .int .i64 de, .int .i64 fe, .int .i64 pr, .int .i64 ch, .int .i64 un, .string S]] w' fun e w'' => e = .returned (.string T) ∧ Below w'.heap.size w' w'') := hW
  clear hC hW
  have c0 : W0.cell? ⟨w.heap.size, 0, none⟩ = some (.int .i64 me) := HX0.out.cell 0
  have c1 : W0.cell? ⟨w.heap.size, 1, none⟩ = some (.int .i64 id) := HX0.out.cell 1
  have c2 : W0.cell? ⟨w.heap.size, 2, none⟩ = some (.int .i64 te) := HX0.out.cell 2
  have c3 : W0.cell? ⟨w.heap.size, 3, none⟩ = some (.int .i64 de) := HX0.out.cell 3
  have c4 : W0.cell? ⟨w.heap.size, 4, none⟩ = some (.int .i64 fe) := HX0.out.cell 4
  have c5 : W0.cell? ⟨w.heap.size, 5, none⟩ = some (.int .i64 pr) := HX0.out.cell 5
  have c6 : W0.cell? ⟨w.heap.size, 6, none⟩ = some (.int .i64 ch) := HX0.out.cell 6
  have c7 : W0.cell? ⟨w.heap.size, 7, none⟩ = some (.int .i64 un) := HX0.out.cell 7
  have c8 : W0.cell? ⟨w.heap.size, 8, none⟩ = some (.string S) := HX0.out.cell 8
  go_wp2_with fail
  refine HC.mono ?_
  rintro e W1 ⟨rfl, hb⟩
  have HX1 : Hid (Blk W1 w.heap.size #[.int .i64 me, .int .i64 id, .int .i64 te, .int .i64 de, .int .i64 fe, .int .i64 pr, .int .i64 ch, .int .i64 un, .string S] 25) := HX0.out.next hb
  have HB1 : Hid (Below w.heap.size w W1) := bel_step HB0.out hb
  clear hb HC HX0 HB0 c0 c1 c2 c3 c4 c5 c6 c7 c8
  obtain ⟨f0, f1⟩ := hf
  by_cases h : f = 0
  · have hq : (f != 0) = false := by simpa using h
    have HWW := HW.out h W1 HB1.out
    have HF : Hid (f = 0) := h
    have HR : Hid (R = T) := hR0 h
    clear h HW hR0 hR1
    have c0 : W1.cell? ⟨w.heap.size, 0, none⟩ = some (.int .i64 me) := HX1.out.cell 0
    have c1 : W1.cell? ⟨w.heap.size, 1, none⟩ = some (.int .i64 id) := HX1.out.cell 1
    have c2 : W1.cell? ⟨w.heap.size, 2, none⟩ = some (.int .i64 te) := HX1.out.cell 2
    have c3 : W1.cell? ⟨w.heap.size, 3, none⟩ = some (.int .i64 de) := HX1.out.cell 3
    have c4 : W1.cell? ⟨w.heap.size, 4, none⟩ = some (.int .i64 fe) := HX1.out.cell 4
    have c5 : W1.cell? ⟨w.heap.size, 5, none⟩ = some (.int .i64 pr) := HX1.out.cell 5
    have c6 : W1.cell? ⟨w.heap.size, 6, none⟩ = some (.int .i64 ch) := HX1.out.cell 6
    have c7 : W1.cell? ⟨w.heap.size, 7, none⟩ = some (.int .i64 un) := HX1.out.cell 7
    have c8 : W1.cell? ⟨w.heap.size, 8, none⟩ = some (.string S) := HX1.out.cell 8
    go_wp2_with fail
    refine HWW.mono ?_
    rintro e W2 ⟨rfl, hb⟩
    have HB2 : Hid (Below w.heap.size w W2) := bel_step HB1.out hb
    clear hb HWW HX1 HB1 c0 c1 c2 c3 c4 c5 c6 c7 c8
    go_wp2_with fail
    go_ret2
    exact ⟨by rw [HF.out, HR.out]; rfl, HB2.out⟩
  · have hq : (f != 0) = true := by simpa using h
    have HR : Hid (R = ⟨#[]⟩) := hR1 h
    clear h HW hR0 hR1
    go_wp2_with fail
    go_ret2
    exact ⟨by rw [HR.out]; rfl, HB1.out⟩
theorem FaultIs.bd {r : Rc} {f : Int} (h : FaultIs r f) : -1000 ≤ f ∧ f ≤ 1000 := by
  rcases h with ⟨_, rfl⟩ | ⟨_, _, rfl⟩ | ⟨_, _, _, rfl⟩ | ⟨_, _, _, _, rfl⟩ | ⟨_, _, _, _, _, rfl⟩ | ⟨_, _, _, _, _, rfl⟩ <;> first | exact ⟨by decide, by decide⟩ | (unfold token.parseE; repeat' split) <;> exact ⟨by decide, by decide⟩
theorem fault_ex (r : Rc) : ∃ f, FaultIs r f := by
  by_cases h1 : 0 ≤ r.me ∧ r.me ≤ 49
  case neg => exact ⟨_, .inl ⟨h1, rfl⟩⟩
  have d : ∀ p : Prop, p ∨ ¬ p := Classical.em
  rcases d (RRange r) with h2 | h2
  case inr => exact ⟨_, .inr (.inl ⟨h1, h2, rfl⟩)⟩
  rcases d (RSum r) with h3 | h3
  case inr => exact ⟨_, .inr (.inr (.inl ⟨h1, h2, h3, rfl⟩))⟩
  rcases d (token.parseE r.tk = 0) with h4 | h4
  case inr => exact ⟨_, .inr (.inr (.inr (.inl ⟨h1, h2, h3, h4, rfl⟩)))⟩
  rcases d (RTok r) with h5 | h5
  case inr => exact ⟨_, .inr (.inr (.inr (.inr (.inl ⟨h1, h2, h3, h4, h5, rfl⟩))))⟩
  exact ⟨_, .inr (.inr (.inr (.inr (.inr ⟨h1, h2, h3, h4, h5, rfl⟩))))⟩
theorem show_any (r : Rc) (w : World) (ht : STab w) : Calls Tryz.prog 5 #[r.v] w fun e w' => ShowPost w r e w' := by
  obtain ⟨f, hf⟩ := fault_ex r
  refine (show_abs r.me r.id r.te r.de r.fe r.pr r.ch r.un f ⟨r.tk.toArray⟩ ⟨(paper r).toArray⟩ (if f = 0 then ⟨(paper r).toArray⟩ else ⟨#[]⟩) w hf.bd (fun h => if_pos h) (fun h => if_neg h) (fun w' hb => ?_) (fun h0 w' hb => ?_)).mono ?_
  · refine (check_any r w' (ht.below hb).t).mono ?_
    rintro e w'' ⟨g, rfl, hg, hb2⟩
    rw [hg.one hf]
    exact ⟨rfl, hb2⟩
  · exact write_any r w' (hf.ok.1 h0) (ht.below hb).m (ht.below hb).c
  · rintro e w' ⟨rfl, hb⟩
    by_cases h : f = 0
    · rw [if_pos h]; exact ⟨paper r, f, rfl, ⟨hf, .inl ⟨h, rfl⟩⟩, hb⟩
    · rw [if_neg h]; exact ⟨[], f, rfl, ⟨hf, .inr ⟨h, rfl⟩⟩, hb⟩
theorem kshow {w : World} (ht : STab w) : KrShow w := fun W r hb _ => show_any r W (ht.below hb)

end Go.Proofs.YtlicdeppfhmfjabGreatDoor.rcp

/- A receipt is read. -/
namespace Go.Proofs.YtlicdeppfhmfjabGreatDoor.rcp
open Go.Proofs.YtlicdeppfhmfjabGreatDoor.rcg (XL Errs found_small named_any guess_abs g1_any g2_any)
open Go.Proofs.YtlicdeppfhmfjabGreatDoor.cents (readR)
open Go.RowKit
set_option maxRecDepth 100000
set_option linter.unusedVariables false
set_option linter.unusedSimpArgs false

/-- What reading a receipt asks of the library's and the program's variables. -/
structure RTab (w : World) : Prop where
  s : STab w
  x : XL w
  e : Errs w
theorem RTab.below {w w' : World} (h : RTab w) (hb : Below w.heap.size w w') : RTab w' := ⟨h.s.below hb, h.x.below hb, h.e.below hb⟩
theorem meter_ex (l : List UInt8) : ∃ m e, MeterIs l m e := by
  by_cases h1 : l.length = 11
  case neg => exact ⟨_, _, .inl ⟨h1, rfl, rfl⟩⟩
  by_cases h2 : check.flawR l = 0
  case neg => exact ⟨_, _, .inr (.inl ⟨h1, h2, rfl, rfl⟩)⟩
  cases h3 : check.goodR l with
  | false => exact ⟨_, _, .inr (.inr (.inl ⟨h1, h2, h3, rfl, rfl⟩))⟩
  | true =>
    rcases Classical.em (∃ k, Named l k) with ⟨k, hk⟩ | hn
    · exact ⟨_, _, .inr (.inr (.inr (.inr ⟨h1, h2, h3, k, hk, rfl, rfl⟩)))⟩
    · exact ⟨_, _, .inr (.inr (.inr (.inl ⟨h1, h2, h3, fun k hk => hn ⟨k, hk⟩, rfl, rfl⟩)))⟩
theorem guess_any (s : ByteArray) (me e : Int) (w : World) (hs : s.size ≤ 400) (ht : RTab w) (hm : MeterIs (found s.data.toList nMETER) me e) :
    Calls Tryz.prog 6 #[.string s] w fun e w' => e = .returned (gs s.data.toList me).v ∧ Below w.heap.size w w' := by
  have hl : ∀ k, (found s.data.toList k).length ≤ 400 := fun k => Nat.le_trans (found_small s k) hs
  refine guess_abs s (found s.data.toList) me w ⟨(found s.data.toList nTOKEN).toArray⟩ ⟨(Lib.replaceAll (found s.data.toList nTOKEN) [32] []).toArray⟩ ⟨(found s.data.toList nMETER).toArray⟩
    (atoiV (found s.data.toList nNUMBER)) (readR (found s.data.toList nTENDER)).1 (readR (found s.data.toList nDEBT)).1 (readR (found s.data.toList nFEE)).1 (readR (found s.data.toList nPRICE)).1 (readR (found s.data.toList nCHANGE)).1 (atoiV (found s.data.toList nUNITS))
    (fun w' hb => named_any s w' hs (ht.below hb).x) rfl rfl (fun w' hb => ?_) (fun gb b c nm V w' hb hx hf hin => ?_) (fun gb b c nm V w' hb hx hf hin => ?_) (fun w' hb => ?_)
  · refine (pmeter_any ⟨(found s.data.toList nMETER).toArray⟩ w' (ht.below hb).s.m).mono ?_
    rintro e2 w'' ⟨m, f, rfl, hi, hb2⟩
    obtain ⟨rfl, rfl⟩ := hi.one hm
    exact ⟨_, rfl, hb2⟩
  · simp only [List.mem_cons, List.mem_nil_iff, or_false, Prod.mk.injEq] at hin
    rcases hin with ⟨rfl, rfl⟩ | ⟨rfl, rfl⟩ | ⟨rfl, rfl⟩ | ⟨rfl, rfl⟩ | ⟨rfl, rfl⟩ <;> exact g1_any gb b c _ _ w' hx hf (by decide) (hl _)
  · simp only [List.mem_cons, List.mem_nil_iff, or_false, Prod.mk.injEq] at hin
    rcases hin with ⟨rfl, rfl⟩ | ⟨rfl, rfl⟩ <;> exact g2_any gb b c _ _ w' hx hf (by decide) (hl _) (ht.below hb).e
  · obtain ⟨m, hm⟩ := (ht.below hb).x
    have h4 := hl nTOKEN
    have hz : (⟨(found s.data.toList nTOKEN).toArray⟩ : ByteArray).size = (found s.data.toList nTOKEN).length := rfl
    exact Tryz.strings_ReplaceAll ⟨(found s.data.toList nTOKEN).toArray⟩ ⟨#[32]⟩ ⟨#[]⟩ m w' (by omega) hm (by decide) (by show _ + _ * 0 ≤ _; omega)
set_option maxHeartbeats 1000000 in
theorem read_big (s : ByteArray) (w : World) (h : 400 < s.size) : Calls Tryz.prog 4 #[.string s] w fun e w' => e = .returned (.tuple #[Rc.v rc0, .int .i64 1]) ∧ Below w.heap.size w w' := by
  have hq : (400 : Int) < (s.size : Int) := by omega
  have HZ0 : Hid (Blk (w.alloc (.cells #[.int .i64 0, .int .i64 0, .int .i64 0, .int .i64 0, .int .i64 0, .int .i64 0, .int .i64 0, .int .i64 0, .string ⟨#[]⟩] 25)) w.heap.size #[.int .i64 0, .int .i64 0, .int .i64 0, .int .i64 0, .int .i64 0, .int .i64 0, .int .i64 0, .int .i64 0, .string ⟨#[]⟩] 25) := Blk.new _ _ _
  have HB0 : Hid (Below w.heap.size w (w.alloc (.cells #[.int .i64 0, .int .i64 0, .int .i64 0, .int .i64 0, .int .i64 0, .int .i64 0, .int .i64 0, .int .i64 0, .string ⟨#[]⟩] 25))) := (Below.refl _ _).alloc (Nat.le_refl _) _
  clear h
  go_enter Tryz.func4, Tryz.ntmps4
  go_upto_region 1 with fail
  generalize w.alloc (.cells #[.int .i64 0, .int .i64 0, .int .i64 0, .int .i64 0, .int .i64 0, .int .i64 0, .int .i64 0, .int .i64 0, .string ⟨#[]⟩] 25) = W0 at *
  go_wp2_with (first | (refine wp_letAll rfl 25 _ _ rfl w.heap.size rfl #[.int .i64 0, .int .i64 0, .int .i64 0, .int .i64 0, .int .i64 0, .int .i64 0, .int .i64 0, .int .i64 0, .string ⟨#[]⟩] rfl (by kernel_rfl) (by simp [Value.oneCell']) #[.int .i64 0, .int .i64 0, .int .i64 0, .int .i64 0, .int .i64 0, .int .i64 0, .int .i64 0, .int .i64 0, .string ⟨#[]⟩] 25 HZ0.out rfl ?_) | fail)
  intro WF hUF
  have HBF : Hid (Below w.heap.size w WF) := hUF.bel _ _ (Nat.le_refl _) HB0.out
  have R0 : Hid (WF.cell? ⟨w.heap.size, 0, none⟩ = some (.int .i64 0)) := hUF.blk.cell 0
  have R1 : Hid (WF.cell? ⟨w.heap.size, 1, none⟩ = some (.int .i64 0)) := hUF.blk.cell 1
  have R2 : Hid (WF.cell? ⟨w.heap.size, 2, none⟩ = some (.int .i64 0)) := hUF.blk.cell 2
  have R3 : Hid (WF.cell? ⟨w.heap.size, 3, none⟩ = some (.int .i64 0)) := hUF.blk.cell 3
  have R4 : Hid (WF.cell? ⟨w.heap.size, 4, none⟩ = some (.int .i64 0)) := hUF.blk.cell 4
  have R5 : Hid (WF.cell? ⟨w.heap.size, 5, none⟩ = some (.int .i64 0)) := hUF.blk.cell 5
  have R6 : Hid (WF.cell? ⟨w.heap.size, 6, none⟩ = some (.int .i64 0)) := hUF.blk.cell 6
  have R7 : Hid (WF.cell? ⟨w.heap.size, 7, none⟩ = some (.int .i64 0)) := hUF.blk.cell 7
  have R8 : Hid (WF.cell? ⟨w.heap.size, 8, none⟩ = some (.string ⟨#[]⟩)) := hUF.blk.cell 8
  clear hUF
  go_wp2_with fail
  exact bodyPost_ret (v := .tuple #[.agg #[.int .i64 0, .int .i64 0, .int .i64 0, .int .i64 0, .int .i64 0, .int .i64 0, .int .i64 0, .int .i64 0, .string ⟨#[]⟩], .int .i64 1]) (by simp [results, Tryz.results4, R0.out, R1.out, R2.out, R3.out, R4.out, R5.out, R6.out, R7.out, R8.out, go_sem]) rfl ⟨rfl, HBF.out⟩
set_option maxHeartbeats 4000000 in
theorem read_abs (s T S : ByteArray) (me id te de fe pr ch un f : Int) (w : World) (PO : Value) (h : s.size ≤ 400) (hf : -1000 ≤ f ∧ f ≤ 1000)
    (hp1 : f = 0 → T = s → PO = .tuple #[.agg #[.int .i64 me, .int .i64 id, .int .i64 te, .int .i64 de, .int .i64 fe, .int .i64 pr, .int .i64 ch, .int .i64 un, .string S], .int .i64 0]) (hp2 : (f = 0 → T ≠ s) → PO = .tuple #[.agg #[.int .i64 0, .int .i64 0, .int .i64 0, .int .i64 0, .int .i64 0, .int .i64 0, .int .i64 0, .int .i64 0, .string ⟨#[]⟩], .int .i64 3])
    (hG : ∀ w', Below w.heap.size w w' → Calls Tryz.prog 6 #[.string s] w' fun e w'' => e = .returned (.agg #[.int .i64 me, .int .i64 id, .int .i64 te, .int .i64 de, .int .i64 fe, .int .i64 pr, .int .i64 ch, .int .i64 un, .string S]) ∧ Below w'.heap.size w' w'')
    (hS : ∀ w', Below w.heap.size w w' → Calls Tryz.prog 5 #[.agg #[.int .i64 me, .int .i64 id, .int .i64 te, .int .i64 de, .int .i64 fe, .int .i64 pr, .int .i64 ch, .int .i64 un, .string S]] w' fun e w'' => e = .returned (.tuple #[.string T, .int .i64 f]) ∧ Below w'.heap.size w' w'') :
    Calls Tryz.prog 4 #[.string s] w fun e w' => e = .returned PO ∧ Below w.heap.size w w' := by
  have hq : ¬ (400 : Int) < (s.size : Int) := by omega
  have HZ0 : Hid (Blk (w.alloc (.cells #[.int .i64 0, .int .i64 0, .int .i64 0, .int .i64 0, .int .i64 0, .int .i64 0, .int .i64 0, .int .i64 0, .string ⟨#[]⟩] 25)) w.heap.size #[.int .i64 0, .int .i64 0, .int .i64 0, .int .i64 0, .int .i64 0, .int .i64 0, .int .i64 0, .int .i64 0, .string ⟨#[]⟩] 25) := Blk.new _ _ _
  have HB0 : Hid (Below w.heap.size w (w.alloc (.cells #[.int .i64 0, .int .i64 0, .int .i64 0, .int .i64 0, .int .i64 0, .int .i64 0, .int .i64 0, .int .i64 0, .string ⟨#[]⟩] 25))) := (Below.refl _ _).alloc (Nat.le_refl _) _
  have HS : Hid (∀ w', Below w.heap.size w w' → Calls Tryz.prog 5 #[.agg #[.int .i64 me, .int .i64 id, .int .i64 te, .int .i64 de, .int .i64 fe, .int .i64 pr, .int .i64 ch, .int .i64 un, .string S]] w' fun e w'' => e = .returned (.tuple #[.string T, .int .i64 f]) ∧ Below w'.heap.size w' w'') := hS
  have HP1 : Hid (f = 0 → T = s → PO = .tuple #[.agg #[.int .i64 me, .int .i64 id, .int .i64 te, .int .i64 de, .int .i64 fe, .int .i64 pr, .int .i64 ch, .int .i64 un, .string S], .int .i64 0]) := hp1
  have HP2 : Hid ((f = 0 → T ≠ s) → PO = .tuple #[.agg #[.int .i64 0, .int .i64 0, .int .i64 0, .int .i64 0, .int .i64 0, .int .i64 0, .int .i64 0, .int .i64 0, .string ⟨#[]⟩], .int .i64 3]) := hp2
  have HG := hG _ HB0.out
  clear h hG hS hp1 hp2
  go_enter Tryz.func4, Tryz.ntmps4
  go_upto_region 1 with fail
  generalize w.alloc (.cells #[.int .i64 0, .int .i64 0, .int .i64 0, .int .i64 0, .int .i64 0, .int .i64 0, .int .i64 0, .int .i64 0, .string ⟨#[]⟩] 25) = W0 at *
  go_wp2_with fail
  refine HG.mono ?_
  rintro e W1 ⟨rfl, hb⟩
  have HB1 : Hid (Below w.heap.size w W1) := bel_step HB0.out hb
  have HZ1 : Hid (Blk W1 w.heap.size #[.int .i64 0, .int .i64 0, .int .i64 0, .int .i64 0, .int .i64 0, .int .i64 0, .int .i64 0, .int .i64 0, .string ⟨#[]⟩] 25) := HZ0.out.next hb
  clear HG hb HZ0 HB0
  have HX2 : Hid (Blk (W1.alloc (.cells #[.int .i64 me, .int .i64 id, .int .i64 te, .int .i64 de, .int .i64 fe, .int .i64 pr, .int .i64 ch, .int .i64 un, .string S] 25)) W1.heap.size #[.int .i64 me, .int .i64 id, .int .i64 te, .int .i64 de, .int .i64 fe, .int .i64 pr, .int .i64 ch, .int .i64 un, .string S] 25) := Blk.new _ _ _
  have HB2 : Hid (Below w.heap.size w (W1.alloc (.cells #[.int .i64 me, .int .i64 id, .int .i64 te, .int .i64 de, .int .i64 fe, .int .i64 pr, .int .i64 ch, .int .i64 un, .string S] 25))) := HB1.out.alloc HB1.out.size _
  have HZ2 : Hid (Blk (W1.alloc (.cells #[.int .i64 me, .int .i64 id, .int .i64 te, .int .i64 de, .int .i64 fe, .int .i64 pr, .int .i64 ch, .int .i64 un, .string S] 25)) w.heap.size #[.int .i64 0, .int .i64 0, .int .i64 0, .int .i64 0, .int .i64 0, .int .i64 0, .int .i64 0, .int .i64 0, .string ⟨#[]⟩] 25) := HZ1.out.alloc _
  clear HB1 HZ1
  go_upto_region 4 with fail
  generalize W1.alloc (.cells #[.int .i64 me, .int .i64 id, .int .i64 te, .int .i64 de, .int .i64 fe, .int .i64 pr, .int .i64 ch, .int .i64 un, .string S] 25) = W2 at *
  generalize W1.heap.size = g1 at *
  have HSC := HS.out W2 HB2.out
  clear HS
  have c0 : W2.cell? ⟨g1, 0, none⟩ = some (.int .i64 me) := HX2.out.cell 0
  have c1 : W2.cell? ⟨g1, 1, none⟩ = some (.int .i64 id) := HX2.out.cell 1
  have c2 : W2.cell? ⟨g1, 2, none⟩ = some (.int .i64 te) := HX2.out.cell 2
  have c3 : W2.cell? ⟨g1, 3, none⟩ = some (.int .i64 de) := HX2.out.cell 3
  have c4 : W2.cell? ⟨g1, 4, none⟩ = some (.int .i64 fe) := HX2.out.cell 4
  have c5 : W2.cell? ⟨g1, 5, none⟩ = some (.int .i64 pr) := HX2.out.cell 5
  have c6 : W2.cell? ⟨g1, 6, none⟩ = some (.int .i64 ch) := HX2.out.cell 6
  have c7 : W2.cell? ⟨g1, 7, none⟩ = some (.int .i64 un) := HX2.out.cell 7
  have c8 : W2.cell? ⟨g1, 8, none⟩ = some (.string S) := HX2.out.cell 8
  go_wp2_with fail
  refine HSC.mono ?_
  rintro e W5 ⟨rfl, hb⟩
  have HB5 : Hid (Below w.heap.size w W5) := bel_step HB2.out hb
  have HZ5 : Hid (Blk W5 w.heap.size #[.int .i64 0, .int .i64 0, .int .i64 0, .int .i64 0, .int .i64 0, .int .i64 0, .int .i64 0, .int .i64 0, .string ⟨#[]⟩] 25) := HZ2.out.next hb
  have HX5 : Hid (Blk W5 g1 #[.int .i64 me, .int .i64 id, .int .i64 te, .int .i64 de, .int .i64 fe, .int .i64 pr, .int .i64 ch, .int .i64 un, .string S] 25) := HX2.out.next hb
  clear hb HSC HX2 HB2 HZ2 c0 c1 c2 c3 c4 c5 c6 c7 c8
  obtain ⟨f0, f1⟩ := hf
  by_cases h0 : f = 0
  case neg =>
    have hq2 : (f != 0) = true := by simpa using h0
    have HPO : Hid (PO = .tuple #[.agg #[.int .i64 0, .int .i64 0, .int .i64 0, .int .i64 0, .int .i64 0, .int .i64 0, .int .i64 0, .int .i64 0, .string ⟨#[]⟩], .int .i64 3]) := HP2.out fun h => absurd h h0
    clear h0 HP1 HP2 HX5
    go_wp2_with (first | (refine wp_letAll rfl 25 _ _ rfl w.heap.size rfl #[.int .i64 0, .int .i64 0, .int .i64 0, .int .i64 0, .int .i64 0, .int .i64 0, .int .i64 0, .int .i64 0, .string ⟨#[]⟩] rfl (by kernel_rfl) (by simp [Value.oneCell']) #[.int .i64 0, .int .i64 0, .int .i64 0, .int .i64 0, .int .i64 0, .int .i64 0, .int .i64 0, .int .i64 0, .string ⟨#[]⟩] 25 HZ5.out rfl ?_) | fail)
    intro WF hUF
    have HBF : Hid (Below w.heap.size w WF) := hUF.bel _ _ (Nat.le_refl _) HB5.out
    have R0 : Hid (WF.cell? ⟨w.heap.size, 0, none⟩ = some (.int .i64 0)) := hUF.blk.cell 0
    have R1 : Hid (WF.cell? ⟨w.heap.size, 1, none⟩ = some (.int .i64 0)) := hUF.blk.cell 1
    have R2 : Hid (WF.cell? ⟨w.heap.size, 2, none⟩ = some (.int .i64 0)) := hUF.blk.cell 2
    have R3 : Hid (WF.cell? ⟨w.heap.size, 3, none⟩ = some (.int .i64 0)) := hUF.blk.cell 3
    have R4 : Hid (WF.cell? ⟨w.heap.size, 4, none⟩ = some (.int .i64 0)) := hUF.blk.cell 4
    have R5 : Hid (WF.cell? ⟨w.heap.size, 5, none⟩ = some (.int .i64 0)) := hUF.blk.cell 5
    have R6 : Hid (WF.cell? ⟨w.heap.size, 6, none⟩ = some (.int .i64 0)) := hUF.blk.cell 6
    have R7 : Hid (WF.cell? ⟨w.heap.size, 7, none⟩ = some (.int .i64 0)) := hUF.blk.cell 7
    have R8 : Hid (WF.cell? ⟨w.heap.size, 8, none⟩ = some (.string ⟨#[]⟩)) := hUF.blk.cell 8
    clear hUF HZ5
    go_wp2_with fail
    exact bodyPost_ret (v := .tuple #[.agg #[.int .i64 0, .int .i64 0, .int .i64 0, .int .i64 0, .int .i64 0, .int .i64 0, .int .i64 0, .int .i64 0, .string ⟨#[]⟩], .int .i64 3]) (by simp [results, Tryz.results4, R0.out, R1.out, R2.out, R3.out, R4.out, R5.out, R6.out, R7.out, R8.out, go_sem]) rfl ⟨by rw [HPO.out], HBF.out⟩
  have hq2 : (f != 0) = false := by simpa using h0
  by_cases hts : T = s
  · have HPO : Hid (PO = .tuple #[.agg #[.int .i64 me, .int .i64 id, .int .i64 te, .int .i64 de, .int .i64 fe, .int .i64 pr, .int .i64 ch, .int .i64 un, .string S], .int .i64 0]) := HP1.out h0 hts
    have hq3 : (T.toList == s.toList) = true := by rw [hts]; simp
    clear HP1 HP2 h0 hts
    have c0 : W5.cell? ⟨g1, 0, none⟩ = some (.int .i64 me) := HX5.out.cell 0
    have c1 : W5.cell? ⟨g1, 1, none⟩ = some (.int .i64 id) := HX5.out.cell 1
    have c2 : W5.cell? ⟨g1, 2, none⟩ = some (.int .i64 te) := HX5.out.cell 2
    have c3 : W5.cell? ⟨g1, 3, none⟩ = some (.int .i64 de) := HX5.out.cell 3
    have c4 : W5.cell? ⟨g1, 4, none⟩ = some (.int .i64 fe) := HX5.out.cell 4
    have c5 : W5.cell? ⟨g1, 5, none⟩ = some (.int .i64 pr) := HX5.out.cell 5
    have c6 : W5.cell? ⟨g1, 6, none⟩ = some (.int .i64 ch) := HX5.out.cell 6
    have c7 : W5.cell? ⟨g1, 7, none⟩ = some (.int .i64 un) := HX5.out.cell 7
    have c8 : W5.cell? ⟨g1, 8, none⟩ = some (.string S) := HX5.out.cell 8
    go_wp2_with (first | (refine wp_letAll rfl 25 _ _ rfl w.heap.size rfl #[.int .i64 me, .int .i64 id, .int .i64 te, .int .i64 de, .int .i64 fe, .int .i64 pr, .int .i64 ch, .int .i64 un, .string S] rfl (by kernel_rfl) (by simp [Value.oneCell']) #[.int .i64 0, .int .i64 0, .int .i64 0, .int .i64 0, .int .i64 0, .int .i64 0, .int .i64 0, .int .i64 0, .string ⟨#[]⟩] 25 HZ5.out rfl ?_) | fail)
    intro WF hUF
    have HBF : Hid (Below w.heap.size w WF) := hUF.bel _ _ (Nat.le_refl _) HB5.out
    have R0 : Hid (WF.cell? ⟨w.heap.size, 0, none⟩ = some (.int .i64 me)) := hUF.blk.cell 0
    have R1 : Hid (WF.cell? ⟨w.heap.size, 1, none⟩ = some (.int .i64 id)) := hUF.blk.cell 1
    have R2 : Hid (WF.cell? ⟨w.heap.size, 2, none⟩ = some (.int .i64 te)) := hUF.blk.cell 2
    have R3 : Hid (WF.cell? ⟨w.heap.size, 3, none⟩ = some (.int .i64 de)) := hUF.blk.cell 3
    have R4 : Hid (WF.cell? ⟨w.heap.size, 4, none⟩ = some (.int .i64 fe)) := hUF.blk.cell 4
    have R5 : Hid (WF.cell? ⟨w.heap.size, 5, none⟩ = some (.int .i64 pr)) := hUF.blk.cell 5
    have R6 : Hid (WF.cell? ⟨w.heap.size, 6, none⟩ = some (.int .i64 ch)) := hUF.blk.cell 6
    have R7 : Hid (WF.cell? ⟨w.heap.size, 7, none⟩ = some (.int .i64 un)) := hUF.blk.cell 7
    have R8 : Hid (WF.cell? ⟨w.heap.size, 8, none⟩ = some (.string S)) := hUF.blk.cell 8
    clear hUF HZ5
    go_wp2_with fail
    exact bodyPost_ret (v := .tuple #[.agg #[.int .i64 me, .int .i64 id, .int .i64 te, .int .i64 de, .int .i64 fe, .int .i64 pr, .int .i64 ch, .int .i64 un, .string S], .int .i64 0]) (by simp [results, Tryz.results4, R0.out, R1.out, R2.out, R3.out, R4.out, R5.out, R6.out, R7.out, R8.out, go_sem]) rfl ⟨by rw [HPO.out], HBF.out⟩
  · have HPO : Hid (PO = .tuple #[.agg #[.int .i64 0, .int .i64 0, .int .i64 0, .int .i64 0, .int .i64 0, .int .i64 0, .int .i64 0, .int .i64 0, .string ⟨#[]⟩], .int .i64 3]) := HP2.out fun _ => hts
    have hq3 : (T.toList == s.toList) = false := by
      cases hx : (T.toList == s.toList) with
      | false => rfl
      | true =>
        exfalso
        apply hts
        have := eq_of_beq hx
        rw [ByteArray.toList_eq, ByteArray.toList_eq] at this
        exact ByteArray.ext (Array.ext' this)
    clear HP1 HP2 h0 hts HX5
    go_wp2_with (first | (refine wp_letAll rfl 25 _ _ rfl w.heap.size rfl #[.int .i64 0, .int .i64 0, .int .i64 0, .int .i64 0, .int .i64 0, .int .i64 0, .int .i64 0, .int .i64 0, .string ⟨#[]⟩] rfl (by kernel_rfl) (by simp [Value.oneCell']) #[.int .i64 0, .int .i64 0, .int .i64 0, .int .i64 0, .int .i64 0, .int .i64 0, .int .i64 0, .int .i64 0, .string ⟨#[]⟩] 25 HZ5.out rfl ?_) | fail)
    intro WF hUF
    have HBF : Hid (Below w.heap.size w WF) := hUF.bel _ _ (Nat.le_refl _) HB5.out
    have R0 : Hid (WF.cell? ⟨w.heap.size, 0, none⟩ = some (.int .i64 0)) := hUF.blk.cell 0
    have R1 : Hid (WF.cell? ⟨w.heap.size, 1, none⟩ = some (.int .i64 0)) := hUF.blk.cell 1
    have R2 : Hid (WF.cell? ⟨w.heap.size, 2, none⟩ = some (.int .i64 0)) := hUF.blk.cell 2
    have R3 : Hid (WF.cell? ⟨w.heap.size, 3, none⟩ = some (.int .i64 0)) := hUF.blk.cell 3
    have R4 : Hid (WF.cell? ⟨w.heap.size, 4, none⟩ = some (.int .i64 0)) := hUF.blk.cell 4
    have R5 : Hid (WF.cell? ⟨w.heap.size, 5, none⟩ = some (.int .i64 0)) := hUF.blk.cell 5
    have R6 : Hid (WF.cell? ⟨w.heap.size, 6, none⟩ = some (.int .i64 0)) := hUF.blk.cell 6
    have R7 : Hid (WF.cell? ⟨w.heap.size, 7, none⟩ = some (.int .i64 0)) := hUF.blk.cell 7
    have R8 : Hid (WF.cell? ⟨w.heap.size, 8, none⟩ = some (.string ⟨#[]⟩)) := hUF.blk.cell 8
    clear hUF HZ5
    go_wp2_with fail
    exact bodyPost_ret (v := .tuple #[.agg #[.int .i64 0, .int .i64 0, .int .i64 0, .int .i64 0, .int .i64 0, .int .i64 0, .int .i64 0, .int .i64 0, .string ⟨#[]⟩], .int .i64 3]) (by simp [results, Tryz.results4, R0.out, R1.out, R2.out, R3.out, R4.out, R5.out, R6.out, R7.out, R8.out, go_sem]) rfl ⟨by rw [HPO.out], HBF.out⟩

theorem read_any (s : ByteArray) (w : World) (ht : RTab w) : Calls Tryz.prog 4 #[.string s] w fun e w' => ReadPost w s.data.toList e w' := by
  have hl : s.data.toList.length = s.size := Array.length_toList
  by_cases h : 400 < s.size
  · refine (read_big s w h).mono ?_
    rintro e w' ⟨rfl, hb⟩
    exact ⟨rc0, 1, rfl, .inl ⟨by omega, rfl, rfl⟩, hb⟩
  · obtain ⟨me, em, hm⟩ := meter_ex (found s.data.toList nMETER)
    obtain ⟨f, hf⟩ := fault_ex (gs s.data.toList me)
    have hgs : ∀ x, Right x → paper x = s.data.toList → gs s.data.toList me = x := fun x hx hp => by
      rw [← hp] at hm ⊢
      exact gs_right hx hm
    have hT : ∀ l : List UInt8, (⟨l.toArray⟩ : ByteArray) = s → l = s.data.toList := fun l e => by rw [← e]
    refine (read_abs s (if f = 0 then ⟨(paper (gs s.data.toList me)).toArray⟩ else ⟨#[]⟩) ⟨(gs s.data.toList me).tk.toArray⟩ (gs s.data.toList me).me (gs s.data.toList me).id (gs s.data.toList me).te (gs s.data.toList me).de (gs s.data.toList me).fe (gs s.data.toList me).pr (gs s.data.toList me).ch (gs s.data.toList me).un f w
      (if f = 0 ∧ paper (gs s.data.toList me) = s.data.toList then .tuple #[(gs s.data.toList me).v, .int .i64 0] else .tuple #[Rc.v rc0, .int .i64 3]) (by omega) hf.bd (fun h0 e => ?_) (fun hn => ?_) (fun w' hb => guess_any s me em w' (by omega) (ht.below hb) hm) (fun w' hb => ?_)).mono ?_
    · rw [if_pos h0] at e
      rw [if_pos ⟨h0, hT _ e⟩]
      rfl
    · rw [if_neg ?_]
      · rfl
      · rintro ⟨h0, e⟩
        refine hn h0 ?_
        rw [if_pos h0, e]
    · refine (show_any (gs s.data.toList me) w' (ht.below hb).s).mono ?_
      rintro e w'' ⟨l, g, rfl, ⟨hg, hx⟩, hb2⟩
      obtain rfl := hg.one hf
      refine ⟨?_, hb2⟩
      rcases hx with ⟨h0, rfl⟩ | ⟨h0, rfl⟩
      · rw [if_pos h0]
      · rw [if_neg h0]
    · rintro e w' ⟨rfl, hb⟩
      by_cases hc : f = 0 ∧ paper (gs s.data.toList me) = s.data.toList
      · rw [if_pos hc]
        exact ⟨gs s.data.toList me, 0, rfl, .inr (.inr ⟨by omega, hf.ok.1 hc.1, hc.2, rfl⟩), hb⟩
      · rw [if_neg hc]
        refine ⟨rc0, 3, rfl, .inr (.inl ⟨by omega, fun x hx hp => hc ?_, rfl, rfl⟩), hb⟩
        have e := hgs x hx hp
        rw [e] at hf ⊢
        exact ⟨hf.ok.2 hx, hp⟩
theorem kread {w : World} (ht : RTab w) : KrRead w := fun W s hb => read_any s W (ht.below hb)

end Go.Proofs.YtlicdeppfhmfjabGreatDoor.rcp

/- The two tables of token, out of what a row says of them; raw numbers that came in. -/
namespace Go.Proofs.YtlicdeppfhmfjabGreatDoor.token
open Go.ChangeShapes Go.WideShapes Go.ChangeAt Go.RowKit Go.Deep
set_option maxRecDepth 100000

theorem laid_tail {P : Program} {x : String × DataW Unit} {rest : List (String × DataW Unit)} {W : World} (h : laidMet P (x :: rest) W) : laidMet P rest W := by
  obtain ⟨ps, ⟨g, t, cs, fuel, p, q, _, _, _, _, hrest, hps⟩, hnd, hcell⟩ := h
  subst hps
  exact ⟨q, hrest, (List.nodup_append.1 hnd).2.1, fun b off hm => hcell b off (List.mem_append_right _ hm)⟩
theorem ttab_of {W : World} {n1 n2 : String} (h1 : Tryz.prog.globalNamed n1 = some 0) (h2 : Tryz.prog.globalNamed n2 = some 1)
    (h : laidMet Tryz.prog [(n1, .agg [.agg [.lit (.int .i64 57), .lit (.int .i64 3)], .agg [.lit (.int .i64 37), .lit (.int .i64 20)], .agg [.lit (.int .i64 16), .lit (.int .i64 21)], .agg [.lit (.int .i64 0), .lit (.int .i64 16)]]),
      (n2, .agg [.agg [.lit (.int .i64 1), .lit (.int .i64 2097151)], .agg [.lit (.int .i64 0), .lit (.int .i64 0)], .agg [.lit (.int .i64 1), .lit (.int .i64 15)], .agg [.lit (.int .i64 0), .lit (.int .i64 0)]])] W) : TTab W :=
  ⟨eight_of h1 (by kernel_rfl) Tryz.underlying114 (by kernel_rfl) (by kernel_rfl) Tryz.underlying113 (by kernel_rfl) Tryz.underlying3 rfl rfl h,
   eight_of h2 (by kernel_rfl) Tryz.underlying119 (by kernel_rfl) (by kernel_rfl) Tryz.underlying118 (by kernel_rfl) Tryz.underlying3 rfl rfl (laid_tail h)⟩

end Go.Proofs.YtlicdeppfhmfjabGreatDoor.token

/- What a list of laid variables gives: the tail of the list; an error that is there; a number that is there. -/
namespace Go.Proofs.YtlicdeppfhmfjabGreatDoor.rct
open Go.RowKit

theorem met_tail {P : Program} {x : String × DataW Unit} {rest : List (String × DataW Unit)} {W : World} (h : laidMet P (x :: rest) W) : laidMet P rest W := by
  obtain ⟨ps, hv, hn, hc⟩ := h
  obtain ⟨g', t', cs, fuel, p, q, hg', ht', hvar, hd, hr, rfl⟩ := hv
  exact ⟨q, hr, (List.nodup_append.1 hn).2.1, fun b off hm => hc b off (List.mem_append_right _ hm)⟩
theorem err_of {P : Program} {n nm : String} {d : DataW Unit} {rest : List (String × DataW Unit)} {W : World} {g : Nat} {ti : TypeId} {ms : Array (String × TypeId)} (h : laidMet P ((n, .iface nm d) :: rest) W)
    (hg : P.globalNamed n = some g) (ht : (P.globals[g]?).map (·.type) = some ti) (hi : P.underlying ti = some (.interface ms)) :
    ∃ tp p, W.var? P n = some #[.iface tp p] := by
  obtain ⟨ps, ⟨g0, t0, cs0, f0, p0, q0, hg0, ht0, hv0, hd0, _, e0⟩, _, _⟩ := h
  obtain rfl := Option.some.inj (hg.symm.trans hg0)
  obtain rfl := Option.some.inj (ht.symm.trans ht0)
  obtain ⟨f1, u, v, hcs, _, _⟩ := iface_of_trod hi hd0
  refine ⟨u, v, ?_⟩
  rw [hv0]
  obtain ⟨l0⟩ := cs0
  simp only at hcs
  rw [hcs]

end Go.Proofs.YtlicdeppfhmfjabGreatDoor.rct
