import Derived.Test.YtomibnggmhjdfaaGreatVVendLoads1
import Derived.Test.YtomibnggmhjdfaaGreatVVendLoads4
set_option linter.unusedVariables false
set_option linter.unusedSimpArgs false
namespace Go.Proofs.YtomibnggmhjdfaaGreat
namespace book
open Go.RowKit
set_option maxRecDepth 100000
def leftE (v : Ev) : Ev := if v.kd = 2 then ⟨0, 0, 0, 0, 0, 0, 0, 0, 0, 0, 0, v.ow, v.bp⟩ else if v.kd = 3 then ⟨0, 0, 0, 0, v.te, v.de, v.fe, v.pr, v.ch, 0, 0, v.ow, v.bp⟩ else if v.kd = 4 then ⟨0, 0, v.mo, 0, v.te, v.de, v.fe, v.pr, v.ch, v.un, 0, v.ow, v.bp⟩ else if v.kd = 5 then ⟨0, 0, v.mo, v.id, v.te, v.de, v.fe, v.pr, v.ch, v.un, v.tg, 0, 0⟩ else ⟨0, 0, v.mo, v.id, v.te, v.de, v.fe, v.pr, v.ch, v.un, v.tg, v.ow, v.bp⟩
def Numd (id tg : Int) : Prop := (1 ≤ id ∧ id ≤ 1048575) ∧ 0 ≤ tg ∧ tg ≤ 65535
def Unt (un : Int) : Prop := 1 ≤ un ∧ un ≤ 2097151
def Mon (mo : Int) : Prop := 0 ≤ mo ∧ mo ≤ 2399
def Mony (te de fe pr ch : Int) : Prop := (1 ≤ te ∧ te ≤ 100000000) ∧ ((0 ≤ de ∧ de ≤ 100000000) ∧ (0 ≤ fe ∧ fe ≤ 100000000) ∧ (0 ≤ pr ∧ pr ≤ 100000000) ∧ 0 ≤ ch ∧ ch ≤ 100000000) ∧ de + fe + pr + ch = te
def Dbt (ow bp : Int) : Prop := (1 ≤ ow ∧ ow ≤ 1000000000) ∧ 0 ≤ bp ∧ bp ≤ 10000
def KindR (v : Ev) : Prop := v.kd = 1 ∨ (v.kd = 2 ∧ Mon v.mo ∧ Numd v.id v.tg ∧ Unt v.un ∧ Mony v.te v.de v.fe v.pr v.ch) ∨ (v.kd = 3 ∧ Mon v.mo ∧ Numd v.id v.tg ∧ Unt v.un) ∨ (v.kd = 4 ∧ Numd v.id v.tg) ∨ (v.kd = 5 ∧ Dbt v.ow v.bp)
set_option maxHeartbeats 2000000 in
theorem may_iff (v : Ev) : EMay v ↔ (0 ≤ v.me ∧ v.me ≤ 49) ∧ KindR v ∧ leftE v = ev0 := by
 obtain ⟨kd, me, mo, id, te, de, fe, pr, ch, un, tg, ow, bp⟩ := v
 unfold EMay KindR leftE ev0 Numd Unt Mon Mony Dbt
 simp only
 by_cases h1 : kd = 1
 ·subst h1; simp
 by_cases h2 : kd = 2
 ·subst h2; simp; intro _ _; constructor <;> intro h <;> omega
 by_cases h3 : kd = 3
 ·subst h3; simp; intro _ _; constructor <;> intro h <;> omega
 by_cases h4 : kd = 4
 ·subst h4; simp; intro _ _; constructor <;> intro h <;> omega
 by_cases h5 : kd = 5
 ·subst h5; simp; intro _ _; constructor <;> intro h <;> omega
 constructor
 ·rintro ⟨_, h | h | h⟩
  ·exact absurd h.1 h1
  ·exact absurd h.1 h5
  ·have := h.1; omega
 ·rintro ⟨_, h | h | h | h | h, _⟩
  ·exact absurd h h1
  ·exact absurd h.1 h2
  ·exact absurd h.1 h3
  ·exact absurd h.1 h4
  ·exact absurd h.1 h5
theorem kind_2 {v : Ev} (h : v.kd = 2) : KindR v ↔ Mon v.mo ∧ Numd v.id v.tg ∧ Unt v.un ∧ Mony v.te v.de v.fe v.pr v.ch := by simp [KindR, h]
theorem kind_3 {v : Ev} (h : v.kd = 3) : KindR v ↔ Mon v.mo ∧ Numd v.id v.tg ∧ Unt v.un := by simp [KindR, h]
theorem kind_4 {v : Ev} (h : v.kd = 4) : KindR v ↔ Numd v.id v.tg := by simp [KindR, h]
theorem kind_5 {v : Ev} (h : v.kd = 5) : KindR v ↔ Dbt v.ow v.bp := by simp [KindR, h]
def YN (w : World) (P : Prop) (e : Ending) (w' : World) : Prop := ∃ B, e = .returned (.bool B) ∧ (B = true ↔ P) ∧ Below w.heap.size w w'
theorem YN.yes {w w' : World} {P : Prop} (h : P) (hb : Below w.heap.size w w') : YN w P (.returned (.bool true)) w' := ⟨true, rfl, ⟨fun _ => h, fun _ => rfl⟩, hb⟩
theorem YN.no {w w' : World} {P : Prop} (h : ¬ P) (hb : Below w.heap.size w w') : YN w P (.returned (.bool false)) w' := ⟨false, rfl, ⟨fun q => (by cases q), fun q => absurd q h⟩, hb⟩
end book
namespace bki
open Go.RowKit
def Row (w : World) (a : Option Addr) (len : Nat) (zs : List Int) : Prop :=
 zs.length = len ∧ (len = 0 ∨ ∃ b off, a = some ⟨b, off, none⟩ ∧ ∀ i, i < len → w.cell? ⟨b, off + i, none⟩ = some (.int .i64 (zs.getD i 0)))
def okAll (lo hi : Int) (l : List Int) : Bool := l.all fun n => decide (lo ≤ n) && decide (n ≤ hi)
theorem okAll_step (lo hi : Int) (zs : List Int) (k : Nat) (hk : k < zs.length) (h : okAll lo hi (zs.take k) = true) (h1 : lo ≤ zs.getD k 0) (h2 : zs.getD k 0 ≤ hi) : okAll lo hi (zs.take (k + 1)) = true := by
 unfold okAll at *
 rw [List.take_add_one, List.all_append, h]
 simp only [List.getD, List.getElem?_eq_getElem hk, Option.getD] at h1 h2 ⊢
 simp [h1, h2]
theorem okAll_no (lo hi : Int) (zs : List Int) (k : Nat) (hk : k < zs.length) (h : zs.getD k 0 < lo ∨ hi < zs.getD k 0) : okAll lo hi zs = false := by
 unfold okAll
 rw [List.all_eq_false]
 refine ⟨zs[k], List.getElem_mem hk, ?_⟩
 simp only [List.getD, List.getElem?_eq_getElem hk, Option.getD] at h
 simp; omega
theorem ret_bool {a b : Bool} (h : a = b) : Ending.returned (.bool a) = .returned (.bool b) := by rw [h]
set_option maxHeartbeats 400000 in
theorem within_any (lo hi : Int) (a : Option Addr) (len cap : Nat) (zs : List Int) (w : World) (hr : Row w a len zs) (hl : len ≤ maxLen) :
  Calls Tryz.prog 84 #[.int .i64 lo, .int .i64 hi, .slice a len cap] w fun e w' => e = .returned (.bool (okAll lo hi zs)) ∧ w' = w := by
 unfold maxLen at hl
 obtain ⟨hz, hr⟩ := hr
 go_enter Tryz.func84, Tryz.ntmps84
 go_wp2
 go_loop [11] (fun i => ∃ k : Nat, k ≤ len ∧ i = .int .i64 k ∧ okAll lo hi (zs.take k) = true) (fun i => len - (intOf i).toNat)
 case atStart => exact ⟨0, Nat.zero_le _, rfl, rfl⟩
 case round =>
  obtain ⟨k, hk, rfl, hok⟩ := hrel
  have HK : Hid (okAll lo hi (zs.take k) = true) := hok
  clear hok
  by_cases hlt : k < len
  ·rcases hr with h0 | ⟨b, off, rfl, hc⟩
   ·omega
   have hcell := hc k hlt
   clear hc
   generalize hzk : zs.getD k 0 = z at hcell
   have HZ : Hid (zs.getD k 0 = z) := hzk
   clear hzk
   by_cases h1 : z < lo
   ·go_wp2
    go_ret
    exact ⟨ret_bool (okAll_no lo hi zs k (by omega) (.inl (by rw [HZ.out]; exact h1))).symm, rfl⟩
   ·by_cases h2 : hi < z
    ·go_wp2
     go_ret
     exact ⟨ret_bool (okAll_no lo hi zs k (by omega) (.inr (by rw [HZ.out]; exact h2))).symm, rfl⟩
    ·go_wp2
     go_round
     case rel => exact ⟨k + 1, by omega, by go_num, okAll_step lo hi zs k (by omega) HK.out (by rw [HZ.out]; omega) (by rw [HZ.out]; omega)⟩
     case measure => simp [intOf]; omega
  ·go_wp2
   go_ret
   refine ⟨ret_bool ?_, rfl⟩
   have := HK.out
   rw [List.take_of_length_le (by omega)] at this
   exact this.symm
theorem row_one (w : World) (z : Int) (t : TypeId) : Row (w.alloc (.cells #[.int .i64 z] t)) (some ⟨w.heap.size, 0, none⟩) 1 [z] := by
 refine ⟨rfl, .inr ⟨_, _, rfl, fun i hi => ?_⟩⟩
 obtain rfl : i = 0 := by omega
 simp
theorem bel1 (w : World) (o : Obj) : Below w.heap.size w (w.alloc o) := (Below.refl _ _).alloc (Nat.le_refl _) _
theorem bel2 (w : World) (o o' : Obj) : Below w.heap.size w ((w.alloc o).alloc o') := (bel1 w o).alloc (by simp) _
theorem within_one (lo hi z : Int) (w : World) (b : Nat) (hb : b = w.heap.size) :
  Calls Tryz.prog 84 #[.int .i64 lo, .int .i64 hi, .slice (some ⟨b, 0, none⟩) 1 1] (w.alloc (.cells #[.int .i64 z] 3)) fun e w' => e = .returned (.bool (decide (lo ≤ z ∧ z ≤ hi))) ∧ w' = w.alloc (.cells #[.int .i64 z] 3) := by
 have h := within_any lo hi _ 1 1 [z] _ (row_one w z 3) (by decide)
 have e : okAll lo hi [z] = decide (lo ≤ z ∧ z ≤ hi) := by simp [okAll]
 rw [e] at h
 rw [hb]
 exact h
theorem row_four (w : World) (a b c d : Int) (t : TypeId) : Row (w.alloc (.cells #[.int .i64 a, .int .i64 b, .int .i64 c, .int .i64 d] t)) (some ⟨w.heap.size, 0, none⟩) 4 [a, b, c, d] := by
 refine ⟨rfl, .inr ⟨_, _, rfl, fun i hi => ?_⟩⟩
 match i, hi with
 | 0, _ => simp
 | 1, _ => simp
 | 2, _ => simp
 | 3, _ => simp
end bki
namespace book
open Go.RowKit
set_option maxRecDepth 100000
set_option maxHeartbeats 4000000 in
theorem bnum (kd me mo id te de fe pr ch un tg ow bp : Int) (w : World) : Calls Tryz.prog 97 #[.agg #[.int .i64 kd, .int .i64 me, .int .i64 mo, .int .i64 id, .int .i64 te, .int .i64 de, .int .i64 fe, .int .i64 pr, .int .i64 ch, .int .i64 un, .int .i64 tg, .int .i64 ow, .int .i64 bp]] w fun e w' => YN w (Numd id tg) e w' := by
 obtain ⟨W0, HWW, HX0, HB0, -⟩ := sh1 w #[.int .i64 kd, .int .i64 me, .int .i64 mo, .int .i64 id, .int .i64 te, .int .i64 de, .int .i64 fe, .int .i64 pr, .int .i64 ch, .int .i64 un, .int .i64 tg, .int .i64 ow, .int .i64 bp] 71
 go_enter Tryz.func97, Tryz.ntmps97
 go_upto_region 1 with fail
 rw [HWW.out]
 clear HWW
 have c0 : W0.cell? ⟨w.heap.size, 0, none⟩ = some (.int .i64 kd) := HX0.out.cell 0
 have c1 : W0.cell? ⟨w.heap.size, 1, none⟩ = some (.int .i64 me) := HX0.out.cell 1
 have c2 : W0.cell? ⟨w.heap.size, 2, none⟩ = some (.int .i64 mo) := HX0.out.cell 2
 have c3 : W0.cell? ⟨w.heap.size, 3, none⟩ = some (.int .i64 id) := HX0.out.cell 3
 have c4 : W0.cell? ⟨w.heap.size, 4, none⟩ = some (.int .i64 te) := HX0.out.cell 4
 have c5 : W0.cell? ⟨w.heap.size, 5, none⟩ = some (.int .i64 de) := HX0.out.cell 5
 have c6 : W0.cell? ⟨w.heap.size, 6, none⟩ = some (.int .i64 fe) := HX0.out.cell 6
 have c7 : W0.cell? ⟨w.heap.size, 7, none⟩ = some (.int .i64 pr) := HX0.out.cell 7
 have c8 : W0.cell? ⟨w.heap.size, 8, none⟩ = some (.int .i64 ch) := HX0.out.cell 8
 have c9 : W0.cell? ⟨w.heap.size, 9, none⟩ = some (.int .i64 un) := HX0.out.cell 9
 have c10 : W0.cell? ⟨w.heap.size, 10, none⟩ = some (.int .i64 tg) := HX0.out.cell 10
 have c11 : W0.cell? ⟨w.heap.size, 11, none⟩ = some (.int .i64 ow) := HX0.out.cell 11
 have c12 : W0.cell? ⟨w.heap.size, 12, none⟩ = some (.int .i64 bp) := HX0.out.cell 12
 have HW0 : Hid (Calls Tryz.prog 84 #[.int .i64 1, .int .i64 1048575, .slice (some ⟨W0.heap.size, 0, none⟩) 1 1] (W0.alloc (.cells #[.int .i64 id] 3)) fun e w' => e = .returned (.bool (decide (1 ≤ id ∧ id ≤ 1048575))) ∧ w' = (W0.alloc (.cells #[.int .i64 id] 3))) := bki.within_one 1 1048575 id W0 _ rfl
 have HB1 : Hid (Below w.heap.size w (W0.alloc (.cells #[.int .i64 id] 3))) := HB0.out.alloc HB0.out.size _
 have HX1 : Hid (Blk (W0.alloc (.cells #[.int .i64 id] 3)) w.heap.size #[.int .i64 kd, .int .i64 me, .int .i64 mo, .int .i64 id, .int .i64 te, .int .i64 de, .int .i64 fe, .int .i64 pr, .int .i64 ch, .int .i64 un, .int .i64 tg, .int .i64 ow, .int .i64 bp] 71) := HX0.out.alloc _
 by_cases h0 : 1 ≤ id ∧ id ≤ 1048575
 case neg =>
  rw [decide_eq_false h0] at HW0
  go_wp2_with fail
  refine HW0.out.mono ?_
  rintro e W ⟨rfl, hw⟩
  subst hw
  clear HW0
  go_wp2_with fail
  go_ret
  exact YN.no (fun q => h0 q.1) HB1.out
 rw [decide_eq_true h0] at HW0
 go_wp2_with fail
 refine HW0.out.mono ?_
 rintro e W ⟨rfl, hw⟩
 subst hw
 clear HW0 HB0 HX0
 clear c0 c1 c2 c3 c4 c5 c6 c7 c8 c9 c10 c11 c12
 generalize (W0.alloc (.cells #[.int .i64 id] 3)) = W1 at *
 have c0 : W1.cell? ⟨w.heap.size, 0, none⟩ = some (.int .i64 kd) := HX1.out.cell 0
 have c1 : W1.cell? ⟨w.heap.size, 1, none⟩ = some (.int .i64 me) := HX1.out.cell 1
 have c2 : W1.cell? ⟨w.heap.size, 2, none⟩ = some (.int .i64 mo) := HX1.out.cell 2
 have c3 : W1.cell? ⟨w.heap.size, 3, none⟩ = some (.int .i64 id) := HX1.out.cell 3
 have c4 : W1.cell? ⟨w.heap.size, 4, none⟩ = some (.int .i64 te) := HX1.out.cell 4
 have c5 : W1.cell? ⟨w.heap.size, 5, none⟩ = some (.int .i64 de) := HX1.out.cell 5
 have c6 : W1.cell? ⟨w.heap.size, 6, none⟩ = some (.int .i64 fe) := HX1.out.cell 6
 have c7 : W1.cell? ⟨w.heap.size, 7, none⟩ = some (.int .i64 pr) := HX1.out.cell 7
 have c8 : W1.cell? ⟨w.heap.size, 8, none⟩ = some (.int .i64 ch) := HX1.out.cell 8
 have c9 : W1.cell? ⟨w.heap.size, 9, none⟩ = some (.int .i64 un) := HX1.out.cell 9
 have c10 : W1.cell? ⟨w.heap.size, 10, none⟩ = some (.int .i64 tg) := HX1.out.cell 10
 have c11 : W1.cell? ⟨w.heap.size, 11, none⟩ = some (.int .i64 ow) := HX1.out.cell 11
 have c12 : W1.cell? ⟨w.heap.size, 12, none⟩ = some (.int .i64 bp) := HX1.out.cell 12
 have HW1 : Hid (Calls Tryz.prog 84 #[.int .i64 0, .int .i64 65535, .slice (some ⟨W1.heap.size, 0, none⟩) 1 1] (W1.alloc (.cells #[.int .i64 tg] 3)) fun e w' => e = .returned (.bool (decide (0 ≤ tg ∧ tg ≤ 65535))) ∧ w' = (W1.alloc (.cells #[.int .i64 tg] 3))) := bki.within_one 0 65535 tg W1 _ rfl
 have HB2 : Hid (Below w.heap.size w (W1.alloc (.cells #[.int .i64 tg] 3))) := HB1.out.alloc HB1.out.size _
 have HX2 : Hid (Blk (W1.alloc (.cells #[.int .i64 tg] 3)) w.heap.size #[.int .i64 kd, .int .i64 me, .int .i64 mo, .int .i64 id, .int .i64 te, .int .i64 de, .int .i64 fe, .int .i64 pr, .int .i64 ch, .int .i64 un, .int .i64 tg, .int .i64 ow, .int .i64 bp] 71) := HX1.out.alloc _
 by_cases h1 : 0 ≤ tg ∧ tg ≤ 65535
 case neg =>
  rw [decide_eq_false h1] at HW1
  go_wp2_with fail
  refine HW1.out.mono ?_
  rintro e W ⟨rfl, hw⟩
  subst hw
  clear HW1
  go_wp2_with fail
  go_ret
  exact YN.no (fun q => h1 q.2) HB2.out
 rw [decide_eq_true h1] at HW1
 go_wp2_with fail
 refine HW1.out.mono ?_
 rintro e W ⟨rfl, hw⟩
 subst hw
 clear HW1 HB1 HX1
 clear c0 c1 c2 c3 c4 c5 c6 c7 c8 c9 c10 c11 c12
 generalize (W1.alloc (.cells #[.int .i64 tg] 3)) = W2 at *
 have c0 : W2.cell? ⟨w.heap.size, 0, none⟩ = some (.int .i64 kd) := HX2.out.cell 0
 have c1 : W2.cell? ⟨w.heap.size, 1, none⟩ = some (.int .i64 me) := HX2.out.cell 1
 have c2 : W2.cell? ⟨w.heap.size, 2, none⟩ = some (.int .i64 mo) := HX2.out.cell 2
 have c3 : W2.cell? ⟨w.heap.size, 3, none⟩ = some (.int .i64 id) := HX2.out.cell 3
 have c4 : W2.cell? ⟨w.heap.size, 4, none⟩ = some (.int .i64 te) := HX2.out.cell 4
 have c5 : W2.cell? ⟨w.heap.size, 5, none⟩ = some (.int .i64 de) := HX2.out.cell 5
 have c6 : W2.cell? ⟨w.heap.size, 6, none⟩ = some (.int .i64 fe) := HX2.out.cell 6
 have c7 : W2.cell? ⟨w.heap.size, 7, none⟩ = some (.int .i64 pr) := HX2.out.cell 7
 have c8 : W2.cell? ⟨w.heap.size, 8, none⟩ = some (.int .i64 ch) := HX2.out.cell 8
 have c9 : W2.cell? ⟨w.heap.size, 9, none⟩ = some (.int .i64 un) := HX2.out.cell 9
 have c10 : W2.cell? ⟨w.heap.size, 10, none⟩ = some (.int .i64 tg) := HX2.out.cell 10
 have c11 : W2.cell? ⟨w.heap.size, 11, none⟩ = some (.int .i64 ow) := HX2.out.cell 11
 have c12 : W2.cell? ⟨w.heap.size, 12, none⟩ = some (.int .i64 bp) := HX2.out.cell 12
 go_wp2_with fail
 go_ret
 exact YN.yes (⟨h0, h1⟩) HB2.out
set_option maxHeartbeats 4000000 in
theorem bunt (kd me mo id te de fe pr ch un tg ow bp : Int) (w : World) : Calls Tryz.prog 98 #[.agg #[.int .i64 kd, .int .i64 me, .int .i64 mo, .int .i64 id, .int .i64 te, .int .i64 de, .int .i64 fe, .int .i64 pr, .int .i64 ch, .int .i64 un, .int .i64 tg, .int .i64 ow, .int .i64 bp]] w fun e w' => YN w (Unt un) e w' := by
 obtain ⟨W0, HWW, HX0, HB0, -⟩ := sh1 w #[.int .i64 kd, .int .i64 me, .int .i64 mo, .int .i64 id, .int .i64 te, .int .i64 de, .int .i64 fe, .int .i64 pr, .int .i64 ch, .int .i64 un, .int .i64 tg, .int .i64 ow, .int .i64 bp] 71
 go_enter Tryz.func98, Tryz.ntmps98
 go_upto_region 1 with fail
 rw [HWW.out]
 clear HWW
 have c0 : W0.cell? ⟨w.heap.size, 0, none⟩ = some (.int .i64 kd) := HX0.out.cell 0
 have c1 : W0.cell? ⟨w.heap.size, 1, none⟩ = some (.int .i64 me) := HX0.out.cell 1
 have c2 : W0.cell? ⟨w.heap.size, 2, none⟩ = some (.int .i64 mo) := HX0.out.cell 2
 have c3 : W0.cell? ⟨w.heap.size, 3, none⟩ = some (.int .i64 id) := HX0.out.cell 3
 have c4 : W0.cell? ⟨w.heap.size, 4, none⟩ = some (.int .i64 te) := HX0.out.cell 4
 have c5 : W0.cell? ⟨w.heap.size, 5, none⟩ = some (.int .i64 de) := HX0.out.cell 5
 have c6 : W0.cell? ⟨w.heap.size, 6, none⟩ = some (.int .i64 fe) := HX0.out.cell 6
 have c7 : W0.cell? ⟨w.heap.size, 7, none⟩ = some (.int .i64 pr) := HX0.out.cell 7
 have c8 : W0.cell? ⟨w.heap.size, 8, none⟩ = some (.int .i64 ch) := HX0.out.cell 8
 have c9 : W0.cell? ⟨w.heap.size, 9, none⟩ = some (.int .i64 un) := HX0.out.cell 9
 have c10 : W0.cell? ⟨w.heap.size, 10, none⟩ = some (.int .i64 tg) := HX0.out.cell 10
 have c11 : W0.cell? ⟨w.heap.size, 11, none⟩ = some (.int .i64 ow) := HX0.out.cell 11
 have c12 : W0.cell? ⟨w.heap.size, 12, none⟩ = some (.int .i64 bp) := HX0.out.cell 12
 have HW0 : Hid (Calls Tryz.prog 84 #[.int .i64 1, .int .i64 2097151, .slice (some ⟨W0.heap.size, 0, none⟩) 1 1] (W0.alloc (.cells #[.int .i64 un] 3)) fun e w' => e = .returned (.bool (decide (1 ≤ un ∧ un ≤ 2097151))) ∧ w' = (W0.alloc (.cells #[.int .i64 un] 3))) := bki.within_one 1 2097151 un W0 _ rfl
 have HB1 : Hid (Below w.heap.size w (W0.alloc (.cells #[.int .i64 un] 3))) := HB0.out.alloc HB0.out.size _
 have HX1 : Hid (Blk (W0.alloc (.cells #[.int .i64 un] 3)) w.heap.size #[.int .i64 kd, .int .i64 me, .int .i64 mo, .int .i64 id, .int .i64 te, .int .i64 de, .int .i64 fe, .int .i64 pr, .int .i64 ch, .int .i64 un, .int .i64 tg, .int .i64 ow, .int .i64 bp] 71) := HX0.out.alloc _
 by_cases h0 : 1 ≤ un ∧ un ≤ 2097151
 case neg =>
  rw [decide_eq_false h0] at HW0
  go_wp2_with fail
  refine HW0.out.mono ?_
  rintro e W ⟨rfl, hw⟩
  subst hw
  clear HW0
  go_wp2_with fail
  go_ret
  exact YN.no (fun q => h0 q) HB1.out
 rw [decide_eq_true h0] at HW0
 go_wp2_with fail
 refine HW0.out.mono ?_
 rintro e W ⟨rfl, hw⟩
 subst hw
 clear HW0 HB0 HX0
 clear c0 c1 c2 c3 c4 c5 c6 c7 c8 c9 c10 c11 c12
 generalize (W0.alloc (.cells #[.int .i64 un] 3)) = W1 at *
 have c0 : W1.cell? ⟨w.heap.size, 0, none⟩ = some (.int .i64 kd) := HX1.out.cell 0
 have c1 : W1.cell? ⟨w.heap.size, 1, none⟩ = some (.int .i64 me) := HX1.out.cell 1
 have c2 : W1.cell? ⟨w.heap.size, 2, none⟩ = some (.int .i64 mo) := HX1.out.cell 2
 have c3 : W1.cell? ⟨w.heap.size, 3, none⟩ = some (.int .i64 id) := HX1.out.cell 3
 have c4 : W1.cell? ⟨w.heap.size, 4, none⟩ = some (.int .i64 te) := HX1.out.cell 4
 have c5 : W1.cell? ⟨w.heap.size, 5, none⟩ = some (.int .i64 de) := HX1.out.cell 5
 have c6 : W1.cell? ⟨w.heap.size, 6, none⟩ = some (.int .i64 fe) := HX1.out.cell 6
 have c7 : W1.cell? ⟨w.heap.size, 7, none⟩ = some (.int .i64 pr) := HX1.out.cell 7
 have c8 : W1.cell? ⟨w.heap.size, 8, none⟩ = some (.int .i64 ch) := HX1.out.cell 8
 have c9 : W1.cell? ⟨w.heap.size, 9, none⟩ = some (.int .i64 un) := HX1.out.cell 9
 have c10 : W1.cell? ⟨w.heap.size, 10, none⟩ = some (.int .i64 tg) := HX1.out.cell 10
 have c11 : W1.cell? ⟨w.heap.size, 11, none⟩ = some (.int .i64 ow) := HX1.out.cell 11
 have c12 : W1.cell? ⟨w.heap.size, 12, none⟩ = some (.int .i64 bp) := HX1.out.cell 12
 go_wp2_with fail
 go_ret
 exact YN.yes (h0) HB1.out
set_option maxHeartbeats 4000000 in
theorem bmony (id te de fe pr ch un : Int) (w : World) : Calls Tryz.prog 99 #[.agg #[.int .i64 id, .int .i64 te, .int .i64 de, .int .i64 fe, .int .i64 pr, .int .i64 ch, .int .i64 un]] w fun e w' => YN w (Mony te de fe pr ch) e w' := by
 obtain ⟨W0, HWW, HX0, HB0, -⟩ := sh1 w #[.int .i64 id, .int .i64 te, .int .i64 de, .int .i64 fe, .int .i64 pr, .int .i64 ch, .int .i64 un] 69
 go_enter Tryz.func99, Tryz.ntmps99
 go_upto_region 1 with fail
 rw [HWW.out]
 clear HWW
 obtain ⟨c0, c1, c2, c3, c4, c5, c6⟩ := scl7 HX0
 have HW0 : Hid (Calls Tryz.prog 84 #[.int .i64 1, .int .i64 100000000, .slice (some ⟨W0.heap.size, 0, none⟩) 1 1] (W0.alloc (.cells #[.int .i64 te] 3)) fun e w' => e = .returned (.bool (decide (1 ≤ te ∧ te ≤ 100000000))) ∧ w' = (W0.alloc (.cells #[.int .i64 te] 3))) := bki.within_one 1 100000000 te W0 _ rfl
 have HB1 : Hid (Below w.heap.size w (W0.alloc (.cells #[.int .i64 te] 3))) := HB0.out.alloc HB0.out.size _
 have HX1 : Hid (Blk (W0.alloc (.cells #[.int .i64 te] 3)) w.heap.size #[.int .i64 id, .int .i64 te, .int .i64 de, .int .i64 fe, .int .i64 pr, .int .i64 ch, .int .i64 un] 69) := HX0.out.alloc _
 by_cases h0 : 1 ≤ te ∧ te ≤ 100000000
 case neg =>
  rw [decide_eq_false h0] at HW0
  go_wp2_with fail
  refine HW0.out.mono ?_
  rintro e W ⟨rfl, hw⟩
  subst hw
  clear HW0
  go_wp2_with fail
  go_ret
  exact YN.no (fun q => h0 q.1) HB1.out
 rw [decide_eq_true h0] at HW0
 go_wp2_with fail
 refine HW0.out.mono ?_
 rintro e W ⟨rfl, hw⟩
 subst hw
 clear HW0 HB0 HX0
 clear c0 c1 c2 c3 c4 c5 c6
 generalize (W0.alloc (.cells #[.int .i64 te] 3)) = W1 at *
 obtain ⟨c0, c1, c2, c3, c4, c5, c6⟩ := scl7 HX1
 have HW1 : Hid (Calls Tryz.prog 84 #[.int .i64 0, .int .i64 100000000, .slice (some ⟨W1.heap.size, 0, none⟩) 4 4] (W1.alloc (.cells #[.int .i64 de, .int .i64 fe, .int .i64 pr, .int .i64 ch] 3)) fun e w' => e = .returned (.bool (bki.okAll 0 100000000 [de, fe, pr, ch])) ∧ w' = (W1.alloc (.cells #[.int .i64 de, .int .i64 fe, .int .i64 pr, .int .i64 ch] 3))) := bki.within_any 0 100000000 _ 4 4 [de, fe, pr, ch] _ (bki.row_four W1 de fe pr ch 3) (by decide)
 have HB2 : Hid (Below w.heap.size w (W1.alloc (.cells #[.int .i64 de, .int .i64 fe, .int .i64 pr, .int .i64 ch] 3))) := HB1.out.alloc HB1.out.size _
 have HX2 : Hid (Blk (W1.alloc (.cells #[.int .i64 de, .int .i64 fe, .int .i64 pr, .int .i64 ch] 3)) w.heap.size #[.int .i64 id, .int .i64 te, .int .i64 de, .int .i64 fe, .int .i64 pr, .int .i64 ch, .int .i64 un] 69) := HX1.out.alloc _
 by_cases h1 : bki.okAll 0 100000000 [de, fe, pr, ch] = true
 case neg =>
  rw [show bki.okAll 0 100000000 [de, fe, pr, ch] = false by simpa using h1] at HW1
  go_wp2_with fail
  refine HW1.out.mono ?_
  rintro e W ⟨rfl, hw⟩
  subst hw
  clear HW1
  go_wp2_with fail
  go_ret
  exact YN.no (fun q => h1 (by simpa [bki.okAll] using q.2.1)) HB2.out
 rw [h1] at HW1
 go_wp2_with fail
 refine HW1.out.mono ?_
 rintro e W ⟨rfl, hw⟩
 subst hw
 clear HW1 HB1 HX1
 clear c0 c1 c2 c3 c4 c5 c6
 generalize (W1.alloc (.cells #[.int .i64 de, .int .i64 fe, .int .i64 pr, .int .i64 ch] 3)) = W2 at *
 obtain ⟨c0, c1, c2, c3, c4, c5, c6⟩ := scl7 HX2
 have hh : (0 ≤ de ∧ de ≤ 100000000) ∧ (0 ≤ fe ∧ fe ≤ 100000000) ∧ (0 ≤ pr ∧ pr ≤ 100000000) ∧ 0 ≤ ch ∧ ch ≤ 100000000 := by simpa [bki.okAll] using h1
 have e1 : IntKind.i64.wrap (de + fe) = de + fe := by rw [IntKind.wrap_i64]; omega
 have e2 : IntKind.i64.wrap (de + fe + pr) = de + fe + pr := by rw [IntKind.wrap_i64]; omega
 have e3 : IntKind.i64.wrap (de + fe + pr + ch) = de + fe + pr + ch := by rw [IntKind.wrap_i64]; omega
 have HH : Hid ((0 ≤ de ∧ de ≤ 100000000) ∧ (0 ≤ fe ∧ fe ≤ 100000000) ∧ (0 ≤ pr ∧ pr ≤ 100000000) ∧ 0 ≤ ch ∧ ch ≤ 100000000) := hh
 have H0 : Hid (1 ≤ te ∧ te ≤ 100000000) := h0
 clear hh h1 h0
 by_cases h2 : de + fe + pr + ch = te
 ·have hq : ((de + fe + pr + ch) == te) = true := by simpa using h2
  have H2 : Hid (de + fe + pr + ch = te) := h2
  clear h2
  go_wp2_with fail
  go_ret
  exact YN.yes ⟨H0.out, HH.out, H2.out⟩ HB2.out
 ·have hq : ((de + fe + pr + ch) == te) = false := by simpa using h2
  have H2 : Hid (¬ de + fe + pr + ch = te) := h2
  clear h2
  go_wp2_with fail
  go_ret
  exact YN.no (fun q => H2.out q.2.2) HB2.out
end book
end Go.Proofs.YtomibnggmhjdfaaGreat
