/- Division by 2^32; the number as a uint64. (*Int).Set. (*Int).QuoRem, whatever way the division goes. (*Int).DivMod, whatever way the division goes, of numbers not below 0. (*Int).Mod and Div by 2^32. A number's three words, and what is above them. QuoRem of numbers not below 0. BitLen, Sign and Int64 of numbers not below 0. -/
import Derived.Test.YtmpjmcfgikmgnaaDoorBigM3
namespace Go.Proofs.YtmpjmcfgikmgnaaDoor.words
open Go.RowKit
set_option maxRecDepth 100000

theorem dig_base : (dig 4294967296).length = 2 := by
  rw [dig_pos (by decide), List.length_cons]
  have e : 4294967296 / 4294967296 = 1 := by decide
  rw [e, dig_pos (by decide), List.length_cons]
  have e2 : 1 / 4294967296 = 0 := by decide
  rw [e2, dig_zero]
  rfl

theorem div_base (a b : Option Addr) (n ca cb M : Nat) (w : World) (ha : Ru w a n ca (dig M)) (hb : Ru w b 2 cb (dig 4294967296)) (hn : n ≤ 60) :
    Calls Tryd.prog 70 #[.slice a n ca, .slice b 2 cb] w fun e w' => DivGives w (M / 4294967296) (M % 4294967296) e w' := by
  by_cases h : M < 4294967296
  · have := div_less a b n 2 ca cb M 4294967296 w ha hb (by omega) (by omega) h
    rw [Nat.div_eq_of_lt h, Nat.mod_eq_of_lt h]
    exact this
  · by_cases h2 : n ≤ 2
    · exact div_two a b n 2 ca cb M 4294967296 w ha hb h2 (by decide) (by omega)
    · exact div_long a b n 2 ca cb M 4294967296 31 33 w ha hb hn (by omega) (Nat.le_refl _) (by omega) (by decide) (by decide) (by omega) ⟨by decide, by decide, by decide⟩ (by decide)

set_option maxHeartbeats 1000000 in
theorem uint64_any (z m : Nat) (w : World) (hg : Bg w z m) (hm : m < 18446744073709551616) :
    Calls Tryd.prog 52 #[.pointer (some ⟨z, 0, none⟩)] w fun e w' => e = .returned (.int .u64 (m : Int)) ∧ w' = w := by
  obtain ⟨a, n, c, hcz, ha⟩ := hg
  have c1 := (ob_cells hcz).2.1
  have hn : n ≤ 2 := by
    rw [← ha.len]
    exact dig_len 2 (by omega)
  have el := ha.len
  have hp := plain_val (m := m) (by omega)
  have hx := ha.word 0
  have hy := ha.word 1
  have h1 : n < 2 → (dig m).getD 1 0 = 0 := fun h => by simp [List.getD, List.getElem?_eq_none (show (dig m).length ≤ 1 by omega)]
  have h0 : n < 1 → (dig m).getD 0 0 = 0 := fun h => by simp [List.getD, List.getElem?_eq_none (show (dig m).length ≤ 0 by omega)]
  rcases (by omega : n = 0 ∨ n = 1 ∨ n = 2) with rfl | rfl | rfl
  · have hm0 : m = 0 := by rw [h0 (by omega), h1 (by omega)] at hp; omega
    subst hm0
    clear ha el hp hx hy h0 h1 hcz
    go_enter Tryd.func52, Tryd.ntmps52
    go_wp2_with fail
    go_ret
    exact ⟨rfl, rfl⟩
  · obtain ⟨ba, oa, rfl, hca⟩ := ha.at (i := 0) (by omega)
    rw [h1 (by omega)] at hp
    have hp' : (dig m).getD 0 0 = m := by omega
    rw [hp', Nat.add_zero] at hca
    rw [hp'] at hx
    clear ha el hp hy h0 h1 hp' hcz
    go_enter Tryd.func52, Tryd.ntmps52
    go_wp2_with fail
    go_ret
    exact ⟨rfl, rfl⟩
  · obtain ⟨ba, oa, rfl, hca⟩ := ha.at (i := 0) (by omega)
    obtain ⟨bb, ob, hab, hcb⟩ := ha.at (i := 1) (by omega)
    simp only [Option.some.injEq, Addr.mk.injEq, and_true] at hab
    obtain ⟨rfl, rfl⟩ := hab
    obtain ⟨x, hxx⟩ : ∃ x, (dig m).getD 0 0 = x := ⟨_, rfl⟩
    obtain ⟨y, hyy⟩ : ∃ y, (dig m).getD 1 0 = y := ⟨_, rfl⟩
    rw [hxx, Nat.add_zero] at hca
    rw [hxx] at hx hp
    rw [hyy] at hcb hy hp
    have hor := or_words' y x (by omega) (by omega) (by omega) (by omega)
    have ev : (y : Int) * 4294967296 + (x : Int) = (m : Int) := by omega
    rw [ev] at hor
    clear ha el hp h0 h1 hxx hyy ev hcz
    go_enter Tryd.func52, Tryd.ntmps52
    go_wp2_with fail
    go_ret
    exact ⟨rfl, rfl⟩

end Go.Proofs.YtmpjmcfgikmgnaaDoor.words
namespace Go.Proofs.YtmpjmcfgikmgnaaDoor.words
open Go.RowKit
set_option maxRecDepth 100000

set_option maxHeartbeats 2000000 in
theorem Set_any (z x m : Nat) (w : World) (hx : Bg w x m) (hz : Ob w z) (hxz : x ≠ z) (hm : (dig m).length ≤ 100) :
    Calls Tryd.prog 50 #[.pointer (some ⟨z, 0, none⟩), .pointer (some ⟨x, 0, none⟩)] w fun e w' => OpPost w z m e w' := by
  obtain ⟨xa, xn, xc, x0, x1, xr⟩ := hx.parts
  have HT : Hid (∀ w', Below w.heap.size w w' → Calls Tryd.prog 72 #[.slice xa xn xc] w' fun e w'' => Gives w' m e w'') := fun w' hb => twin_any xa xn xc m w' (xr.below hb) (by rw [← xr.len]; exact hm)
  have HZ : Hid (Ob w z) := hz
  have KW : Hid (Below w.heap.size w w.drew) := (Below.refl _ w).drew
  have KS : Hid (w.drew.cell? ⟨x, 0, none⟩ = some (.bool false) ∧ w.drew.cell? ⟨x, 1, none⟩ = some (.slice xa xn xc)) := ⟨x0, x1⟩
  clear hx hz xr hm
  go_enter Tryd.func50, Tryd.ntmps50
  go_wp2_with fail
  go_region_held (fun v => v.cell? ⟨x, 0, none⟩ = some (.bool false) ∧ v.cell? ⟨x, 1, none⟩ = some (.slice xa xn xc))
    (first | exact K2.out | exact K1.out | exact KS.out)
    (first
      | (go_at_call 72; refine (HT.out _ KW.out).mono ?_; rintro e w1 ⟨ra, rn, rc, rfl, hr, hb⟩
         have B1 : Hid (Below w.heap.size w w1) := KW.out.trans (hb.mono KW.out.size)
         have K1 : Hid (w1.cell? ⟨x, 0, none⟩ = some (.bool false) ∧ w1.cell? ⟨x, 1, none⟩ = some (.slice xa xn xc)) := ⟨cell_bel hb KS.out.1, cell_bel hb KS.out.2⟩
         have R1 : Hid (Ru w1 ra rn rc (dig m)) := hr
         clear hb hr)
      | (go_at_call 65; refine (give_any z _ _ _ _ (HZ.out.below B1.out)).mono ?_; rintro e w2 ⟨rfl, h2, hex⟩
         have K2 : Hid (w2.cell? ⟨x, 0, none⟩ = some (.bool false) ∧ w2.cell? ⟨x, 1, none⟩ = some (.slice xa xn xc)) := ⟨cell_ex hex K1.out.1 hxz, cell_ex hex K1.out.2 hxz⟩
         have F2 : Hid (Bg w2 z m ∧ Ex w w2 z) := ⟨⟨_, _, _, h2, R1.out.ex (HZ.out.below B1.out) hex⟩, Ex.of B1.out hex⟩
         clear h2 hex))
  all_goals (go_wp2_with fail; go_ret; exact ⟨rfl, F2.out.1, F2.out.2⟩)

end Go.Proofs.YtmpjmcfgikmgnaaDoor.words
namespace Go.Proofs.YtmpjmcfgikmgnaaDoor.words
open Go.RowKit
set_option maxRecDepth 100000

/-- Every block that was there, but z and r, is as it was. -/
structure Ex2 (w w' : World) (z r : Nat) : Prop where
  os : w'.os = w.os
  tape : w'.tape = w.tape
  output : w'.output = w.output
  size : w.heap.size ≤ w'.heap.size
  block : ∀ k, k < w.heap.size → k ≠ z → k ≠ r → w'.heap[k]? = w.heap[k]?
theorem Ex2.of {w w1 w2 : World} {z r : Nat} (h : Ex w w1 z) (h' : Ex w1 w2 r) : Ex2 w w2 z r :=
  ⟨h'.os.trans h.os, h'.tape.trans h.tape, h'.output.trans h.output, Nat.le_trans h.size h'.size, fun k hk hz hr => (h'.block k (Nat.lt_of_lt_of_le hk h.size) hr).trans (h.block k hk hz)⟩
theorem Ob.ex {w w' : World} {z r : Nat} (h : Ob w r) (he : Ex w w' z) (hne : r ≠ z) : Ob w' r := by
  have hl := h.lt
  obtain ⟨s, a, n, c, h1⟩ := h
  exact ⟨s, a, n, c, by rw [he.block r hl hne]; exact h1⟩

/-- A quotient behind z and a rest behind r were given back. -/
def QuoPost (w : World) (z r q t : Nat) (e : Ending) (w' : World) : Prop := e = .returned (.tuple #[.pointer (some ⟨z, 0, none⟩), .pointer (some ⟨r, 0, none⟩)]) ∧ Bg w' z q ∧ Bg w' r t ∧ Ex2 w w' z r

set_option maxHeartbeats 2000000 in
theorem quo_of (z x y r q t : Nat) (xa ya : Option Addr) (xn xc yn yc : Nat) (w : World) (x0 : w.cell? ⟨x, 0, none⟩ = some (.bool false)) (x1 : w.cell? ⟨x, 1, none⟩ = some (.slice xa xn xc)) (y0 : w.cell? ⟨y, 0, none⟩ = some (.bool false)) (y1 : w.cell? ⟨y, 1, none⟩ = some (.slice ya yn yc))
    (hz : Ob w z) (hr : Ob w r) (hzr : r ≠ z) (hd : ∀ w', Below w.heap.size w w' → Calls Tryd.prog 70 #[.slice xa xn xc, .slice ya yn yc] w' fun e w'' => DivGives w' q t e w'') :
    Calls Tryd.prog 37 #[.pointer (some ⟨z, 0, none⟩), .pointer (some ⟨x, 0, none⟩), .pointer (some ⟨y, 0, none⟩), .pointer (some ⟨r, 0, none⟩)] w fun e w' => QuoPost w z r q t e w' := by
  have HD : Hid (∀ w', Below w.heap.size w w' → Calls Tryd.prog 70 #[.slice xa xn xc, .slice ya yn yc] w' fun e w'' => DivGives w' q t e w'') := hd
  have HZ : Hid (Ob w z ∧ Ob w r) := ⟨hz, hr⟩
  have hne : (false != false) = false := rfl
  have KW : Hid (∀ q, Below w.heap.size w (w.drewN q).drew) := fun q => (below_drewN (Below.refl _ w) q).drew
  have KS : Hid (∀ q, (w.drewN q).drew.cell? ⟨x, 1, none⟩ = some (.slice xa xn xc) ∧ (w.drewN q).drew.cell? ⟨y, 1, none⟩ = some (.slice ya yn yc)) := fun q => ⟨x1, y1⟩
  clear hz hr hd
  go_enter Tryd.func37, Tryd.ntmps37
  go_wp2_with fail
  go_quiet (fail)
  go_wp2_with fail
  go_region_held (fun v => v.cell? ⟨x, 1, none⟩ = some (.slice xa xn xc) ∧ v.cell? ⟨y, 1, none⟩ = some (.slice ya yn yc))
    (first | exact K1.out | exact KS.out _)
    (first
      | (go_at_call 70; refine (HD.out _ (KW.out _)).mono ?_; rintro e w1 ⟨qa, qn, qc, ta, tn, tc, rfl, hq, ht, hb⟩
         have B1 : Hid (Below w.heap.size w w1) := (KW.out _).trans (hb.mono (KW.out _).size)
         have K1 : Hid (w1.cell? ⟨x, 1, none⟩ = some (.slice xa xn xc) ∧ w1.cell? ⟨y, 1, none⟩ = some (.slice ya yn yc)) := ⟨cell_bel hb (KS.out _).1, cell_bel hb (KS.out _).2⟩
         have R1 : Hid (Ru w1 qa qn qc (dig q) ∧ Ru w1 ta tn tc (dig t)) := ⟨hq, ht⟩
         clear hb hq ht))
  all_goals
    go_wp2_with fail
    refine (give_any z _ _ _ _ (HZ.out.1.below B1.out)).mono ?_
    rintro e w2 ⟨rfl, h2, hex⟩
    have G2 : Hid (Bg w2 z q) := ⟨_, _, _, h2, R1.out.1.ex (HZ.out.1.below B1.out) hex⟩
    have T2 : Hid (Ru w2 ta tn tc (dig t)) := R1.out.2.ex (HZ.out.1.below B1.out) hex
    have O2 : Hid (Ob w2 r) := (HZ.out.2.below B1.out).ex hex hzr
    have E2 : Hid (Ex w w2 z) := Ex.of B1.out hex
    clear h2 hex
    go_wp2_with fail
    refine (give_any r _ _ _ _ O2.out).mono ?_
    rintro e w3 ⟨rfl, h3, hex3⟩
    have F3 : Hid (Bg w3 z q ∧ Bg w3 r t ∧ Ex2 w w3 z r) := ⟨G2.out.ex O2.out hex3 (Ne.symm hzr), ⟨_, _, _, h3, T2.out.ex O2.out hex3⟩, Ex2.of E2.out hex3⟩
    clear h3 hex3
    go_wp2_with fail
    refine bodyPost_ret (v := .tuple #[.pointer (some ⟨z, 0, none⟩), .pointer (some ⟨r, 0, none⟩)]) (by simp [results, Tryd.results37, go_sem]) rfl ⟨rfl, F3.out.1, F3.out.2.1, F3.out.2.2⟩

end Go.Proofs.YtmpjmcfgikmgnaaDoor.words
namespace Go.Proofs.YtmpjmcfgikmgnaaDoor.words
open Go.RowKit
set_option maxRecDepth 100000

theorem Ex2.from {w w1 w' : World} {z r : Nat} (hb : Below w.heap.size w w1) (h : Ex2 w1 w' z r) : Ex2 w w' z r :=
  ⟨h.os.trans hb.os, h.tape.trans hb.tape, h.output.trans hb.output, Nat.le_trans hb.size h.size, fun k hk hz hr => (h.block k (Nat.lt_of_lt_of_le hk hb.size) hz hr).trans (hb.block k hk)⟩
theorem Bg.neg {w : World} {z m : Nat} (h : Bg w z m) : w.cell? ⟨z, 0, none⟩ = some (.bool false) := let ⟨_, _, _, h0, _⟩ := h.parts; h0

set_option maxHeartbeats 2000000 in
theorem divMod_of (z x y r q t m d : Nat) (w : World) (hx : Bg w x m) (hy : Bg w y d) (hz : Ob w z) (hr : Ob w r) (hzr : r ≠ z) (hdl : (dig d).length ≤ 100)
    (hd : ∀ w' xa xn xc ya yn yc, Ru w' xa xn xc (dig m) → Ru w' ya yn yc (dig d) → Calls Tryd.prog 70 #[.slice xa xn xc, .slice ya yn yc] w' fun e w'' => DivGives w' q t e w'') :
    Calls Tryd.prog 73 #[.pointer (some ⟨z, 0, none⟩), .pointer (some ⟨x, 0, none⟩), .pointer (some ⟨y, 0, none⟩), .pointer (some ⟨r, 0, none⟩)] w fun e w' => QuoPost w z r q t e w' := by
  have hyl := hy.ob.lt
  have hb0 : Below w.heap.size w (w.alloc (.cells #[.bool false, .slice none 0 0] 61)) := (Below.refl _ w).alloc (Nat.le_refl _) _
  have HO : Hid (Ob (w.alloc (.cells #[.bool false, .slice none 0 0] 61)) w.heap.size) := ob_new w
  have HB : Hid (Below w.heap.size w (w.alloc (.cells #[.bool false, .slice none 0 0] 61))) := hb0
  have HY : Hid (Bg (w.alloc (.cells #[.bool false, .slice none 0 0] 61)) y d) := hy.below hb0
  have HW : Hid (Bg w x m ∧ Bg w y d ∧ Ob w z ∧ Ob w r) := ⟨hx, hy, hz, hr⟩
  have HD : Hid (∀ w' xa xn xc ya yn yc, Ru w' xa xn xc (dig m) → Ru w' ya yn yc (dig d) → Calls Tryd.prog 70 #[.slice xa xn xc, .slice ya yn yc] w' fun e w'' => DivGives w' q t e w'') := hd
  clear hx hy hz hr hb0 hd
  go_enter Tryd.func73, Tryd.ntmps73
  go_wp2_with fail
  refine (Set_any w.heap.size y d _ HY.out HO.out (by omega) hdl).mono ?_
  rintro e w1 ⟨rfl, _, hex⟩
  have hb1 : Below w.heap.size w w1 := hex.below HB.out (Nat.le_refl _)
  have HQ : Hid (Calls Tryd.prog 37 #[.pointer (some ⟨z, 0, none⟩), .pointer (some ⟨x, 0, none⟩), .pointer (some ⟨y, 0, none⟩), .pointer (some ⟨r, 0, none⟩)] w1 fun e w' => QuoPost w1 z r q t e w') := by
    obtain ⟨xa, xn, xc, x0, x1, xr⟩ := (HW.out.1.below hb1).parts
    obtain ⟨ya, yn, yc, y0, y1, yr⟩ := (HW.out.2.1.below hb1).parts
    exact quo_of z x y r q t xa ya xn xc yn yc w1 x0 x1 y0 y1 (HW.out.2.2.1.below hb1) (HW.out.2.2.2.below hb1) hzr fun w' hb => HD.out w' xa xn xc ya yn yc (xr.below hb) (yr.below hb)
  have HB1 : Hid (Below w.heap.size w w1) := hb1
  clear hex hb1
  go_wp2_with fail
  refine HQ.out.mono ?_
  rintro e w2 ⟨rfl, g1, g2, hex2⟩
  have hneg := g2.neg
  have F2 : Hid (Bg w2 z q ∧ Bg w2 r t ∧ Ex2 w w2 z r) := ⟨g1, g2, Ex2.from HB1.out hex2⟩
  clear g1 g2 hex2
  go_wp2_with fail
  refine bodyPost_ret (v := .tuple #[.pointer (some ⟨z, 0, none⟩), .pointer (some ⟨r, 0, none⟩)]) (by simp [results, Tryd.results73, go_sem]) rfl ⟨rfl, F2.out.1, F2.out.2.1, F2.out.2.2⟩

end Go.Proofs.YtmpjmcfgikmgnaaDoor.words
namespace Go.Proofs.YtmpjmcfgikmgnaaDoor.words
open Go.RowKit
set_option maxRecDepth 100000

theorem Ex2.left {w w' : World} {z r : Nat} (h : Ex2 w w' z r) (hz : w.heap.size ≤ z) : Ex w w' r := ⟨h.os, h.tape, h.output, h.size, fun k hk hr => h.block k hk (by omega) hr⟩
theorem Ex2.right {w w' : World} {z r : Nat} (h : Ex2 w w' z r) (hz : w.heap.size ≤ r) : Ex w w' z := ⟨h.os, h.tape, h.output, h.size, fun k hk hr => h.block k hk hr (by omega)⟩

theorem base_div (m : Nat) (hm : (dig m).length ≤ 60) : ∀ w' xa xn xc ya yn yc, Ru w' xa xn xc (dig m) → Ru w' ya yn yc (dig 4294967296) → Calls Tryd.prog 70 #[.slice xa xn xc, .slice ya yn yc] w' fun e w'' => DivGives w' (m / 4294967296) (m % 4294967296) e w'' := by
  intro w' xa xn xc ya yn yc hx hy
  have e := hy.len
  rw [dig_base] at e
  subst e
  exact div_base xa ya xn xc yc m w' hx hy (by rw [← hx.len]; exact hm)

set_option maxHeartbeats 2000000 in
theorem Mod_base (z x y m : Nat) (w : World) (hx : Bg w x m) (hy : Bg w y 4294967296) (hz : Ob w z) (hm : (dig m).length ≤ 60) :
    Calls Tryd.prog 51 #[.pointer (some ⟨z, 0, none⟩), .pointer (some ⟨x, 0, none⟩), .pointer (some ⟨y, 0, none⟩)] w fun e w' => OpPost w z (m % 4294967296) e w' := by
  have hb0 : Below w.heap.size w (w.alloc (.cells #[.bool false, .slice none 0 0] 61)) := (Below.refl _ w).alloc (Nat.le_refl _) _
  have hzl := hz.lt
  have hd := divMod_of w.heap.size x y z _ _ m 4294967296 _ (hx.below hb0) (hy.below hb0) (ob_new w) (hz.below hb0) (by omega) (by rw [dig_base]; omega) (base_div m hm)
  have HD : Hid (Calls Tryd.prog 73 #[.pointer (some ⟨w.heap.size, 0, none⟩), .pointer (some ⟨x, 0, none⟩), .pointer (some ⟨y, 0, none⟩), .pointer (some ⟨z, 0, none⟩)] (w.alloc (.cells #[.bool false, .slice none 0 0] 61)) fun e w' => QuoPost (w.alloc (.cells #[.bool false, .slice none 0 0] 61)) w.heap.size z (m / 4294967296) (m % 4294967296) e w') := hd
  have HB : Hid (Below w.heap.size w (w.alloc (.cells #[.bool false, .slice none 0 0] 61))) := hb0
  clear hd hx hy hz hb0 hm
  generalize m / 4294967296 = q at *
  generalize m % 4294967296 = t at *
  go_enter Tryd.func51, Tryd.ntmps51
  go_wp2_with fail
  refine HD.out.mono ?_
  rintro e w1 ⟨rfl, _, g2, hex⟩
  have F : Hid (Bg w1 z t ∧ Ex w w1 z) := ⟨g2, (Ex2.from HB.out hex).left (Nat.le_refl _)⟩
  clear g2 hex
  go_wp2_with fail
  go_ret
  exact ⟨rfl, F.out.1, F.out.2⟩

set_option maxHeartbeats 2000000 in
theorem Div_base (z x y m : Nat) (w : World) (hx : Bg w x m) (hy : Bg w y 4294967296) (hz : Ob w z) (hm : (dig m).length ≤ 60) :
    Calls Tryd.prog 53 #[.pointer (some ⟨z, 0, none⟩), .pointer (some ⟨x, 0, none⟩), .pointer (some ⟨y, 0, none⟩)] w fun e w' => OpPost w z (m / 4294967296) e w' := by
  have hb0 : Below w.heap.size w (w.alloc (.cells #[.bool false, .slice none 0 0] 61)) := (Below.refl _ w).alloc (Nat.le_refl _) _
  have hzl := hz.lt
  have hd := divMod_of z x y w.heap.size _ _ m 4294967296 _ (hx.below hb0) (hy.below hb0) (hz.below hb0) (ob_new w) (by omega) (by rw [dig_base]; omega) (base_div m hm)
  have HD : Hid (Calls Tryd.prog 73 #[.pointer (some ⟨z, 0, none⟩), .pointer (some ⟨x, 0, none⟩), .pointer (some ⟨y, 0, none⟩), .pointer (some ⟨w.heap.size, 0, none⟩)] (w.alloc (.cells #[.bool false, .slice none 0 0] 61)) fun e w' => QuoPost (w.alloc (.cells #[.bool false, .slice none 0 0] 61)) z w.heap.size (m / 4294967296) (m % 4294967296) e w') := hd
  have HB : Hid (Below w.heap.size w (w.alloc (.cells #[.bool false, .slice none 0 0] 61))) := hb0
  clear hd hx hy hz hb0 hm
  generalize m / 4294967296 = q at *
  generalize m % 4294967296 = t at *
  go_enter Tryd.func53, Tryd.ntmps53
  go_wp2_with fail
  refine HD.out.mono ?_
  rintro e w1 ⟨rfl, g1, _, hex⟩
  have F : Hid (Bg w1 z q ∧ Ex w w1 z) := ⟨g1, (Ex2.from HB.out hex).right (Nat.le_refl _)⟩
  clear g1 hex
  go_wp2_with fail
  go_ret
  exact ⟨rfl, F.out.1, F.out.2⟩

end Go.Proofs.YtmpjmcfgikmgnaaDoor.words
namespace Go.Proofs.YtmpjmcfgikmgnaaDoor.words
open Go.RowKit
set_option maxRecDepth 100000

theorem Ru.same {w w' : World} {a : Option Addr} {n cap : Nat} {l : List Nat} (h : Ru w a n cap l) (hs : ∀ b, Ty w b → w'.heap[b]? = w.heap[b]?) : Ru w' a n cap l := by
  refine ⟨h.len, h.lt, h.nil, h.room, ?_, fun b off s e hn => (h.typ b off s e hn).same (hs b (h.typ b off s e hn))⟩
  rcases h.cell with h0 | ⟨b, off, rfl, hc⟩
  · exact .inl h0
  · refine .inr ⟨b, off, rfl, fun i hi => ?_⟩
    rw [World.cell?_of_block (w := w) (a := ⟨b, off + i, none⟩) (hs b (h.typ b off none rfl (by omega)))]
    exact hc i hi
theorem set_block {w : World} {V k : Nat} (i : Nat) (u : Value) (h : k ≠ V) : (w.setCell ⟨V, i, none⟩ u).heap[k]? = w.heap[k]? := by
  simp only [World.setCell, Array.getElem?_modify]
  rw [if_neg (fun e => h e.symm)]
/-- A wide number's variable is written: numbers of any size stand. -/
theorem Bg.setV {w : World} {z m V : Nat} {y0 y1 y2 : Value} (h : Bg w z m) (ht : Trio w V y0 y1 y2) (i : Nat) (u : Value) : Bg (w.setCell ⟨V, i, none⟩ u) z m := by
  obtain ⟨a, n, c, h1, h2⟩ := h
  unfold Trio at ht
  refine ⟨a, n, c, ?_, h2.same fun b hb => set_block i u ?_⟩
  · rw [set_block i u (fun e => by rw [e, ht] at h1; simp at h1)]; exact h1
  · intro e
    obtain ⟨cs, fr, hb⟩ := hb
    rw [e, ht] at hb
    simp at hb

/-- While a number is taken apart: the result's cell R, the variable V, the number Z and the base q. -/
structure W96 (w W : World) (q : Nat) (c0 c1 c2 : Value) (M : Nat) : Prop where
  below : Below w.heap.size w W
  res : Trio W w.heap.size (.int .u32 0) (.int .u32 0) (.int .u32 0)
  var : Trio W (w.heap.size + 1) c0 c1 c2
  num : Bg W (w.heap.size + 2) M
  base : Bg W q 4294967296
variable {w W W' : World} {q M : Nat} {c0 c1 c2 : Value}
theorem W96.alloc (h : W96 w W q c0 c1 c2 M) (o : Obj) : W96 w (W.alloc o) q c0 c1 c2 M :=
  have hb := (Below.refl W.heap.size W).alloc (Nat.le_refl _) o
  ⟨h.below.alloc h.below.size o, h.res.alloc o, h.var.alloc o, h.num.below hb, h.base.below hb⟩
theorem W96.ex (h : W96 w W q c0 c1 c2 M) {P : Nat} (ho : Ob W P) (he : Ex W W' P) (hP : w.heap.size + 3 ≤ P) (hq : q ≠ P) : W96 w W' q c0 c1 c2 M :=
  ⟨he.below h.below (by omega), h.res.ex he (by omega), h.var.ex he (by omega), h.num.ex ho he (by omega), h.base.ex ho he hq⟩
theorem W96.div (h : W96 w W q c0 c1 c2 M) {M' : Nat} (hg : Bg W' (w.heap.size + 2) M') (he : Ex W W' (w.heap.size + 2)) (hq : w.heap.size + 3 ≤ q) : W96 w W' q c0 c1 c2 M' :=
  ⟨he.below h.below (by omega), h.res.ex he (by omega), h.var.ex he (by omega), hg, h.base.ex h.num.ob he (by omega)⟩
theorem W96.set0 (h : W96 w W q c0 c1 c2 M) (u : Value) : W96 w (W.setCell ⟨w.heap.size + 1, 0, none⟩ u) q u c1 c2 M :=
  ⟨below_set h.below _ _ _ (by omega), h.res.other 0 u (by omega), h.var.set0 u, h.num.setV h.var 0 u, h.base.setV h.var 0 u⟩
theorem W96.set1 (h : W96 w W q c0 c1 c2 M) (u : Value) : W96 w (W.setCell ⟨w.heap.size + 1, 1, none⟩ u) q c0 u c2 M :=
  ⟨below_set h.below _ _ _ (by omega), h.res.other 1 u (by omega), h.var.set1 u, h.num.setV h.var 1 u, h.base.setV h.var 1 u⟩
theorem W96.set2 (h : W96 w W q c0 c1 c2 M) (u : Value) : W96 w (W.setCell ⟨w.heap.size + 1, 2, none⟩ u) q c0 c1 u M :=
  ⟨below_set h.below _ _ _ (by omega), h.res.other 2 u (by omega), h.var.set2 u, h.num.setV h.var 2 u, h.base.setV h.var 2 u⟩

/-- Three words and what is above them were given back. -/
def WidePost (w : World) (x y z t : Nat) (e : Ending) (w' : World) : Prop := e = .returned (.tuple #[.agg #[.int .u32 (x : Int), .int .u32 (y : Int), .int .u32 (z : Int)], .int .u32 (t : Int)]) ∧ Below w.heap.size w w'

set_option maxHeartbeats 4000000 in
theorem wide96_abs (n m r0 m1 r1 m2 r2 m3 : Nat) (w : World) (hg : Bg w n m)
    (HE : Hid (m % 4294967296 = r0 ∧ m / 4294967296 = m1 ∧ m1 % 4294967296 = r1 ∧ m1 / 4294967296 = m2 ∧ m2 % 4294967296 = r2 ∧ m2 / 4294967296 = m3))
    (b0 : r0 < 4294967296) (b1 : r1 < 4294967296) (b2 : r2 < 4294967296) (b3 : m3 < 4294967296)
    (HL : Hid ((dig m).length ≤ 60 ∧ (dig m1).length ≤ 60 ∧ (dig m2).length ≤ 60)) :
    Calls Tryd.prog 23 #[.pointer (some ⟨n, 0, none⟩)] w fun e w' => WidePost w r0 r1 r2 m3 e w' := by
  have hnl := hg.ob.lt
  have hba : Below w.heap.size w (((w.alloc (.cells #[.int .u32 0, .int .u32 0, .int .u32 0] 30)).alloc (.cells #[.int .u32 0, .int .u32 0, .int .u32 0] 30)).alloc (.cells #[.bool false, .slice none 0 0] 61)) := bel3 _ _ _ _
  have HG : Hid (Bg (((w.alloc (.cells #[.int .u32 0, .int .u32 0, .int .u32 0] 30)).alloc (.cells #[.int .u32 0, .int .u32 0, .int .u32 0] 30)).alloc (.cells #[.bool false, .slice none 0 0] 61)) n m) := hg.below hba
  have HO : Hid (Ob (((w.alloc (.cells #[.int .u32 0, .int .u32 0, .int .u32 0] 30)).alloc (.cells #[.int .u32 0, .int .u32 0, .int .u32 0] 30)).alloc (.cells #[.bool false, .slice none 0 0] 61)) (w.heap.size + 2)) := by
    show Ob _ _
    have := ob_new ((w.alloc (.cells #[.int .u32 0, .int .u32 0, .int .u32 0] 30)).alloc (.cells #[.int .u32 0, .int .u32 0, .int .u32 0] 30))
    simpa using this
  have HR : Hid (Trio (((w.alloc (.cells #[.int .u32 0, .int .u32 0, .int .u32 0] 30)).alloc (.cells #[.int .u32 0, .int .u32 0, .int .u32 0] 30)).alloc (.cells #[.bool false, .slice none 0 0] 61)) w.heap.size (.int .u32 0) (.int .u32 0) (.int .u32 0)) := ((trio_new _ _ _ _).alloc _).alloc _
  have HV : Hid (Trio (((w.alloc (.cells #[.int .u32 0, .int .u32 0, .int .u32 0] 30)).alloc (.cells #[.int .u32 0, .int .u32 0, .int .u32 0] 30)).alloc (.cells #[.bool false, .slice none 0 0] 61)) (w.heap.size + 1) (.int .u32 0) (.int .u32 0) (.int .u32 0)) := (trio_b _ _ _ _ _).alloc _
  have HB : Hid (Below w.heap.size w (((w.alloc (.cells #[.int .u32 0, .int .u32 0, .int .u32 0] 30)).alloc (.cells #[.int .u32 0, .int .u32 0, .int .u32 0] 30)).alloc (.cells #[.bool false, .slice none 0 0] 61))) := hba
  have hsz : (((w.alloc (.cells #[.int .u32 0, .int .u32 0, .int .u32 0] 30)).alloc (.cells #[.int .u32 0, .int .u32 0, .int .u32 0] 30)).alloc (.cells #[.bool false, .slice none 0 0] 61)).heap.size = w.heap.size + 3 := by simp
  clear hg hba
  go_enter Tryd.func23, Tryd.ntmps23
  go_wp2_with fail
  generalize hW : (((w.alloc (.cells #[.int .u32 0, .int .u32 0, .int .u32 0] 30)).alloc (.cells #[.int .u32 0, .int .u32 0, .int .u32 0] 30)).alloc (.cells #[.bool false, .slice none 0 0] 61)) = W at *
  clear hW
  refine (Set_any (w.heap.size + 2) n m _ HG.out HO.out (by omega) (by have := HL.out.1; omega)).mono ?_
  rintro e W1 ⟨rfl, hg1, hex⟩
  have hs1 := hex.size
  have HB1 : Hid (Below w.heap.size w W1) := hex.below HB.out (by omega)
  have HR1 : Hid (Trio W1 w.heap.size (.int .u32 0) (.int .u32 0) (.int .u32 0)) := HR.out.ex hex (by omega)
  have HV1 : Hid (Trio W1 (w.heap.size + 1) (.int .u32 0) (.int .u32 0) (.int .u32 0)) := HV.out.ex hex (by omega)
  have HG1 : Hid (Bg W1 (w.heap.size + 2) m) := hg1
  clear hex hg1 HB HR HV HG HO
  go_wp2_with fail
  refine (newInt_any 4294967296 _ (by decide)).mono ?_
  rintro e W2 ⟨q, rfl, hq, hgq, hb2⟩
  have hq3 : w.heap.size + 3 ≤ q := by omega
  have H : Hid (W96 w W2 q (.int .u32 0) (.int .u32 0) (.int .u32 0) m) := ⟨HB1.out.trans (hb2.mono HB1.out.size), HR1.out.below hb2, HV1.out.below hb2, HG1.out.below hb2, hgq⟩
  have hs2 : w.heap.size + 3 ≤ W2.heap.size := by have := hb2.size; omega
  clear hb2 hgq hq HB1 HR1 HV1 HG1 hs1 hsz
  generalize hWW : W2 = W at *
  clear hWW
  go_wp2_with fail
  refine wp_loop_rounds 4 ?_
  rw [rounds_succ]
  have A : Hid (W96 w (W.alloc (.cells #[.bool false, .slice none 0 0] 61)) q (.int .u32 0) (.int .u32 0) (.int .u32 0) m) := H.out.alloc _
  have OP : Hid (Ob (W.alloc (.cells #[.bool false, .slice none 0 0] 61)) W.heap.size) := ob_new W
  have hqW : q < W.heap.size := H.out.base.ob.lt
  clear H
  go_wp2_with fail
  refine (Mod_base W.heap.size (w.heap.size + 2) q m _ A.out.num A.out.base OP.out HL.out.1).mono ?_
  rintro e W3 ⟨rfl, hgp, hex⟩
  rw [HE.out.1] at hgp
  have hs3 := hex.size
  have h3 := A.out.ex OP.out hex hs2 (by omega)
  have HGP : Hid (Bg W3 W.heap.size r0) := hgp
  have v0 := h3.var.c0
  have f0 := h3.var.free 0
  have H3 : Hid (W96 w W3 q (.int .u32 0) (.int .u32 0) (.int .u32 0) m) := h3
  have hs3' : w.heap.size + 3 ≤ W3.heap.size := by simp at hs3; omega
  clear hgp hex h3 A OP hs3
  go_wp2_with fail
  refine (uint64_any W.heap.size r0 _ HGP.out (by omega)).mono ?_
  rintro e W4 ⟨rfl, rfl⟩
  have H4 : Hid (W96 w (W4.setCell ⟨w.heap.size + 1, 0, none⟩ (.int .u32 (r0 : Int))) q (.int .u32 (r0 : Int)) (.int .u32 0) (.int .u32 0) m) := H3.out.set0 _
  have hs4 : w.heap.size + 3 ≤ (W4.setCell ⟨w.heap.size + 1, 0, none⟩ (.int .u32 (r0 : Int))).heap.size := by simp [World.setCell]; omega
  clear HGP H3
  go_wp2_with fail
  clear v0 f0
  generalize hWS : W4.setCell ⟨w.heap.size + 1, 0, none⟩ (.int .u32 (r0 : Int)) = WS at *
  clear hWS
  refine (Div_base (w.heap.size + 2) (w.heap.size + 2) q m _ H4.out.num H4.out.base H4.out.num.ob HL.out.1).mono ?_
  rintro e W ⟨rfl, hgz, hex⟩
  rw [HE.out.2.1] at hgz
  have hs5 := hex.size
  have H : Hid (W96 w W q (.int .u32 (r0 : Int)) (.int .u32 0) (.int .u32 0) m1) := H4.out.div hgz hex hq3
  have hs2 : w.heap.size + 3 ≤ W.heap.size := by omega
  clear hgz hex H4 hs5 hs4 hs3' hqW
  go_wp2_with fail
  rw [rounds_succ]
  have A : Hid (W96 w (W.alloc (.cells #[.bool false, .slice none 0 0] 61)) q (.int .u32 (r0 : Int)) (.int .u32 0) (.int .u32 0) m1) := H.out.alloc _
  have OP : Hid (Ob (W.alloc (.cells #[.bool false, .slice none 0 0] 61)) W.heap.size) := ob_new W
  have hqW : q < W.heap.size := H.out.base.ob.lt
  clear H
  go_wp2_with fail
  refine (Mod_base W.heap.size (w.heap.size + 2) q m1 _ A.out.num A.out.base OP.out HL.out.2.1).mono ?_
  rintro e W3 ⟨rfl, hgp, hex⟩
  rw [HE.out.2.2.1] at hgp
  have hs3 := hex.size
  have h3 := A.out.ex OP.out hex hs2 (by omega)
  have HGP : Hid (Bg W3 W.heap.size r1) := hgp
  have v0 := h3.var.c1
  have f0 := h3.var.free 1
  have H3 : Hid (W96 w W3 q (.int .u32 (r0 : Int)) (.int .u32 0) (.int .u32 0) m1) := h3
  have hs3' : w.heap.size + 3 ≤ W3.heap.size := by simp at hs3; omega
  clear hgp hex h3 A OP hs3
  go_wp2_with fail
  refine (uint64_any W.heap.size r1 _ HGP.out (by omega)).mono ?_
  rintro e W4 ⟨rfl, rfl⟩
  have H4 : Hid (W96 w (W4.setCell ⟨w.heap.size + 1, 1, none⟩ (.int .u32 (r1 : Int))) q (.int .u32 (r0 : Int)) (.int .u32 (r1 : Int)) (.int .u32 0) m1) := H3.out.set1 _
  have hs4 : w.heap.size + 3 ≤ (W4.setCell ⟨w.heap.size + 1, 1, none⟩ (.int .u32 (r1 : Int))).heap.size := by simp [World.setCell]; omega
  clear HGP H3
  go_wp2_with fail
  clear v0 f0
  generalize hWS : W4.setCell ⟨w.heap.size + 1, 1, none⟩ (.int .u32 (r1 : Int)) = WS at *
  clear hWS
  refine (Div_base (w.heap.size + 2) (w.heap.size + 2) q m1 _ H4.out.num H4.out.base H4.out.num.ob HL.out.2.1).mono ?_
  rintro e W ⟨rfl, hgz, hex⟩
  rw [HE.out.2.2.2.1] at hgz
  have hs5 := hex.size
  have H : Hid (W96 w W q (.int .u32 (r0 : Int)) (.int .u32 (r1 : Int)) (.int .u32 0) m2) := H4.out.div hgz hex hq3
  have hs2 : w.heap.size + 3 ≤ W.heap.size := by omega
  clear hgz hex H4 hs5 hs4 hs3' hqW
  go_wp2_with fail
  rw [rounds_succ]
  have A : Hid (W96 w (W.alloc (.cells #[.bool false, .slice none 0 0] 61)) q (.int .u32 (r0 : Int)) (.int .u32 (r1 : Int)) (.int .u32 0) m2) := H.out.alloc _
  have OP : Hid (Ob (W.alloc (.cells #[.bool false, .slice none 0 0] 61)) W.heap.size) := ob_new W
  have hqW : q < W.heap.size := H.out.base.ob.lt
  clear H
  go_wp2_with fail
  refine (Mod_base W.heap.size (w.heap.size + 2) q m2 _ A.out.num A.out.base OP.out HL.out.2.2).mono ?_
  rintro e W3 ⟨rfl, hgp, hex⟩
  rw [HE.out.2.2.2.2.1] at hgp
  have hs3 := hex.size
  have h3 := A.out.ex OP.out hex hs2 (by omega)
  have HGP : Hid (Bg W3 W.heap.size r2) := hgp
  have v0 := h3.var.c2
  have f0 := h3.var.free 2
  have H3 : Hid (W96 w W3 q (.int .u32 (r0 : Int)) (.int .u32 (r1 : Int)) (.int .u32 0) m2) := h3
  have hs3' : w.heap.size + 3 ≤ W3.heap.size := by simp at hs3; omega
  clear hgp hex h3 A OP hs3
  go_wp2_with fail
  refine (uint64_any W.heap.size r2 _ HGP.out (by omega)).mono ?_
  rintro e W4 ⟨rfl, rfl⟩
  have H4 : Hid (W96 w (W4.setCell ⟨w.heap.size + 1, 2, none⟩ (.int .u32 (r2 : Int))) q (.int .u32 (r0 : Int)) (.int .u32 (r1 : Int)) (.int .u32 (r2 : Int)) m2) := H3.out.set2 _
  have hs4 : w.heap.size + 3 ≤ (W4.setCell ⟨w.heap.size + 1, 2, none⟩ (.int .u32 (r2 : Int))).heap.size := by simp [World.setCell]; omega
  clear HGP H3
  go_wp2_with fail
  clear v0 f0
  generalize hWS : W4.setCell ⟨w.heap.size + 1, 2, none⟩ (.int .u32 (r2 : Int)) = WS at *
  clear hWS
  refine (Div_base (w.heap.size + 2) (w.heap.size + 2) q m2 _ H4.out.num H4.out.base H4.out.num.ob HL.out.2.2).mono ?_
  rintro e W ⟨rfl, hgz, hex⟩
  rw [HE.out.2.2.2.2.2] at hgz
  have hs5 := hex.size
  have H : Hid (W96 w W q (.int .u32 (r0 : Int)) (.int .u32 (r1 : Int)) (.int .u32 (r2 : Int)) m3) := H4.out.div hgz hex hq3
  have hs2 : w.heap.size + 3 ≤ W.heap.size := by omega
  clear hgz hex H4 hs5 hs4 hs3' hqW
  go_wp2_with fail
  rw [rounds_succ]
  have HU : Hid (∀ w', Bg w' (w.heap.size + 2) m3 → Calls Tryd.prog 52 #[.pointer (some ⟨w.heap.size + 2, 0, none⟩)] w' fun e w'' => e = .returned (.int .u64 (m3 : Int)) ∧ w'' = w') := fun w' hg => uint64_any _ m3 w' hg (by omega)
  have v0 := H.out.var.c0
  have v1 := H.out.var.c1
  have v2 := H.out.var.c2
  have r0c := H.out.res.c0
  have r1c := H.out.res.c1
  have r2c := H.out.res.c2
  have g0 := H.out.res.free 0
  have g1 := H.out.res.free 1
  have g2 := H.out.res.free 2
  have HN : Hid (∀ k, Bg (W.drewN k) (w.heap.size + 2) m3) := fun k => H.out.num.below (below_drewN (Below.refl _ W) k)
  have HFIN : Hid (∀ k, Trio (put3 (W.drewN k) w.heap.size (.int .u32 (r0 : Int)) (.int .u32 (r1 : Int)) (.int .u32 (r2 : Int))) w.heap.size (.int .u32 (r0 : Int)) (.int .u32 (r1 : Int)) (.int .u32 (r2 : Int)) ∧ Below w.heap.size w (put3 (W.drewN k) w.heap.size (.int .u32 (r0 : Int)) (.int .u32 (r1 : Int)) (.int .u32 (r2 : Int)))) := fun k =>
    ⟨Trio.put (w := W.drewN k) H.out.res _ _ _, below_put3 (below_drewN H.out.below k) _ _ _ _ (Nat.le_refl _)⟩
  have hm3 : (m3 : Int) < 4294967296 := by omega
  have hwr : IntKind.u32.wrap (m3 : Int) = (m3 : Int) := by rw [wrap_u32]; omega
  clear H HE HL b0 b1 b2 b3 hs2 hq3 hnl
  go_wp2_with fail
  go_region_with (go_at_call 52; refine (HU.out _ (HN.out _)).mono ?_; rintro e w' ⟨rfl, rfl⟩)
  all_goals go_wp2_with fail
  all_goals
    have RR := (HFIN.out 1).1
    refine bodyPost_ret (v := .tuple #[.agg #[.int .u32 (r0 : Int), .int .u32 (r1 : Int), .int .u32 (r2 : Int)], .int .u32 (m3 : Int)]) (by simp [results, Act.put, Tryd.results23, RR.c0, RR.c1, RR.c2, go_sem]) rfl ⟨rfl, (HFIN.out 1).2⟩

end Go.Proofs.YtmpjmcfgikmgnaaDoor.words
namespace Go.Proofs.YtmpjmcfgikmgnaaDoor.words
open Go.RowKit
set_option maxRecDepth 100000

theorem dig_small {d : Nat} (h0 : 0 < d) (h : d < 4294967296) : (dig d).length = 1 := by
  rw [dig_pos (by omega), List.length_cons, Nat.div_eq_of_lt h, dig_zero]; rfl

theorem div_small (M d : Nat) (h0 : 0 < d) (hd : d < 4294967296) (hM : (dig M).length ≤ 60) : ∀ w' xa xn xc ya yn yc, Ru w' xa xn xc (dig M) → Ru w' ya yn yc (dig d) → Calls Tryd.prog 70 #[.slice xa xn xc, .slice ya yn yc] w' fun e w'' => DivGives w' (M / d) (M % d) e w'' := by
  intro w' xa xn xc ya yn yc hx hy
  have ey := hy.len
  rw [dig_small h0 hd] at ey
  subst ey
  have ex := hx.len
  by_cases h : M < d
  · have := div_less xa ya xn 1 xc yc M d w' hx hy (by omega) (by omega) h
    rw [Nat.div_eq_of_lt h, Nat.mod_eq_of_lt h]
    exact this
  · by_cases h2 : xn ≤ 2
    · exact div_two xa ya xn 1 xc yc M d w' hx hy h2 h0 (by omega)
    · exact div_one xa ya xn xc yc M d w' hx hy (by omega) (by omega)

/-- QuoRem of numbers not below 0. -/
theorem quoRem_any (z x y r M d : Nat) (w : World) (hx : Bg w x M) (hy : Bg w y d) (hz : Ob w z) (hr : Ob w r) (hzr : r ≠ z) (h0 : 0 < d) (hd : d < 4294967296) (hM : (dig M).length ≤ 60) :
    Calls Tryd.prog 37 #[.pointer (some ⟨z, 0, none⟩), .pointer (some ⟨x, 0, none⟩), .pointer (some ⟨y, 0, none⟩), .pointer (some ⟨r, 0, none⟩)] w fun e w' => QuoPost w z r (M / d) (M % d) e w' := by
  obtain ⟨xa, xn, xc, x0, x1, xr⟩ := hx.parts
  obtain ⟨ya, yn, yc, y0, y1, yr⟩ := hy.parts
  exact quo_of z x y r _ _ xa ya xn xc yn yc w x0 x1 y0 y1 hz hr hzr fun w' hb => div_small M d h0 hd hM w' xa xn xc ya yn yc (xr.below hb) (yr.below hb)

end Go.Proofs.YtmpjmcfgikmgnaaDoor.words
namespace Go.Proofs.YtmpjmcfgikmgnaaDoor.words
open Go.RowKit
set_option maxRecDepth 100000

theorem bitLen_any (z m : Nat) (w : World) (hg : Bg w z m) (hm : (dig m).length ≤ 100) :
    Calls Tryd.prog 36 #[.pointer (some ⟨z, 0, none⟩)] w fun e w' => LenPost w m e w' := by
  obtain ⟨xa, xn, xc, x0, x1, xr⟩ := hg.parts
  have HL : Hid (Calls Tryd.prog 69 #[.slice xa xn xc] w fun e w' => LenPost w m e w') := length_any xa xn xc m w xr (by rw [← xr.len]; exact hm)
  clear hg xr hm
  go_enter Tryd.func36, Tryd.ntmps36
  go_wp2_with fail
  refine HL.out.mono ?_
  rintro e w1 ⟨rfl, L, rfl, hL⟩
  have HP : Hid (LenPost w1 m (.returned (.int .i64 ((L : Nat) : Int))) w1) := ⟨rfl, L, rfl, hL⟩
  clear hL
  go_wp2_with fail
  go_ret
  exact HP.out

/-- More than n bits. -/
theorem bits_gt {m L n : Nat} (h : BitsOf m L) : n < L ↔ 2 ^ n ≤ m := by
  constructor
  · intro hl
    have h0 : 0 < m := by
      rcases Nat.eq_zero_or_pos m with e | e
      · have := h.2.1 e; omega
      · exact e
    exact Nat.le_trans (Nat.pow_le_pow_right (by decide) (by omega)) (h.2.2 h0).2
  · intro hm
    rcases Nat.lt_or_ge n L with h1 | h1
    · exact h1
    · have h2 : (2 : Nat) ^ L ≤ 2 ^ n := Nat.pow_le_pow_right (by decide) h1
      have := h.1
      omega

theorem sign_zero (z : Nat) (w : World) (hg : Bg w z 0) :
    Calls Tryd.prog 38 #[.pointer (some ⟨z, 0, none⟩)] w fun e w' => e = .returned (.int .i64 0) ∧ w' = w := by
  obtain ⟨xa, xn, xc, x0, x1, xr⟩ := hg.parts
  have hn : xn = 0 := by have := xr.len; rw [dig_zero] at this; simpa using this.symm
  subst hn
  clear hg xr
  go_enter Tryd.func38, Tryd.ntmps38
  go_wp2_with fail
  go_ret
  exact ⟨rfl, rfl⟩
theorem sign_pos (z m : Nat) (w : World) (hg : Bg w z m) (hm : m ≠ 0) :
    Calls Tryd.prog 38 #[.pointer (some ⟨z, 0, none⟩)] w fun e w' => e = .returned (.int .i64 1) ∧ w' = w := by
  obtain ⟨xa, xn, xc, x0, x1, xr⟩ := hg.parts
  have hlen := xr.len
  have hn : xn ≠ 0 := by
    intro h0
    have h1 := nv_dig m
    rw [List.eq_nil_of_length_eq_zero (by omega : (dig m).length = 0)] at h1
    exact hm h1.symm
  have hb : ((xn : Int) == 0) = false := beq_eq_false_iff_ne.2 (by omega)
  clear hg xr hn hlen hm
  go_enter Tryd.func38, Tryd.ntmps38
  go_wp2_with fail
  go_ret
  exact ⟨rfl, rfl⟩
theorem int64_any (z m : Nat) (w : World) (hg : Bg w z m) (hm : m < 9223372036854775808) :
    Calls Tryd.prog 39 #[.pointer (some ⟨z, 0, none⟩)] w fun e w' => e = .returned (.int .i64 (m : Int)) ∧ w' = w := by
  obtain ⟨xa, xn, xc, x0, x1, xr⟩ := hg.parts
  have HU : Hid (Calls Tryd.prog 52 #[.pointer (some ⟨z, 0, none⟩)] w fun e w' => e = .returned (.int .u64 (m : Int)) ∧ w' = w) := uint64_any z m w hg (by omega)
  have hwr : IntKind.i64.wrap (m : Int) = (m : Int) := by rw [IntKind.wrap_i64]; omega
  clear hg xr
  go_enter Tryd.func39, Tryd.ntmps39
  go_wp2_with fail
  refine HU.out.mono ?_
  rintro e w1 ⟨rfl, rfl⟩
  go_wp2_with fail
  go_ret
  exact ⟨rfl, rfl⟩

end Go.Proofs.YtmpjmcfgikmgnaaDoor.words
