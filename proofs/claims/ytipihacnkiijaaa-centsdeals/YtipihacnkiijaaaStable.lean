/- Up to fifty numbers sorted, alike ones in the order in which they stood. -/
import Derived.Test.YtipihacnkiijaaaSymE
import Derived.Test.YtipihacnkiijaaaInsert
import Derived.LoopN
namespace Go.Proofs.Ytipihacnkiijaaa.cents
open Go.RowKit
variable {w0 : World} {g n B : Nat} {key : Int → Int}

def idz : Nat → Int := fun k => (k : Int)
def Blk (key : Int → Int) (f : Nat → Int) (a b : Nat) : Prop := Srt key f a b ∧ ∀ k, a ≤ k → k < b → (a : Int) ≤ f k ∧ f k < b

theorem Blk.congr {f f' : Nat → Int} {a b : Nat} (h : Blk key f a b) (e : ∀ k, a ≤ k → k < b → f' k = f k) : Blk key f' a b :=
  ⟨h.1.congr e, fun k k1 k2 => by rw [e k k1 k2]; exact h.2 k k1 k2⟩

theorem in0_of {f : Nat → Int} (h : Mix idz f 0 n) : In0 n f := h.allN (P := fun v => 0 ≤ v ∧ v < n) (Nat.le_refl _) (fun k hk => by unfold idz; omega)

theorem insert_blk (hc : CmpOk w0 g n B key) (hn : n ≤ 50) (cap a b : Nat) (x y : Int) (hx : x = a) (hy : y = b) (f : Nat → Int) (w : World) (h : Own w0 w g n f) (hm : Mix idz f 0 n) (hf : ∀ k, a ≤ k → k < n → f k = k) (hab : a ≤ b) (hb : b ≤ n) :
    Calls Try.prog 53 #[.slice (some ⟨g, 0, none⟩) n cap, .int .i64 x, .int .i64 y, cmpV B] w fun e w' => e = .returned (.tuple #[]) ∧ ∃ f', Own w0 w' g n f' ∧ Mix idz f' 0 n ∧ Blk key f' a b ∧ ∀ k, ¬ (a ≤ k ∧ k < b) → f' k = f k := by
  subst hx hy
  refine (insert_any hc cap a b f w h hab hb hn (in0_of hm) (fun x y x1 x2 x3 => by rw [hf x x1 (by omega), hf y (by omega) (by omega)]; omega)).mono ?_
  rintro e w' ⟨rfl, f', ho, hm', hs⟩
  refine ⟨rfl, f', ho, hm.trans (hm'.wide (Nat.zero_le _) hb), ⟨hs, fun k k1 k2 => ?_⟩, hm'.out⟩
  obtain ⟨j, j1, j2, e⟩ := hm'.fro k k1 k2
  rw [e, hf j j1 (by omega)]
  omega

theorem sym_blk (hc : CmpOk w0 g n B key) (hn : n ≤ 50) (cap a m b : Nat) (x y z : Int) (hx : x = a) (hy : y = m) (hz : z = b) (f : Nat → Int) (w : World) (h : Own w0 w g n f) (hm : Mix idz f 0 n) (h1 : a < m) (h2 : m < b) (hb : b ≤ n) (b1 : Blk key f a m) (b2 : Blk key f m b) :
    Calls Try.prog 54 #[.slice (some ⟨g, 0, none⟩) n cap, .int .i64 x, .int .i64 y, .int .i64 z, cmpV B] w fun e w' => e = .returned (.tuple #[]) ∧ ∃ f', Own w0 w' g n f' ∧ Mix idz f' 0 n ∧ Blk key f' a b ∧ ∀ k, ¬ (a ≤ k ∧ k < b) → f' k = f k := by
  subst hx hy hz
  have t : Tie f a m b := fun i j i1 i2 j1 j2 => by
    have := b1.2 i i1 i2
    have := b2.2 j j1 j2
    omega
  refine (sym_any hc hn cap (b - a + 1) a m b f w (by omega) h h1 h2 hb (in0_of hm) b1.1 b2.1 t).mono ?_
  rintro e w' ⟨rfl, f', ho, hm', hs⟩
  refine ⟨rfl, f', ho, hm.trans (hm'.wide (Nat.zero_le _) hb), ⟨hs, fun k k1 k2 => ?_⟩, hm'.out⟩
  obtain ⟨j, j1, j2, e⟩ := hm'.fro k k1 k2
  rw [e]
  by_cases c : j < m
  · have := b1.2 j j1 c; omega
  · have := b2.2 j (by omega) j2; omega

abbrev StablePost (w0 : World) (g n : Nat) (key : Int → Int) (e : Ending) (w' : World) : Prop := e = .returned (.tuple #[]) ∧ ∃ f', Own w0 w' g n f' ∧ Mix idz f' 0 n ∧ Srt key f' 0 n

set_option maxRecDepth 100000 in
set_option maxHeartbeats 2000000 in
theorem stable_1 (hc : CmpOk w0 g n B key) (cap : Nat) (w : World) (h : Own w0 w g n idz) (hn : n < 20) :
    Calls Try.prog 44 #[.slice (some ⟨g, 0, none⟩) n cap, .int .i64 n, cmpV B] w fun e w' => e = .returned (.tuple #[]) ∧ ∃ f', Own w0 w' g n f' ∧ Mix idz f' 0 n ∧ Srt key f' 0 n := by
  have HC : Hid (CmpOk w0 g n B key) := hc
  have HO : Hid (Own w0 w g n idz) := h
  clear hc h
  go_enter Try.func44, Try.ntmps44
  go_wp2_with fail
  refine wp_loop_rounds 1 ?_
  rw [rounds_succ]
  go_wp2_with fail
  refine (insert_blk HC.out (by omega) _ 0 n _ _ (by omega) (by omega) idz _ HO.out (Mix.refl _ _ _) (fun _ _ _ => rfl) (by omega) (by omega)).mono ?_
  rintro e w1 ⟨rfl, f1, ho1, hm1, hb1, hu1⟩
  have H1 : Hid (Own w0 w1 g n f1 ∧ Mix idz f1 0 n ∧ Srt key f1 0 n) := ⟨ho1, hm1, hb1.1⟩
  clear ho1 hm1 hb1 hu1
  go_wp2_with fail
  refine wp_loop_rounds 1 ?_
  rw [rounds_succ]
  go_wp2_with fail
  go_end0
  exact ⟨rfl, f1, H1.out⟩

set_option maxRecDepth 100000 in
set_option maxHeartbeats 2000000 in
theorem stable_2 (hc : CmpOk w0 g n B key) (cap : Nat) (w : World) (h : Own w0 w g n idz) (hn : n = 20) :
    Calls Try.prog 44 #[.slice (some ⟨g, 0, none⟩) n cap, .int .i64 n, cmpV B] w fun e w' => e = .returned (.tuple #[]) ∧ ∃ f', Own w0 w' g n f' ∧ Mix idz f' 0 n ∧ Srt key f' 0 n := by
  have HC : Hid (CmpOk w0 g n B key) := hc
  have HO : Hid (Own w0 w g n idz) := h
  have n1 : n ≤ 20 := by omega
  have n2 : 20 ≤ n := by omega
  have HN : Hid (n = 20) := hn
  clear hc h hn
  go_enter Try.func44, Try.ntmps44
  go_wp2_with fail
  refine wp_loop_rounds 2 ?_
  rw [rounds_succ]
  go_wp2_with fail
  refine (insert_blk HC.out (by omega) _ 0 20 _ _ (by omega) (by omega) idz _ HO.out (Mix.refl _ _ _) (fun _ _ _ => rfl) (by omega) (by omega)).mono ?_
  rintro e w1 ⟨rfl, f1, ho1, hm1, hb1, hu1⟩
  have HO1 : Hid (Own w0 w1 g n f1) := ho1
  have HM1 : Hid (Mix idz f1 0 n) := hm1
  have HB1 : Hid (Blk key f1 0 20) := hb1
  have HU1 : Hid (∀ k, ¬ (0 ≤ k ∧ k < 20) → f1 k = idz k) := hu1
  clear ho1 hm1 hb1 hu1
  go_wp2_with fail
  rw [rounds_succ]
  go_wp2_with fail
  refine (insert_blk HC.out (by omega) _ 20 n _ _ (by omega) (by omega) f1 _ HO1.out HM1.out (fun k k1 k2 => HU1.out k (by omega)) (by omega) (by omega)).mono ?_
  rintro e w2 ⟨rfl, f2, ho2, hm2, hb2, hu2⟩
  have H2 : Hid (Own w0 w2 g n f2 ∧ Mix idz f2 0 n ∧ Srt key f2 0 n) := ⟨ho2, hm2, by rw [HN.out]; exact HB1.out.1.congr fun k k1 k2 => hu2 k (by omega)⟩
  clear ho2 hm2 hb2 hu2
  go_wp2_with fail
  refine wp_loop_rounds 1 ?_
  rw [rounds_succ]
  go_wp2_with fail
  go_end0
  exact ⟨rfl, f2, H2.out⟩

set_option maxRecDepth 100000 in
set_option maxHeartbeats 2000000 in
theorem stable_3 (hc : CmpOk w0 g n B key) (cap : Nat) (w : World) (h : Own w0 w g n idz) (n1 : 20 < n) (n2 : n < 40) :
    Calls Try.prog 44 #[.slice (some ⟨g, 0, none⟩) n cap, .int .i64 n, cmpV B] w fun e w' => e = .returned (.tuple #[]) ∧ ∃ f', Own w0 w' g n f' ∧ Mix idz f' 0 n ∧ Srt key f' 0 n := by
  have HC : Hid (CmpOk w0 g n B key) := hc
  have HO : Hid (Own w0 w g n idz) := h
  clear hc h
  go_enter Try.func44, Try.ntmps44
  go_wp2_with fail
  refine wp_loop_rounds 2 ?_
  rw [rounds_succ]
  go_wp2_with fail
  refine (insert_blk HC.out (by omega) _ 0 20 _ _ (by omega) (by omega) idz _ HO.out (Mix.refl _ _ _) (fun _ _ _ => rfl) (by omega) (by omega)).mono ?_
  rintro e w1 ⟨rfl, f1, ho1, hm1, hb1, hu1⟩
  have HO1 : Hid (Own w0 w1 g n f1) := ho1
  have HM1 : Hid (Mix idz f1 0 n) := hm1
  have HB1 : Hid (Blk key f1 0 20) := hb1
  have HU1 : Hid (∀ k, ¬ (0 ≤ k ∧ k < 20) → f1 k = idz k) := hu1
  clear ho1 hm1 hb1 hu1
  go_wp2_with fail
  rw [rounds_succ]
  go_wp2_with fail
  refine (insert_blk HC.out (by omega) _ 20 n _ _ (by omega) (by omega) f1 _ HO1.out HM1.out (fun k k1 k2 => HU1.out k (by omega)) (by omega) (by omega)).mono ?_
  rintro e w2 ⟨rfl, f2, ho2, hm2, hb2, hu2⟩
  have HO2 : Hid (Own w0 w2 g n f2) := ho2
  have HM2 : Hid (Mix idz f2 0 n) := hm2
  have HB2 : Hid (Blk key f2 20 n) := hb2
  have HU2 : Hid (∀ k, ¬ (20 ≤ k ∧ k < n) → f2 k = f1 k) := hu2
  clear ho2 hm2 hb2 hu2
  go_wp2_with fail
  refine wp_loop_rounds 2 ?_
  rw [rounds_succ]
  go_wp2_with fail
  refine wp_loop_rounds 1 ?_
  rw [rounds_succ]
  go_wp2_with fail
  refine (sym_blk HC.out (by omega) _ 0 20 n _ _ _ (by omega) (by omega) (by omega) f2 _ HO2.out HM2.out (by omega) (by omega) (by omega) (HB1.out.congr fun k k1 k2 => HU2.out k (by omega)) HB2.out).mono ?_
  rintro e w3 ⟨rfl, f3, ho3, hm3, hb3, hu3⟩
  have HO3 : Hid (Own w0 w3 g n f3) := ho3
  have HM3 : Hid (Mix idz f3 0 n) := hm3
  have HB3 : Hid (Blk key f3 0 n) := hb3
  have HU3 : Hid (∀ k, ¬ (0 ≤ k ∧ k < n) → f3 k = f2 k) := hu3
  clear ho3 hm3 hb3 hu3
  go_wp2_with fail
  rw [rounds_succ]
  go_wp2_with fail
  go_end0
  exact ⟨rfl, f3, HO3.out, HM3.out, HB3.out.1⟩

set_option maxRecDepth 100000 in
set_option maxHeartbeats 2000000 in
theorem stable_4 (hc : CmpOk w0 g n B key) (cap : Nat) (w : World) (h : Own w0 w g n idz) (hn : n = 40) :
    Calls Try.prog 44 #[.slice (some ⟨g, 0, none⟩) n cap, .int .i64 n, cmpV B] w fun e w' => e = .returned (.tuple #[]) ∧ ∃ f', Own w0 w' g n f' ∧ Mix idz f' 0 n ∧ Srt key f' 0 n := by
  have HC : Hid (CmpOk w0 g n B key) := hc
  have HO : Hid (Own w0 w g n idz) := h
  have n1 : n ≤ 40 := by omega
  have n2 : 40 ≤ n := by omega
  have HN : Hid (n = 40) := hn
  clear hc h hn
  go_enter Try.func44, Try.ntmps44
  go_wp2_with fail
  refine wp_loop_rounds 3 ?_
  rw [rounds_succ]
  go_wp2_with fail
  refine (insert_blk HC.out (by omega) _ 0 20 _ _ (by omega) (by omega) idz _ HO.out (Mix.refl _ _ _) (fun _ _ _ => rfl) (by omega) (by omega)).mono ?_
  rintro e w1 ⟨rfl, f1, ho1, hm1, hb1, hu1⟩
  have HO1 : Hid (Own w0 w1 g n f1) := ho1
  have HM1 : Hid (Mix idz f1 0 n) := hm1
  have HB1 : Hid (Blk key f1 0 20) := hb1
  have HU1 : Hid (∀ k, ¬ (0 ≤ k ∧ k < 20) → f1 k = idz k) := hu1
  clear ho1 hm1 hb1 hu1
  go_wp2_with fail
  rw [rounds_succ]
  go_wp2_with fail
  refine (insert_blk HC.out (by omega) _ 20 40 _ _ (by omega) (by omega) f1 _ HO1.out HM1.out (fun k k1 k2 => HU1.out k (by omega)) (by omega) (by omega)).mono ?_
  rintro e w2 ⟨rfl, f2, ho2, hm2, hb2, hu2⟩
  have HO2 : Hid (Own w0 w2 g n f2) := ho2
  have HM2 : Hid (Mix idz f2 0 n) := hm2
  have HB2 : Hid (Blk key f2 20 40) := hb2
  have HU2 : Hid (∀ k, ¬ (20 ≤ k ∧ k < 40) → f2 k = f1 k) := hu2
  clear ho2 hm2 hb2 hu2
  go_wp2_with fail
  rw [rounds_succ]
  go_wp2_with fail
  refine (insert_blk HC.out (by omega) _ 40 n _ _ (by omega) (by omega) f2 _ HO2.out HM2.out (fun k k1 k2 => (HU2.out k (by omega)).trans (HU1.out k (by omega))) (by omega) (by omega)).mono ?_
  rintro e w3 ⟨rfl, f3, ho3, hm3, hb3, hu3⟩
  have HO3 : Hid (Own w0 w3 g n f3) := ho3
  have HM3 : Hid (Mix idz f3 0 n) := hm3
  have HB3 : Hid (Blk key f3 40 n) := hb3
  have HU3 : Hid (∀ k, ¬ (40 ≤ k ∧ k < n) → f3 k = f2 k) := hu3
  clear ho3 hm3 hb3 hu3
  go_wp2_with fail
  refine wp_loop_rounds 2 ?_
  rw [rounds_succ]
  go_wp2_with fail
  refine wp_loop_rounds 2 ?_
  rw [rounds_succ]
  go_wp2_with fail
  refine (sym_blk HC.out (by omega) _ 0 20 40 _ _ _ (by omega) (by omega) (by omega) f3 _ HO3.out HM3.out (by omega) (by omega) (by omega) (HB1.out.congr fun k k1 k2 => (HU3.out k (by omega)).trans (HU2.out k (by omega))) (HB2.out.congr fun k k1 k2 => HU3.out k (by omega))).mono ?_
  rintro e w4 ⟨rfl, f4, ho4, hm4, hb4, hu4⟩
  have HO4 : Hid (Own w0 w4 g n f4) := ho4
  have HM4 : Hid (Mix idz f4 0 n) := hm4
  have HB4 : Hid (Blk key f4 0 40) := hb4
  have HU4 : Hid (∀ k, ¬ (0 ≤ k ∧ k < 40) → f4 k = f3 k) := hu4
  clear ho4 hm4 hb4 hu4
  go_wp2_with fail
  rw [rounds_succ]
  go_wp2_with fail
  rw [rounds_succ]
  go_wp2_with fail
  go_end0
  exact ⟨rfl, f4, HO4.out, HM4.out, by rw [HN.out]; exact HB4.out.1⟩

set_option maxRecDepth 100000 in
set_option maxHeartbeats 2000000 in
theorem stable_5 (hc : CmpOk w0 g n B key) (cap : Nat) (w : World) (h : Own w0 w g n idz) (n1 : 40 < n) (n2 : n ≤ 50) :
    Calls Try.prog 44 #[.slice (some ⟨g, 0, none⟩) n cap, .int .i64 n, cmpV B] w fun e w' => e = .returned (.tuple #[]) ∧ ∃ f', Own w0 w' g n f' ∧ Mix idz f' 0 n ∧ Srt key f' 0 n := by
  have HC : Hid (CmpOk w0 g n B key) := hc
  have HO : Hid (Own w0 w g n idz) := h
  clear hc h
  go_enter Try.func44, Try.ntmps44
  go_wp2_with fail
  refine wp_loop_rounds 3 ?_
  rw [rounds_succ]
  go_wp2_with fail
  refine (insert_blk HC.out (by omega) _ 0 20 _ _ (by omega) (by omega) idz _ HO.out (Mix.refl _ _ _) (fun _ _ _ => rfl) (by omega) (by omega)).mono ?_
  rintro e w1 ⟨rfl, f1, ho1, hm1, hb1, hu1⟩
  have HO1 : Hid (Own w0 w1 g n f1) := ho1
  have HM1 : Hid (Mix idz f1 0 n) := hm1
  have HB1 : Hid (Blk key f1 0 20) := hb1
  have HU1 : Hid (∀ k, ¬ (0 ≤ k ∧ k < 20) → f1 k = idz k) := hu1
  clear ho1 hm1 hb1 hu1
  go_wp2_with fail
  rw [rounds_succ]
  go_wp2_with fail
  refine (insert_blk HC.out (by omega) _ 20 40 _ _ (by omega) (by omega) f1 _ HO1.out HM1.out (fun k k1 k2 => HU1.out k (by omega)) (by omega) (by omega)).mono ?_
  rintro e w2 ⟨rfl, f2, ho2, hm2, hb2, hu2⟩
  have HO2 : Hid (Own w0 w2 g n f2) := ho2
  have HM2 : Hid (Mix idz f2 0 n) := hm2
  have HB2 : Hid (Blk key f2 20 40) := hb2
  have HU2 : Hid (∀ k, ¬ (20 ≤ k ∧ k < 40) → f2 k = f1 k) := hu2
  clear ho2 hm2 hb2 hu2
  go_wp2_with fail
  rw [rounds_succ]
  go_wp2_with fail
  refine (insert_blk HC.out (by omega) _ 40 n _ _ (by omega) (by omega) f2 _ HO2.out HM2.out (fun k k1 k2 => (HU2.out k (by omega)).trans (HU1.out k (by omega))) (by omega) (by omega)).mono ?_
  rintro e w3 ⟨rfl, f3, ho3, hm3, hb3, hu3⟩
  have HO3 : Hid (Own w0 w3 g n f3) := ho3
  have HM3 : Hid (Mix idz f3 0 n) := hm3
  have HB3 : Hid (Blk key f3 40 n) := hb3
  have HU3 : Hid (∀ k, ¬ (40 ≤ k ∧ k < n) → f3 k = f2 k) := hu3
  clear ho3 hm3 hb3 hu3
  go_wp2_with fail
  refine wp_loop_rounds 3 ?_
  rw [rounds_succ]
  go_wp2_with fail
  refine wp_loop_rounds 2 ?_
  rw [rounds_succ]
  go_wp2_with fail
  refine (sym_blk HC.out (by omega) _ 0 20 40 _ _ _ (by omega) (by omega) (by omega) f3 _ HO3.out HM3.out (by omega) (by omega) (by omega) (HB1.out.congr fun k k1 k2 => (HU3.out k (by omega)).trans (HU2.out k (by omega))) (HB2.out.congr fun k k1 k2 => HU3.out k (by omega))).mono ?_
  rintro e w4 ⟨rfl, f4, ho4, hm4, hb4, hu4⟩
  have HO4 : Hid (Own w0 w4 g n f4) := ho4
  have HM4 : Hid (Mix idz f4 0 n) := hm4
  have HB4 : Hid (Blk key f4 0 40) := hb4
  have HU4 : Hid (∀ k, ¬ (0 ≤ k ∧ k < 40) → f4 k = f3 k) := hu4
  clear ho4 hm4 hb4 hu4
  go_wp2_with fail
  rw [rounds_succ]
  go_wp2_with fail
  rw [rounds_succ]
  go_wp2_with fail
  refine wp_loop_rounds 1 ?_
  rw [rounds_succ]
  go_wp2_with fail
  refine (sym_blk HC.out (by omega) _ 0 40 n _ _ _ (by omega) (by omega) (by omega) f4 _ HO4.out HM4.out (by omega) (by omega) (by omega) HB4.out (HB3.out.congr fun k k1 k2 => HU4.out k (by omega))).mono ?_
  rintro e w5 ⟨rfl, f5, ho5, hm5, hb5, hu5⟩
  have HO5 : Hid (Own w0 w5 g n f5) := ho5
  have HM5 : Hid (Mix idz f5 0 n) := hm5
  have HB5 : Hid (Blk key f5 0 n) := hb5
  have HU5 : Hid (∀ k, ¬ (0 ≤ k ∧ k < n) → f5 k = f4 k) := hu5
  clear ho5 hm5 hb5 hu5
  go_wp2_with fail
  rw [rounds_succ]
  go_wp2_with fail
  go_end0
  exact ⟨rfl, f5, HO5.out, HM5.out, HB5.out.1⟩

theorem stable_any (hc : CmpOk w0 g n B key) (hn : n ≤ 50) (cap : Nat) (w : World) (h : Own w0 w g n idz) :
    Calls Try.prog 44 #[.slice (some ⟨g, 0, none⟩) n cap, .int .i64 n, cmpV B] w fun e w' => e = .returned (.tuple #[]) ∧ ∃ f', Own w0 w' g n f' ∧ Mix idz f' 0 n ∧ Srt key f' 0 n := by
  by_cases h1 : n < 20
  · exact stable_1 hc cap w h h1
  · by_cases h2 : n = 20
    · exact stable_2 hc cap w h h2
    · by_cases h3 : n < 40
      · exact stable_3 hc cap w h (by omega) h3
      · by_cases h4 : n = 40
        · exact stable_4 hc cap w h h4
        · exact stable_5 hc cap w h (by omega) hn

theorem sortStable_any (hc : CmpOk w0 g n B key) (hn : n ≤ 50) (cap : Nat) (w : World) (h : Own w0 w g n idz) :
    Calls Try.prog 33 #[.slice (some ⟨g, 0, none⟩) n cap, cmpV B] w fun e w' => e = .returned (.tuple #[]) ∧ ∃ f', Own w0 w' g n f' ∧ Mix idz f' 0 n ∧ Srt key f' 0 n := by
  have H := stable_any hc hn cap w h
  have HH : Hid (Calls Try.prog 44 #[.slice (some ⟨g, 0, none⟩) n cap, .int .i64 n, cmpV B] w fun e w' => e = .returned (.tuple #[]) ∧ ∃ f', Own w0 w' g n f' ∧ Mix idz f' 0 n ∧ Srt key f' 0 n) := H
  clear hc h H
  go_enter Try.func33, Try.ntmps33
  go_wp2_with fail
  refine HH.out.mono ?_
  rintro e w1 ⟨rfl, f1, h1⟩
  have H1 : Hid (Own w0 w1 g n f1 ∧ Mix idz f1 0 n ∧ Srt key f1 0 n) := h1
  clear h1 HH
  go_wp2_with fail
  go_end0
  exact ⟨rfl, f1, H1.out⟩

end Go.Proofs.Ytipihacnkiijaaa.cents
