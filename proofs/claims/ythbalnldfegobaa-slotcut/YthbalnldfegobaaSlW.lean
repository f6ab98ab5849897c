/- What was stored is loaded, also where storing was cut. -/
import Derived.Test.YthbalnldfegobaaSlK
import Derived.Test.YthbalnldfegobaaClSameK
import Derived.Test.YthbalnldfegobaaCkPick
namespace Go.Proofs.Ythbalnldfegobaa.slot
open Go.RowKit Go.Proofs.Ythbalnldfegobaa.cell Go.Proofs.Ythbalnldfegobaa.check
set_option maxRecDepth 100000
set_option linter.unusedVariables false

/-- Numbers that came in. -/
def RowI (w : World) (a : Option Addr) (len : Nat) (zs : List Int) : Prop :=
  ∀ i, i < len → ∃ b off, a = some ⟨b, off, none⟩ ∧ w.cell? ⟨b, off + i, none⟩ = some (.int .i64 (zs.getD i 0)) ∧ (Lit.int .i64 (zs.getD i 0)).wf = true
theorem RowI.below {w w' : World} {a : Option Addr} {len : Nat} {zs : List Int} (h : RowI w a len zs) (hb : Below w.heap.size w w') : RowI w' a len zs := fun i hi => by
  obtain ⟨b, off, h1, h2, h3⟩ := h i hi
  exact ⟨b, off, h1, (hb.cell (p := ⟨b, off + i, none⟩) (World.block_lt_of_cell? w _ h2)).trans h2, h3⟩

/-- All that the statements call, for records of n = 1 + p words. -/
structure Kit (p n m q : Nat) : Prop where
  one : 1 ≤ n
  most : n ≤ 20
  slots : ∀ W a len cap A L C Z, Rws W a len A L C Z → Calls Try.prog 19 #[.int .i64 (1 + (p : Int)), .slice a len cap] W fun e w' => Slots W n m e w'
  load : ∀ W a c zo zc, Sl W n a m c zo zc → Calls Try.prog 13 #[.slice a m c, .int .i64 (1 + (p : Int))] W fun e w' => Got W n zo e w'
  same : ∀ W a b c d zs, RowU W a n zs → RowU W b n zs → Calls Try.prog 20 #[.slice a n c, .slice b n d] W fun e w' => e = .returned (.bool true) ∧ Below W.heap.size W w'
  fitted : ∀ W a len cap zs, RowU W a len zs → Calls Try.prog 21 #[.slice a len cap, .int .i64 (1 + (p : Int))] W fun e w' => Fit W n zs e w'
  store : ∀ W a c1 r c2 zo zc zr, Sl W n a m c1 zo zc → RowU W r n zr → Calls Try.prog 15 #[.slice a m c1, .slice r n c2] W fun e w' => Stored W n q zc zr e w'
  apply : ∀ W a c1 b c2 zo zc zr k, Sl W n a m c1 zo zc → RowW W b q (sto zc zr n) → q ≤ c2 → zr.length = n → k ≤ q → Calls Try.prog 22 #[.slice a m c1, .slice b q c2, .int .i64 (k : Int)] W fun e w' => Cut W n m zo (if k < q then zo else zr) e w'
theorem kit (p : Nat) (hp : p < 20) : Kit p (p + 1) (2 * (p + 1) + 2) (p + 1 + 2) := by
  have e : (1 + (p : Int)) = ((p + 1 : Nat) : Int) := by omega
  refine ⟨by omega, by omega, ?_, ?_, ?_, ?_, ?_, ?_⟩
  · intro W a len cap A L C Z h
    rw [e]
    exact slots_any a len cap (p + 1) _ _ A L C Z W h (by omega) (by omega) rfl rfl
  · intro W a c zo zc h
    rw [e]
    exact load_sl a _ c (p + 1) zo zc W h (by omega) (by omega)
  · intro W a b c d zs h h'
    exact words_keep a b (p + 1) c d zs W h h' (by unfold maxLen; omega)
  · intro W a len cap zs h
    rw [e]
    exact fitted_row a len cap (p + 1) zs W h (by omega)
  · intro W a c1 r c2 zo zc zr h h'
    exact store_sl a r _ c1 (p + 1) c2 _ zo zc zr W h h' (by omega) (by omega) rfl
  · intro W a c1 b c2 zo zc zr k h h' hc hl hk
    exact apply_sl a b _ c1 (p + 1) _ c2 k zo zc zr W h h' hc (by omega) (by omega) rfl hl hk

set_option maxHeartbeats 1000000 in
theorem back_walk (a0 : Int) (a1 : Option Addr) (len1 cap1 : Nat) (A L C) (Z : Nat → List Int) (w : World) (h0 : (Lit.int .i64 a0).wf = true) (h1 : Rws w a1 len1 A L C Z) :
    Calls Try.prog 6 #[.int .i64 a0, .slice a1 len1 cap1] w fun e w' => e = .returned (.bool true) ∧ Below w.heap.size w w' := by
  have HP : Hid (∀ W, Calls Try.prog 18 #[.int .i64 a0, .int .i64 20] W fun e w' => e = .returned (.int .i64 (((pick a0 20).toNat : Nat) : Int)) ∧ w' = W) := fun W => picked_nat a0 20 W h0 (by decide) (by decide)
  have hp : (pick a0 20).toNat < 20 := pick_toNat a0 20 (by decide)
  have HK : Hid (Kit (pick a0 20).toNat ((pick a0 20).toNat + 1) (2 * ((pick a0 20).toNat + 1) + 2) ((pick a0 20).toNat + 1 + 2)) := kit _ hp
  have HR : Hid (Rws w a1 len1 A L C Z) := h1
  clear h0 h1
  generalize (pick a0 20).toNat + 1 + 2 = q at *
  generalize 2 * ((pick a0 20).toNat + 1) + 2 = m at *
  generalize (pick a0 20).toNat + 1 = n at *
  generalize (pick a0 20).toNat = p at *
  go_enter Try.func6, Try.ntmps6
  go_wp2_with fail
  refine (HP.out _).mono ?_
  rintro e w1 ⟨rfl, rfl⟩
  go_wp2_with fail
  refine (HK.out.slots _ _ _ _ _ _ _ _ HR.out).mono ?_
  rintro e w2 ⟨x2, c2, y2, d2, zo, zc, rfl, s2, r2, hb2⟩
  have H2 : Hid (Sl w2 n x2 m c2 zo zc ∧ RowU w2 y2 n zo ∧ Below w1.heap.size w1 w2) := ⟨s2, r2, hb2⟩
  clear s2 r2 hb2 HR
  go_wp2_with fail
  refine (HK.out.load _ _ _ _ _ H2.out.1).mono ?_
  rintro e w3 ⟨x3, c3, rfl, r3, hb3⟩
  have H3 : Hid (RowU w3 x3 n zo ∧ RowU w3 y2 n zo ∧ Below w1.heap.size w1 w3) := ⟨r3, H2.out.2.1.below hb3, bel_step H2.out.2.2 hb3⟩
  clear r3 hb3 H2
  go_wp2_with fail
  refine (HK.out.same _ _ _ _ _ _ H3.out.1 H3.out.2.1).mono ?_
  rintro e w4 ⟨rfl, hb4⟩
  have H4 : Hid (Below w1.heap.size w1 w4) := bel_step H3.out.2.2 hb4
  clear hb4 H3
  go_wp2_with fail
  go_ret
  exact ⟨rfl, H4.out⟩

set_option maxHeartbeats 2000000 in
theorem cut_walk (a0 : Int) (a1 : Option Addr) (len1 cap1 : Nat) (A L C) (Z : Nat → List Int) (a2 : Option Addr) (len2 cap2 : Nat) (z2 : List Int) (a3 : Int) (w : World) (h0 : (Lit.int .i64 a0).wf = true) (h1 : Rws w a1 len1 A L C Z) (h2 : RowU w a2 len2 z2) (h3 : (Lit.int .i64 a3).wf = true) :
    Calls Try.prog 7 #[.int .i64 a0, .slice a1 len1 cap1, .slice a2 len2 cap2, .int .i64 a3] w fun e w' => e = .returned (.bool true) ∧ Below w.heap.size w w' := by
  have HP : Hid (∀ W, Calls Try.prog 18 #[.int .i64 a0, .int .i64 20] W fun e w' => e = .returned (.int .i64 (((pick a0 20).toNat : Nat) : Int)) ∧ w' = W) := fun W => picked_nat a0 20 W h0 (by decide) (by decide)
  have hp : (pick a0 20).toNat < 20 := pick_toNat a0 20 (by decide)
  have HK : Hid (Kit (pick a0 20).toNat ((pick a0 20).toNat + 1) (2 * ((pick a0 20).toNat + 1) + 2) ((pick a0 20).toNat + 1 + 2)) := kit _ hp
  have HR : Hid (Rws w a1 len1 A L C Z ∧ RowU w a2 len2 z2) := ⟨h1, h2⟩
  have hq1 : 1 ≤ (pick a0 20).toNat + 1 + 2 := by omega
  have hq2 : (pick a0 20).toNat + 1 + 2 ≤ 100 := by omega
  clear h0 h1 h2
  generalize (pick a0 20).toNat + 1 + 2 = q at *
  generalize 2 * ((pick a0 20).toNat + 1) + 2 = m at *
  generalize (pick a0 20).toNat + 1 = n at *
  generalize (pick a0 20).toNat = p at *
  have HPK : Hid (∀ W, Calls Try.prog 18 #[.int .i64 a3, .int .i64 ((q : Int) + 1)] W fun e w' => e = .returned (.int .i64 (((pick a3 ((q + 1 : Nat) : Int)).toNat : Nat) : Int)) ∧ w' = W) := fun W => by
    have := picked_nat a3 (q + 1) W h3 (by omega) (by omega)
    rw [show ((q + 1 : Nat) : Int) = (q : Int) + 1 by omega] at this ⊢
    exact this
  have hr : (pick a3 ((q + 1 : Nat) : Int)).toNat < q + 1 := pick_toNat a3 (q + 1) (by omega)
  clear h3
  generalize (pick a3 ((q + 1 : Nat) : Int)).toNat = r at *
  have hq0 : ((q : Int) == 0) = false := by simp; omega
  go_enter Try.func7, Try.ntmps7
  go_wp2_with fail
  refine (HP.out _).mono ?_
  rintro e w1 ⟨rfl, rfl⟩
  go_wp2_with fail
  refine (HK.out.slots _ _ _ _ _ _ _ _ HR.out.1).mono ?_
  rintro e w2 ⟨x2, c2, y2, d2, zo, zc, rfl, s2, r2, hb2⟩
  have H2 : Hid (Sl w2 n x2 m c2 zo zc ∧ RowU w2 y2 n zo ∧ RowU w2 a2 len2 z2 ∧ Below w1.heap.size w1 w2) := ⟨s2, r2, HR.out.2.below hb2, hb2⟩
  clear s2 r2 hb2 HR
  go_wp2_with fail
  refine (HK.out.fitted _ _ _ _ _ H2.out.2.2.1).mono ?_
  rintro e w3 ⟨x3, c3, rfl, r3, _, hb3⟩
  have H3 : Hid (RowU w3 x3 n (fit z2 n) ∧ Sl w3 n x2 m c2 zo zc ∧ RowU w3 y2 n zo ∧ Below w1.heap.size w1 w3) := ⟨r3, H2.out.1.below hb3, H2.out.2.1.below hb3, bel_step H2.out.2.2.2 hb3⟩
  clear r3 hb3 H2
  go_wp2_with fail
  refine (HK.out.store _ _ _ _ _ _ _ _ H3.out.2.1 H3.out.1).mono ?_
  rintro e w4 ⟨x4, c4, rfl, r4, hc4, hb4⟩
  have H4 : Hid (RowW w4 x4 q (sto zc (fit z2 n) n) ∧ q ≤ c4 ∧ Sl w4 n x2 m c2 zo zc ∧ RowU w4 x3 n (fit z2 n) ∧ RowU w4 y2 n zo ∧ Below w1.heap.size w1 w4) := ⟨r4, hc4, H3.out.2.1.below hb4, H3.out.1.below hb4, H3.out.2.2.1.below hb4, bel_step H3.out.2.2.2 hb4⟩
  clear r4 hc4 hb4 H3
  go_wp2_with fail
  refine (HPK.out _).mono ?_
  rintro e w5 ⟨rfl, rfl⟩
  go_wp2_with fail
  refine (HK.out.apply _ _ _ _ _ _ _ _ _ H4.out.2.2.1 H4.out.1 H4.out.2.1 (fit_len _ _) (by omega)).mono ?_
  rintro e w6 ⟨x6, c6, zc6, rfl, s6, hb6⟩
  have H6 : Hid (RowU w6 x3 n (fit z2 n) ∧ RowU w6 y2 n zo ∧ Below w1.heap.size w1 w6) := ⟨H4.out.2.2.2.1.below hb6, H4.out.2.2.2.2.1.below hb6, bel_step H4.out.2.2.2.2.2 hb6⟩
  clear hb6 H4
  by_cases hlt : r < q
  · rw [if_pos hlt] at s6
    have HS : Hid (Sl w6 n x6 m c6 zo zc6) := s6
    clear s6
    go_wp2_with fail
    refine (HK.out.load _ _ _ _ _ HS.out).mono ?_
    rintro e w7 ⟨x7, c7, rfl, r7, hb7⟩
    have H7 : Hid (RowU w7 x7 n zo ∧ RowU w7 y2 n zo ∧ Below w1.heap.size w1 w7) := ⟨r7, H6.out.2.1.below hb7, bel_step H6.out.2.2 hb7⟩
    clear r7 hb7 H6
    go_wp2_with fail
    refine (HK.out.same _ _ _ _ _ _ H7.out.1 H7.out.2.1).mono ?_
    rintro e w8 ⟨rfl, hb8⟩
    have H8 : Hid (Below w1.heap.size w1 w8) := bel_step H7.out.2.2 hb8
    clear hb8 H7
    go_wp2_with fail
    go_ret
    exact ⟨rfl, H8.out⟩
  · rw [if_neg hlt] at s6
    have HS : Hid (Sl w6 n x6 m c6 (fit z2 n) zc6) := s6
    have hge : ¬ (r : Int) < (q : Int) := by omega
    clear s6
    go_wp2_with fail
    refine (HK.out.load _ _ _ _ _ HS.out).mono ?_
    rintro e w7 ⟨x7, c7, rfl, r7, hb7⟩
    have H7 : Hid (RowU w7 x7 n (fit z2 n) ∧ RowU w7 x3 n (fit z2 n) ∧ Below w1.heap.size w1 w7) := ⟨r7, H6.out.1.below hb7, bel_step H6.out.2.2 hb7⟩
    clear r7 hb7 H6
    go_wp2_with fail
    refine (HK.out.same _ _ _ _ _ _ H7.out.1 H7.out.2.1).mono ?_
    rintro e w8 ⟨rfl, hb8⟩
    have H8 : Hid (Below w1.heap.size w1 w8) := bel_step H7.out.2.2 hb8
    clear hb8 H7
    go_wp2_with fail
    go_ret
    exact ⟨rfl, H8.out⟩

set_option maxHeartbeats 2000000 in
theorem retry_walk (a0 : Int) (a1 : Option Addr) (len1 cap1 : Nat) (A L C) (Z : Nat → List Int) (a2 : Option Addr) (len2 cap2 : Nat) (z2 : List Int) (a3 : Option Addr) (len3 cap3 : Nat) (z3 : List Int) (w : World) (h0 : (Lit.int .i64 a0).wf = true) (h1 : Rws w a1 len1 A L C Z) (h2 : RowI w a2 len2 z2) (h3 : RowU w a3 len3 z3) :
    Calls Try.prog 8 #[.int .i64 a0, .slice a1 len1 cap1, .slice a2 len2 cap2, .slice a3 len3 cap3] w fun e w' => e = .returned (.bool true) ∧ Below w.heap.size w w' := by
  have HP : Hid (∀ W, Calls Try.prog 18 #[.int .i64 a0, .int .i64 20] W fun e w' => e = .returned (.int .i64 (((pick a0 20).toNat : Nat) : Int)) ∧ w' = W) := fun W => picked_nat a0 20 W h0 (by decide) (by decide)
  have hp : (pick a0 20).toNat < 20 := pick_toNat a0 20 (by decide)
  have HK : Hid (Kit (pick a0 20).toNat ((pick a0 20).toNat + 1) (2 * ((pick a0 20).toNat + 1) + 2) ((pick a0 20).toNat + 1 + 2)) := kit _ hp
  have HR : Hid (Rws w a1 len1 A L C Z ∧ RowI w a2 len2 z2 ∧ RowU w a3 len3 z3) := ⟨h1, h2, h3⟩
  have hq1 : 1 ≤ (pick a0 20).toNat + 1 + 2 := by omega
  have hq2 : (pick a0 20).toNat + 1 + 2 ≤ 100 := by omega
  clear h0 h1 h2 h3
  generalize (pick a0 20).toNat + 1 + 2 = q at *
  generalize 2 * ((pick a0 20).toNat + 1) + 2 = m at *
  generalize (pick a0 20).toNat + 1 = n at *
  generalize (pick a0 20).toNat = p at *
  have hq0 : ((q : Int) == 0) = false := by simp; omega
  go_enter Try.func8, Try.ntmps8
  go_wp2_with fail
  refine (HP.out _).mono ?_
  rintro e w1 ⟨rfl, rfl⟩
  go_wp2_with fail
  refine (HK.out.slots _ _ _ _ _ _ _ _ HR.out.1).mono ?_
  rintro e w2 ⟨x2, c2, y2, d2, zo, zc, rfl, s2, r2, hb2⟩
  have H2 : Hid (Sl w2 n x2 m c2 zo zc ∧ Below w2.heap.size w2 w2) := ⟨s2, Below.refl _ _⟩
  have HC : Hid (RowU w2 y2 n zo ∧ RowI w2 a2 len2 z2 ∧ RowU w2 a3 len3 z3 ∧ Below w1.heap.size w1 w2) := ⟨r2, HR.out.2.1.below hb2, HR.out.2.2.below hb2, hb2⟩
  clear s2 r2 hb2 HR
  go_wp2_with fail
  go_loopw [10, 13] (fun vc i wr => ∃ (k : Nat) (x : Option Addr) (c : Nat) (zc : List Int), vc = .slice x m c ∧ i = .int .i64 (k : Int) ∧ k ≤ 10 ∧ k ≤ len2 ∧ Sl wr n x m c zo zc ∧ Below w2.heap.size w2 wr) (fun _ i _ => 10 - (intOf i).toNat)
  case atStart => exact ⟨0, x2, c2, zc, rfl, rfl, Nat.zero_le _, Nat.zero_le _, H2.out⟩
  case round =>
    obtain ⟨k, x, c, zc', rfl, rfl, hk, hkl, hS, hb⟩ := hrel
    have HI : Hid (Sl wr n x m c zo zc' ∧ Below w2.heap.size w2 wr) := ⟨hS, hb⟩
    clear hS hb H2
    by_cases hgo : k < len2 ∧ k < 10
    · obtain ⟨g1, g2⟩ := hgo
      obtain ⟨bi, oi, rfl, hcell, hwf⟩ := HC.out.2.1 k g1
      have hlt : bi < w2.heap.size := World.block_lt_of_cell? w2 _ hcell
      have HCE : Hid (∀ wr, Below w2.heap.size w2 wr → wr.cell? ⟨bi, oi + k, none⟩ = some (.int .i64 (z2.getD k 0))) := fun wr hb => (hb.cell (p := ⟨bi, oi + k, none⟩) hlt).trans hcell
      have HPK : Hid (∀ W, Calls Try.prog 18 #[.int .i64 (z2.getD k 0), .int .i64 (q : Int)] W fun e w' => e = .returned (.int .i64 (((pick (z2.getD k 0) (q : Int)).toNat : Nat) : Int)) ∧ w' = W) := fun W => picked_nat _ q W hwf (by omega) (by omega)
      have hr : (pick (z2.getD k 0) (q : Int)).toNat < q := pick_toNat _ q (by omega)
      clear hcell hwf hlt
      generalize (pick (z2.getD k 0) (q : Int)).toNat = r at *
      generalize z2.getD k 0 = cutk at *
      go_wp2_with fail
      refine (HK.out.fitted _ _ _ _ _ (HC.out.2.2.1.below HI.out.2)).mono ?_
      rintro e w3 ⟨x3, c3, rfl, r3, _, hb3⟩
      have H3 : Hid (RowU w3 x3 n (fit z3 n) ∧ Sl w3 n x m c zo zc' ∧ Below w2.heap.size w2 w3) := ⟨r3, HI.out.1.below hb3, bel_step HI.out.2 hb3⟩
      clear r3 hb3 HI
      go_wp2_with fail
      refine (HK.out.store _ _ _ _ _ _ _ _ H3.out.2.1 H3.out.1).mono ?_
      rintro e w4 ⟨x4, c4, rfl, r4, hc4, hb4⟩
      have H4 : Hid (RowW w4 x4 q (sto zc' (fit z3 n) n) ∧ q ≤ c4 ∧ Sl w4 n x m c zo zc' ∧ Below w2.heap.size w2 w4) := ⟨r4, hc4, H3.out.2.1.below hb4, bel_step H3.out.2.2 hb4⟩
      have hcell := HCE.out w4 H4.out.2.2.2
      clear r4 hc4 hb4 H3
      go_wp2_with fail
      refine (HPK.out _).mono ?_
      rintro e w5 ⟨rfl, rfl⟩
      go_wp2_with fail
      refine (HK.out.apply _ _ _ _ _ _ _ _ _ H4.out.2.2.1 H4.out.1 H4.out.2.1 (fit_len _ _) (by omega)).mono ?_
      rintro e w6 ⟨x6, c6, zc6, rfl, s6, hb6⟩
      rw [if_pos hr] at s6
      have H6 : Hid (Sl w6 n x6 m c6 zo zc6 ∧ Below w2.heap.size w2 w6) := ⟨s6, bel_step H4.out.2.2.2 hb6⟩
      clear s6 hb6 H4 hcell
      go_wp2_with fail
      refine (HK.out.load _ _ _ _ _ H6.out.1).mono ?_
      rintro e w7 ⟨x7, c7, rfl, r7, hb7⟩
      have H7 : Hid (RowU w7 x7 n zo ∧ Sl w7 n x6 m c6 zo zc6 ∧ RowU w7 y2 n zo ∧ Below w2.heap.size w2 w7) := ⟨r7, H6.out.1.below hb7, HC.out.1.below (bel_step H6.out.2 hb7), bel_step H6.out.2 hb7⟩
      clear r7 hb7 H6
      go_wp2_with fail
      refine (HK.out.same _ _ _ _ _ _ H7.out.1 H7.out.2.2.1).mono ?_
      rintro e w8 ⟨rfl, hb8⟩
      have H8 : Hid (Sl w8 n x6 m c6 zo zc6 ∧ Below w2.heap.size w2 w8) := ⟨H7.out.2.1.below hb8, bel_step H7.out.2.2.2 hb8⟩
      clear hb8 H7
      go_wp2_with fail
      go_roundw
      case rel => exact ⟨k + 1, x6, c6, zc6, rfl, by go_num, by omega, by omega, H8.out⟩
      case measure => simp [intOf]; omega
    · have hend : k < len2 ∨ ¬ k < len2 := Nat.lt_or_ge _ _ |>.imp id Nat.not_lt.2
      have hg3 : k < len2 → ¬ (k : Int) < 10 := fun h => by omega
      clear hgo
      rcases hend with g1 | g1
      all_goals
        first
          | have g2 := hg3 g1
          | skip
        clear hg3
        go_wp2_with fail
        refine (HK.out.fitted _ _ _ _ _ (HC.out.2.2.1.below HI.out.2)).mono ?_
        rintro e w3 ⟨x3, c3, rfl, r3, _, hb3⟩
        have H3 : Hid (RowU w3 x3 n (fit z3 n) ∧ Sl w3 n x m c zo zc' ∧ Below w2.heap.size w2 w3) := ⟨r3, HI.out.1.below hb3, bel_step HI.out.2 hb3⟩
        clear r3 hb3 HI
        go_wp2_with fail
        refine (HK.out.store _ _ _ _ _ _ _ _ H3.out.2.1 H3.out.1).mono ?_
        rintro e w4 ⟨x4, c4, rfl, r4, hc4, hb4⟩
        have H4 : Hid (RowW w4 x4 q (sto zc' (fit z3 n) n) ∧ q ≤ c4 ∧ Sl w4 n x m c zo zc' ∧ RowU w4 x3 n (fit z3 n) ∧ Below w2.heap.size w2 w4) := ⟨r4, hc4, H3.out.2.1.below hb4, H3.out.1.below hb4, bel_step H3.out.2.2 hb4⟩
        clear r4 hc4 hb4 H3
        go_wp2_with fail
        refine (HK.out.apply _ _ _ _ _ _ _ _ _ H4.out.2.2.1 H4.out.1 H4.out.2.1 (fit_len _ _) (Nat.le_refl _)).mono ?_
        rintro e w6 ⟨x6, c6, zc6, rfl, s6, hb6⟩
        rw [if_neg (Nat.lt_irrefl _)] at s6
        have H6 : Hid (Sl w6 n x6 m c6 (fit z3 n) zc6 ∧ RowU w6 x3 n (fit z3 n) ∧ Below w2.heap.size w2 w6) := ⟨s6, H4.out.2.2.2.1.below hb6, bel_step H4.out.2.2.2.2 hb6⟩
        clear s6 hb6 H4
        go_wp2_with fail
        refine (HK.out.load _ _ _ _ _ H6.out.1).mono ?_
        rintro e w7 ⟨x7, c7, rfl, r7, hb7⟩
        have H7 : Hid (RowU w7 x7 n (fit z3 n) ∧ RowU w7 x3 n (fit z3 n) ∧ Below w2.heap.size w2 w7) := ⟨r7, H6.out.2.1.below hb7, bel_step H6.out.2.2 hb7⟩
        clear r7 hb7 H6
        go_wp2_with fail
        refine (HK.out.same _ _ _ _ _ _ H7.out.1 H7.out.2.1).mono ?_
        rintro e w8 ⟨rfl, hb8⟩
        have H8 : Hid (Below w1.heap.size w1 w8) := bel_step HC.out.2.2.2 (bel_step H7.out.2.2 hb8)
        clear hb8 H7
        go_wp2_with fail
        go_ret
        exact ⟨rfl, H8.out⟩

end Go.Proofs.Ythbalnldfegobaa.slot
