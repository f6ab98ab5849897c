/- What the document's answer to Over gives back. -/
import Derived.Test.YtopbiamlmdpphaaBigAdded
namespace Go.Proofs.Ytopbiamlmdpphaa.words
open Go.RowKit

theorem dig_small {d : Nat} (h0 : 0 < d) (h : d < 4294967296) : (dig d).length = 1 := by
  rw [dig_pos (by omega), List.length_cons, Nat.div_eq_of_lt h, dig_zero]; rfl

theorem div_small (M d : Nat) (h0 : 0 < d) (hd : d < 4294967296) (hM : (dig M).length ≤ 60) : ∀ w' xa xn xc ya yn yc, Ru w' xa xn xc (dig M) → Ru w' ya yn yc (dig d) → Calls Try.prog 53 #[.slice xa xn xc, .slice ya yn yc] w' fun e w'' => DivGives w' (M / d) (M % d) e w'' := by
  intro w' xa xn xc ya yn yc hx hy
  have ey := hy.len
  rw [dig_small h0 hd] at ey
  subst ey
  have ex := hx.len
  by_cases h : M < d
  · have := div_less xa ya xn 1 xc yc M d w' hx hy (by omega) (by omega) h
    rw [Nat.div_eq_of_lt h, Nat.mod_eq_of_lt h]
    exact this
  · by_cases h2 : xn ≤ 2
    · exact div_two xa ya xn 1 xc yc M d w' hx hy h2 h0 (by omega)
    · exact div_one xa ya xn xc yc M d w' hx hy (by omega) (by omega)

/-- QuoRem of numbers not below 0. -/
theorem quoRem_any (z x y r M d : Nat) (w : World) (hx : Bg w x M) (hy : Bg w y d) (hz : Ob w z) (hr : Ob w r) (hzr : r ≠ z) (h0 : 0 < d) (hd : d < 4294967296) (hM : (dig M).length ≤ 60) :
    Calls Try.prog 32 #[.pointer (some ⟨z, 0, none⟩), .pointer (some ⟨x, 0, none⟩), .pointer (some ⟨y, 0, none⟩), .pointer (some ⟨r, 0, none⟩)] w fun e w' => QuoPost w z r (M / d) (M % d) e w' := by
  obtain ⟨xa, xn, xc, x0, x1, xr⟩ := hx.parts
  obtain ⟨ya, yn, yc, y0, y1, yr⟩ := hy.parts
  exact quo_of z x y r _ _ xa ya xn xc yn yc w x0 x1 y0 y1 hz hr hzr fun w' hb => div_small M d h0 hd hM w' xa xn xc ya yn yc (xr.below hb) (yr.below hb)

/-- A wide number, a word and an error's number were given back. -/
def OverPost (w : World) (Y : W3) (t : Int) (n : Int) (e : Ending) (w' : World) : Prop := e = .returned (.tuple #[.agg #[.int .u32 Y.a, .int .u32 Y.b, .int .u32 Y.c], .int .u32 t, .int .i64 n]) ∧ Below w.heap.size w w'

set_option maxHeartbeats 1000000 in
theorem divided_zero (a b c : Nat) (w : World) :
    Calls Try.prog 14 #[.agg #[.int .u32 (a : Int), .int .u32 (b : Int), .int .u32 (c : Int)], .int .u32 0] w fun e w' => OverPost w ⟨0, 0, 0⟩ 0 4 e w' := by
  have HR : Hid (Trio ((w.alloc (.cells #[.int .u32 (a : Int), .int .u32 (b : Int), .int .u32 (c : Int)] 24)).alloc (.cells #[.int .u32 0, .int .u32 0, .int .u32 0] 24)) (w.heap.size + 1) (.int .u32 0) (.int .u32 0) (.int .u32 0)) := trio_b _ _ _ _ _
  have HB : Hid (Below w.heap.size w ((w.alloc (.cells #[.int .u32 (a : Int), .int .u32 (b : Int), .int .u32 (c : Int)] 24)).alloc (.cells #[.int .u32 0, .int .u32 0, .int .u32 0] 24))) := bel2 _ _ _
  go_enter Try.func14, Try.ntmps14
  go_wp2_with fail
  have RR := HR.out
  refine bodyPost_ret (v := .tuple #[.agg #[.int .u32 0, .int .u32 0, .int .u32 0], .int .u32 0, .int .i64 4]) (by simp [results, Try.results14, RR.c0, RR.c1, RR.c2, go_sem]) rfl ⟨rfl, HB.out⟩

set_option maxHeartbeats 2000000 in
theorem divided_any (a b c d : Nat) (Y : W3) (t : Nat) (w : World) (ha : a < 4294967296) (hb : b < 4294967296) (hc : c < 4294967296) (d0 : 0 < d) (hd : d < 4294967296) (hY : Y.ok) (hv : Y.val = ((big96V a b c / d : Nat) : Int)) (hr : big96V a b c % d = t) :
    Calls Try.prog 14 #[.agg #[.int .u32 (a : Int), .int .u32 (b : Int), .int .u32 (c : Int)], .int .u32 (d : Int)] w fun e w' => OverPost w Y (t : Int) 0 e w' := by
  have HT : Hid (Trio (((w.alloc (.cells #[.int .u32 (a : Int), .int .u32 (b : Int), .int .u32 (c : Int)] 24)).alloc (.cells #[.int .u32 0, .int .u32 0, .int .u32 0] 24)).alloc (.cells #[.bool false, .slice none 0 0] 53)) w.heap.size (.int .u32 (a : Int)) (.int .u32 (b : Int)) (.int .u32 (c : Int))) := ((trio_new _ _ _ _).alloc _).alloc _
  have HR : Hid (Trio (((w.alloc (.cells #[.int .u32 (a : Int), .int .u32 (b : Int), .int .u32 (c : Int)] 24)).alloc (.cells #[.int .u32 0, .int .u32 0, .int .u32 0] 24)).alloc (.cells #[.bool false, .slice none 0 0] 53)) (w.heap.size + 1) (.int .u32 0) (.int .u32 0) (.int .u32 0)) := (trio_b _ _ _ _ _).alloc _
  have HO : Hid (Ob (((w.alloc (.cells #[.int .u32 (a : Int), .int .u32 (b : Int), .int .u32 (c : Int)] 24)).alloc (.cells #[.int .u32 0, .int .u32 0, .int .u32 0] 24)).alloc (.cells #[.bool false, .slice none 0 0] 53)) (w.heap.size + 1 + 1)) := by
    show Ob _ _
    have := ob_new ((w.alloc (.cells #[.int .u32 (a : Int), .int .u32 (b : Int), .int .u32 (c : Int)] 24)).alloc (.cells #[.int .u32 0, .int .u32 0, .int .u32 0] 24))
    simpa using this
  have HB : Hid (Below w.heap.size w (((w.alloc (.cells #[.int .u32 (a : Int), .int .u32 (b : Int), .int .u32 (c : Int)] 24)).alloc (.cells #[.int .u32 0, .int .u32 0, .int .u32 0] 24)).alloc (.cells #[.bool false, .slice none 0 0] 53))) := bel3 _ _ _ _
  have hV : big96V a b c < 340282366920938463463374607431768211456 := by unfold big96V; omega
  have hlV : (dig (big96V a b c)).length ≤ 60 := by
    have := dig_len (m := big96V a b c) 4 (by omega)
    omega
  have ht : t < d := by rw [← hr]; exact Nat.mod_lt _ d0
  have e0 : ((d : Int) == 0) = false := beq_eq_false_iff_ne.2 (by omega)
  have c0 := HT.out.c0
  have c1 := HT.out.c1
  have c2 := HT.out.c2
  have HW : Hid (∀ n w, Bg w n (big96V a b c / d) → Calls Try.prog 27 #[.pointer (some ⟨n, 0, none⟩)] w fun e w' => WPost w Y 0 e w') := fun n w hg => wide96_W n _ Y 0 w hg hY (by omega) (by omega) (by rw [hv]; omega)
  have HM : Hid (big96V a b c % d = t) := hr
  clear hv hr hY hV
  go_enter Try.func14, Try.ntmps14
  go_wp2_with fail
  refine (big96_any a b c _ ha hb hc).mono ?_
  rintro e w1 ⟨n, rfl, hn, hg, hb1⟩
  have HR1 : Hid (Trio w1 (w.heap.size + 1) (.int .u32 0) (.int .u32 0) (.int .u32 0)) := HR.out.below hb1
  have HB1 : Hid (Below w.heap.size w w1) := HB.out.trans (hb1.mono HB.out.size)
  have HO1 : Hid (Ob w1 (w.heap.size + 1 + 1)) := HO.out.below hb1
  have HG : Hid (Bg w1 n (big96V a b c)) := hg
  have hs1 : w.heap.size + 3 ≤ w1.heap.size := by have := hb1.size; simp at this; omega
  clear hg hb1 hn c0 c1 c2 HT HR HB HO
  generalize big96V a b c = V at *
  go_wp2_with fail
  refine (newInt_any d _ (by omega)).mono ?_
  rintro e w2 ⟨q, rfl, hq, hg, hb2⟩
  have hba : Below w2.heap.size w2 (w2.alloc (.cells #[.bool false, .slice none 0 0] 53)) := (Below.refl _ _).alloc (Nat.le_refl _) _
  have HR2 : Hid (Trio (w2.alloc (.cells #[.bool false, .slice none 0 0] 53)) (w.heap.size + 1) (.int .u32 0) (.int .u32 0) (.int .u32 0)) := (HR1.out.below hb2).alloc _
  have B2 := HB1.out.trans (hb2.mono HB1.out.size)
  have HB2 : Hid (Below w.heap.size w (w2.alloc (.cells #[.bool false, .slice none 0 0] 53))) := B2.alloc B2.size _
  have HQ : Hid (Calls Try.prog 32 #[.pointer (some ⟨w.heap.size + 1 + 1, 0, none⟩), .pointer (some ⟨n, 0, none⟩), .pointer (some ⟨q, 0, none⟩), .pointer (some ⟨w2.heap.size, 0, none⟩)] (w2.alloc (.cells #[.bool false, .slice none 0 0] 53)) fun e w' => QuoPost (w2.alloc (.cells #[.bool false, .slice none 0 0] 53)) (w.heap.size + 1 + 1) w2.heap.size (V / d) (V % d) e w') :=
    quoRem_any _ n q _ V d _ ((HG.out.below hb2).below hba) (hg.below hba) ((HO1.out.below hb2).below hba) (ob_new w2) (by have := hb2.size; omega) d0 hd hlV
  have hs2 : w.heap.size + 3 ≤ w2.heap.size := by have := hb2.size; omega
  clear hg hb2 HR1 HB1 HG HO1 hq hba B2 hs1
  go_wp2_with fail
  refine HQ.out.mono ?_
  rintro e w3 ⟨rfl, hgz, hgr, hex⟩
  rw [HM.out] at hgr
  have HR3 : Hid (Trio w3 (w.heap.size + 1) (.int .u32 0) (.int .u32 0) (.int .u32 0)) := by
    have h := HR2.out
    have hl := h.lt
    show Trio _ _ _ _ _
    unfold Trio at *
    rw [hex.block _ hl (by omega) (by omega)]; exact h
  have HB3 : Hid (Below w.heap.size w w3) := HB2.out.trans ⟨hex.os, hex.tape, hex.output, hex.size, fun k hk => hex.block k (Nat.lt_of_lt_of_le hk HB2.out.size) (by omega) (by omega)⟩
  have HGZ : Hid (Bg w3 (w.heap.size + 1 + 1) (V / d)) := hgz
  have HGR : Hid (Bg w3 w2.heap.size t) := hgr
  clear hgz hgr hex HR2 HB2 HQ
  go_wp2_with fail
  refine (HW.out _ _ HGZ.out).mono ?_
  rintro e w4 ⟨rfl, hb4⟩
  have R4 := (HR3.out.below hb4).alloc (.cells #[.int .u32 Y.a, .int .u32 Y.b, .int .u32 Y.c] 24)
  have B4 := HB3.out.trans (hb4.mono HB3.out.size)
  have X4 : Trio (w4.alloc (.cells #[.int .u32 Y.a, .int .u32 Y.b, .int .u32 Y.c] 24)) w4.heap.size (.int .u32 Y.a) (.int .u32 Y.b) (.int .u32 Y.c) := trio_new _ _ _ _
  have G4 : Bg (w4.alloc (.cells #[.int .u32 Y.a, .int .u32 Y.b, .int .u32 Y.c] 24)) w2.heap.size t := (HGR.out.below hb4).below ((Below.refl _ _).alloc (Nat.le_refl _) _)
  have HB4 : Hid (Below w.heap.size w (w4.alloc (.cells #[.int .u32 Y.a, .int .u32 Y.b, .int .u32 Y.c] 24))) := B4.alloc B4.size _
  have HR4 : Hid (Trio (w4.alloc (.cells #[.int .u32 Y.a, .int .u32 Y.b, .int .u32 Y.c] 24)) (w.heap.size + 1) (.int .u32 0) (.int .u32 0) (.int .u32 0)) := R4
  have HX4 : Hid (Trio (w4.alloc (.cells #[.int .u32 Y.a, .int .u32 Y.b, .int .u32 Y.c] 24)) w4.heap.size (.int .u32 Y.a) (.int .u32 Y.b) (.int .u32 Y.c)) := X4
  have HN : Hid (∀ k, Bg ((w4.alloc (.cells #[.int .u32 Y.a, .int .u32 Y.b, .int .u32 Y.c] 24)).drewN k) w2.heap.size t) := fun k => G4.below (below_drewN (Below.refl _ _) k)
  have HU : Hid (∀ w', Bg w' w2.heap.size t → Calls Try.prog 33 #[.pointer (some ⟨w2.heap.size, 0, none⟩)] w' fun e w'' => e = .returned (.int .u64 (t : Int)) ∧ w'' = w') := fun w' hg => uint64_any _ t w' hg (by omega)
  clear R4 B4 X4 G4 hb4 HR3 HB3 HGZ HGR HW HM
  go_wp2_with fail
  generalize hWW : w4.alloc (.cells #[.int .u32 Y.a, .int .u32 Y.b, .int .u32 Y.c] 24) = W at *
  clear hWW
  have v0 := HX4.out.c0
  have v1 := HX4.out.c1
  have v2 := HX4.out.c2
  have r0c := HR4.out.c0
  have r1c := HR4.out.c1
  have r2c := HR4.out.c2
  have g0 := HR4.out.free 0
  have g1 := HR4.out.free 1
  have g2 := HR4.out.free 2
  have HFIN : Hid (∀ k, Trio (put3 (W.drewN k) (w.heap.size + 1) (.int .u32 Y.a) (.int .u32 Y.b) (.int .u32 Y.c)) (w.heap.size + 1) (.int .u32 Y.a) (.int .u32 Y.b) (.int .u32 Y.c) ∧ Below w.heap.size w (put3 (W.drewN k) (w.heap.size + 1) (.int .u32 Y.a) (.int .u32 Y.b) (.int .u32 Y.c))) := fun k =>
    ⟨Trio.put (w := W.drewN k) HR4.out _ _ _, below_put3 (below_drewN HB4.out k) _ _ _ _ (by omega)⟩
  have hwr : IntKind.u32.wrap (t : Int) = (t : Int) := by rw [wrap_u32]; omega
  clear HR4 HX4 HB4 hlV e0 ht d0 hd ha hb hc hs2
  go_region_with (go_at_call 33; refine (HU.out _ (HN.out _)).mono ?_; rintro e w' ⟨rfl, rfl⟩)
  all_goals go_wp2_with fail
  all_goals
    have RR := (HFIN.out 1).1
    refine bodyPost_ret (v := .tuple #[.agg #[.int .u32 Y.a, .int .u32 Y.b, .int .u32 Y.c], .int .u32 (t : Int), .int .i64 0]) (by simp [results, Act.put, Try.results14, RR.c0, RR.c1, RR.c2, go_sem]) rfl ⟨rfl, (HFIN.out 1).2⟩

theorem over_nat {a b c d : Nat} (h0 : 0 < d) :
    (overW ⟨a, b, c⟩ d).val = ((big96V a b c / d : Nat) : Int) ∧ ((big96V a b c % d : Nat) : Int) = overR ⟨a, b, c⟩ d := by
  have h1 := over_val ⟨a, b, c⟩ (d : Int)
  have h2 := over_left (w := ⟨a, b, c⟩) (d : Int) (by omega)
  have hd : (0 : Int) < (d : Int) := by omega
  have h3 := (Int.ediv_emod_unique (a := ((big96V a b c : Nat) : Int)) (b := (d : Int)) (r := overR ⟨a, b, c⟩ d) (q := (overW ⟨a, b, c⟩ d).val) hd).2 ⟨by rw [big96_val, ← h1, Int.add_comm, Int.mul_comm], h2.1, h2.2⟩
  rw [Int.natCast_ediv, Int.natCast_emod]
  exact ⟨h3.1.symm, h3.2⟩

end Go.Proofs.Ytopbiamlmdpphaa.words
