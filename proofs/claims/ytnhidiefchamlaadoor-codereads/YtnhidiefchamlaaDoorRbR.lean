/- readback.Read, in the program. -/
import Derived.Test.YtnhidiefchamlaaDoorKoR
import Derived.Test.YtnhidiefchamlaaDoorCkRest
import Derived.Test.YtnhidiefchamlaaDoorRqMn
import Derived.Test.YtnhidiefchamlaaDoorRqO
import Derived.Test.YtnhidiefchamlaaDoorLet
import Derived.Test.YtnhidiefchamlaaDoorProg
import Derived.WalkKit
import Derived.Deep.DeepCutAuto
namespace Go.Proofs.YtnhidiefchamlaaDoor.cod
open Go.Proofs.YtnhidiefchamlaaDoor.check (allD isD flawR flawR_zero restR restN digs)
open Go.Proofs.YtnhidiefchamlaaDoor.token (dv dv_lt dv_rest)
open Go.RowKit
set_option maxRecDepth 100000
set_option linter.unusedVariables false
set_option linter.unusedSimpArgs false

theorem atoi_18 (s : ByteArray) (w : World) (h : s.size = 18) (hd : allD s.data.toList = true) :
    Calls Tryd.prog 22 #[.string s] w fun e w' => e = .returned (.tuple #[.int .i64 ((dv s.data.toList : Nat) : Int), .nilIface]) ∧ Below w.heap.size w w' := by
  have hl : s.data.toList.length = 18 := (Array.length_toList).trans h
  refine (Tryd.strconv_Atoi_ok s (by omega) _ (rcp.atoi_digits hd (by intro e; rw [e] at hl; cases hl) (by omega)) w).mono ?_
  rintro e w' ⟨rfl, hw⟩
  refine ⟨rfl, ?_⟩
  rcases hw with rfl | ⟨t, rfl⟩
  · exact Below.refl _ _
  · exact Lib.bytesWorld_below _ _ _
theorem shOf_eq (n : Nat) : shOf n = ⟨(n : Int) / 97 % 50, (n : Int) / 97 / 50 / 1048576, (n : Int) / 97 / 50 % 1048576⟩ := by
  unfold shOf
  congr 1 <;> omega
set_option maxHeartbeats 1000000 in
theorem punpack (n : Nat) (w : World) (h : n < 1000000000000000000) : Calls Tryd.prog 23 #[.int .i64 (n : Int)] w fun e w' => e = .returned (shOf n).v ∧ Below w.heap.size w w' := by
  rw [shOf_eq]
  unfold Sh.v Sh.cs
  obtain ⟨q, hq1⟩ : ∃ q : Int, (n : Int) / 97 = q := ⟨_, rfl⟩
  obtain ⟨x0, hx0⟩ : ∃ x : Int, q % 50 = x := ⟨_, rfl⟩
  obtain ⟨y2, hy2⟩ : ∃ x : Int, q / 50 = x := ⟨_, rfl⟩
  obtain ⟨x1, hx1⟩ : ∃ x : Int, y2 / 1048576 = x := ⟨_, rfl⟩
  obtain ⟨x2, hx2⟩ : ∃ x : Int, y2 % 1048576 = x := ⟨_, rfl⟩
  have hq0 : 0 ≤ q := by omega
  have hqb : q < 1000000000000000000 := by omega
  have hy0 : 0 ≤ y2 := by omega
  have hyb : y2 < 1000000000000000000 := by omega
  have hxb : (0 ≤ x0 ∧ x0 < 50) ∧ (0 ≤ x1 ∧ x1 < 1000000000000000000) ∧ (0 ≤ x2 ∧ x2 < 1048576) := by omega
  rw [hq1, hy2, hx0, hx1, hx2]
  have hn0 : (0 : Int) ≤ (n : Int) ∧ (n : Int) < 1000000000000000000 := by omega
  have HZ0 : Hid (Blk (w.alloc (.cells #[.int .i64 0, .int .i64 0, .int .i64 0] 32)) w.heap.size #[.int .i64 0, .int .i64 0, .int .i64 0] 32) := Blk.new _ _ _
  have HB0 : Hid (Below w.heap.size w (w.alloc (.cells #[.int .i64 0, .int .i64 0, .int .i64 0] 32))) := (Below.refl _ _).alloc (Nat.le_refl _) _
  go_enter Tryd.func23, Tryd.ntmps23
  go_upto_region 1 with fail
  generalize w.alloc (.cells #[.int .i64 0, .int .i64 0, .int .i64 0] 32) = W0 at *
  generalize (n : Int) = m at *
  go_wp2_with (first | (refine wp_letAll rfl 32 _ _ rfl w.heap.size rfl #[.int .i64 x0, .int .i64 x1, .int .i64 x2] rfl (by kernel_rfl) (by simp [Value.oneCell']) #[.int .i64 0, .int .i64 0, .int .i64 0] 32 HZ0.out rfl ?_) | fail)
  intro WF hUF
  have HBF : Hid (Below w.heap.size w WF) := hUF.bel _ _ (Nat.le_refl _) HB0.out
  have R0 : Hid (WF.cell? ⟨w.heap.size, 0, none⟩ = some (.int .i64 x0)) := hUF.blk.cell 0
  have R1 : Hid (WF.cell? ⟨w.heap.size, 1, none⟩ = some (.int .i64 x1)) := hUF.blk.cell 1
  have R2 : Hid (WF.cell? ⟨w.heap.size, 2, none⟩ = some (.int .i64 x2)) := hUF.blk.cell 2
  clear hUF
  go_wp2_with fail
  exact bodyPost_ret (v := .agg #[.int .i64 x0, .int .i64 x1, .int .i64 x2]) (by simp [results, Tryd.results23, R0.out, R1.out, R2.out, go_sem]) rfl ⟨rfl, HBF.out⟩

theorem fl_18 {l : List UInt8} (h : l.length = 18) : flawR l = if allD l then 0 else 7 := by
  unfold flawR
  rw [if_neg (by omega)]
theorem rest_18 {l : List UInt8} (h : l.length = 18) (hd : allD l = true) : restR l = ((dv l % 97 : Nat) : Int) := by
  unfold restR
  rw [if_pos (by rw [fl_18 h, hd]; rfl), dv_rest]
set_option maxHeartbeats 2000000 in
/-- Three ways out ahead of the number: nothing is told. -/
theorem read_no (s : ByteArray) (w : World) (r f : Int) (hc : s.size ≠ 18 ∧ f = 6 ∨ s.size = 18 ∧ flawR s.data.toList = 7 ∧ f = 7 ∨ s.size = 18 ∧ flawR s.data.toList = 0 ∧ restR s.data.toList = r ∧ r ≠ 0 ∧ f = 8) :
    Calls Tryd.prog 9 #[.string s] w fun e w' => e = .returned (.tuple #[sh0.v, .int .i64 f]) ∧ Below w.heap.size w w' := by
  have HR : Hid (∀ W, Calls Tryd.prog 21 #[.string s] W fun e w' => e = .returned (.tuple #[.int .i64 (restR s.data.toList), .int .i64 (flawR s.data.toList)]) ∧ Below W.heap.size W w') := fun W => check.rest_any s W
  have HZ0 : Hid (Blk (w.alloc (.cells #[.int .i64 0, .int .i64 0, .int .i64 0] 32)) w.heap.size #[.int .i64 0, .int .i64 0, .int .i64 0] 32) := Blk.new _ _ _
  have HB0 : Hid (Below w.heap.size w (w.alloc (.cells #[.int .i64 0, .int .i64 0, .int .i64 0] 32))) := (Below.refl _ _).alloc (Nat.le_refl _) _
  unfold Sh.v Sh.cs sh0
  rcases hc with ⟨h, rfl⟩ | ⟨h, hf, rfl⟩ | ⟨h, hf, hr, hr0, rfl⟩
  · have hq : ((s.size : Int) != 18) = true := by simp; omega
    clear h HR
    go_enter Tryd.func9, Tryd.ntmps9
    go_upto_region 1 with fail
    generalize w.alloc (.cells #[.int .i64 0, .int .i64 0, .int .i64 0] 32) = W0 at *
    go_wp2_with (first | (refine wp_letAll rfl 32 _ _ rfl w.heap.size rfl #[.int .i64 0, .int .i64 0, .int .i64 0] rfl (by kernel_rfl) (by simp [Value.oneCell']) #[.int .i64 0, .int .i64 0, .int .i64 0] 32 HZ0.out rfl ?_) | fail)
    intro WF hUF
    have HBF : Hid (Below w.heap.size w WF) := hUF.bel _ _ (Nat.le_refl _) HB0.out
    have R0 : Hid (WF.cell? ⟨w.heap.size, 0, none⟩ = some (.int .i64 0)) := hUF.blk.cell 0
    have R1 : Hid (WF.cell? ⟨w.heap.size, 1, none⟩ = some (.int .i64 0)) := hUF.blk.cell 1
    have R2 : Hid (WF.cell? ⟨w.heap.size, 2, none⟩ = some (.int .i64 0)) := hUF.blk.cell 2
    clear hUF
    go_wp2_with fail
    exact bodyPost_ret (v := .tuple #[.agg #[.int .i64 0, .int .i64 0, .int .i64 0], .int .i64 6]) (by simp [results, Tryd.results9, R0.out, R1.out, R2.out, go_sem]) rfl ⟨rfl, HBF.out⟩
  · have hq : ((s.size : Int) != 18) = false := by simp; omega
    rw [hf] at HR
    clear h hf
    generalize restR s.data.toList = y at *
    go_enter Tryd.func9, Tryd.ntmps9
    go_upto_region 1 with fail
    generalize w.alloc (.cells #[.int .i64 0, .int .i64 0, .int .i64 0] 32) = W0 at *
    go_wp2_with fail
    refine (HR.out _).mono ?_
    rintro e W1 ⟨rfl, hb⟩
    have HB1 : Hid (Below w.heap.size w W1) := bel_step HB0.out hb
    have HZ1 : Hid (Blk W1 w.heap.size #[.int .i64 0, .int .i64 0, .int .i64 0] 32) := HZ0.out.next hb
    clear HB0 HZ0 hb HR
    go_wp2_with (first | (refine wp_letAll rfl 32 _ _ rfl w.heap.size rfl #[.int .i64 0, .int .i64 0, .int .i64 0] rfl (by kernel_rfl) (by simp [Value.oneCell']) #[.int .i64 0, .int .i64 0, .int .i64 0] 32 HZ1.out rfl ?_) | fail)
    intro WF hUF
    have HBF : Hid (Below w.heap.size w WF) := hUF.bel _ _ (Nat.le_refl _) HB1.out
    have R0 : Hid (WF.cell? ⟨w.heap.size, 0, none⟩ = some (.int .i64 0)) := hUF.blk.cell 0
    have R1 : Hid (WF.cell? ⟨w.heap.size, 1, none⟩ = some (.int .i64 0)) := hUF.blk.cell 1
    have R2 : Hid (WF.cell? ⟨w.heap.size, 2, none⟩ = some (.int .i64 0)) := hUF.blk.cell 2
    clear hUF
    go_wp2_with fail
    exact bodyPost_ret (v := .tuple #[.agg #[.int .i64 0, .int .i64 0, .int .i64 0], .int .i64 7]) (by simp [results, Tryd.results9, R0.out, R1.out, R2.out, go_sem]) rfl ⟨rfl, HBF.out⟩
  · have hq : ((s.size : Int) != 18) = false := by simp; omega
    have hrz : (r != 0) = true := by simpa using hr0
    rw [hf, hr] at HR
    clear h hf hr hr0
    go_enter Tryd.func9, Tryd.ntmps9
    go_upto_region 1 with fail
    generalize w.alloc (.cells #[.int .i64 0, .int .i64 0, .int .i64 0] 32) = W0 at *
    go_wp2_with fail
    refine (HR.out _).mono ?_
    rintro e W1 ⟨rfl, hb⟩
    have HB1 : Hid (Below w.heap.size w W1) := bel_step HB0.out hb
    have HZ1 : Hid (Blk W1 w.heap.size #[.int .i64 0, .int .i64 0, .int .i64 0] 32) := HZ0.out.next hb
    clear HB0 HZ0 hb HR
    go_wp2_with (first | (refine wp_letAll rfl 32 _ _ rfl w.heap.size rfl #[.int .i64 0, .int .i64 0, .int .i64 0] rfl (by kernel_rfl) (by simp [Value.oneCell']) #[.int .i64 0, .int .i64 0, .int .i64 0] 32 HZ1.out rfl ?_) | fail)
    intro WF hUF
    have HBF : Hid (Below w.heap.size w WF) := hUF.bel _ _ (Nat.le_refl _) HB1.out
    have R0 : Hid (WF.cell? ⟨w.heap.size, 0, none⟩ = some (.int .i64 0)) := hUF.blk.cell 0
    have R1 : Hid (WF.cell? ⟨w.heap.size, 1, none⟩ = some (.int .i64 0)) := hUF.blk.cell 1
    have R2 : Hid (WF.cell? ⟨w.heap.size, 2, none⟩ = some (.int .i64 0)) := hUF.blk.cell 2
    clear hUF
    go_wp2_with fail
    exact bodyPost_ret (v := .tuple #[.agg #[.int .i64 0, .int .i64 0, .int .i64 0], .int .i64 8]) (by simp [results, Tryd.results9, R0.out, R1.out, R2.out, go_sem]) rfl ⟨rfl, HBF.out⟩

set_option maxHeartbeats 2000000 in
/-- A multiple of 97. -/
theorem read_yes (s : ByteArray) (w : World) (n : Int) (x : Sh) (h : s.size = 18) (hf : flawR s.data.toList = 0) (hr : restR s.data.toList = 0)
    (hA : ∀ W, Calls Tryd.prog 22 #[.string s] W fun e w' => e = .returned (.tuple #[.int .i64 n, .nilIface]) ∧ Below W.heap.size W w')
    (hU : ∀ W, Calls Tryd.prog 23 #[.int .i64 n] W fun e w' => e = .returned x.v ∧ Below W.heap.size W w') :
    Calls Tryd.prog 9 #[.string s] w fun e w' => ((99999999 < x.cr ∧ e = .returned (.tuple #[sh0.v, .int .i64 2])) ∨ (¬ 99999999 < x.cr ∧ e = .returned (.tuple #[x.v, .int .i64 0]))) ∧ Below w.heap.size w w' := by
  have HR : Hid (∀ W, Calls Tryd.prog 21 #[.string s] W fun e w' => e = .returned (.tuple #[.int .i64 0, .int .i64 0]) ∧ Below W.heap.size W w') := fun W => by have := check.rest_any s W; rw [hf, hr] at this; exact this
  have HA : Hid (∀ W, Calls Tryd.prog 22 #[.string s] W fun e w' => e = .returned (.tuple #[.int .i64 n, .nilIface]) ∧ Below W.heap.size W w') := hA
  obtain ⟨x0, x1, x2⟩ := x
  unfold Sh.v Sh.cs sh0 at *
  have HU : Hid (∀ W, Calls Tryd.prog 23 #[.int .i64 n] W fun e w' => e = .returned (.agg #[.int .i64 x0, .int .i64 x1, .int .i64 x2]) ∧ Below W.heap.size W w') := hU
  have HZ0 : Hid (Blk (w.alloc (.cells #[.int .i64 0, .int .i64 0, .int .i64 0] 32)) w.heap.size #[.int .i64 0, .int .i64 0, .int .i64 0] 32) := Blk.new _ _ _
  have HB0 : Hid (Below w.heap.size w (w.alloc (.cells #[.int .i64 0, .int .i64 0, .int .i64 0] 32))) := (Below.refl _ _).alloc (Nat.le_refl _) _
  have hq : ((s.size : Int) != 18) = false := by simp; omega
  clear h hf hr hA hU
  go_enter Tryd.func9, Tryd.ntmps9
  go_upto_region 1 with fail
  generalize w.alloc (.cells #[.int .i64 0, .int .i64 0, .int .i64 0] 32) = W0 at *
  go_wp2_with fail
  refine (HR.out _).mono ?_
  rintro e W1 ⟨rfl, hb⟩
  have HB1 : Hid (Below w.heap.size w W1) := bel_step HB0.out hb
  have HZ1 : Hid (Blk W1 w.heap.size #[.int .i64 0, .int .i64 0, .int .i64 0] 32) := HZ0.out.next hb
  clear HB0 HZ0 hb HR
  go_wp2_with fail
  refine (HA.out _).mono ?_
  rintro e W2 ⟨rfl, hb⟩
  have HB2 : Hid (Below w.heap.size w W2) := bel_step HB1.out hb
  have HZ2 : Hid (Blk W2 w.heap.size #[.int .i64 0, .int .i64 0, .int .i64 0] 32) := HZ1.out.next hb
  clear HB1 HZ1 hb HA
  go_wp2_with fail
  refine (HU.out _).mono ?_
  rintro e W3 ⟨rfl, hb⟩
  have HB3 : Hid (Below w.heap.size w (W3.alloc (.cells #[.int .i64 x0, .int .i64 x1, .int .i64 x2] 32))) := (bel_step HB2.out hb).alloc (bel_step HB2.out hb).size _
  have HZ3 : Hid (Blk (W3.alloc (.cells #[.int .i64 x0, .int .i64 x1, .int .i64 x2] 32)) w.heap.size #[.int .i64 0, .int .i64 0, .int .i64 0] 32) := (HZ2.out.next hb).alloc _
  have HX3 : Hid (Blk (W3.alloc (.cells #[.int .i64 x0, .int .i64 x1, .int .i64 x2] 32)) W3.heap.size #[.int .i64 x0, .int .i64 x1, .int .i64 x2] 32) := Blk.new _ _ _
  clear HB2 HZ2 hb HU
  go_upto_region 10 with fail
  generalize W3.alloc (.cells #[.int .i64 x0, .int .i64 x1, .int .i64 x2] 32) = W4 at *
  generalize W3.heap.size = g at *
  have k1 : W4.cell? ⟨g, 1, none⟩ = some (.int .i64 x1) := HX3.out.cell 1
  by_cases hbig : 99999999 < x1
  · have HG : Hid (99999999 < x1) := hbig
    go_wp2_with (first | (refine wp_letAll rfl 32 _ _ rfl w.heap.size rfl #[.int .i64 0, .int .i64 0, .int .i64 0] rfl (by kernel_rfl) (by simp [Value.oneCell']) #[.int .i64 0, .int .i64 0, .int .i64 0] 32 HZ3.out rfl ?_) | fail)
    intro WF hUF
    have HBF : Hid (Below w.heap.size w WF) := hUF.bel _ _ (Nat.le_refl _) HB3.out
    have R0 : Hid (WF.cell? ⟨w.heap.size, 0, none⟩ = some (.int .i64 0)) := hUF.blk.cell 0
    have R1 : Hid (WF.cell? ⟨w.heap.size, 1, none⟩ = some (.int .i64 0)) := hUF.blk.cell 1
    have R2 : Hid (WF.cell? ⟨w.heap.size, 2, none⟩ = some (.int .i64 0)) := hUF.blk.cell 2
    clear hUF
    go_wp2_with fail
    exact bodyPost_ret (v := .tuple #[.agg #[.int .i64 0, .int .i64 0, .int .i64 0], .int .i64 2]) (by simp [results, Tryd.results9, R0.out, R1.out, R2.out, go_sem]) rfl ⟨.inl rfl, HBF.out⟩
  · have HG : Hid (¬ 99999999 < x1) := hbig
    have k0 : W4.cell? ⟨g, 0, none⟩ = some (.int .i64 x0) := HX3.out.cell 0
    have k2 : W4.cell? ⟨g, 2, none⟩ = some (.int .i64 x2) := HX3.out.cell 2
    go_wp2_with (first | (refine wp_letAll rfl 32 _ _ rfl w.heap.size rfl #[.int .i64 x0, .int .i64 x1, .int .i64 x2] rfl (by kernel_rfl) (by simp [Value.oneCell']) #[.int .i64 0, .int .i64 0, .int .i64 0] 32 HZ3.out rfl ?_) | fail)
    intro WF hUF
    have HBF : Hid (Below w.heap.size w WF) := hUF.bel _ _ (Nat.le_refl _) HB3.out
    have R0 : Hid (WF.cell? ⟨w.heap.size, 0, none⟩ = some (.int .i64 x0)) := hUF.blk.cell 0
    have R1 : Hid (WF.cell? ⟨w.heap.size, 1, none⟩ = some (.int .i64 x1)) := hUF.blk.cell 1
    have R2 : Hid (WF.cell? ⟨w.heap.size, 2, none⟩ = some (.int .i64 x2)) := hUF.blk.cell 2
    clear hUF
    go_wp2_with fail
    exact bodyPost_ret (v := .tuple #[.agg #[.int .i64 x0, .int .i64 x1, .int .i64 x2], .int .i64 0]) (by simp [results, Tryd.results9, R0.out, R1.out, R2.out, go_sem]) rfl ⟨.inr rfl, HBF.out⟩

theorem kread {w0 : World} : KoRead w0 := by
  intro w s _
  have hl : s.data.toList.length = s.size := Array.length_toList
  by_cases h : s.size = 18
  · have hl : s.data.toList.length = 18 := hl.trans h
    cases hd : allD s.data.toList with
    | false =>
      refine (read_no s w 0 7 (.inr (.inl ⟨h, by rw [fl_18 hl, hd]; rfl, rfl⟩))).mono ?_
      rintro e w' ⟨rfl, hb⟩
      exact ⟨sh0, 7, rfl, .inr (.inl ⟨hl, hd, rfl, rfl⟩), hb⟩
    | true =>
      have hf : flawR s.data.toList = 0 := by rw [fl_18 hl, hd]; rfl
      have hr := rest_18 hl hd
      by_cases h97 : dv s.data.toList % 97 = 0
      · have hlt : dv s.data.toList < 1000000000000000000 := by have := dv_lt _ hd; rw [hl] at this; simpa using this
        refine (read_yes s w _ _ h hf (by rw [hr, h97]; rfl) (fun W => atoi_18 s W h hd) (fun W => punpack _ W hlt)).mono ?_
        rintro e w' ⟨⟨hg, rfl⟩ | ⟨hg, rfl⟩, hb⟩
        · exact ⟨sh0, 2, rfl, .inr (.inr (.inr (.inl ⟨hl, hd, h97, by unfold shOf at hg; simp only [] at hg; omega, rfl, rfl⟩))), hb⟩
        · exact ⟨_, 0, rfl, .inr (.inr (.inr (.inr ⟨hl, hd, h97, by unfold shOf at hg; simp only [] at hg; omega, rfl, rfl⟩))), hb⟩
      · refine (read_no s w _ 8 (.inr (.inr ⟨h, hf, hr, by omega, rfl⟩))).mono ?_
        rintro e w' ⟨rfl, hb⟩
        exact ⟨sh0, 8, rfl, .inr (.inr (.inl ⟨hl, hd, h97, rfl, rfl⟩)), hb⟩
  · refine (read_no s w 0 6 (.inl ⟨h, rfl⟩)).mono ?_
    rintro e w' ⟨rfl, hb⟩
    exact ⟨sh0, 6, rfl, .inl ⟨by omega, rfl, rfl⟩, hb⟩

end Go.Proofs.YtnhidiefchamlaaDoor.cod
