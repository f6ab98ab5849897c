/- readback.Code, in the program. -/
import Derived.Test.YtnhidiefchamlaaDoorKoC
import Derived.Test.YtnhidiefchamlaaDoorMpW
import Derived.Test.YtnhidiefchamlaaDoorLet
import Derived.Test.YtnhidiefchamlaaDoorTkRep
import Derived.Test.YtnhidiefchamlaaDoorShelf
import Derived.Test.YtnhidiefchamlaaDoorProg
import Derived.WalkKit
import Derived.Lib.AppendIntMem
import Derived.Deep.DeepCutAuto
namespace Go.Proofs.YtnhidiefchamlaaDoor.cod
open Go.Proofs.YtnhidiefchamlaaDoor.met (Mt)
open Go.Proofs.YtnhidiefchamlaaDoor.rcp (pad)
open Go.RowKit
set_option maxRecDepth 100000
set_option linter.unusedVariables false
set_option linter.unusedSimpArgs false

abbrev Tab (w : World) : Prop := Lib.TabIs Tryd.prog w "internal/strconv.uint64pow10" .u64 Lib.pow10Tab
theorem rep_noughts (k : Nat) : Lib.repeatL [48] k = List.replicate k 48 := by
  induction k with
  | zero => rfl
  | succ k ih => simp [Lib.repeatL, List.replicate_succ] at *; exact ih
set_option maxHeartbeats 1000000 in
theorem ppack (m : Mt) (w : World) (hm : m.may) : Calls Tryd.prog 17 #[m.v] w fun e w' => e = .returned (.int .i64 ((num m : Nat) : Int)) ∧ Below w.heap.size w w' := by
  have hN := Blk.new w m.cells 26
  have HB0 : Hid (Below w.heap.size w (w.alloc (.cells m.cells 26))) := (Below.refl _ _).alloc (Nat.le_refl _) _
  obtain ⟨_, g0, g1⟩ := num_lt hm
  have h2 := hm.cr; have h3 := hm.me
  have HE : Hid (((num m : Nat) : Int) = ((m.cr * 1048576 + m.h) * 50 + m.me) * 97) := by show _ = _; unfold num; omega
  obtain ⟨me, rev, cr, h, b, bad, lock⟩ := m
  unfold Mt.v at *
  unfold Mt.cells at *
  simp only [] at HE HB0 hN g0 g1 h2 h3 ⊢
  generalize num ⟨me, rev, cr, h, b, bad, lock⟩ = n at *
  have c0 := hN.cell 0
  have c2 := hN.cell 2
  have c3 := hN.cell 3
  obtain ⟨h20, h21⟩ := h2
  obtain ⟨h30, h31⟩ := h3
  have w1 : IntKind.i64.wrap (cr * 1048576) = cr * 1048576 := by rw [IntKind.wrap_i64]; omega
  have w2 : IntKind.i64.wrap (cr * 1048576 + h) = cr * 1048576 + h := by rw [IntKind.wrap_i64]; omega
  have w3 : IntKind.i64.wrap ((cr * 1048576 + h) * 50) = (cr * 1048576 + h) * 50 := by rw [IntKind.wrap_i64]; omega
  have w4 : IntKind.i64.wrap ((cr * 1048576 + h) * 50 + me) = (cr * 1048576 + h) * 50 + me := by rw [IntKind.wrap_i64]; omega
  have w5 : IntKind.i64.wrap (((cr * 1048576 + h) * 50 + me) * 97) = ((cr * 1048576 + h) * 50 + me) * 97 := by rw [IntKind.wrap_i64]; omega
  clear hN hm
  go_enter Tryd.func17, Tryd.ntmps17
  go_wp2_with fail
  go_ret
  exact ⟨by rw [HE.out]; rfl, HB0.out⟩

set_option maxHeartbeats 2000000 in
theorem kcode {w0 : World} (ht : Tab w0) : KoCode w0 := by
  intro w m hw hb
  have HW : Hid (∀ W, Calls Tryd.prog 15 #[m.v] W fun e w' => met.WordsPost W m e w') := fun W => met.pwords m W hb
  have HX0 : Hid (Blk (w.alloc (.cells m.cells 26)) w.heap.size m.cells 26) := Blk.new _ _ _
  have HB0 : Hid (Below w.heap.size w (w.alloc (.cells m.cells 26))) := (Below.refl _ _).alloc (Nat.le_refl _) _
  have HT : Hid (∀ W, Below w.heap.size w W → Tab W) := fun W hW => Lib.tabBelow_of_tabIs ht W (bel_step hw hW)
  have HP : Hid (m.may → ∀ W, Calls Tryd.prog 17 #[m.v] W fun e w' => e = .returned (.int .i64 ((num m : Nat) : Int)) ∧ Below W.heap.size W w') := fun h W => ppack m W h
  have HL : Hid (m.may → num m < 1000000000000000000) := fun h => (num_lt h).1
  unfold CodePost
  have HC : Hid (∀ l f, (m.may ∧ l = codeL (num m) ∧ f = 0) ∨ (¬ m.may ∧ l = [] ∧ f = 5) → CodeIs m l f) := fun l f h => h
  clear ht hw hb
  unfold Mt.v Mt.cells at *
  go_enter Tryd.func7, Tryd.ntmps7
  go_upto_region 1 with fail
  generalize w.alloc (.cells #[.int .i64 m.me, .int .i64 m.rev, .int .i64 m.cr, .int .i64 m.h, .int .u64 (m.b : Int), .int .i64 m.bad, .int .i64 m.lock] 26) = W0 at *
  go_wp2_with (first | (refine wp_whole rfl 26 _ rfl (w.heap.size) rfl 26 #[.int .i64 m.me, .int .i64 m.rev, .int .i64 m.cr, .int .i64 m.h, .int .u64 (m.b : Int), .int .i64 m.bad, .int .i64 m.lock] _ HX0.out Tryd.underlying26 rfl (by kernel_rfl) ?_) | fail)
  refine (HW.out _).mono ?_
  rintro e W1 ⟨a, n, cap, zs, f, rfl, _, _, _, hi, hb1⟩
  have HX1 : Hid (Blk W1 w.heap.size #[.int .i64 m.me, .int .i64 m.rev, .int .i64 m.cr, .int .i64 m.h, .int .u64 (m.b : Int), .int .i64 m.bad, .int .i64 m.lock] 26) := HX0.out.next hb1
  have HB1 : Hid (Below w.heap.size w W1) := bel_step HB0.out hb1
  clear HX0 HB0 hb1 HW
  rcases hi with ⟨hm, _, rfl⟩ | ⟨hm, _, rfl⟩
  · have HM : Hid m.may := hm
    clear hm
    go_wp2_with (first | (refine wp_whole rfl 26 _ rfl (w.heap.size) rfl 26 #[.int .i64 m.me, .int .i64 m.rev, .int .i64 m.cr, .int .i64 m.h, .int .u64 (m.b : Int), .int .i64 m.bad, .int .i64 m.lock] _ HX1.out Tryd.underlying26 rfl (by kernel_rfl) ?_) | fail)
    refine (HP.out HM.out _).mono ?_
    rintro e W2 ⟨rfl, hb2⟩
    have HB2 : Hid (Below w.heap.size w W2) := bel_step HB1.out hb2
    have hn := HL.out HM.out
    have HC' : Hid (CodeIs m (codeL (num m)) 0) := HC.out _ _ (.inl ⟨HM.out, rfl, rfl⟩)
    clear HX1 HB1 hb2 HP HL HC HM
    generalize num m = n at *
    have hl : (Lib.decDigits n).length ≤ 18 := dec_len_lt 17 n (by simpa using hn)
    have HI : Hid (Calls Tryd.prog 16 #[.int .i64 (n : Int)] W2 fun e w' => e = .returned (.string ⟨(Lib.decDigits n).toArray⟩) ∧ Below W2.heap.size W2 w') := by
      refine (Tryd.strconv_Itoa n (by omega) (by omega) W2 (HT.out W2 HB2.out)).mono ?_
      rintro e w' ⟨rfl, k, os, rfl⟩
      refine ⟨?_, Lib.below_grow _ _ (Nat.le_refl _) _ _⟩
      unfold Lib.itoa
      rw [if_neg (by omega), Int.toNat_natCast]
    have HR : Hid (∀ W, Calls Tryd.prog 18 #[.string ⟨#[48]⟩, .int .i64 ((18 - (Lib.decDigits n).length : Nat) : Int)] W fun e w' => e = .returned (.string ⟨(Lib.repeatL [48] (18 - (Lib.decDigits n).length)).toArray⟩) ∧ Below W.heap.size W w') :=
      fun W => Tryd.strings_Repeat ⟨#[48]⟩ (18 - (Lib.decDigits n).length) W (by omega) (by show 1 * _ ≤ _; omega)
    have HJ : Hid ((⟨(Lib.repeatL [48] (18 - (Lib.decDigits n).length)).toArray⟩ : ByteArray) ++ ⟨(Lib.decDigits n).toArray⟩ = ⟨(codeL n).toArray⟩) := by
      show _ = _
      unfold codeL pad
      rw [rep_noughts]
      apply ByteArray.ext
      simp
    have hz : (⟨(Lib.repeatL [48] (18 - (Lib.decDigits n).length)).toArray⟩ : ByteArray).size = 18 - (Lib.decDigits n).length := by
      show (Lib.repeatL [48] _).toArray.size = _
      rw [rep_noughts]; simp
    have hd : (⟨(Lib.decDigits n).toArray⟩ : ByteArray).size = (Lib.decDigits n).length := by show (Lib.decDigits n).toArray.size = _; simp
    generalize (⟨(Lib.repeatL [48] (18 - (Lib.decDigits n).length)).toArray⟩ : ByteArray) = Z at *
    generalize hL : (Lib.decDigits n).length = L at *
    generalize (⟨(Lib.decDigits n).toArray⟩ : ByteArray) = D at *
    obtain ⟨k, hk⟩ : ∃ k : Nat, k = 18 - D.size := ⟨_, rfl⟩
    rw [← hd, ← hk] at HR
    have hds : (18 : Int) - (D.size : Int) = (k : Int) := by omega
    have hwr : IntKind.i64.wrap (k : Int) = (k : Int) := by rw [IntKind.wrap_i64]; omega
    have hs1 : ¬ (9223372036854775807 < Z.size + D.size) := by omega
    clear hL hd hz hk hl hn HT
    go_wp2_with fail
    refine HI.out.mono ?_
    rintro e W3 ⟨rfl, hb3⟩
    have HB3 : Hid (Below w.heap.size w W3) := bel_step HB2.out hb3
    clear hb3 HI HB2
    go_wp2_with fail
    refine (HR.out _).mono ?_
    rintro e W4 ⟨rfl, hb4⟩
    have HB4 : Hid (Below w.heap.size w W4) := bel_step HB3.out hb4
    clear hb4 HR HB3
    go_wp2_with fail
    refine bodyPost_ret (v := .tuple #[.string (Z ++ D), .int .i64 0]) (by simp [results, Tryd.results7, go_sem]) rfl ⟨codeL n, 0, by rw [HJ.out], HC'.out, HB4.out⟩
  · have HC' : Hid (CodeIs m [] 5) := HC.out _ _ (.inr ⟨hm, rfl, rfl⟩)
    clear hm HC HP HL HT HX1
    go_wp2_with fail
    go_ret2
    exact ⟨[], 5, rfl, HC'.out, HB1.out⟩

end Go.Proofs.YtnhidiefchamlaaDoor.cod
