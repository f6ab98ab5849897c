/- The next number, for an account at work. -/
import Derived.Test.YtlolippocnngcabApN
import Derived.WalkKit
import Derived.Test.YtlolippocnngcabProg
namespace Go.Proofs.Ytlolippocnngcab.acc
open Go.Proofs.Ytlolippocnngcab.tar (Du du0 Came RowD Ld PairT)
open Go.RowKit
set_option maxRecDepth 100000
set_option linter.unusedVariables false
set_option linter.unusedSimpArgs false

def NumPost (w : World) (g : Nat) (x : Ac) (b : Bi) (p : Option Addr) (len cap : Nat) (e : Ending) (w' : World) : Prop :=
  Chg w w' g ∧ ((¬ x.nx ≤ 1048575 ∧ e = .returned (.int .i64 20) ∧ Blk w' g (wcs x b p len cap) 81) ∨ (x.nx ≤ 1048575 ∧ e = .returned (.int .i64 0) ∧ Blk w' g (wcs { x with nx := x.nx + 1 } { b with id := x.nx } p len cap) 81))
set_option maxHeartbeats 2000000 in
theorem pnum (g : Nat) (x : Ac) (b : Bi) (p : Option Addr) (len cap : Nat) (w : World) (hw : Blk w g (wcs x b p len cap) 81) (hn : 1 ≤ x.nx ∧ x.nx ≤ 1048576) : Calls Try.prog 45 #[.pointer (some ⟨g, 0, none⟩)] w fun e w' => NumPost w g x b p len cap e w' := by
  obtain ⟨me, rv, nx, mo, bo, fr, ds⟩ := x
  obtain ⟨id, te, de, fe, pr, ch, un⟩ := b
  simp only [] at hn
  have HI : Hid (Blk w g #[.int .i64 me, .int .i64 rv, .int .i64 nx, .int .i64 mo, .int .i64 bo, .int .i64 fr, .slice p len cap, .int .i64 id, .int .i64 te, .int .i64 de, .int .i64 fe, .int .i64 pr, .int .i64 ch, .int .i64 un] 81) := hw
  have q2 : w.cell? ⟨g, 2, none⟩ = some (.int .i64 nx) := HI.out.cell 2
  clear hw
  by_cases h1 : nx ≤ 1048575
  · have d1 : decide (1048575 < nx) = false := decide_eq_false (by omega)
    have hwr : IntKind.i64.wrap (nx + 1) = nx + 1 := by rw [IntKind.wrap_i64]; omega
    have H1 : Hid (nx ≤ 1048575) := h1
    go_enter Try.func45, Try.ntmps45
    go_wp2_with (first | (refine wp_let1 rfl 3 _ _ rfl g 7 rfl .i64 nx rfl (by kernel_rfl) #[.int .i64 me, .int .i64 rv, .int .i64 nx, .int .i64 mo, .int .i64 bo, .int .i64 fr, .slice p len cap, .int .i64 id, .int .i64 te, .int .i64 de, .int .i64 fe, .int .i64 pr, .int .i64 ch, .int .i64 un] 81 HI.out (by simp) ?_) | fail)
    intro W1 hU1
    have HI1 : Hid (Blk W1 g #[.int .i64 me, .int .i64 rv, .int .i64 nx, .int .i64 mo, .int .i64 bo, .int .i64 fr, .slice p len cap, .int .i64 nx, .int .i64 te, .int .i64 de, .int .i64 fe, .int .i64 pr, .int .i64 ch, .int .i64 un] 81) := hU1.blk
    have HC1 : Hid (Chg w W1 g) := .upd hU1
    have q2' : W1.cell? ⟨g, 2, none⟩ = some (.int .i64 nx) := HI1.out.cell 2
    clear hU1 q2 HI d1
    go_wp2_with (first | (refine wp_let1 rfl 3 _ _ rfl g 2 rfl .i64 (nx + 1) rfl (by kernel_rfl) #[.int .i64 me, .int .i64 rv, .int .i64 nx, .int .i64 mo, .int .i64 bo, .int .i64 fr, .slice p len cap, .int .i64 nx, .int .i64 te, .int .i64 de, .int .i64 fe, .int .i64 pr, .int .i64 ch, .int .i64 un] 81 HI1.out (by simp) ?_) | fail)
    intro W2 hU2
    have HI2 : Hid (Blk W2 g #[.int .i64 me, .int .i64 rv, .int .i64 (nx + 1), .int .i64 mo, .int .i64 bo, .int .i64 fr, .slice p len cap, .int .i64 nx, .int .i64 te, .int .i64 de, .int .i64 fe, .int .i64 pr, .int .i64 ch, .int .i64 un] 81) := hU2.blk
    have HC2 : Hid (Chg w W2 g) := HC1.out.trans (.upd hU2)
    clear hU2 q2' HI1 HC1
    go_wp2_with fail
    go_ret
    exact ⟨HC2.out, .inr ⟨H1.out, rfl, HI2.out⟩⟩
  · have d1 : decide (1048575 < nx) = true := decide_eq_true (by omega)
    have H1 : Hid (¬ nx ≤ 1048575) := h1
    clear h1 hn
    go_enter Try.func45, Try.ntmps45
    go_wp2_with fail
    go_ret
    exact ⟨Chg.refl _ _, .inl ⟨Int.not_le.2 H1.out, rfl, HI.out⟩⟩

end Go.Proofs.Ytlolippocnngcab.acc
