/- An account at work begins, by terms. -/
import Derived.Test.YtlolippocnngcabApL
import Derived.Test.YtlolippocnngcabApC
import Derived.WalkKit
import Derived.Test.YtlolippocnngcabProg
namespace Go.Proofs.Ytlolippocnngcab.acc
open Go.Proofs.Ytlolippocnngcab.tar (Du du0 Came RowD Ld PairT)
open Go.RowKit
set_option maxRecDepth 100000
set_option linter.unusedVariables false
set_option linter.unusedSimpArgs false

def BeginR (x : Ac) (t : Tm) (m : Int) (b0 : Bi) (y : Ac) (b : Bi) (f : Int) : Prop := ((¬ TRight t ∧ TFault t f ∧ y = x) ∨ (TRight t ∧ ¬ RMay x m ∧ RErr x m f ∧ y = x) ∨ (TRight t ∧ RMay x m ∧ y = rolled x m ∧ f = 0)) ∧ b = b0
set_option maxHeartbeats 2000000 in
theorem pbegin (g : Nat) (x : Ac) (p : Option Addr) (len cap : Nat) (t : Tm) (pt : Option Addr) (lt ct : Nat) (b : Bi) (m : Int) (w : World) (hw : Blk w g (wcs x b p len cap) 81) (hd : deb.Fresh w (g + 1) p len cap x.ds) (ha : AMay x) (ht : Came w pt lt ct t.ts) (hwf : wf4 t) (hfar : Far pt lt g) : Calls Try.prog 48 #[.pointer (some ⟨g, 0, none⟩), .agg #[.slice pt lt ct, .int .i64 t.ff, .int .i64 t.fb, .int .i64 t.db, .int .i64 t.al], .int .i64 m] w fun e w' => DPost w g (BeginR x t m b) e w' := by
  have hgl := hw.lt
  have HCK : Hid (∀ W, Below w.heap.size w W → Calls Try.prog 56 #[.agg #[.slice pt lt ct, .int .i64 t.ff, .int .i64 t.fb, .int .i64 t.db, .int .i64 t.al]] W fun e w' => tar.ErrPost W (TFault t) e w') := fun W hW => kcheck W t pt lt ct ⟨ht.below hW, hwf⟩
  have HRL : Hid (∀ W, Blk W g (wcs x b p len cap) 81 → deb.Fresh W (g + 1) p len cap x.ds → Calls Try.prog 35 #[.pointer (some ⟨g, 0, none⟩), .int .i64 m] W fun e w' => DPost W g (RollR x m b) e w') := fun W h1 h2 => proll g x b p len cap m W h1 h2 ha
  have H0B : Hid (Below w.heap.size w (w.alloc (.cells #[.slice pt lt ct, .int .i64 t.ff, .int .i64 t.fb, .int .i64 t.db, .int .i64 t.al] 42))) := (Below.refl w.heap.size w).alloc (by simp) _
  have H0t : Hid (Blk (w.alloc (.cells #[.slice pt lt ct, .int .i64 t.ff, .int .i64 t.fb, .int .i64 t.db, .int .i64 t.al] 42)) w.heap.size #[.slice pt lt ct, .int .i64 t.ff, .int .i64 t.fb, .int .i64 t.db, .int .i64 t.al] 42) := Blk.new w _ _
  have H0g : Hid (Blk (w.alloc (.cells #[.slice pt lt ct, .int .i64 t.ff, .int .i64 t.fb, .int .i64 t.db, .int .i64 t.al] 42)) g (wcs x b p len cap) 81) := hw.alloc _
  have H0D : Hid (deb.Fresh (w.alloc (.cells #[.slice pt lt ct, .int .i64 t.ff, .int .i64 t.fb, .int .i64 t.db, .int .i64 t.al] 42)) (g + 1) p len cap x.ds) := hd.below H0B.out
  clear hw hd ha ht hwf hfar
  generalize hWW : (w.alloc (.cells #[.slice pt lt ct, .int .i64 t.ff, .int .i64 t.fb, .int .i64 t.db, .int .i64 t.al] 42)) = W0 at *
  have HWW : Hid ((w.alloc (.cells #[.slice pt lt ct, .int .i64 t.ff, .int .i64 t.fb, .int .i64 t.db, .int .i64 t.al] 42)) = W0) := hWW
  clear hWW
  go_enter Try.func48, Try.ntmps48
  go_upto_region 1 with fail
  rw [HWW.out]
  clear HWW
  go_wp2_with (first
    | (refine wp_whole rfl 42 _ rfl (w.heap.size) rfl 42 #[.slice pt lt ct, .int .i64 t.ff, .int .i64 t.fb, .int .i64 t.db, .int .i64 t.al] _ H0t.out Try.underlying42 rfl (by kernel_rfl) ?_)
    | fail)
  refine (HCK.out _ H0B.out).mono ?_
  rintro e w1 ⟨f, rfl, hf, hb1⟩
  have H1g : Hid (Blk w1 g (wcs x b p len cap) 81) := H0g.out.next hb1
  have H1D : Hid (deb.Fresh w1 (g + 1) p len cap x.ds) := H0D.out.below hb1
  have H1C : Hid (Chg w w1 g) := .of (bel_step H0B.out hb1)
  have HF : Hid (TFault t f) := hf
  clear hf hb1 H0B H0t H0g H0D HCK
  by_cases h0 : f = 0
  · subst h0
    have HT : Hid (TRight t) := HF.out.ok.1 rfl
    go_wp2_with fail
    refine (HRL.out _ H1g.out H1D.out).mono ?_
    rintro e w2 ⟨y, b2, q, n, c, f, rfl, ⟨hr, hb⟩, hi, hfr, hc⟩
    have HX : Hid (DPost w g (BeginR x t m b) (.returned (.int .i64 f)) w2) := by
      refine ⟨y, b2, q, n, c, f, rfl, ⟨?_, hb⟩, hi, hfr, H1C.out.trans hc⟩
      rcases hr with ⟨h1, h2, h3⟩ | ⟨h1, h2, h3⟩
      · exact .inr (.inl ⟨HT.out, h1, h2, h3⟩)
      · exact .inr (.inr ⟨HT.out, h1, h2, h3⟩)
    clear hr hb hi hfr hc HRL
    go_wp2_with fail
    go_ret
    exact HX.out
  · have d0 : (f != 0) = true := by simpa using h0
    have HX : Hid (DPost w g (BeginR x t m b) (.returned (.int .i64 f)) w1) := ⟨x, b, p, len, cap, f, rfl, ⟨.inl ⟨fun h => h0 (HF.out.ok.2 h), HF.out, rfl⟩, rfl⟩, H1g.out, H1D.out, H1C.out⟩
    clear h0 HRL HF
    go_wp2_with fail
    go_ret
    exact HX.out

end Go.Proofs.Ytlolippocnngcab.acc
