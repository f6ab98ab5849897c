import Derived.Test.YtomibnggmhjdfaaGreatVVCes7
import Derived.Test.YtomibnggmhjdfaaGreatVVCes13
set_option linter.unusedVariables false
set_option linter.unusedSimpArgs false
namespace Go.Proofs.YtomibnggmhjdfaaGreat
namespace book
open Go.RowKit
set_option maxRecDepth 100000
def leftE (v : Ev) : Ev := if v.kd = 2 then ⟨0, 0, 0, 0, 0, 0, 0, 0, 0, 0, 0, v.ow, v.bp⟩ else if v.kd = 3 then ⟨0, 0, 0, 0, v.te, v.de, v.fe, v.pr, v.ch, 0, 0, v.ow, v.bp⟩ else if v.kd = 4 then ⟨0, 0, v.mo, 0, v.te, v.de, v.fe, v.pr, v.ch, v.un, 0, v.ow, v.bp⟩ else if v.kd = 5 then ⟨0, 0, v.mo, v.id, v.te, v.de, v.fe, v.pr, v.ch, v.un, v.tg, 0, 0⟩ else ⟨0, 0, v.mo, v.id, v.te, v.de, v.fe, v.pr, v.ch, v.un, v.tg, v.ow, v.bp⟩
def Numd (id tg : Int) : Prop := (1 ≤ id ∧ id ≤ 1048575) ∧ 0 ≤ tg ∧ tg ≤ 65535
def Unt (un : Int) : Prop := 1 ≤ un ∧ un ≤ 2097151
def Mon (mo : Int) : Prop := 0 ≤ mo ∧ mo ≤ 2399
def Mony (te de fe pr ch : Int) : Prop := (1 ≤ te ∧ te ≤ 100000000) ∧ ((0 ≤ de ∧ de ≤ 100000000) ∧ (0 ≤ fe ∧ fe ≤ 100000000) ∧ (0 ≤ pr ∧ pr ≤ 100000000) ∧ 0 ≤ ch ∧ ch ≤ 100000000) ∧ de + fe + pr + ch = te
def Dbt (ow bp : Int) : Prop := (1 ≤ ow ∧ ow ≤ 1000000000) ∧ 0 ≤ bp ∧ bp ≤ 10000
def KindR (v : Ev) : Prop := v.kd = 1 ∨ (v.kd = 2 ∧ Mon v.mo ∧ Numd v.id v.tg ∧ Unt v.un ∧ Mony v.te v.de v.fe v.pr v.ch) ∨ (v.kd = 3 ∧ Mon v.mo ∧ Numd v.id v.tg ∧ Unt v.un) ∨ (v.kd = 4 ∧ Numd v.id v.tg) ∨ (v.kd = 5 ∧ Dbt v.ow v.bp)
set_option maxHeartbeats 2000000 in
theorem may_iff (v : Ev) : EMay v ↔ (0 ≤ v.me ∧ v.me ≤ 49) ∧ KindR v ∧ leftE v = ev0 := by
 obtain ⟨kd, me, mo, id, te, de, fe, pr, ch, un, tg, ow, bp⟩ := v
 unfold EMay KindR leftE ev0 Numd Unt Mon Mony Dbt
 simp only
 by_cases h1 : kd = 1
 ·subst h1; simp
 by_cases h2 : kd = 2
 ·subst h2; simp; intro _ _; constructor <;> intro h <;> omega
 by_cases h3 : kd = 3
 ·subst h3; simp; intro _ _; constructor <;> intro h <;> omega
 by_cases h4 : kd = 4
 ·subst h4; simp; intro _ _; constructor <;> intro h <;> omega
 by_cases h5 : kd = 5
 ·subst h5; simp; intro _ _; constructor <;> intro h <;> omega
 constructor
 ·rintro ⟨_, h | h | h⟩
  ·exact absurd h.1 h1
  ·exact absurd h.1 h5
  ·have := h.1; omega
 ·rintro ⟨_, h | h | h | h | h, _⟩
  ·exact absurd h h1
  ·exact absurd h.1 h2
  ·exact absurd h.1 h3
  ·exact absurd h.1 h4
  ·exact absurd h.1 h5
theorem kind_2 {v : Ev} (h : v.kd = 2) : KindR v ↔ Mon v.mo ∧ Numd v.id v.tg ∧ Unt v.un ∧ Mony v.te v.de v.fe v.pr v.ch := by simp [KindR, h]
theorem kind_3 {v : Ev} (h : v.kd = 3) : KindR v ↔ Mon v.mo ∧ Numd v.id v.tg ∧ Unt v.un := by simp [KindR, h]
theorem kind_4 {v : Ev} (h : v.kd = 4) : KindR v ↔ Numd v.id v.tg := by simp [KindR, h]
theorem kind_5 {v : Ev} (h : v.kd = 5) : KindR v ↔ Dbt v.ow v.bp := by simp [KindR, h]
def YN (w : World) (P : Prop) (e : Ending) (w' : World) : Prop := ∃ B, e = .returned (.bool B) ∧ (B = true ↔ P) ∧ Below w.heap.size w w'
theorem YN.yes {w w' : World} {P : Prop} (h : P) (hb : Below w.heap.size w w') : YN w P (.returned (.bool true)) w' := ⟨true, rfl, ⟨fun _ => h, fun _ => rfl⟩, hb⟩
theorem YN.no {w w' : World} {P : Prop} (h : ¬ P) (hb : Below w.heap.size w w') : YN w P (.returned (.bool false)) w' := ⟨false, rfl, ⟨fun q => (by cases q), fun q => absurd q h⟩, hb⟩
end book
namespace acc
open tar (Du du0 Came RowD Ld PairT)
open Go.RowKit
set_option maxRecDepth 100000
def NumPost (w : World) (g : Nat) (x : Ac) (b : Bi) (p : Option Addr) (len cap : Nat) (e : Ending) (w' : World) : Prop :=
 Chg w w' g ∧ ((¬ x.nx ≤ 1048575 ∧ e = .returned (.int .i64 20) ∧ Blk w' g (wcs x b p len cap) 121) ∨ (x.nx ≤ 1048575 ∧ e = .returned (.int .i64 0) ∧ Blk w' g (wcs { x with nx := x.nx + 1 } { b with id := x.nx } p len cap) 121))
set_option maxHeartbeats 2000000 in
theorem pnum (g : Nat) (x : Ac) (b : Bi) (p : Option Addr) (len cap : Nat) (w : World) (hw : Blk w g (wcs x b p len cap) 121) (hn : 1 ≤ x.nx ∧ x.nx ≤ 1048576) : Calls Tryz.prog 117 #[.pointer (some ⟨g, 0, none⟩)] w fun e w' => NumPost w g x b p len cap e w' := by
 obtain ⟨me, rv, nx, mo, bo, fr, ds⟩ := x
 obtain ⟨id, te, de, fe, pr, ch, un⟩ := b
 simp only [] at hn
 have HI : Hid (Blk w g #[.int .i64 me, .int .i64 rv, .int .i64 nx, .int .i64 mo, .int .i64 bo, .int .i64 fr, .slice p len cap, .int .i64 id, .int .i64 te, .int .i64 de, .int .i64 fe, .int .i64 pr, .int .i64 ch, .int .i64 un] 121) := hw
 have q2 : w.cell? ⟨g, 2, none⟩ = some (.int .i64 nx) := HI.out.cell 2
 clear hw
 by_cases h1 : nx ≤ 1048575
 ·have d1 : decide (1048575 < nx) = false := decide_eq_false (by omega)
  have hwr : IntKind.i64.wrap (nx + 1) = nx + 1 := by rw [IntKind.wrap_i64]; omega
  have H1 : Hid (nx ≤ 1048575) := h1
  go_enter Tryz.func117, Tryz.ntmps117
  go_wp2_with (first | (refine wp_let1 rfl 3 _ _ rfl g 7 rfl .i64 nx rfl (by kernel_rfl) #[.int .i64 me, .int .i64 rv, .int .i64 nx, .int .i64 mo, .int .i64 bo, .int .i64 fr, .slice p len cap, .int .i64 id, .int .i64 te, .int .i64 de, .int .i64 fe, .int .i64 pr, .int .i64 ch, .int .i64 un] 121 HI.out (by simp) ?_) | fail)
  intro W1 hU1
  have HI1 : Hid (Blk W1 g #[.int .i64 me, .int .i64 rv, .int .i64 nx, .int .i64 mo, .int .i64 bo, .int .i64 fr, .slice p len cap, .int .i64 nx, .int .i64 te, .int .i64 de, .int .i64 fe, .int .i64 pr, .int .i64 ch, .int .i64 un] 121) := hU1.blk
  have HC1 : Hid (Chg w W1 g) := .upd hU1
  have q2' : W1.cell? ⟨g, 2, none⟩ = some (.int .i64 nx) := HI1.out.cell 2
  clear hU1 q2 HI d1
  go_wp2_with (first | (refine wp_let1 rfl 3 _ _ rfl g 2 rfl .i64 (nx + 1) rfl (by kernel_rfl) #[.int .i64 me, .int .i64 rv, .int .i64 nx, .int .i64 mo, .int .i64 bo, .int .i64 fr, .slice p len cap, .int .i64 nx, .int .i64 te, .int .i64 de, .int .i64 fe, .int .i64 pr, .int .i64 ch, .int .i64 un] 121 HI1.out (by simp) ?_) | fail)
  intro W2 hU2
  have HI2 : Hid (Blk W2 g #[.int .i64 me, .int .i64 rv, .int .i64 (nx + 1), .int .i64 mo, .int .i64 bo, .int .i64 fr, .slice p len cap, .int .i64 nx, .int .i64 te, .int .i64 de, .int .i64 fe, .int .i64 pr, .int .i64 ch, .int .i64 un] 121) := hU2.blk
  have HC2 : Hid (Chg w W2 g) := HC1.out.trans (.upd hU2)
  clear hU2 q2' HI1 HC1
  go_wp2_with fail
  go_ret
  exact ⟨HC2.out, .inr ⟨H1.out, rfl, HI2.out⟩⟩
 ·have d1 : decide (1048575 < nx) = true := decide_eq_true (by omega)
  have H1 : Hid (¬ nx ≤ 1048575) := h1
  clear h1 hn
  go_enter Tryz.func117, Tryz.ntmps117
  go_wp2_with fail
  go_ret
  exact ⟨Chg.refl _ _, .inl ⟨Int.not_le.2 H1.out, rfl, HI.out⟩⟩
def MayPost (w : World) (x : Ac) (e : Ending) (w' : World) : Prop := ∃ r, e = .returned (.bool r) ∧ (r = true ↔ AMay x) ∧ Below w.heap.size w w'
set_option maxHeartbeats 4000000 in
theorem pmay (x : Ac) (p : Option Addr) (len cap : Nat) (w : World) (h : Came w p len cap x.ds) : Calls Tryz.prog 68 #[.agg #[.int .i64 x.me, .int .i64 x.rv, .int .i64 x.nx, .int .i64 x.mo, .int .i64 x.bo, .int .i64 x.fr, .slice p len cap]] w fun e w' => MayPost w x e w' := by
 have HI0 : Hid (∀ W, Calls Tryz.prog 69 #[.int .i64 0, .int .i64 49, .int .i64 x.me] W fun e w' => e = .returned (.bool (decide (0 ≤ x.me ∧ x.me ≤ 49))) ∧ w' = W) := fun W => awithin 0 49 x.me W
 have HI1 : Hid (∀ W, Calls Tryz.prog 69 #[.int .i64 0, .int .i64 15, .int .i64 x.rv] W fun e w' => e = .returned (.bool (decide (0 ≤ x.rv ∧ x.rv ≤ 15))) ∧ w' = W) := fun W => awithin 0 15 x.rv W
 have HI2 : Hid (∀ W, Calls Tryz.prog 69 #[.int .i64 1, .int .i64 1048576, .int .i64 x.nx] W fun e w' => e = .returned (.bool (decide (1 ≤ x.nx ∧ x.nx ≤ 1048576))) ∧ w' = W) := fun W => awithin 1 1048576 x.nx W
 have HI3 : Hid (∀ W, Calls Tryz.prog 69 #[.int .i64 0, .int .i64 2399, .int .i64 x.mo] W fun e w' => e = .returned (.bool (decide (0 ≤ x.mo ∧ x.mo ≤ 2399))) ∧ w' = W) := fun W => awithin 0 2399 x.mo W
 have HI4 : Hid (∀ W, Calls Tryz.prog 69 #[.int .i64 0, .int .i64 10000000, .int .i64 x.bo] W fun e w' => e = .returned (.bool (decide (0 ≤ x.bo ∧ x.bo ≤ 10000000))) ∧ w' = W) := fun W => awithin 0 10000000 x.bo W
 have HI5 : Hid (∀ W, Calls Tryz.prog 69 #[.int .i64 (-1), .int .i64 x.mo, .int .i64 x.fr] W fun e w' => e = .returned (.bool (decide (-1 ≤ x.fr ∧ x.fr ≤ x.mo))) ∧ w' = W) := fun W => awithin (-1) x.mo x.fr W
 obtain ⟨WW, HWW, HBK, HBA, -⟩ := sh1 w #[.int .i64 x.me, .int .i64 x.rv, .int .i64 x.nx, .int .i64 x.mo, .int .i64 x.bo, .int .i64 x.fr, .slice p len cap] 59
 have HTO : Hid (Calls Tryz.prog 88 #[.slice p len cap] WW fun e w' => tar.TwoPost WW (deb.OwedIs x.ds) e w') := deb.ktotal _ p len cap x.ds (h.below HBA.out)
 have c6 : WW.cell? ⟨w.heap.size, 6, none⟩ = some (.slice p len cap) := HBK.out.cell 6
 clear h
 go_enter Tryz.func68, Tryz.ntmps68
 go_upto_region 1 with fail
 rw [HWW.out]
 clear HWW
 go_wp2_with fail
 refine HTO.out.mono ?_
 rintro e w1 ⟨tt, f, rfl, hf, hb1⟩
 have HB1 := shB HBA hb1
 have HK1 := shN HBK hb1
 have HF : Hid (f = 0 ↔ deb.Mays x.ds) := hf.1.ok
 clear hf hb1 HTO HBA HBK c6
 obtain ⟨c0, c1, c2, c3, c4, c5, c6⟩ := scl7 HK1
 by_cases h0 : f = 0
 ·have HM : Hid (deb.Mays x.ds) := HF.out.1 h0
  subst h0
  by_cases g0 : 0 ≤ x.me ∧ x.me ≤ 49
  ·rw [decide_eq_true g0] at HI0
   go_wp2_with fail
   refine (HI0.out _).mono ?_
   rintro e w2 ⟨rfl, hw2⟩
   subst w2
   by_cases g1 : 0 ≤ x.rv ∧ x.rv ≤ 15
   ·rw [decide_eq_true g1] at HI1
    go_wp2_with fail
    refine (HI1.out _).mono ?_
    rintro e w2 ⟨rfl, hw2⟩
    subst w2
    by_cases g2 : 1 ≤ x.nx ∧ x.nx ≤ 1048576
    ·rw [decide_eq_true g2] at HI2
     go_wp2_with fail
     refine (HI2.out _).mono ?_
     rintro e w2 ⟨rfl, hw2⟩
     subst w2
     by_cases g3 : 0 ≤ x.mo ∧ x.mo ≤ 2399
     ·rw [decide_eq_true g3] at HI3
      go_wp2_with fail
      refine (HI3.out _).mono ?_
      rintro e w2 ⟨rfl, hw2⟩
      subst w2
      by_cases g4 : 0 ≤ x.bo ∧ x.bo ≤ 10000000
      ·rw [decide_eq_true g4] at HI4
       go_wp2_with fail
       refine (HI4.out _).mono ?_
       rintro e w2 ⟨rfl, hw2⟩
       subst w2
       by_cases g5 : -1 ≤ x.fr ∧ x.fr ≤ x.mo
       ·rw [decide_eq_true g5] at HI5
        go_wp2_with fail
        refine (HI5.out _).mono ?_
        rintro e w2 ⟨rfl, hw2⟩
        subst w2
        have HY : Hid (AMay x) := ⟨HM.out, g0, g1, g2, g3, g4, g5⟩
        go_wp2_with fail
        go_ret
        exact ⟨true, rfl, ⟨fun _ => HY.out, fun _ => rfl⟩, HB1.out⟩
       ·rw [decide_eq_false g5] at HI5
        have HN : Hid (¬ AMay x) := fun h => g5 h.2.2.2.2.2.2
        clear g5
        go_wp2_with fail
        refine (HI5.out _).mono ?_
        rintro e w2 ⟨rfl, hw2⟩
        subst w2
        go_wp2_with fail
        all_goals first
         | (rename_i q1 q2; exact absurd q1 (by simp [undef]))
         | (go_ret; exact ⟨false, rfl, ⟨fun h => absurd h (by decide), fun h => absurd h HN.out⟩, HB1.out⟩)
      ·rw [decide_eq_false g4] at HI4
       have HN : Hid (¬ AMay x) := fun h => g4 h.2.2.2.2.2.1
       clear g4
       go_wp2_with fail
       refine (HI4.out _).mono ?_
       rintro e w2 ⟨rfl, hw2⟩
       subst w2
       go_wp2_with fail
       all_goals first
        | (rename_i q1 q2; exact absurd q1 (by simp [undef]))
        | (go_ret; exact ⟨false, rfl, ⟨fun h => absurd h (by decide), fun h => absurd h HN.out⟩, HB1.out⟩)
     ·rw [decide_eq_false g3] at HI3
      have HN : Hid (¬ AMay x) := fun h => g3 h.2.2.2.2.1
      clear g3
      go_wp2_with fail
      refine (HI3.out _).mono ?_
      rintro e w2 ⟨rfl, hw2⟩
      subst w2
      go_wp2_with fail
      all_goals first
       | (rename_i q1 q2; exact absurd q1 (by simp [undef]))
       | (go_ret; exact ⟨false, rfl, ⟨fun h => absurd h (by decide), fun h => absurd h HN.out⟩, HB1.out⟩)
    ·rw [decide_eq_false g2] at HI2
     have HN : Hid (¬ AMay x) := fun h => g2 h.2.2.2.1
     clear g2
     go_wp2_with fail
     refine (HI2.out _).mono ?_
     rintro e w2 ⟨rfl, hw2⟩
     subst w2
     go_wp2_with fail
     all_goals first
      | (rename_i q1 q2; exact absurd q1 (by simp [undef]))
      | (go_ret; exact ⟨false, rfl, ⟨fun h => absurd h (by decide), fun h => absurd h HN.out⟩, HB1.out⟩)
   ·rw [decide_eq_false g1] at HI1
    have HN : Hid (¬ AMay x) := fun h => g1 h.2.2.1
    clear g1
    go_wp2_with fail
    refine (HI1.out _).mono ?_
    rintro e w2 ⟨rfl, hw2⟩
    subst w2
    go_wp2_with fail
    all_goals first
     | (rename_i q1 q2; exact absurd q1 (by simp [undef]))
     | (go_ret; exact ⟨false, rfl, ⟨fun h => absurd h (by decide), fun h => absurd h HN.out⟩, HB1.out⟩)
  ·rw [decide_eq_false g0] at HI0
   have HN : Hid (¬ AMay x) := fun h => g0 h.2.1
   clear g0
   go_wp2_with fail
   refine (HI0.out _).mono ?_
   rintro e w2 ⟨rfl, hw2⟩
   subst w2
   go_wp2_with fail
   all_goals first
    | (rename_i q1 q2; exact absurd q1 (by simp [undef]))
    | (go_ret; exact ⟨false, rfl, ⟨fun h => absurd h (by decide), fun h => absurd h HN.out⟩, HB1.out⟩)
 ·have d0 : (f == 0) = false := by simpa using h0
  have HN : Hid (¬ AMay x) := fun h => h0 (HF.out.2 h.1)
  clear h0
  go_wp2_with fail
  all_goals first
   | (rename_i q1 q2; exact absurd q1 (by simp [undef]))
   | (go_ret; exact ⟨false, rfl, ⟨fun h => absurd h (by decide), fun h => absurd h HN.out⟩, HB1.out⟩)
set_option maxHeartbeats 4000000 in
theorem powe (g : Nat) (x : Ac) (p : Option Addr) (len cap : Nat) (q : Du) (w : World) (hw : Blk w g (wcs x bi0 p len cap) 121) (hl : Ld 43 w (g + 1) (.slice p len cap) x.ds) (ha : AMay x) : Calls Tryz.prog 46 #[.pointer (some ⟨g, 0, none⟩), .agg #[.int .i64 q.a, .int .i64 q.b]] w fun e w' => WPost w g (Or0 (fun y _ f => OweIs x q y f)) e w' := by
 have hgl := hw.lt
 have hdm := ha.1
 have hle : x.ds.length = len := by obtain ⟨a0, c0, hv, _⟩ := hl.row; injection hv with _ h2 _; exact h2.symm
 have HDF : Hid (deb.Fresh w (g + 1) p len cap x.ds) := by
  obtain ⟨a0, c0, hv, hf⟩ := deb.ld_fresh hl hdm
  injection hv with h1 h2 h3
  rw [h1, h2, h3]; exact hf
 have hl8 : len ≤ 8 := by have := hdm.1; omega
 have HM : Hid (AMay x) := ha
 have HI1 : Hid (∀ W, Calls Tryz.prog 69 #[.int .i64 1, .int .i64 1000000000, .int .i64 q.a] W fun e w' => e = .returned (.bool (decide (1 ≤ q.a ∧ q.a ≤ 1000000000))) ∧ w' = W) := fun W => awithin 1 1000000000 q.a W
 have HI2 : Hid (∀ W, Calls Tryz.prog 69 #[.int .i64 0, .int .i64 10000, .int .i64 q.b] W fun e w' => e = .returned (.bool (decide (0 ≤ q.b ∧ q.b ≤ 10000))) ∧ w' = W) := fun W => awithin 0 10000 q.b W
 have HOW : Hid (∀ (e : some w.heap.size = (Value.slice p len cap).ownBlock), False) := fun e => by have := (World.ownsRow.lt hl _ e.symm).2; omega
 have H0B : Hid (Below w.heap.size w (w.alloc (.cells #[.int .i64 q.a, .int .i64 q.b] 43))) := (Below.refl w.heap.size w).alloc (by simp) _
 have H0e : Hid (Blk (w.alloc (.cells #[.int .i64 q.a, .int .i64 q.b] 43)) w.heap.size #[.int .i64 q.a, .int .i64 q.b] 43) := Blk.new w _ _
 have H0g : Hid (Blk (w.alloc (.cells #[.int .i64 q.a, .int .i64 q.b] 43)) g #[.int .i64 x.me, .int .i64 x.rv, .int .i64 x.nx, .int .i64 x.mo, .int .i64 x.bo, .int .i64 x.fr, .slice p len cap, .int .i64 0, .int .i64 0, .int .i64 0, .int .i64 0, .int .i64 0, .int .i64 0, .int .i64 0] 121) := hw.alloc _
 have H0L : Hid (Ld 43 (w.alloc (.cells #[.int .i64 q.a, .int .i64 q.b] 43)) (g + 1) (.slice p len cap) x.ds) := hl.alloc _
 have H0F : Hid (deb.Fresh (w.alloc (.cells #[.int .i64 q.a, .int .i64 q.b] 43)) (g + 1) p len cap x.ds) := HDF.out.below H0B.out
 have H0G : Hid (Below g w (w.alloc (.cells #[.int .i64 q.a, .int .i64 q.b] 43))) := H0B.out.mono (by omega)
 have hsz : w.heap.size < (w.alloc (.cells #[.int .i64 q.a, .int .i64 q.b] 43)).heap.size := H0e.out.lt
 clear hw hl ha HDF H0B
 generalize hWW : (w.alloc (.cells #[.int .i64 q.a, .int .i64 q.b] 43)) = W0 at *
 have HWW : Hid ((w.alloc (.cells #[.int .i64 q.a, .int .i64 q.b] 43)) = W0) := hWW
 clear hWW
 have e0 : W0.cell? ⟨w.heap.size, 0, none⟩ = some (.int .i64 q.a) := H0e.out.cell 0
 have e1 : W0.cell? ⟨w.heap.size, 1, none⟩ = some (.int .i64 q.b) := H0e.out.cell 1
 have g6 : W0.cell? ⟨g, 6, none⟩ = some (.slice p len cap) := H0g.out.cell 6
 go_enter Tryz.func46, Tryz.ntmps46
 go_upto_region 1 with fail
 rw [HWW.out]
 clear HWW
 by_cases h1 : 1 ≤ q.a ∧ q.a ≤ 1000000000
 ·rw [decide_eq_true h1] at HI1
  go_wp2_with fail
  refine (HI1.out _).mono ?_
  rintro e wz ⟨rfl, hwz⟩
  subst wz
  clear HI1
  by_cases h2 : 0 ≤ q.b ∧ q.b ≤ 10000
  ·rw [decide_eq_true h2] at HI2
   go_wp2_with fail
   refine (HI2.out _).mono ?_
   rintro e wz ⟨rfl, hwz⟩
   subst wz
   clear HI2
   by_cases h3 : len < 8
   ·have d3 : ((len : Int) == 8) = false := by simp; omega
    have HMN : Hid (deb.Mays (x.ds ++ [q])) := ⟨by rw [List.length_append, hle]; show len + 1 ≤ 8; omega, deb.fits_mem fun d hd => by
     rcases List.mem_append.1 hd with hd | hd
     ·exact deb.mem_fits hdm.2 d hd
     ·have e2 := List.mem_singleton.1 hd
      subst e2
      exact ⟨⟨by omega, h1.2⟩, h2⟩⟩
    have hzl : x.ds.length ≤ 1000000 := by omega
    have HV : Hid (Or0 (fun y _ f => OweIs x q y f) ⟨x.me, x.rv, x.nx, x.mo, x.bo, x.fr, x.ds ++ [q]⟩ bi0 0) := .inr ⟨rfl, .inr (.inr (.inr ⟨HM.out, ⟨h1, h2⟩, by rw [hle]; exact h3, rfl, rfl⟩))⟩
    have HZL : Hid (x.ds.length ≤ 1000000) := hzl
    clear h1 h2 h3 hdm hle hzl
    go_wp2_with fail
    clear e0 e1
    have HED : Hid (Blk W0.drew w.heap.size #[.int .i64 q.a, .int .i64 q.b] 43) := Blk.drew H0e.out 1
    have q6 : W0.drew.cell? ⟨g, 6, none⟩ = some (.slice p len cap) := H0g.out.cell 6
    have HEA : Hid (Blk (W0.alloc (.cells #[.int .i64 q.a, .int .i64 q.b] 43)).drew w.heap.size #[.int .i64 q.a, .int .i64 q.b] 43) := HED.out.alloc _
    have HGA : Hid (Blk (W0.alloc (.cells #[.int .i64 q.a, .int .i64 q.b] 43)).drew g #[.int .i64 x.me, .int .i64 x.rv, .int .i64 x.nx, .int .i64 x.mo, .int .i64 x.bo, .int .i64 x.fr, .slice p len cap, .int .i64 0, .int .i64 0, .int .i64 0, .int .i64 0, .int .i64 0, .int .i64 0, .int .i64 0] 121) := H0g.out.alloc _
    have HLA : Hid (Ld 43 (W0.alloc (.cells #[.int .i64 q.a, .int .i64 q.b] 43)).drew (g + 1) (.slice p len cap) x.ds) := H0L.out.alloc _
    have HCA : Hid ((W0.alloc (.cells #[.int .i64 q.a, .int .i64 q.b] 43)).drew.cell? ⟨W0.heap.size, 0, none⟩ = some (.int .i64 q.a) ∧ (W0.alloc (.cells #[.int .i64 q.a, .int .i64 q.b] 43)).drew.cell? ⟨W0.heap.size, 1, none⟩ = some (.int .i64 q.b)) := ⟨(Blk.new W0 _ _).cell 0, (Blk.new W0 _ _).cell 1⟩
    have HBA : Hid (Below g w (W0.alloc (.cells #[.int .i64 q.a, .int .i64 q.b] 43)).drew) := bel_drew (H0G.out.alloc (by omega) _) 1
    have hsA : W0.heap.size < (W0.alloc (.cells #[.int .i64 q.a, .int .i64 q.b] 43)).drew.heap.size := (Blk.new W0 #[.int .i64 q.a, .int .i64 q.b] 43).lt
    refine wp_region_held_drew (S := fun v => Blk v (w.heap.size) #[.int .i64 q.a, .int .i64 q.b] 43) (by kernel_rfl) HED.out (fun hHeld => ?_)
    refine zqs 0 24 (.pointer (some ⟨g, 0, none⟩)) rfl rfl (by kernel_rfl) (fun _ _ _ h => h) rfl (fun v hv => by clear hv; go_simp) hHeld ?_
    simp only [Act.put, zqa, zqb, zqc]
    refine zqs 1 25 (.pointer (some ⟨g, 0, none⟩)) rfl rfl (by kernel_rfl) (fun _ _ _ h => h) rfl (fun v hv => by clear hv; go_simp) hHeld ?_
    simp only [Act.put, zqa, zqb, zqc]
    refine zqs 2 26 (.pointer (some ⟨g, 0, none⟩)) rfl rfl (by kernel_rfl) (fun _ _ _ h => h) rfl (fun v hv => by clear hv; go_simp) hHeld ?_
    simp only [Act.put, zqa, zqb, zqc]
    refine zqs 3 27 (.pointer (some ⟨g, 0, none⟩)) rfl rfl (by kernel_rfl) (fun _ _ _ h => h) rfl (fun v hv => by clear hv; go_simp) hHeld ?_
    simp only [Act.put, zqa, zqb, zqc]
    refine zqs 4 28 (.pointer (some ⟨g, 6, none⟩)) rfl rfl (by kernel_rfl) (fun _ _ _ h => h) rfl (fun v hv => by clear hv; go_simp) hHeld ?_
    simp only [Act.put, zqa, zqb, zqc]
    refine zqt 6 30 (.agg #[.int .i64 q.a, .int .i64 q.b]) rfl rfl (by kernel_rfl) (fun _ _ _ h => h) (Or.inl ⟨by rfl, fun v hv => by have g0 := hv.cell 0; have g1 := hv.cell 1; clear hv; go_simp⟩) hHeld ?_
    simp only [Act.put, zqa, zqb, zqc]
    refine wpAnyH_ready (rs := [5, 7]) (by kernel_rfl) (by simp) (AllReadyH.cons rfl (fun K hK => ?_) (AllReadyH.cons rfl (fun K hK => ?_) AllReadyH.nil))
    all_goals rw [if_pos (by rfl)]
    ·refine wp_runOp (v := .slice p len cap) (w' := W0.drew) 29 rfl (by clear hK; go_simp) ?_
     refine hK.out _ _ HED.out (fun hHeld => ?_)
     clear hK K q6
     simp only [Act.put, zqa, zqb, zqc]
     refine zqo 7 (by kernel_rfl) rfl (fun K hK => ?_)
     rw [if_pos (by rfl)]
     refine wp_runOp (v := .slice (some ⟨W0.heap.size, 0, none⟩) 1 1) (w' := (W0.alloc (.cells #[.int .i64 q.a, .int .i64 q.b] 43)).drew) 31 rfl (by clear hK; go_simp) ?_
     refine hK.out _ _ HEA.out (fun hHeld => ?_)
     clear hK K
     simp only [Act.put, zqa, zqb, zqc]
     generalize (W0.alloc (.cells #[.int .i64 q.a, .int .i64 q.b] 43)).drew = WA at *
     generalize W0.heap.size = hA at *
     refine zqo 8 (by kernel_rfl) rfl (fun K hK => ?_)
     refine tar.step_pair deb.debtT rfl _ _ rfl (g + 1) hA (.slice p len cap) x.ds q rfl rfl HLA.out HCA.out HZL.out (by omega) ?_
     intro v5 w5 h5 hg5
     obtain ⟨p5, c5, hv5, hf5⟩ := deb.ld_fresh h5 HMN.out
     subst hv5
     have H5g : Hid (Blk w5 g #[.int .i64 x.me, .int .i64 x.rv, .int .i64 x.nx, .int .i64 x.mo, .int .i64 x.bo, .int .i64 x.fr, .slice p len cap, .int .i64 0, .int .i64 0, .int .i64 0, .int .i64 0, .int .i64 0, .int .i64 0, .int .i64 0] 121) := grown_blk HGA.out hg5 (tar.own_far HLA.out (by omega))
     have H5e : Hid (Blk w5 w.heap.size #[.int .i64 q.a, .int .i64 q.b] 43) := grown_blk HEA.out hg5 (fun e => HOW.out e)
     have H5B : Hid (Below g w w5) := tar.own_bel HLA.out hg5 HBA.out (by omega) (by omega)
     have H5F : Hid (deb.Fresh w5 (g + 1) p5 (x.ds ++ [q]).length c5 (x.ds ++ [q])) := hf5
     refine hK.out _ _ H5e.out (fun hHeld => ?_)
     clear hK K h5 hg5 hf5 HGA HEA HLA HCA HBA HED
     simp only [Act.put, zqa, zqb, zqc]
     generalize (x.ds ++ [q]).length = n5 at *
     refine zqs 9 33 (.pointer (some ⟨g, 0, none⟩)) rfl rfl (by kernel_rfl) (fun _ _ _ h => h) rfl (fun v hv => by clear hv; go_simp) hHeld ?_
     simp only [Act.put, zqa, zqb, zqc]
     refine zqs 10 34 (.pointer (some ⟨g, 0, none⟩)) rfl rfl (by kernel_rfl) (fun _ _ _ h => h) rfl (fun v hv => by clear hv; go_simp) hHeld ?_
     simp only [Act.put, zqa, zqb, zqc]
     refine zqs 11 35 (.pointer (some ⟨g, 6, none⟩)) rfl rfl (by kernel_rfl) (fun _ _ _ h => h) rfl (fun v hv => by clear hv; go_simp) hHeld ?_
     simp only [Act.put, zqa, zqb, zqc]
     refine zqo 12 (by kernel_rfl) rfl (fun K hK => ?_)
     rw [if_pos (by rfl)]
     refine wp_letOp1 57 _ _ rfl g 6 rfl (.slice p5 n5 c5) rfl rfl (by kernel_rfl) rfl #[.int .i64 x.me, .int .i64 x.rv, .int .i64 x.nx, .int .i64 x.mo, .int .i64 x.bo, .int .i64 x.fr, .slice p len cap, .int .i64 0, .int .i64 0, .int .i64 0, .int .i64 0, .int .i64 0, .int .i64 0, .int .i64 0] 121 H5g.out (by simp) rfl ?_
     intro W6 hU
     have H6g : Hid (Blk W6 g #[.int .i64 x.me, .int .i64 x.rv, .int .i64 x.nx, .int .i64 x.mo, .int .i64 x.bo, .int .i64 x.fr, .slice p5 n5 c5, .int .i64 0, .int .i64 0, .int .i64 0, .int .i64 0, .int .i64 0, .int .i64 0, .int .i64 0] 121) := hU.blk
     have H6e := shK hU H5e (by omega)
     have H6B : Hid (Below g w W6) := hU.bel _ _ (Nat.le_refl _) H5B.out
     have H6F : Hid (deb.Fresh W6 (g + 1) p5 n5 c5 (x.ds ++ [q])) := fresh_chg H5F.out (.upd hU)
     refine hK.out _ _ H6e.out (fun hHeld => ?_)
     clear hK K hU H5g H5e H5B H5F
     refine wpAnyH_done (by kernel_rfl) ?_ _
     clear hHeld
     go_wp2_with fail
     go_ret
     exact ⟨⟨x.me, x.rv, x.nx, x.mo, x.bo, x.fr, x.ds ++ [q]⟩, bi0, p5, n5, c5, 0, rfl, HV.out, H6g.out, H6F.out, H6B.out⟩
    ·refine wp_runOp (v := .slice (some ⟨W0.heap.size, 0, none⟩) 1 1) (w' := (W0.alloc (.cells #[.int .i64 q.a, .int .i64 q.b] 43)).drew) 31 rfl (by clear hK; go_simp) ?_
     refine hK.out _ _ HEA.out (fun hHeld => ?_)
     clear hK K q6
     have q7 : (W0.alloc (.cells #[.int .i64 q.a, .int .i64 q.b] 43)).drew.cell? ⟨g, 6, none⟩ = some (.slice p len cap) := HGA.out.cell 6
     simp only [Act.put, zqa, zqb, zqc]
     refine zqo 5 (by kernel_rfl) rfl (fun K hK => ?_)
     rw [if_pos (by rfl)]
     refine wp_runOp (v := .slice p len cap) (w' := (W0.alloc (.cells #[.int .i64 q.a, .int .i64 q.b] 43)).drew) 29 rfl (by clear hK; go_simp) ?_
     refine hK.out _ _ HEA.out (fun hHeld => ?_)
     clear hK K q7
     simp only [Act.put, zqa, zqb, zqc]
     generalize (W0.alloc (.cells #[.int .i64 q.a, .int .i64 q.b] 43)).drew = WA at *
     generalize W0.heap.size = hA at *
     refine zqo 8 (by kernel_rfl) rfl (fun K hK => ?_)
     refine tar.step_pair deb.debtT rfl _ _ rfl (g + 1) hA (.slice p len cap) x.ds q rfl rfl HLA.out HCA.out HZL.out (by omega) ?_
     intro v5 w5 h5 hg5
     obtain ⟨p5, c5, hv5, hf5⟩ := deb.ld_fresh h5 HMN.out
     subst hv5
     have H5g : Hid (Blk w5 g #[.int .i64 x.me, .int .i64 x.rv, .int .i64 x.nx, .int .i64 x.mo, .int .i64 x.bo, .int .i64 x.fr, .slice p len cap, .int .i64 0, .int .i64 0, .int .i64 0, .int .i64 0, .int .i64 0, .int .i64 0, .int .i64 0] 121) := grown_blk HGA.out hg5 (tar.own_far HLA.out (by omega))
     have H5e : Hid (Blk w5 w.heap.size #[.int .i64 q.a, .int .i64 q.b] 43) := grown_blk HEA.out hg5 (fun e => HOW.out e)
     have H5B : Hid (Below g w w5) := tar.own_bel HLA.out hg5 HBA.out (by omega) (by omega)
     have H5F : Hid (deb.Fresh w5 (g + 1) p5 (x.ds ++ [q]).length c5 (x.ds ++ [q])) := hf5
     refine hK.out _ _ H5e.out (fun hHeld => ?_)
     clear hK K h5 hg5 hf5 HGA HEA HLA HCA HBA HED
     simp only [Act.put, zqa, zqb, zqc]
     generalize (x.ds ++ [q]).length = n5 at *
     refine zqs 9 33 (.pointer (some ⟨g, 0, none⟩)) rfl rfl (by kernel_rfl) (fun _ _ _ h => h) rfl (fun v hv => by clear hv; go_simp) hHeld ?_
     simp only [Act.put, zqa, zqb, zqc]
     refine zqs 10 34 (.pointer (some ⟨g, 0, none⟩)) rfl rfl (by kernel_rfl) (fun _ _ _ h => h) rfl (fun v hv => by clear hv; go_simp) hHeld ?_
     simp only [Act.put, zqa, zqb, zqc]
     refine zqs 11 35 (.pointer (some ⟨g, 6, none⟩)) rfl rfl (by kernel_rfl) (fun _ _ _ h => h) rfl (fun v hv => by clear hv; go_simp) hHeld ?_
     simp only [Act.put, zqa, zqb, zqc]
     refine zqo 12 (by kernel_rfl) rfl (fun K hK => ?_)
     rw [if_pos (by rfl)]
     refine wp_letOp1 57 _ _ rfl g 6 rfl (.slice p5 n5 c5) rfl rfl (by kernel_rfl) rfl #[.int .i64 x.me, .int .i64 x.rv, .int .i64 x.nx, .int .i64 x.mo, .int .i64 x.bo, .int .i64 x.fr, .slice p len cap, .int .i64 0, .int .i64 0, .int .i64 0, .int .i64 0, .int .i64 0, .int .i64 0, .int .i64 0] 121 H5g.out (by simp) rfl ?_
     intro W6 hU
     have H6g : Hid (Blk W6 g #[.int .i64 x.me, .int .i64 x.rv, .int .i64 x.nx, .int .i64 x.mo, .int .i64 x.bo, .int .i64 x.fr, .slice p5 n5 c5, .int .i64 0, .int .i64 0, .int .i64 0, .int .i64 0, .int .i64 0, .int .i64 0, .int .i64 0] 121) := hU.blk
     have H6e := shK hU H5e (by omega)
     have H6B : Hid (Below g w W6) := hU.bel _ _ (Nat.le_refl _) H5B.out
     have H6F : Hid (deb.Fresh W6 (g + 1) p5 n5 c5 (x.ds ++ [q])) := fresh_chg H5F.out (.upd hU)
     refine hK.out _ _ H6e.out (fun hHeld => ?_)
     clear hK K hU H5g H5e H5B H5F
     refine wpAnyH_done (by kernel_rfl) ?_ _
     clear hHeld
     go_wp2_with fail
     go_ret
     exact ⟨⟨x.me, x.rv, x.nx, x.mo, x.bo, x.fr, x.ds ++ [q]⟩, bi0, p5, n5, c5, 0, rfl, HV.out, H6g.out, H6F.out, H6B.out⟩
   ·have d3 : ((len : Int) == 8) = true := by simp; omega
    have HV : Hid (Or0 (fun y _ f => OweIs x q y f) x bi0 16) := .inl ⟨by decide, .inr (.inr (.inl ⟨HM.out, ⟨h1, h2⟩, by rw [hle]; exact h3, rfl, rfl⟩))⟩
    clear h1 h2 h3
    go_wp2_with fail
    go_ret
    exact ⟨x, bi0, p, len, cap, 16, rfl, HV.out, H0g.out, H0F.out, H0G.out⟩
  ·rw [decide_eq_false h2] at HI2
   have HV : Hid (Or0 (fun y _ f => OweIs x q y f) x bi0 2) := .inl ⟨by decide, .inr (.inl ⟨HM.out, fun hh => h2 hh.2, rfl, rfl⟩)⟩
   clear h2
   go_wp2_with fail
   refine (HI2.out _).mono ?_
   rintro e wz ⟨rfl, hwz⟩
   subst wz
   go_wp2_with fail
   all_goals first
    | (rename_i q1 q2; exact absurd q1 (by simp [undef]))
    | (go_ret; exact ⟨x, bi0, p, len, cap, 2, rfl, HV.out, H0g.out, H0F.out, H0G.out⟩)
 ·rw [decide_eq_false h1] at HI1
  have HV : Hid (Or0 (fun y _ f => OweIs x q y f) x bi0 2) := .inl ⟨by decide, .inr (.inl ⟨HM.out, fun hh => h1 hh.1, rfl, rfl⟩)⟩
  clear h1
  go_wp2_with fail
  refine (HI1.out _).mono ?_
  rintro e wz ⟨rfl, hwz⟩
  subst wz
  go_wp2_with fail
  all_goals first
   | (rename_i q1 q2; exact absurd q1 (by simp [undef]))
   | (go_ret; exact ⟨x, bi0, p, len, cap, 2, rfl, HV.out, H0g.out, H0F.out, H0G.out⟩)
end acc
end Go.Proofs.YtomibnggmhjdfaaGreat
