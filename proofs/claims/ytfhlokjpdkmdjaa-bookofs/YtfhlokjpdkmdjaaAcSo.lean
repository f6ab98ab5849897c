/- A sale, as the document has it. -/
import Derived.Test.YtfhlokjpdkmdjaaAcRl
import Derived.Test.YtfhlokjpdkmdjaaAcTf
import Derived.Test.YtfhlokjpdkmdjaaDbR
import Derived.Test.YtfhlokjpdkmdjaaTfM
namespace Go.Proofs.Ytfhlokjpdkmdjaa.acc
open Go.Proofs.Ytfhlokjpdkmdjaa.tar (Du du0 Came RowD Ld PairT)
open Go.RowKit
set_option maxRecDepth 100000
set_option linter.unusedVariables false
set_option linter.unusedSimpArgs false

set_option maxHeartbeats 16000000 in
theorem rsold (x : Ac) (p : Option Addr) (len cap : Nat) (t : Tm) (pt : Option Addr) (lt ct : Nat) (te m : Int) (w : World) (h : RowD w p len x.ds) (hl : len ≤ maxLen) (ht : RowD w pt lt t.ts) (htl : lt ≤ maxLen) : Calls Try.prog 56 #[.agg #[.int .i64 x.me, .int .i64 x.rv, .int .i64 x.nx, .int .i64 x.mo, .int .i64 x.bo, .int .i64 x.fr, .slice p len cap], .agg #[.slice pt lt ct, .int .i64 t.ff, .int .i64 t.fb, .int .i64 t.db, .int .i64 t.al], .int .i64 te, .int .i64 m] w fun e w' => BPost w (SellIs x t te m) e w' := by
  have HIT : Hid (∀ W, Calls Try.prog 47 #[.int .i64 te, .int .i64 1, .int .i64 100000000] W fun e w' => e = .returned (.bool (decide (1 ≤ te ∧ te ≤ 100000000))) ∧ w' = W) := fun W => cal.cin te 1 100000000 W
  by_cases hm : AMay x
  · have HM : Hid (AMay x) := hm
    have hnx := hm.2.2.2.1
    have hmo := hm.2.2.2.2.1
    have H0d : Hid (Blk ((((w.alloc (.cells #[.int .i64 x.me, .int .i64 x.rv, .int .i64 x.nx, .int .i64 x.mo, .int .i64 x.bo, .int .i64 x.fr, .slice p len cap] 55)).alloc (.cells #[.slice pt lt ct, .int .i64 t.ff, .int .i64 t.fb, .int .i64 t.db, .int .i64 t.al] 40)).alloc (.cells #[.int .i64 0, .int .i64 0, .int .i64 0, .int .i64 0, .int .i64 0, .int .i64 0, .slice none 0 0] 55)).alloc (.cells #[.int .i64 0, .int .i64 0, .int .i64 0, .int .i64 0, .int .i64 0, .int .i64 0, .int .i64 0] 23)) (w.heap.size) #[.int .i64 x.me, .int .i64 x.rv, .int .i64 x.nx, .int .i64 x.mo, .int .i64 x.bo, .int .i64 x.fr, .slice p len cap] 55) := (((Blk.new w _ _).alloc _).alloc _).alloc _
    have H0t : Hid (Blk ((((w.alloc (.cells #[.int .i64 x.me, .int .i64 x.rv, .int .i64 x.nx, .int .i64 x.mo, .int .i64 x.bo, .int .i64 x.fr, .slice p len cap] 55)).alloc (.cells #[.slice pt lt ct, .int .i64 t.ff, .int .i64 t.fb, .int .i64 t.db, .int .i64 t.al] 40)).alloc (.cells #[.int .i64 0, .int .i64 0, .int .i64 0, .int .i64 0, .int .i64 0, .int .i64 0, .slice none 0 0] 55)).alloc (.cells #[.int .i64 0, .int .i64 0, .int .i64 0, .int .i64 0, .int .i64 0, .int .i64 0, .int .i64 0] 23)) (w.heap.size + 1) #[.slice pt lt ct, .int .i64 t.ff, .int .i64 t.fb, .int .i64 t.db, .int .i64 t.al] 40) := ((Blk.new1 w _ _ _).alloc _).alloc _
    have H0r : Hid (Blk ((((w.alloc (.cells #[.int .i64 x.me, .int .i64 x.rv, .int .i64 x.nx, .int .i64 x.mo, .int .i64 x.bo, .int .i64 x.fr, .slice p len cap] 55)).alloc (.cells #[.slice pt lt ct, .int .i64 t.ff, .int .i64 t.fb, .int .i64 t.db, .int .i64 t.al] 40)).alloc (.cells #[.int .i64 0, .int .i64 0, .int .i64 0, .int .i64 0, .int .i64 0, .int .i64 0, .slice none 0 0] 55)).alloc (.cells #[.int .i64 0, .int .i64 0, .int .i64 0, .int .i64 0, .int .i64 0, .int .i64 0, .int .i64 0] 23)) (w.heap.size + 1 + 1) #[.int .i64 0, .int .i64 0, .int .i64 0, .int .i64 0, .int .i64 0, .int .i64 0, .slice none 0 0] 55) := (Blk.new2 w _ _ _ _).alloc _
    have H0l : Hid (Blk ((((w.alloc (.cells #[.int .i64 x.me, .int .i64 x.rv, .int .i64 x.nx, .int .i64 x.mo, .int .i64 x.bo, .int .i64 x.fr, .slice p len cap] 55)).alloc (.cells #[.slice pt lt ct, .int .i64 t.ff, .int .i64 t.fb, .int .i64 t.db, .int .i64 t.al] 40)).alloc (.cells #[.int .i64 0, .int .i64 0, .int .i64 0, .int .i64 0, .int .i64 0, .int .i64 0, .slice none 0 0] 55)).alloc (.cells #[.int .i64 0, .int .i64 0, .int .i64 0, .int .i64 0, .int .i64 0, .int .i64 0, .int .i64 0] 23)) (w.heap.size + 1 + 1 + 1) #[.int .i64 0, .int .i64 0, .int .i64 0, .int .i64 0, .int .i64 0, .int .i64 0, .int .i64 0] 23) := Blk.new3 w _ _ _ _ _
    have H0B : Hid (Below w.heap.size w ((((w.alloc (.cells #[.int .i64 x.me, .int .i64 x.rv, .int .i64 x.nx, .int .i64 x.mo, .int .i64 x.bo, .int .i64 x.fr, .slice p len cap] 55)).alloc (.cells #[.slice pt lt ct, .int .i64 t.ff, .int .i64 t.fb, .int .i64 t.db, .int .i64 t.al] 40)).alloc (.cells #[.int .i64 0, .int .i64 0, .int .i64 0, .int .i64 0, .int .i64 0, .int .i64 0, .slice none 0 0] 55)).alloc (.cells #[.int .i64 0, .int .i64 0, .int .i64 0, .int .i64 0, .int .i64 0, .int .i64 0, .int .i64 0] 23))) := ((((Below.refl w.heap.size w).alloc (by simp) _).alloc (by simp) _).alloc (by simp; omega) _).alloc (by simp; omega) _
    have H0R : Hid (RowD ((((w.alloc (.cells #[.int .i64 x.me, .int .i64 x.rv, .int .i64 x.nx, .int .i64 x.mo, .int .i64 x.bo, .int .i64 x.fr, .slice p len cap] 55)).alloc (.cells #[.slice pt lt ct, .int .i64 t.ff, .int .i64 t.fb, .int .i64 t.db, .int .i64 t.al] 40)).alloc (.cells #[.int .i64 0, .int .i64 0, .int .i64 0, .int .i64 0, .int .i64 0, .int .i64 0, .slice none 0 0] 55)).alloc (.cells #[.int .i64 0, .int .i64 0, .int .i64 0, .int .i64 0, .int .i64 0, .int .i64 0, .int .i64 0] 23)) p len x.ds) := h.below H0B.out
    have H0T : Hid (RowD ((((w.alloc (.cells #[.int .i64 x.me, .int .i64 x.rv, .int .i64 x.nx, .int .i64 x.mo, .int .i64 x.bo, .int .i64 x.fr, .slice p len cap] 55)).alloc (.cells #[.slice pt lt ct, .int .i64 t.ff, .int .i64 t.fb, .int .i64 t.db, .int .i64 t.al] 40)).alloc (.cells #[.int .i64 0, .int .i64 0, .int .i64 0, .int .i64 0, .int .i64 0, .int .i64 0, .slice none 0 0] 55)).alloc (.cells #[.int .i64 0, .int .i64 0, .int .i64 0, .int .i64 0, .int .i64 0, .int .i64 0, .int .i64 0] 23)) pt lt t.ts) := ht.below H0B.out
    have hs0 : w.heap.size + 1 + 1 + 1 < ((((w.alloc (.cells #[.int .i64 x.me, .int .i64 x.rv, .int .i64 x.nx, .int .i64 x.mo, .int .i64 x.bo, .int .i64 x.fr, .slice p len cap] 55)).alloc (.cells #[.slice pt lt ct, .int .i64 t.ff, .int .i64 t.fb, .int .i64 t.db, .int .i64 t.al] 40)).alloc (.cells #[.int .i64 0, .int .i64 0, .int .i64 0, .int .i64 0, .int .i64 0, .int .i64 0, .slice none 0 0] 55)).alloc (.cells #[.int .i64 0, .int .i64 0, .int .i64 0, .int .i64 0, .int .i64 0, .int .i64 0, .int .i64 0] 23)).heap.size := H0l.out.lt
    generalize hWW : ((((w.alloc (.cells #[.int .i64 x.me, .int .i64 x.rv, .int .i64 x.nx, .int .i64 x.mo, .int .i64 x.bo, .int .i64 x.fr, .slice p len cap] 55)).alloc (.cells #[.slice pt lt ct, .int .i64 t.ff, .int .i64 t.fb, .int .i64 t.db, .int .i64 t.al] 40)).alloc (.cells #[.int .i64 0, .int .i64 0, .int .i64 0, .int .i64 0, .int .i64 0, .int .i64 0, .slice none 0 0] 55)).alloc (.cells #[.int .i64 0, .int .i64 0, .int .i64 0, .int .i64 0, .int .i64 0, .int .i64 0, .int .i64 0] 23)) = W0 at *
    have HWW : Hid (((((w.alloc (.cells #[.int .i64 x.me, .int .i64 x.rv, .int .i64 x.nx, .int .i64 x.mo, .int .i64 x.bo, .int .i64 x.fr, .slice p len cap] 55)).alloc (.cells #[.slice pt lt ct, .int .i64 t.ff, .int .i64 t.fb, .int .i64 t.db, .int .i64 t.al] 40)).alloc (.cells #[.int .i64 0, .int .i64 0, .int .i64 0, .int .i64 0, .int .i64 0, .int .i64 0, .slice none 0 0] 55)).alloc (.cells #[.int .i64 0, .int .i64 0, .int .i64 0, .int .i64 0, .int .i64 0, .int .i64 0, .int .i64 0] 23)) = W0) := hWW
    clear hWW
    go_enter Try.func56, Try.ntmps56
    go_upto_region 1 with fail
    rw [HWW.out]
    clear HWW
    have HAM : Hid (Calls Try.prog 68 #[.agg #[.int .i64 x.me, .int .i64 x.rv, .int .i64 x.nx, .int .i64 x.mo, .int .i64 x.bo, .int .i64 x.fr, .slice p len cap]] W0 fun e w' => e = .returned (.bool true) ∧ Below W0.heap.size W0 w') := ramay x p len cap _ H0R.out hl hm
    go_wp2_with (first
      | (refine wp_whole rfl 55 _ rfl (w.heap.size) rfl 55 #[.int .i64 x.me, .int .i64 x.rv, .int .i64 x.nx, .int .i64 x.mo, .int .i64 x.bo, .int .i64 x.fr, .slice p len cap] _ H0d.out Try.underlying55 rfl (by kernel_rfl) ?_)
      | (refine wp_whole rfl 40 _ rfl (w.heap.size + 1) rfl 40 #[.slice pt lt ct, .int .i64 t.ff, .int .i64 t.fb, .int .i64 t.db, .int .i64 t.al] _ H0t.out Try.underlying40 rfl (by kernel_rfl) ?_)
      | (refine wp_whole rfl 55 _ rfl (w.heap.size + 1 + 1) rfl 55 #[.int .i64 0, .int .i64 0, .int .i64 0, .int .i64 0, .int .i64 0, .int .i64 0, .slice none 0 0] _ H0r.out Try.underlying55 rfl (by kernel_rfl) ?_)
      | (refine wp_whole rfl 23 _ rfl (w.heap.size + 1 + 1 + 1) rfl 23 #[.int .i64 0, .int .i64 0, .int .i64 0, .int .i64 0, .int .i64 0, .int .i64 0, .int .i64 0] _ H0l.out Try.underlying23 rfl (by kernel_rfl) ?_)
      | fail)
    refine HAM.out.mono ?_
    rintro e w1 ⟨rfl, hb1⟩
    have H1d : Hid (Blk w1 (w.heap.size) #[.int .i64 x.me, .int .i64 x.rv, .int .i64 x.nx, .int .i64 x.mo, .int .i64 x.bo, .int .i64 x.fr, .slice p len cap] 55) := H0d.out.next hb1
    have H1t : Hid (Blk w1 (w.heap.size + 1) #[.slice pt lt ct, .int .i64 t.ff, .int .i64 t.fb, .int .i64 t.db, .int .i64 t.al] 40) := H0t.out.next hb1
    have H1r : Hid (Blk w1 (w.heap.size + 1 + 1) #[.int .i64 0, .int .i64 0, .int .i64 0, .int .i64 0, .int .i64 0, .int .i64 0, .slice none 0 0] 55) := H0r.out.next hb1
    have H1l : Hid (Blk w1 (w.heap.size + 1 + 1 + 1) #[.int .i64 0, .int .i64 0, .int .i64 0, .int .i64 0, .int .i64 0, .int .i64 0, .int .i64 0] 23) := H0l.out.next hb1
    have H1R : Hid (RowD w1 p len x.ds) := H0R.out.below hb1
    have H1T : Hid (RowD w1 pt lt t.ts) := H0T.out.below hb1
    have H1B : Hid (Below w.heap.size w w1) := H0B.out.trans (hb1.mono H0B.out.size)
    have hsw1 : W0.heap.size ≤ w1.heap.size := hb1.size
    clear hb1 H0d H0t H0r H0l H0R H0T H0B
    clear HAM
    clear hm
    have HTF : Hid (Calls Try.prog 36 #[.agg #[.slice pt lt ct, .int .i64 t.ff, .int .i64 t.fb, .int .i64 t.db, .int .i64 t.al]] w1 fun e w' => tar.ErrPost w1 (TFault t) e w') := rterms t pt lt ct w1 H1T.out htl
    go_wp2_with (first
      | (refine wp_whole rfl 55 _ rfl (w.heap.size) rfl 55 #[.int .i64 x.me, .int .i64 x.rv, .int .i64 x.nx, .int .i64 x.mo, .int .i64 x.bo, .int .i64 x.fr, .slice p len cap] _ H1d.out Try.underlying55 rfl (by kernel_rfl) ?_)
      | (refine wp_whole rfl 40 _ rfl (w.heap.size + 1) rfl 40 #[.slice pt lt ct, .int .i64 t.ff, .int .i64 t.fb, .int .i64 t.db, .int .i64 t.al] _ H1t.out Try.underlying40 rfl (by kernel_rfl) ?_)
      | (refine wp_whole rfl 55 _ rfl (w.heap.size + 1 + 1) rfl 55 #[.int .i64 0, .int .i64 0, .int .i64 0, .int .i64 0, .int .i64 0, .int .i64 0, .slice none 0 0] _ H1r.out Try.underlying55 rfl (by kernel_rfl) ?_)
      | (refine wp_whole rfl 23 _ rfl (w.heap.size + 1 + 1 + 1) rfl 23 #[.int .i64 0, .int .i64 0, .int .i64 0, .int .i64 0, .int .i64 0, .int .i64 0, .int .i64 0] _ H1l.out Try.underlying23 rfl (by kernel_rfl) ?_)
      | fail)
    refine HTF.out.mono ?_
    rintro e w2 ⟨ft, rfl, hft, hb2⟩
    have H2d : Hid (Blk w2 (w.heap.size) #[.int .i64 x.me, .int .i64 x.rv, .int .i64 x.nx, .int .i64 x.mo, .int .i64 x.bo, .int .i64 x.fr, .slice p len cap] 55) := H1d.out.next hb2
    have H2t : Hid (Blk w2 (w.heap.size + 1) #[.slice pt lt ct, .int .i64 t.ff, .int .i64 t.fb, .int .i64 t.db, .int .i64 t.al] 40) := H1t.out.next hb2
    have H2r : Hid (Blk w2 (w.heap.size + 1 + 1) #[.int .i64 0, .int .i64 0, .int .i64 0, .int .i64 0, .int .i64 0, .int .i64 0, .slice none 0 0] 55) := H1r.out.next hb2
    have H2l : Hid (Blk w2 (w.heap.size + 1 + 1 + 1) #[.int .i64 0, .int .i64 0, .int .i64 0, .int .i64 0, .int .i64 0, .int .i64 0, .int .i64 0] 23) := H1l.out.next hb2
    have H2R : Hid (RowD w2 p len x.ds) := H1R.out.below hb2
    have H2T : Hid (RowD w2 pt lt t.ts) := H1T.out.below hb2
    have H2B : Hid (Below w.heap.size w w2) := H1B.out.trans (hb2.mono H1B.out.size)
    have hsw2 : w1.heap.size ≤ w2.heap.size := hb2.size
    clear hb2 H1d H1t H1r H1l H1R H1T H1B
    clear HTF
    by_cases h0 : ft = 0
    · subst h0
      have HT : Hid (TRight t) := hft.ok.1 rfl
      clear hft
      have HRO : Hid (Calls Try.prog 70 #[.agg #[.int .i64 x.me, .int .i64 x.rv, .int .i64 x.nx, .int .i64 x.mo, .int .i64 x.bo, .int .i64 x.fr, .slice p len cap], .int .i64 m] w2 fun e w' => APost w2 (RollIs x m) e w') := rrolled x p len cap m w2 H2R.out hl
      go_wp2_with (first
        | (refine wp_whole rfl 55 _ rfl (w.heap.size) rfl 55 #[.int .i64 x.me, .int .i64 x.rv, .int .i64 x.nx, .int .i64 x.mo, .int .i64 x.bo, .int .i64 x.fr, .slice p len cap] _ H2d.out Try.underlying55 rfl (by kernel_rfl) ?_)
        | (refine wp_whole rfl 40 _ rfl (w.heap.size + 1) rfl 40 #[.slice pt lt ct, .int .i64 t.ff, .int .i64 t.fb, .int .i64 t.db, .int .i64 t.al] _ H2t.out Try.underlying40 rfl (by kernel_rfl) ?_)
        | (refine wp_whole rfl 55 _ rfl (w.heap.size + 1 + 1) rfl 55 #[.int .i64 0, .int .i64 0, .int .i64 0, .int .i64 0, .int .i64 0, .int .i64 0, .slice none 0 0] _ H2r.out Try.underlying55 rfl (by kernel_rfl) ?_)
        | (refine wp_whole rfl 23 _ rfl (w.heap.size + 1 + 1 + 1) rfl 23 #[.int .i64 0, .int .i64 0, .int .i64 0, .int .i64 0, .int .i64 0, .int .i64 0, .int .i64 0] _ H2l.out Try.underlying23 rfl (by kernel_rfl) ?_)
        | fail)
      refine HRO.out.mono ?_
      rintro e w3 ⟨b, pr, lr, cr, fr, rfl, hi3, hf3, hb3⟩
      have H3d : Hid (Blk w3 (w.heap.size) #[.int .i64 x.me, .int .i64 x.rv, .int .i64 x.nx, .int .i64 x.mo, .int .i64 x.bo, .int .i64 x.fr, .slice p len cap] 55) := H2d.out.next hb3
      have H3t : Hid (Blk w3 (w.heap.size + 1) #[.slice pt lt ct, .int .i64 t.ff, .int .i64 t.fb, .int .i64 t.db, .int .i64 t.al] 40) := H2t.out.next hb3
      have H3r : Hid (Blk w3 (w.heap.size + 1 + 1) #[.int .i64 0, .int .i64 0, .int .i64 0, .int .i64 0, .int .i64 0, .int .i64 0, .slice none 0 0] 55) := H2r.out.next hb3
      have H3l : Hid (Blk w3 (w.heap.size + 1 + 1 + 1) #[.int .i64 0, .int .i64 0, .int .i64 0, .int .i64 0, .int .i64 0, .int .i64 0, .int .i64 0] 23) := H2l.out.next hb3
      have H3R : Hid (RowD w3 p len x.ds) := H2R.out.below hb3
      have H3T : Hid (RowD w3 pt lt t.ts) := H2T.out.below hb3
      have H3B : Hid (Below w.heap.size w w3) := H2B.out.trans (hb3.mono H2B.out.size)
      have hsw3 : w2.heap.size ≤ w3.heap.size := hb3.size
      clear hb3 H2d H2t H2r H2l H2R H2T H2B
      unfold Ac.v Ac.cs
      clear HRO
      have H4F : Hid (deb.Fresh w3 w2.heap.size pr lr cr b.ds) := hf3
      have HUPF : Hid (0 < lr → ∀ y, pr = some y → y.block < w3.heap.size) := came_lt H4F.out.came
      clear hf3
      by_cases h4 : fr = 0
      · subst h4
        have hrm : RMay x m ∧ b = rolled x m := by
          rcases hi3 with ⟨q, _⟩ | ⟨_, _, q, _⟩ | ⟨_, q, r, _⟩
          · exact absurd HM.out q
          · exact absurd rfl q.ne
          · exact ⟨q, r⟩
        have HRY : Hid (Ready x t m) := ⟨HM.out, HT.out, hrm.1⟩
        have HBR : Hid (b = rolled x m) := hrm.2
        have hbs := rolled_same x m
        rw [← hrm.2] at hbs
        have hbo := (rolled_may HM.out hrm.1).2.2.2.2.2.1
        rw [← hrm.2] at hbo
        have HBS : Hid (b.me = x.me ∧ b.rv = x.rv ∧ b.nx = x.nx ∧ b.mo = m ∧ b.fr = x.fr) := hbs
        clear hrm hi3 hbs
        have H5d : Hid (Blk (w3.alloc (.cells #[.int .i64 b.me, .int .i64 b.rv, .int .i64 b.nx, .int .i64 b.mo, .int .i64 b.bo, .int .i64 b.fr, .slice pr lr cr] 55)) (w.heap.size) #[.int .i64 x.me, .int .i64 x.rv, .int .i64 x.nx, .int .i64 x.mo, .int .i64 x.bo, .int .i64 x.fr, .slice p len cap] 55) := H3d.out.alloc _
        have H5t : Hid (Blk (w3.alloc (.cells #[.int .i64 b.me, .int .i64 b.rv, .int .i64 b.nx, .int .i64 b.mo, .int .i64 b.bo, .int .i64 b.fr, .slice pr lr cr] 55)) (w.heap.size + 1) #[.slice pt lt ct, .int .i64 t.ff, .int .i64 t.fb, .int .i64 t.db, .int .i64 t.al] 40) := H3t.out.alloc _
        have H5r : Hid (Blk (w3.alloc (.cells #[.int .i64 b.me, .int .i64 b.rv, .int .i64 b.nx, .int .i64 b.mo, .int .i64 b.bo, .int .i64 b.fr, .slice pr lr cr] 55)) (w.heap.size + 1 + 1) #[.int .i64 0, .int .i64 0, .int .i64 0, .int .i64 0, .int .i64 0, .int .i64 0, .slice none 0 0] 55) := H3r.out.alloc _
        have H5l : Hid (Blk (w3.alloc (.cells #[.int .i64 b.me, .int .i64 b.rv, .int .i64 b.nx, .int .i64 b.mo, .int .i64 b.bo, .int .i64 b.fr, .slice pr lr cr] 55)) (w.heap.size + 1 + 1 + 1) #[.int .i64 0, .int .i64 0, .int .i64 0, .int .i64 0, .int .i64 0, .int .i64 0, .int .i64 0] 23) := H3l.out.alloc _
        have H5R : Hid (RowD (w3.alloc (.cells #[.int .i64 b.me, .int .i64 b.rv, .int .i64 b.nx, .int .i64 b.mo, .int .i64 b.bo, .int .i64 b.fr, .slice pr lr cr] 55)) p len x.ds) := H3R.out.below ((Below.refl w3.heap.size w3).alloc (Nat.le_refl _) _)
        have H5T : Hid (RowD (w3.alloc (.cells #[.int .i64 b.me, .int .i64 b.rv, .int .i64 b.nx, .int .i64 b.mo, .int .i64 b.bo, .int .i64 b.fr, .slice pr lr cr] 55)) pt lt t.ts) := H3T.out.below ((Below.refl w3.heap.size w3).alloc (Nat.le_refl _) _)
        have H5F : Hid (deb.Fresh (w3.alloc (.cells #[.int .i64 b.me, .int .i64 b.rv, .int .i64 b.nx, .int .i64 b.mo, .int .i64 b.bo, .int .i64 b.fr, .slice pr lr cr] 55)) w2.heap.size pr lr cr b.ds) := H4F.out.below ((Below.refl w3.heap.size w3).alloc (Nat.le_refl _) _)
        have H5n : Hid (Blk (w3.alloc (.cells #[.int .i64 b.me, .int .i64 b.rv, .int .i64 b.nx, .int .i64 b.mo, .int .i64 b.bo, .int .i64 b.fr, .slice pr lr cr] 55)) w3.heap.size #[.int .i64 b.me, .int .i64 b.rv, .int .i64 b.nx, .int .i64 b.mo, .int .i64 b.bo, .int .i64 b.fr, .slice pr lr cr] 55) := Blk.new w3 _ _
        have H5B : Hid (Below w.heap.size w (w3.alloc (.cells #[.int .i64 b.me, .int .i64 b.rv, .int .i64 b.nx, .int .i64 b.mo, .int .i64 b.bo, .int .i64 b.fr, .slice pr lr cr] 55))) := H3B.out.alloc H3B.out.size _
        have hsW4 : w3.heap.size < (w3.alloc (.cells #[.int .i64 b.me, .int .i64 b.rv, .int .i64 b.nx, .int .i64 b.mo, .int .i64 b.bo, .int .i64 b.fr, .slice pr lr cr] 55)).heap.size := (Blk.new w3 #[.int .i64 b.me, .int .i64 b.rv, .int .i64 b.nx, .int .i64 b.mo, .int .i64 b.bo, .int .i64 b.fr, .slice pr lr cr] 55).lt
        clear H3d H3t H3r H3l H3R H3T H4F H3B
        go_upto_region 7 with fail
        generalize (w3.alloc (.cells #[.int .i64 b.me, .int .i64 b.rv, .int .i64 b.nx, .int .i64 b.mo, .int .i64 b.bo, .int .i64 b.fr, .slice pr lr cr] 55)) = W4 at *
        have hdm : deb.Mays b.ds := by rw [HBR.out]; exact (rolled_may HM.out HRY.out.2.2).1
        by_cases h5 : 1 ≤ te ∧ te ≤ 100000000
        · rw [decide_eq_true h5] at HIT
          go_wp2_with (first
            | fail)
          refine (HIT.out _).mono ?_
          rintro e wz ⟨rfl, hwz⟩
          obtain rfl : W4 = wz := hwz.symm
          clear HIT
          have htok := HT.out.2
          have HTM : Hid (deb.TMay te t.db) := ⟨⟨by omega, h5.2⟩, htok.2.2.1⟩
          have HRE : Hid (Calls Try.prog 71 #[.slice pr lr cr, .int .i64 te, .int .i64 t.db] W4 fun e w' => deb.RecPost W4 b.ds te t.db e w') := deb.rrec pr lr cr b.ds te t.db W4 H5F.out.came.row H5F.out.came.most
          have HPA : Hid (∀ W, Calls Try.prog 72 #[.int .i64 te, .int .i64 t.fb] W fun e w' => e = .returned (.tuple #[.int .i64 (te * t.fb / 10000), .int .i64 0]) ∧ w' = W) := fun W => deb.rparted te t.fb W ⟨⟨by omega, by omega⟩, htok.2.1⟩
          have hpb := deb.share_bd (t := te) (bp := t.fb) ⟨⟨by omega, h5.2⟩, htok.2.1⟩
          have hsb := deb.share_bd HTM.out
          have qn6 : W4.cell? ⟨w3.heap.size, 6, none⟩ = some (.slice pr lr cr) := H5n.out.cell 6
          have qt3 : W4.cell? ⟨w.heap.size + 1, 3, none⟩ = some (.int .i64 t.db) := H5t.out.cell 3
          go_wp2_with fail
          clear qn6 qt3
          refine HRE.out.mono ?_
          rintro e w5 ⟨pz, lz, cz, z, pd, fz, rfl, hi5, hf5, hb5⟩
          have H6d : Hid (Blk w5 (w.heap.size) #[.int .i64 x.me, .int .i64 x.rv, .int .i64 x.nx, .int .i64 x.mo, .int .i64 x.bo, .int .i64 x.fr, .slice p len cap] 55) := H5d.out.next hb5
          have H6t : Hid (Blk w5 (w.heap.size + 1) #[.slice pt lt ct, .int .i64 t.ff, .int .i64 t.fb, .int .i64 t.db, .int .i64 t.al] 40) := H5t.out.next hb5
          have H6r : Hid (Blk w5 (w.heap.size + 1 + 1) #[.int .i64 0, .int .i64 0, .int .i64 0, .int .i64 0, .int .i64 0, .int .i64 0, .slice none 0 0] 55) := H5r.out.next hb5
          have H6l : Hid (Blk w5 (w.heap.size + 1 + 1 + 1) #[.int .i64 0, .int .i64 0, .int .i64 0, .int .i64 0, .int .i64 0, .int .i64 0, .int .i64 0] 23) := H5l.out.next hb5
          have H6n : Hid (Blk w5 (w3.heap.size) #[.int .i64 b.me, .int .i64 b.rv, .int .i64 b.nx, .int .i64 b.mo, .int .i64 b.bo, .int .i64 b.fr, .slice pr lr cr] 55) := H5n.out.next hb5
          have H6T : Hid (RowD w5 pt lt t.ts) := H5T.out.below hb5
          have H6F : Hid (deb.Fresh w5 w2.heap.size pr lr cr b.ds) := H5F.out.below hb5
          have H6B : Hid (Below w.heap.size w w5) := H5B.out.trans (hb5.mono H5B.out.size)
          have hsw5 : W4.heap.size ≤ w5.heap.size := hb5.size
          clear hb5 H5d H5t H5r H5l H5n H5T H5F H5B
          obtain ⟨rfl, hz, hpd⟩ := hi5.got hdm HTM.out
          clear hi5 HRE
          have H7Z : Hid (deb.Fresh w5 W4.heap.size pz lz cz z) := hf5
          have HUPZ : Hid (0 < lz → ∀ y, pz = some y → y.block < w5.heap.size) := came_lt H7Z.out.came
          clear hf5
          have hT0 := (deb.sumD_pos (deb.mem_fits hdm.2)).1
          have hpd0 : 0 ≤ pd := by rw [hpd]; omega
          have hpd1 : pd ≤ 100000000 := by rw [hpd]; omega
          have HPD : Hid (pd = paid x t te m) := by show _ = _; rw [hpd]; unfold paid share; rw [← HBR.out]
          have HZV : Hid (z = deb.recK (rolled x m).ds (share t te) (rolled x m).ds.length) := by show _ = _; rw [hz]; unfold share; rw [← HBR.out]
          have HFE : Hid (t.ff + te * t.fb / 10000 = fee t te) := rfl
          clear hpd hz hT0
          have qt2 : w5.cell? ⟨w.heap.size + 1, 2, none⟩ = some (.int .i64 t.fb) := H6t.out.cell 2
          go_wp2_with fail
          refine (HPA.out _).mono ?_
          rintro e wz ⟨rfl, hwz⟩
          obtain rfl : w5 = wz := hwz.symm
          clear HPA qt2
          generalize te * t.fb / 10000 = pq at *
          have hff := htok.1
          have HRS : Hid (te - pd - (t.ff + pq) = rest x t te m) := by show _ = _; unfold rest; rw [HPD.out, HFE.out]
          have HRG := HT.out.1
          clear htok
          by_cases h6 : te - pd - (t.ff + pq) < 0
          · have d6 : decide (te - pd - (t.ff + pq) < 0) = true := decide_eq_true h6
            have HV : Hid (SellIs x t te m ac0 bi0 19) := .inr (.inl ⟨HRY.out, fun hh => by have := hh.2.1; rw [← HRS.out] at this; omega, rfl, rfl, rfl⟩)
            clear HRG
            have qt1 : w5.cell? ⟨w.heap.size + 1, 1, none⟩ = some (.int .i64 t.ff) := H6t.out.cell 1
            go_wp2_with (first
              | (refine wp_letAll rfl 55 _ _ rfl (w.heap.size + 1 + 1) rfl #[.int .i64 0, .int .i64 0, .int .i64 0, .int .i64 0, .int .i64 0, .int .i64 0, .slice none 0 0] rfl (by kernel_rfl) (by simp [Value.oneCell']) #[.int .i64 0, .int .i64 0, .int .i64 0, .int .i64 0, .int .i64 0, .int .i64 0, .slice none 0 0] 55 H6r.out rfl ?_)
              | (refine wp_whole rfl 55 _ rfl (w.heap.size) rfl 55 #[.int .i64 x.me, .int .i64 x.rv, .int .i64 x.nx, .int .i64 x.mo, .int .i64 x.bo, .int .i64 x.fr, .slice p len cap] _ H6d.out Try.underlying55 rfl (by kernel_rfl) ?_)
              | (refine wp_whole rfl 40 _ rfl (w.heap.size + 1) rfl 40 #[.slice pt lt ct, .int .i64 t.ff, .int .i64 t.fb, .int .i64 t.db, .int .i64 t.al] _ H6t.out Try.underlying40 rfl (by kernel_rfl) ?_)
              | (refine wp_whole rfl 55 _ rfl (w.heap.size + 1 + 1) rfl 55 #[.int .i64 0, .int .i64 0, .int .i64 0, .int .i64 0, .int .i64 0, .int .i64 0, .slice none 0 0] _ H6r.out Try.underlying55 rfl (by kernel_rfl) ?_)
              | (refine wp_whole rfl 23 _ rfl (w.heap.size + 1 + 1 + 1) rfl 23 #[.int .i64 0, .int .i64 0, .int .i64 0, .int .i64 0, .int .i64 0, .int .i64 0, .int .i64 0] _ H6l.out Try.underlying23 rfl (by kernel_rfl) ?_)
              | (refine wp_whole rfl 55 _ rfl (w3.heap.size) rfl 55 #[.int .i64 b.me, .int .i64 b.rv, .int .i64 b.nx, .int .i64 b.mo, .int .i64 b.bo, .int .i64 b.fr, .slice pr lr cr] _ H6n.out Try.underlying55 rfl (by kernel_rfl) ?_)
              | fail)
            intro w5a hU
            have H8d : Hid (Blk w5a (w.heap.size) #[.int .i64 x.me, .int .i64 x.rv, .int .i64 x.nx, .int .i64 x.mo, .int .i64 x.bo, .int .i64 x.fr, .slice p len cap] 55) := hU.keep H6d.out (by omega)
            have H8t : Hid (Blk w5a (w.heap.size + 1) #[.slice pt lt ct, .int .i64 t.ff, .int .i64 t.fb, .int .i64 t.db, .int .i64 t.al] 40) := hU.keep H6t.out (by omega)
            have H8r : Hid (Blk w5a (w.heap.size + 1 + 1) #[.int .i64 0, .int .i64 0, .int .i64 0, .int .i64 0, .int .i64 0, .int .i64 0, .slice none 0 0] 55) := hU.blk
            have H8l : Hid (Blk w5a (w.heap.size + 1 + 1 + 1) #[.int .i64 0, .int .i64 0, .int .i64 0, .int .i64 0, .int .i64 0, .int .i64 0, .int .i64 0] 23) := hU.keep H6l.out (by omega)
            have H8n : Hid (Blk w5a (w3.heap.size) #[.int .i64 b.me, .int .i64 b.rv, .int .i64 b.nx, .int .i64 b.mo, .int .i64 b.bo, .int .i64 b.fr, .slice pr lr cr] 55) := hU.keep H6n.out (by omega)
            have H8Z : Hid (deb.Fresh w5a W4.heap.size pz lz cz z) := fresh_updN H7Z.out hU (fun hn y hy => by have f1 := H7Z.out.new hn y hy; have f2 := HUPZ.out hn y hy; omega)
            have H8B : Hid (Below w.heap.size w w5a) := hU.bel _ _ (by omega) H6B.out
            have hsw5a : w5a.heap.size = w5.heap.size := hU.size
            clear hU H6d H6t H6r H6l H6n H6T H7Z H6B
            go_wp2_with (first
              | (refine wp_letAll rfl 23 _ _ rfl (w.heap.size + 1 + 1 + 1) rfl #[.int .i64 0, .int .i64 0, .int .i64 0, .int .i64 0, .int .i64 0, .int .i64 0, .int .i64 0] rfl (by kernel_rfl) (by simp [Value.oneCell']) #[.int .i64 0, .int .i64 0, .int .i64 0, .int .i64 0, .int .i64 0, .int .i64 0, .int .i64 0] 23 H8l.out rfl ?_)
              | (refine wp_whole rfl 55 _ rfl (w.heap.size) rfl 55 #[.int .i64 x.me, .int .i64 x.rv, .int .i64 x.nx, .int .i64 x.mo, .int .i64 x.bo, .int .i64 x.fr, .slice p len cap] _ H8d.out Try.underlying55 rfl (by kernel_rfl) ?_)
              | (refine wp_whole rfl 40 _ rfl (w.heap.size + 1) rfl 40 #[.slice pt lt ct, .int .i64 t.ff, .int .i64 t.fb, .int .i64 t.db, .int .i64 t.al] _ H8t.out Try.underlying40 rfl (by kernel_rfl) ?_)
              | (refine wp_whole rfl 55 _ rfl (w.heap.size + 1 + 1) rfl 55 #[.int .i64 0, .int .i64 0, .int .i64 0, .int .i64 0, .int .i64 0, .int .i64 0, .slice none 0 0] _ H8r.out Try.underlying55 rfl (by kernel_rfl) ?_)
              | (refine wp_whole rfl 23 _ rfl (w.heap.size + 1 + 1 + 1) rfl 23 #[.int .i64 0, .int .i64 0, .int .i64 0, .int .i64 0, .int .i64 0, .int .i64 0, .int .i64 0] _ H8l.out Try.underlying23 rfl (by kernel_rfl) ?_)
              | (refine wp_whole rfl 55 _ rfl (w3.heap.size) rfl 55 #[.int .i64 b.me, .int .i64 b.rv, .int .i64 b.nx, .int .i64 b.mo, .int .i64 b.bo, .int .i64 b.fr, .slice pr lr cr] _ H8n.out Try.underlying55 rfl (by kernel_rfl) ?_)
              | fail)
            intro w5ab hU
            have H9d : Hid (Blk w5ab (w.heap.size) #[.int .i64 x.me, .int .i64 x.rv, .int .i64 x.nx, .int .i64 x.mo, .int .i64 x.bo, .int .i64 x.fr, .slice p len cap] 55) := hU.keep H8d.out (by omega)
            have H9t : Hid (Blk w5ab (w.heap.size + 1) #[.slice pt lt ct, .int .i64 t.ff, .int .i64 t.fb, .int .i64 t.db, .int .i64 t.al] 40) := hU.keep H8t.out (by omega)
            have H9r : Hid (Blk w5ab (w.heap.size + 1 + 1) #[.int .i64 0, .int .i64 0, .int .i64 0, .int .i64 0, .int .i64 0, .int .i64 0, .slice none 0 0] 55) := hU.keep H8r.out (by omega)
            have H9l : Hid (Blk w5ab (w.heap.size + 1 + 1 + 1) #[.int .i64 0, .int .i64 0, .int .i64 0, .int .i64 0, .int .i64 0, .int .i64 0, .int .i64 0] 23) := hU.blk
            have H9n : Hid (Blk w5ab (w3.heap.size) #[.int .i64 b.me, .int .i64 b.rv, .int .i64 b.nx, .int .i64 b.mo, .int .i64 b.bo, .int .i64 b.fr, .slice pr lr cr] 55) := hU.keep H8n.out (by omega)
            have H9Z : Hid (deb.Fresh w5ab W4.heap.size pz lz cz z) := fresh_updN H8Z.out hU (fun hn y hy => by have f1 := H8Z.out.new hn y hy; have f2 := HUPZ.out hn y hy; omega)
            have H9B : Hid (Below w.heap.size w w5ab) := hU.bel _ _ (by omega) H8B.out
            have hsw5ab : w5ab.heap.size = w5a.heap.size := hU.size
            clear hU H8d H8t H8r H8l H8n H8Z H8B
            have Rr0 : Hid (w5ab.cell? ⟨w.heap.size + 1 + 1, 0, none⟩ = some (.int .i64 0)) := H9r.out.cell 0
            have Rr1 : Hid (w5ab.cell? ⟨w.heap.size + 1 + 1, 1, none⟩ = some (.int .i64 0)) := H9r.out.cell 1
            have Rr2 : Hid (w5ab.cell? ⟨w.heap.size + 1 + 1, 2, none⟩ = some (.int .i64 0)) := H9r.out.cell 2
            have Rr3 : Hid (w5ab.cell? ⟨w.heap.size + 1 + 1, 3, none⟩ = some (.int .i64 0)) := H9r.out.cell 3
            have Rr4 : Hid (w5ab.cell? ⟨w.heap.size + 1 + 1, 4, none⟩ = some (.int .i64 0)) := H9r.out.cell 4
            have Rr5 : Hid (w5ab.cell? ⟨w.heap.size + 1 + 1, 5, none⟩ = some (.int .i64 0)) := H9r.out.cell 5
            have Rr6 : Hid (w5ab.cell? ⟨w.heap.size + 1 + 1, 6, none⟩ = some (.slice none 0 0)) := H9r.out.cell 6
            have Rl0 : Hid (w5ab.cell? ⟨w.heap.size + 1 + 1 + 1, 0, none⟩ = some (.int .i64 0)) := H9l.out.cell 0
            have Rl1 : Hid (w5ab.cell? ⟨w.heap.size + 1 + 1 + 1, 1, none⟩ = some (.int .i64 0)) := H9l.out.cell 1
            have Rl2 : Hid (w5ab.cell? ⟨w.heap.size + 1 + 1 + 1, 2, none⟩ = some (.int .i64 0)) := H9l.out.cell 2
            have Rl3 : Hid (w5ab.cell? ⟨w.heap.size + 1 + 1 + 1, 3, none⟩ = some (.int .i64 0)) := H9l.out.cell 3
            have Rl4 : Hid (w5ab.cell? ⟨w.heap.size + 1 + 1 + 1, 4, none⟩ = some (.int .i64 0)) := H9l.out.cell 4
            have Rl5 : Hid (w5ab.cell? ⟨w.heap.size + 1 + 1 + 1, 5, none⟩ = some (.int .i64 0)) := H9l.out.cell 5
            have Rl6 : Hid (w5ab.cell? ⟨w.heap.size + 1 + 1 + 1, 6, none⟩ = some (.int .i64 0)) := H9l.out.cell 6
            go_wp2_with fail
            exact bodyPost_ret (v := .tuple #[.agg #[.int .i64 0, .int .i64 0, .int .i64 0, .int .i64 0, .int .i64 0, .int .i64 0, .slice none 0 0], .agg #[.int .i64 0, .int .i64 0, .int .i64 0, .int .i64 0, .int .i64 0, .int .i64 0, .int .i64 0], .int .i64 19]) (by simp [results, Try.results56, Rr0.out, Rr1.out, Rr2.out, Rr3.out, Rr4.out, Rr5.out, Rr6.out, Rl0.out, Rl1.out, Rl2.out, Rl3.out, Rl4.out, Rl5.out, Rl6.out, go_sem]) rfl ⟨ac0, bi0, none, 0, 0, _, rfl, HV.out, deb.fresh_nil _ _, H9B.out⟩
          · have d6 : decide (te - pd - (t.ff + pq) < 0) = false := decide_eq_false h6
            have HMS : Hid (Calls Try.prog 73 #[.slice pt lt ct, .int .i64 b.bo, .int .i64 (te - pd - (t.ff + pq))] w5 fun e w' => tar.ThreePost w5 (tar.MostIs t.ts b.bo (te - pd - (t.ff + pq))) e w') := tar.rmost pt lt ct t.ts b.bo _ w5 H6T.out htl
            have HMM : Hid (tar.MayMost b.bo (te - pd - (t.ff + pq))) := ⟨hbo, by omega, by omega⟩
            have HRH : Hid (tar.Right t.ts) := HRG
            clear HRG
            have qt0 : w5.cell? ⟨w.heap.size + 1, 0, none⟩ = some (.slice pt lt ct) := H6t.out.cell 0
            have qt1 : w5.cell? ⟨w.heap.size + 1, 1, none⟩ = some (.int .i64 t.ff) := H6t.out.cell 1
            have qn4 : w5.cell? ⟨w3.heap.size, 4, none⟩ = some (.int .i64 b.bo) := H6n.out.cell 4
            go_wp2_with fail
            clear qt0 qt1 qn4
            refine HMS.out.mono ?_
            rintro e w7 ⟨u, pc, fm, rfl, hi7, hb7⟩
            have H8d : Hid (Blk w7 (w.heap.size) #[.int .i64 x.me, .int .i64 x.rv, .int .i64 x.nx, .int .i64 x.mo, .int .i64 x.bo, .int .i64 x.fr, .slice p len cap] 55) := H6d.out.next hb7
            have H8t : Hid (Blk w7 (w.heap.size + 1) #[.slice pt lt ct, .int .i64 t.ff, .int .i64 t.fb, .int .i64 t.db, .int .i64 t.al] 40) := H6t.out.next hb7
            have H8r : Hid (Blk w7 (w.heap.size + 1 + 1) #[.int .i64 0, .int .i64 0, .int .i64 0, .int .i64 0, .int .i64 0, .int .i64 0, .slice none 0 0] 55) := H6r.out.next hb7
            have H8l : Hid (Blk w7 (w.heap.size + 1 + 1 + 1) #[.int .i64 0, .int .i64 0, .int .i64 0, .int .i64 0, .int .i64 0, .int .i64 0, .int .i64 0] 23) := H6l.out.next hb7
            have H8n : Hid (Blk w7 (w3.heap.size) #[.int .i64 b.me, .int .i64 b.rv, .int .i64 b.nx, .int .i64 b.mo, .int .i64 b.bo, .int .i64 b.fr, .slice pr lr cr] 55) := H6n.out.next hb7
            have H8T : Hid (RowD w7 pt lt t.ts) := H6T.out.below hb7
            have H8Z : Hid (deb.Fresh w7 W4.heap.size pz lz cz z) := H7Z.out.below hb7
            have H8B : Hid (Below w.heap.size w w7) := H6B.out.trans (hb7.mono H6B.out.size)
            have hsw7 : w5.heap.size ≤ w7.heap.size := hb7.size
            clear hb7 H6d H6t H6r H6l H6n H6T H7Z H6B
            obtain ⟨rfl, hmo7, hpc⟩ := hi7.got HRH.out HMM.out
            clear hi7 HMS
            have hu0 := hmo7.1.1
            have hu1 : u ≤ 2097151 := by have := hmo7.1.2; unfold tar.Top at this; omega
            have hu2 : b.bo + u ≤ 10000000 := by have := hmo7.1.2; unfold tar.Top at this; omega
            have hcb := tar.cost_bd HRH.out b.bo (b.bo + u) hbo.1 (by omega) hu2
            rw [← hpc] at hcb
            have hpc1 : pc ≤ te - pd - (t.ff + pq) := by rw [hpc]; exact hmo7.2.1
            have hpc0 : 0 ≤ pc := by omega
            have HMO : Hid (tar.MostOf t.ts (rolled x m).bo (rest x t te m) u) := by show tar.MostOf _ _ _ _; rw [← HBR.out, ← HRS.out]; exact hmo7
            have HPC : Hid (pc = tar.cost t.ts (rolled x m).bo ((rolled x m).bo + u)) := by show _ = _; rw [← HBR.out]; exact hpc
            have HONE : Hid (∀ v, tar.MostOf t.ts (rolled x m).bo (rest x t te m) v → v = u) := fun v hv => by
              have hbb : 0 ≤ (rolled x m).bo := by rw [← HBR.out]; exact hbo.1
              exact hv.one HRH.out hbb HMO.out
            clear hmo7 hpc hcb
            by_cases h7 : u = 0
            · have d7 : (u == 0) = true := by simpa using h7
              have HV : Hid (SellIs x t te m ac0 bi0 19) := .inr (.inl ⟨HRY.out, fun hh => hh.2.2 (by rw [← h7]; exact HMO.out), rfl, rfl, rfl⟩)
              clear h7
              go_wp2_with (first
                | (refine wp_letAll rfl 55 _ _ rfl (w.heap.size + 1 + 1) rfl #[.int .i64 0, .int .i64 0, .int .i64 0, .int .i64 0, .int .i64 0, .int .i64 0, .slice none 0 0] rfl (by kernel_rfl) (by simp [Value.oneCell']) #[.int .i64 0, .int .i64 0, .int .i64 0, .int .i64 0, .int .i64 0, .int .i64 0, .slice none 0 0] 55 H8r.out rfl ?_)
                | (refine wp_whole rfl 55 _ rfl (w.heap.size) rfl 55 #[.int .i64 x.me, .int .i64 x.rv, .int .i64 x.nx, .int .i64 x.mo, .int .i64 x.bo, .int .i64 x.fr, .slice p len cap] _ H8d.out Try.underlying55 rfl (by kernel_rfl) ?_)
                | (refine wp_whole rfl 40 _ rfl (w.heap.size + 1) rfl 40 #[.slice pt lt ct, .int .i64 t.ff, .int .i64 t.fb, .int .i64 t.db, .int .i64 t.al] _ H8t.out Try.underlying40 rfl (by kernel_rfl) ?_)
                | (refine wp_whole rfl 55 _ rfl (w.heap.size + 1 + 1) rfl 55 #[.int .i64 0, .int .i64 0, .int .i64 0, .int .i64 0, .int .i64 0, .int .i64 0, .slice none 0 0] _ H8r.out Try.underlying55 rfl (by kernel_rfl) ?_)
                | (refine wp_whole rfl 23 _ rfl (w.heap.size + 1 + 1 + 1) rfl 23 #[.int .i64 0, .int .i64 0, .int .i64 0, .int .i64 0, .int .i64 0, .int .i64 0, .int .i64 0] _ H8l.out Try.underlying23 rfl (by kernel_rfl) ?_)
                | (refine wp_whole rfl 55 _ rfl (w3.heap.size) rfl 55 #[.int .i64 b.me, .int .i64 b.rv, .int .i64 b.nx, .int .i64 b.mo, .int .i64 b.bo, .int .i64 b.fr, .slice pr lr cr] _ H8n.out Try.underlying55 rfl (by kernel_rfl) ?_)
                | fail)
              intro w7a hU
              have H9d : Hid (Blk w7a (w.heap.size) #[.int .i64 x.me, .int .i64 x.rv, .int .i64 x.nx, .int .i64 x.mo, .int .i64 x.bo, .int .i64 x.fr, .slice p len cap] 55) := hU.keep H8d.out (by omega)
              have H9t : Hid (Blk w7a (w.heap.size + 1) #[.slice pt lt ct, .int .i64 t.ff, .int .i64 t.fb, .int .i64 t.db, .int .i64 t.al] 40) := hU.keep H8t.out (by omega)
              have H9r : Hid (Blk w7a (w.heap.size + 1 + 1) #[.int .i64 0, .int .i64 0, .int .i64 0, .int .i64 0, .int .i64 0, .int .i64 0, .slice none 0 0] 55) := hU.blk
              have H9l : Hid (Blk w7a (w.heap.size + 1 + 1 + 1) #[.int .i64 0, .int .i64 0, .int .i64 0, .int .i64 0, .int .i64 0, .int .i64 0, .int .i64 0] 23) := hU.keep H8l.out (by omega)
              have H9n : Hid (Blk w7a (w3.heap.size) #[.int .i64 b.me, .int .i64 b.rv, .int .i64 b.nx, .int .i64 b.mo, .int .i64 b.bo, .int .i64 b.fr, .slice pr lr cr] 55) := hU.keep H8n.out (by omega)
              have H9Z : Hid (deb.Fresh w7a W4.heap.size pz lz cz z) := fresh_updN H8Z.out hU (fun hn y hy => by have f1 := H8Z.out.new hn y hy; have f2 := HUPZ.out hn y hy; omega)
              have H9B : Hid (Below w.heap.size w w7a) := hU.bel _ _ (by omega) H8B.out
              have hsw7a : w7a.heap.size = w7.heap.size := hU.size
              clear hU H8d H8t H8r H8l H8n H8T H8Z H8B
              go_wp2_with (first
                | (refine wp_letAll rfl 23 _ _ rfl (w.heap.size + 1 + 1 + 1) rfl #[.int .i64 0, .int .i64 0, .int .i64 0, .int .i64 0, .int .i64 0, .int .i64 0, .int .i64 0] rfl (by kernel_rfl) (by simp [Value.oneCell']) #[.int .i64 0, .int .i64 0, .int .i64 0, .int .i64 0, .int .i64 0, .int .i64 0, .int .i64 0] 23 H9l.out rfl ?_)
                | (refine wp_whole rfl 55 _ rfl (w.heap.size) rfl 55 #[.int .i64 x.me, .int .i64 x.rv, .int .i64 x.nx, .int .i64 x.mo, .int .i64 x.bo, .int .i64 x.fr, .slice p len cap] _ H9d.out Try.underlying55 rfl (by kernel_rfl) ?_)
                | (refine wp_whole rfl 40 _ rfl (w.heap.size + 1) rfl 40 #[.slice pt lt ct, .int .i64 t.ff, .int .i64 t.fb, .int .i64 t.db, .int .i64 t.al] _ H9t.out Try.underlying40 rfl (by kernel_rfl) ?_)
                | (refine wp_whole rfl 55 _ rfl (w.heap.size + 1 + 1) rfl 55 #[.int .i64 0, .int .i64 0, .int .i64 0, .int .i64 0, .int .i64 0, .int .i64 0, .slice none 0 0] _ H9r.out Try.underlying55 rfl (by kernel_rfl) ?_)
                | (refine wp_whole rfl 23 _ rfl (w.heap.size + 1 + 1 + 1) rfl 23 #[.int .i64 0, .int .i64 0, .int .i64 0, .int .i64 0, .int .i64 0, .int .i64 0, .int .i64 0] _ H9l.out Try.underlying23 rfl (by kernel_rfl) ?_)
                | (refine wp_whole rfl 55 _ rfl (w3.heap.size) rfl 55 #[.int .i64 b.me, .int .i64 b.rv, .int .i64 b.nx, .int .i64 b.mo, .int .i64 b.bo, .int .i64 b.fr, .slice pr lr cr] _ H9n.out Try.underlying55 rfl (by kernel_rfl) ?_)
                | fail)
              intro w7ab hU
              have H10d : Hid (Blk w7ab (w.heap.size) #[.int .i64 x.me, .int .i64 x.rv, .int .i64 x.nx, .int .i64 x.mo, .int .i64 x.bo, .int .i64 x.fr, .slice p len cap] 55) := hU.keep H9d.out (by omega)
              have H10t : Hid (Blk w7ab (w.heap.size + 1) #[.slice pt lt ct, .int .i64 t.ff, .int .i64 t.fb, .int .i64 t.db, .int .i64 t.al] 40) := hU.keep H9t.out (by omega)
              have H10r : Hid (Blk w7ab (w.heap.size + 1 + 1) #[.int .i64 0, .int .i64 0, .int .i64 0, .int .i64 0, .int .i64 0, .int .i64 0, .slice none 0 0] 55) := hU.keep H9r.out (by omega)
              have H10l : Hid (Blk w7ab (w.heap.size + 1 + 1 + 1) #[.int .i64 0, .int .i64 0, .int .i64 0, .int .i64 0, .int .i64 0, .int .i64 0, .int .i64 0] 23) := hU.blk
              have H10n : Hid (Blk w7ab (w3.heap.size) #[.int .i64 b.me, .int .i64 b.rv, .int .i64 b.nx, .int .i64 b.mo, .int .i64 b.bo, .int .i64 b.fr, .slice pr lr cr] 55) := hU.keep H9n.out (by omega)
              have H10Z : Hid (deb.Fresh w7ab W4.heap.size pz lz cz z) := fresh_updN H9Z.out hU (fun hn y hy => by have f1 := H9Z.out.new hn y hy; have f2 := HUPZ.out hn y hy; omega)
              have H10B : Hid (Below w.heap.size w w7ab) := hU.bel _ _ (by omega) H9B.out
              have hsw7ab : w7ab.heap.size = w7a.heap.size := hU.size
              clear hU H9d H9t H9r H9l H9n H9Z H9B
              have Rr0 : Hid (w7ab.cell? ⟨w.heap.size + 1 + 1, 0, none⟩ = some (.int .i64 0)) := H10r.out.cell 0
              have Rr1 : Hid (w7ab.cell? ⟨w.heap.size + 1 + 1, 1, none⟩ = some (.int .i64 0)) := H10r.out.cell 1
              have Rr2 : Hid (w7ab.cell? ⟨w.heap.size + 1 + 1, 2, none⟩ = some (.int .i64 0)) := H10r.out.cell 2
              have Rr3 : Hid (w7ab.cell? ⟨w.heap.size + 1 + 1, 3, none⟩ = some (.int .i64 0)) := H10r.out.cell 3
              have Rr4 : Hid (w7ab.cell? ⟨w.heap.size + 1 + 1, 4, none⟩ = some (.int .i64 0)) := H10r.out.cell 4
              have Rr5 : Hid (w7ab.cell? ⟨w.heap.size + 1 + 1, 5, none⟩ = some (.int .i64 0)) := H10r.out.cell 5
              have Rr6 : Hid (w7ab.cell? ⟨w.heap.size + 1 + 1, 6, none⟩ = some (.slice none 0 0)) := H10r.out.cell 6
              have Rl0 : Hid (w7ab.cell? ⟨w.heap.size + 1 + 1 + 1, 0, none⟩ = some (.int .i64 0)) := H10l.out.cell 0
              have Rl1 : Hid (w7ab.cell? ⟨w.heap.size + 1 + 1 + 1, 1, none⟩ = some (.int .i64 0)) := H10l.out.cell 1
              have Rl2 : Hid (w7ab.cell? ⟨w.heap.size + 1 + 1 + 1, 2, none⟩ = some (.int .i64 0)) := H10l.out.cell 2
              have Rl3 : Hid (w7ab.cell? ⟨w.heap.size + 1 + 1 + 1, 3, none⟩ = some (.int .i64 0)) := H10l.out.cell 3
              have Rl4 : Hid (w7ab.cell? ⟨w.heap.size + 1 + 1 + 1, 4, none⟩ = some (.int .i64 0)) := H10l.out.cell 4
              have Rl5 : Hid (w7ab.cell? ⟨w.heap.size + 1 + 1 + 1, 5, none⟩ = some (.int .i64 0)) := H10l.out.cell 5
              have Rl6 : Hid (w7ab.cell? ⟨w.heap.size + 1 + 1 + 1, 6, none⟩ = some (.int .i64 0)) := H10l.out.cell 6
              go_wp2_with fail
              exact bodyPost_ret (v := .tuple #[.agg #[.int .i64 0, .int .i64 0, .int .i64 0, .int .i64 0, .int .i64 0, .int .i64 0, .slice none 0 0], .agg #[.int .i64 0, .int .i64 0, .int .i64 0, .int .i64 0, .int .i64 0, .int .i64 0, .int .i64 0], .int .i64 19]) (by simp [results, Try.results56, Rr0.out, Rr1.out, Rr2.out, Rr3.out, Rr4.out, Rr5.out, Rr6.out, Rl0.out, Rl1.out, Rl2.out, Rl3.out, Rl4.out, Rl5.out, Rl6.out, go_sem]) rfl ⟨ac0, bi0, none, 0, 0, _, rfl, HV.out, deb.fresh_nil _ _, H10B.out⟩
            · have d7 : (u == 0) = false := by simpa using h7
              have HTE : Hid (TenOk x t te m) := ⟨h5, by rw [← HRS.out]; omega, fun hh => h7 (HONE.out 0 hh).symm⟩
              by_cases h8 : x.nx ≤ 1048575
              · have d8 : decide (1048575 < x.nx) = false := decide_eq_false (by omega)
                clear h7
                have qd2 : w7.cell? ⟨w.heap.size, 2, none⟩ = some (.int .i64 x.nx) := H8d.out.cell 2
                go_wp2_with (first
                  | (refine wp_letS rfl 53 _ _ rfl (w3.heap.size) 6 rfl pz lz cz rfl (by kernel_rfl) #[.int .i64 b.me, .int .i64 b.rv, .int .i64 b.nx, .int .i64 b.mo, .int .i64 b.bo, .int .i64 b.fr, .slice pr lr cr] 55 H8n.out (by simp) ?_)
                  | (refine wp_whole rfl 55 _ rfl (w.heap.size) rfl 55 #[.int .i64 x.me, .int .i64 x.rv, .int .i64 x.nx, .int .i64 x.mo, .int .i64 x.bo, .int .i64 x.fr, .slice p len cap] _ H8d.out Try.underlying55 rfl (by kernel_rfl) ?_)
                  | (refine wp_whole rfl 40 _ rfl (w.heap.size + 1) rfl 40 #[.slice pt lt ct, .int .i64 t.ff, .int .i64 t.fb, .int .i64 t.db, .int .i64 t.al] _ H8t.out Try.underlying40 rfl (by kernel_rfl) ?_)
                  | (refine wp_whole rfl 55 _ rfl (w.heap.size + 1 + 1) rfl 55 #[.int .i64 0, .int .i64 0, .int .i64 0, .int .i64 0, .int .i64 0, .int .i64 0, .slice none 0 0] _ H8r.out Try.underlying55 rfl (by kernel_rfl) ?_)
                  | (refine wp_whole rfl 23 _ rfl (w.heap.size + 1 + 1 + 1) rfl 23 #[.int .i64 0, .int .i64 0, .int .i64 0, .int .i64 0, .int .i64 0, .int .i64 0, .int .i64 0] _ H8l.out Try.underlying23 rfl (by kernel_rfl) ?_)
                  | (refine wp_whole rfl 55 _ rfl (w3.heap.size) rfl 55 #[.int .i64 b.me, .int .i64 b.rv, .int .i64 b.nx, .int .i64 b.mo, .int .i64 b.bo, .int .i64 b.fr, .slice pr lr cr] _ H8n.out Try.underlying55 rfl (by kernel_rfl) ?_)
                  | fail)
                intro W8 hU
                have H9d : Hid (Blk W8 (w.heap.size) #[.int .i64 x.me, .int .i64 x.rv, .int .i64 x.nx, .int .i64 x.mo, .int .i64 x.bo, .int .i64 x.fr, .slice p len cap] 55) := hU.keep H8d.out (by omega)
                have H9t : Hid (Blk W8 (w.heap.size + 1) #[.slice pt lt ct, .int .i64 t.ff, .int .i64 t.fb, .int .i64 t.db, .int .i64 t.al] 40) := hU.keep H8t.out (by omega)
                have H9r : Hid (Blk W8 (w.heap.size + 1 + 1) #[.int .i64 0, .int .i64 0, .int .i64 0, .int .i64 0, .int .i64 0, .int .i64 0, .slice none 0 0] 55) := hU.keep H8r.out (by omega)
                have H9l : Hid (Blk W8 (w.heap.size + 1 + 1 + 1) #[.int .i64 0, .int .i64 0, .int .i64 0, .int .i64 0, .int .i64 0, .int .i64 0, .int .i64 0] 23) := hU.keep H8l.out (by omega)
                have H9n : Hid (Blk W8 (w3.heap.size) #[.int .i64 b.me, .int .i64 b.rv, .int .i64 b.nx, .int .i64 b.mo, .int .i64 b.bo, .int .i64 b.fr, .slice pz lz cz] 55) := hU.blk
                have H9Z : Hid (deb.Fresh W8 W4.heap.size pz lz cz z) := fresh_updN H8Z.out hU (fun hn y hy => by have f1 := H8Z.out.new hn y hy; have f2 := HUPZ.out hn y hy; omega)
                have H9B : Hid (Below w.heap.size w W8) := hU.bel _ _ (by omega) H8B.out
                have hsW8 : W8.heap.size = w7.heap.size := hU.size
                clear hU H8d H8t H8r H8l H8n H8Z H8B
                clear qd2
                have qn4 : W8.cell? ⟨w3.heap.size, 4, none⟩ = some (.int .i64 b.bo) := H9n.out.cell 4
                go_wp2_with (first
                  | (refine wp_let1 rfl 3 _ _ rfl (w3.heap.size) 4 rfl .i64 (b.bo + u) rfl (by kernel_rfl) #[.int .i64 b.me, .int .i64 b.rv, .int .i64 b.nx, .int .i64 b.mo, .int .i64 b.bo, .int .i64 b.fr, .slice pz lz cz] 55 H9n.out (by simp) ?_)
                  | (refine wp_whole rfl 55 _ rfl (w.heap.size) rfl 55 #[.int .i64 x.me, .int .i64 x.rv, .int .i64 x.nx, .int .i64 x.mo, .int .i64 x.bo, .int .i64 x.fr, .slice p len cap] _ H9d.out Try.underlying55 rfl (by kernel_rfl) ?_)
                  | (refine wp_whole rfl 40 _ rfl (w.heap.size + 1) rfl 40 #[.slice pt lt ct, .int .i64 t.ff, .int .i64 t.fb, .int .i64 t.db, .int .i64 t.al] _ H9t.out Try.underlying40 rfl (by kernel_rfl) ?_)
                  | (refine wp_whole rfl 55 _ rfl (w.heap.size + 1 + 1) rfl 55 #[.int .i64 0, .int .i64 0, .int .i64 0, .int .i64 0, .int .i64 0, .int .i64 0, .slice none 0 0] _ H9r.out Try.underlying55 rfl (by kernel_rfl) ?_)
                  | (refine wp_whole rfl 23 _ rfl (w.heap.size + 1 + 1 + 1) rfl 23 #[.int .i64 0, .int .i64 0, .int .i64 0, .int .i64 0, .int .i64 0, .int .i64 0, .int .i64 0] _ H9l.out Try.underlying23 rfl (by kernel_rfl) ?_)
                  | (refine wp_whole rfl 55 _ rfl (w3.heap.size) rfl 55 #[.int .i64 b.me, .int .i64 b.rv, .int .i64 b.nx, .int .i64 b.mo, .int .i64 b.bo, .int .i64 b.fr, .slice pz lz cz] _ H9n.out Try.underlying55 rfl (by kernel_rfl) ?_)
                  | fail)
                intro W9 hU
                have H10d : Hid (Blk W9 (w.heap.size) #[.int .i64 x.me, .int .i64 x.rv, .int .i64 x.nx, .int .i64 x.mo, .int .i64 x.bo, .int .i64 x.fr, .slice p len cap] 55) := hU.keep H9d.out (by omega)
                have H10t : Hid (Blk W9 (w.heap.size + 1) #[.slice pt lt ct, .int .i64 t.ff, .int .i64 t.fb, .int .i64 t.db, .int .i64 t.al] 40) := hU.keep H9t.out (by omega)
                have H10r : Hid (Blk W9 (w.heap.size + 1 + 1) #[.int .i64 0, .int .i64 0, .int .i64 0, .int .i64 0, .int .i64 0, .int .i64 0, .slice none 0 0] 55) := hU.keep H9r.out (by omega)
                have H10l : Hid (Blk W9 (w.heap.size + 1 + 1 + 1) #[.int .i64 0, .int .i64 0, .int .i64 0, .int .i64 0, .int .i64 0, .int .i64 0, .int .i64 0] 23) := hU.keep H9l.out (by omega)
                have H10n : Hid (Blk W9 (w3.heap.size) #[.int .i64 b.me, .int .i64 b.rv, .int .i64 b.nx, .int .i64 b.mo, .int .i64 (b.bo + u), .int .i64 b.fr, .slice pz lz cz] 55) := hU.blk
                have H10Z : Hid (deb.Fresh W9 W4.heap.size pz lz cz z) := fresh_updN H9Z.out hU (fun hn y hy => by have f1 := H9Z.out.new hn y hy; have f2 := HUPZ.out hn y hy; omega)
                have H10B : Hid (Below w.heap.size w W9) := hU.bel _ _ (by omega) H9B.out
                have hsW9 : W9.heap.size = W8.heap.size := hU.size
                clear hU H9d H9t H9r H9l H9n H9Z H9B
                clear qn4
                have qd2 : W9.cell? ⟨w.heap.size, 2, none⟩ = some (.int .i64 x.nx) := H10d.out.cell 2
                go_wp2_with (first
                  | (refine wp_let1 rfl 3 _ _ rfl (w3.heap.size) 2 rfl .i64 (x.nx + 1) rfl (by kernel_rfl) #[.int .i64 b.me, .int .i64 b.rv, .int .i64 b.nx, .int .i64 b.mo, .int .i64 (b.bo + u), .int .i64 b.fr, .slice pz lz cz] 55 H10n.out (by simp) ?_)
                  | (refine wp_whole rfl 55 _ rfl (w.heap.size) rfl 55 #[.int .i64 x.me, .int .i64 x.rv, .int .i64 x.nx, .int .i64 x.mo, .int .i64 x.bo, .int .i64 x.fr, .slice p len cap] _ H10d.out Try.underlying55 rfl (by kernel_rfl) ?_)
                  | (refine wp_whole rfl 40 _ rfl (w.heap.size + 1) rfl 40 #[.slice pt lt ct, .int .i64 t.ff, .int .i64 t.fb, .int .i64 t.db, .int .i64 t.al] _ H10t.out Try.underlying40 rfl (by kernel_rfl) ?_)
                  | (refine wp_whole rfl 55 _ rfl (w.heap.size + 1 + 1) rfl 55 #[.int .i64 0, .int .i64 0, .int .i64 0, .int .i64 0, .int .i64 0, .int .i64 0, .slice none 0 0] _ H10r.out Try.underlying55 rfl (by kernel_rfl) ?_)
                  | (refine wp_whole rfl 23 _ rfl (w.heap.size + 1 + 1 + 1) rfl 23 #[.int .i64 0, .int .i64 0, .int .i64 0, .int .i64 0, .int .i64 0, .int .i64 0, .int .i64 0] _ H10l.out Try.underlying23 rfl (by kernel_rfl) ?_)
                  | (refine wp_whole rfl 55 _ rfl (w3.heap.size) rfl 55 #[.int .i64 b.me, .int .i64 b.rv, .int .i64 b.nx, .int .i64 b.mo, .int .i64 (b.bo + u), .int .i64 b.fr, .slice pz lz cz] _ H10n.out Try.underlying55 rfl (by kernel_rfl) ?_)
                  | fail)
                intro WA hU
                have H11d : Hid (Blk WA (w.heap.size) #[.int .i64 x.me, .int .i64 x.rv, .int .i64 x.nx, .int .i64 x.mo, .int .i64 x.bo, .int .i64 x.fr, .slice p len cap] 55) := hU.keep H10d.out (by omega)
                have H11t : Hid (Blk WA (w.heap.size + 1) #[.slice pt lt ct, .int .i64 t.ff, .int .i64 t.fb, .int .i64 t.db, .int .i64 t.al] 40) := hU.keep H10t.out (by omega)
                have H11r : Hid (Blk WA (w.heap.size + 1 + 1) #[.int .i64 0, .int .i64 0, .int .i64 0, .int .i64 0, .int .i64 0, .int .i64 0, .slice none 0 0] 55) := hU.keep H10r.out (by omega)
                have H11l : Hid (Blk WA (w.heap.size + 1 + 1 + 1) #[.int .i64 0, .int .i64 0, .int .i64 0, .int .i64 0, .int .i64 0, .int .i64 0, .int .i64 0] 23) := hU.keep H10l.out (by omega)
                have H11n : Hid (Blk WA (w3.heap.size) #[.int .i64 b.me, .int .i64 b.rv, .int .i64 (x.nx + 1), .int .i64 b.mo, .int .i64 (b.bo + u), .int .i64 b.fr, .slice pz lz cz] 55) := hU.blk
                have H11Z : Hid (deb.Fresh WA W4.heap.size pz lz cz z) := fresh_updN H10Z.out hU (fun hn y hy => by have f1 := H10Z.out.new hn y hy; have f2 := HUPZ.out hn y hy; omega)
                have H11B : Hid (Below w.heap.size w WA) := hU.bel _ _ (by omega) H10B.out
                have hsWA : WA.heap.size = W9.heap.size := hU.size
                clear hU H10d H10t H10r H10l H10n H10Z H10B
                clear qd2
                have hwd : IntKind.i64.wrap (te - pd - (t.ff + pq) - pc) = te - pd - (t.ff + pq) - pc := by rw [IntKind.wrap_i64]; omega
                go_upto_region 25 with fail
                refine wp_region_held_drew (S := fun v => Blk v (w3.heap.size) #[.int .i64 b.me, .int .i64 b.rv, .int .i64 (x.nx + 1), .int .i64 b.mo, .int .i64 (b.bo + u), .int .i64 b.fr, .slice pz lz cz] 55 ∧ Blk v (w.heap.size) #[.int .i64 x.me, .int .i64 x.rv, .int .i64 x.nx, .int .i64 x.mo, .int .i64 x.bo, .int .i64 x.fr, .slice p len cap] 55) (by kernel_rfl) ⟨Blk.drew H11n.out 1, Blk.drew H11d.out 1⟩ (fun hHeld => ?_)
                refine take_at 0 111 (.agg #[.int .i64 b.me, .int .i64 b.rv, .int .i64 (x.nx + 1), .int .i64 b.mo, .int .i64 (b.bo + u), .int .i64 b.fr, .slice pz lz cz]) _ rfl rfl (by kernel_rfl) (by kernel_rfl) (by kernel_rfl) (fun _ _ _ h => h) (Or.inl ⟨by rfl, fun v hv => by have g0 := hv.1.cell 0; have g1 := hv.1.cell 1; have g2 := hv.1.cell 2; have g3 := hv.1.cell 3; have g4 := hv.1.cell 4; have g5 := hv.1.cell 5; have g6 := hv.1.cell 6; clear hv; go_simp⟩) hHeld ?_
                simp only [Act.put, List.setIfInBounds_toArray, List.set_cons_zero, List.set_cons_succ]
                refine take_at 1 112 (.pointer (some ⟨w.heap.size, 2, none⟩)) _ rfl rfl (by kernel_rfl) (by kernel_rfl) (by kernel_rfl) (fun _ _ _ h => h) (Or.inl ⟨by rfl, fun v hv => by skip; clear hv; go_simp⟩) hHeld ?_
                simp only [Act.put, List.setIfInBounds_toArray, List.set_cons_zero, List.set_cons_succ]
                refine take_at 2 113 (.int .i64 x.nx) _ rfl rfl (by kernel_rfl) (by kernel_rfl) (by kernel_rfl) (fun _ _ _ h => h) (Or.inl ⟨by rfl, fun v hv => by have g := hv.2.cell 2; clear hv; go_simp⟩) hHeld ?_
                simp only [Act.put, List.setIfInBounds_toArray, List.set_cons_zero, List.set_cons_succ]
                refine take_at 3 114 (.int .i64 te) _ rfl rfl (by kernel_rfl) (by kernel_rfl) (by kernel_rfl) (fun _ _ _ h => h) (Or.inl ⟨by rfl, fun v hv => by skip; clear hv; go_simp⟩) hHeld ?_
                simp only [Act.put, List.setIfInBounds_toArray, List.set_cons_zero, List.set_cons_succ]
                refine take_at 4 115 (.int .i64 pd) _ rfl rfl (by kernel_rfl) (by kernel_rfl) (by kernel_rfl) (fun _ _ _ h => h) (Or.inl ⟨by rfl, fun v hv => by skip; clear hv; go_simp⟩) hHeld ?_
                simp only [Act.put, List.setIfInBounds_toArray, List.set_cons_zero, List.set_cons_succ]
                refine take_at 5 116 (.int .i64 (t.ff + pq)) _ rfl rfl (by kernel_rfl) (by kernel_rfl) (by kernel_rfl) (fun _ _ _ h => h) (Or.inl ⟨by rfl, fun v hv => by skip; clear hv; go_simp⟩) hHeld ?_
                simp only [Act.put, List.setIfInBounds_toArray, List.set_cons_zero, List.set_cons_succ]
                refine take_at 6 117 (.int .i64 pc) _ rfl rfl (by kernel_rfl) (by kernel_rfl) (by kernel_rfl) (fun _ _ _ h => h) (Or.inl ⟨by rfl, fun v hv => by skip; clear hv; go_simp⟩) hHeld ?_
                simp only [Act.put, List.setIfInBounds_toArray, List.set_cons_zero, List.set_cons_succ]
                refine take_at 7 118 (.int .i64 (te - pd - (t.ff + pq))) _ rfl rfl (by kernel_rfl) (by kernel_rfl) (by kernel_rfl) (fun _ _ _ h => h) (Or.inl ⟨by rfl, fun v hv => by skip; clear hv; go_simp⟩) hHeld ?_
                simp only [Act.put, List.setIfInBounds_toArray, List.set_cons_zero, List.set_cons_succ]
                refine take_at 8 119 (.int .i64 pc) _ rfl rfl (by kernel_rfl) (by kernel_rfl) (by kernel_rfl) (fun _ _ _ h => h) (Or.inl ⟨by rfl, fun v hv => by skip; clear hv; go_simp⟩) hHeld ?_
                simp only [Act.put, List.setIfInBounds_toArray, List.set_cons_zero, List.set_cons_succ]
                refine take_at 9 120 (.int .i64 ((te - pd - (t.ff + pq)) - pc)) _ rfl rfl (by kernel_rfl) (by kernel_rfl) (by kernel_rfl) (fun _ _ _ h => h) (Or.inl ⟨by rfl, fun v hv => by skip; clear hv; go_simp⟩) hHeld ?_
                simp only [Act.put, List.setIfInBounds_toArray, List.set_cons_zero, List.set_cons_succ]
                refine take_at 10 121 (.int .i64 u) _ rfl rfl (by kernel_rfl) (by kernel_rfl) (by kernel_rfl) (fun _ _ _ h => h) (Or.inl ⟨by rfl, fun v hv => by skip; clear hv; go_simp⟩) hHeld ?_
                simp only [Act.put, List.setIfInBounds_toArray, List.set_cons_zero, List.set_cons_succ]
                refine take_at 11 122 (.agg #[.int .i64 x.nx, .int .i64 te, .int .i64 pd, .int .i64 (t.ff + pq), .int .i64 pc, .int .i64 ((te - pd - (t.ff + pq)) - pc), .int .i64 u]) _ rfl rfl (by kernel_rfl) (by kernel_rfl) (by kernel_rfl) (fun _ _ _ h => h) (Or.inl ⟨by rfl, fun v hv => by skip; clear hv; go_simp⟩) hHeld ?_
                simp only [Act.put, List.setIfInBounds_toArray, List.set_cons_zero, List.set_cons_succ]
                refine wpAnyH_ready (rs := [12]) (by kernel_rfl) (by simp) (AllReadyH.cons rfl (fun K hK => ?_) AllReadyH.nil)
                rw [if_pos (by rfl)]
                refine wp_letOp 55 _ _ rfl (w.heap.size + 1 + 1) rfl #[.int .i64 b.me, .int .i64 b.rv, .int .i64 (x.nx + 1), .int .i64 b.mo, .int .i64 (b.bo + u), .int .i64 b.fr, .slice pz lz cz] rfl (by kernel_rfl) (by simp [Value.oneCell']) #[.int .i64 0, .int .i64 0, .int .i64 0, .int .i64 0, .int .i64 0, .int .i64 0, .slice none 0 0] 55 (Blk.drew H11r.out 1) rfl rfl ?_
                intro V1 hU
                have H12d : Hid (Blk V1 (w.heap.size) #[.int .i64 x.me, .int .i64 x.rv, .int .i64 x.nx, .int .i64 x.mo, .int .i64 x.bo, .int .i64 x.fr, .slice p len cap] 55) := hU.keep (Blk.drew H11d.out 1) (by omega)
                have H12t : Hid (Blk V1 (w.heap.size + 1) #[.slice pt lt ct, .int .i64 t.ff, .int .i64 t.fb, .int .i64 t.db, .int .i64 t.al] 40) := hU.keep (Blk.drew H11t.out 1) (by omega)
                have H12r : Hid (Blk V1 (w.heap.size + 1 + 1) #[.int .i64 b.me, .int .i64 b.rv, .int .i64 (x.nx + 1), .int .i64 b.mo, .int .i64 (b.bo + u), .int .i64 b.fr, .slice pz lz cz] 55) := hU.blk
                have H12l : Hid (Blk V1 (w.heap.size + 1 + 1 + 1) #[.int .i64 0, .int .i64 0, .int .i64 0, .int .i64 0, .int .i64 0, .int .i64 0, .int .i64 0] 23) := hU.keep (Blk.drew H11l.out 1) (by omega)
                have H12n : Hid (Blk V1 (w3.heap.size) #[.int .i64 b.me, .int .i64 b.rv, .int .i64 (x.nx + 1), .int .i64 b.mo, .int .i64 (b.bo + u), .int .i64 b.fr, .slice pz lz cz] 55) := hU.keep (Blk.drew H11n.out 1) (by omega)
                have H12Z : Hid (deb.Fresh V1 W4.heap.size pz lz cz z) := fresh_updN (fresh_drew H11Z.out) hU (fun hn y hy => by have f1 := H11Z.out.new hn y hy; have f2 := HUPZ.out hn y hy; omega)
                have H12B : Hid (Below w.heap.size w V1) := hU.bel _ _ (by omega) H11B.out.drew
                clear hU H11d H11t H11r H11l H11n H11Z H11B
                refine hK.out _ _ ⟨H12n.out, H12d.out⟩ (fun hHeld => ?_)
                clear hK K
                refine wpAnyH_ready (rs := [13]) (by kernel_rfl) (by simp) (AllReadyH.cons rfl (fun K hK => ?_) AllReadyH.nil)
                rw [if_pos (by rfl)]
                refine wp_letOp 23 _ _ rfl (w.heap.size + 1 + 1 + 1) rfl #[.int .i64 x.nx, .int .i64 te, .int .i64 pd, .int .i64 (t.ff + pq), .int .i64 pc, .int .i64 ((te - pd - (t.ff + pq)) - pc), .int .i64 u] rfl (by kernel_rfl) (by simp [Value.oneCell']) #[.int .i64 0, .int .i64 0, .int .i64 0, .int .i64 0, .int .i64 0, .int .i64 0, .int .i64 0] 23 H12l.out rfl rfl ?_
                intro V2 hU
                have H13d : Hid (Blk V2 (w.heap.size) #[.int .i64 x.me, .int .i64 x.rv, .int .i64 x.nx, .int .i64 x.mo, .int .i64 x.bo, .int .i64 x.fr, .slice p len cap] 55) := hU.keep H12d.out (by omega)
                have H13t : Hid (Blk V2 (w.heap.size + 1) #[.slice pt lt ct, .int .i64 t.ff, .int .i64 t.fb, .int .i64 t.db, .int .i64 t.al] 40) := hU.keep H12t.out (by omega)
                have H13r : Hid (Blk V2 (w.heap.size + 1 + 1) #[.int .i64 b.me, .int .i64 b.rv, .int .i64 (x.nx + 1), .int .i64 b.mo, .int .i64 (b.bo + u), .int .i64 b.fr, .slice pz lz cz] 55) := hU.keep H12r.out (by omega)
                have H13l : Hid (Blk V2 (w.heap.size + 1 + 1 + 1) #[.int .i64 x.nx, .int .i64 te, .int .i64 pd, .int .i64 (t.ff + pq), .int .i64 pc, .int .i64 ((te - pd - (t.ff + pq)) - pc), .int .i64 u] 23) := hU.blk
                have H13n : Hid (Blk V2 (w3.heap.size) #[.int .i64 b.me, .int .i64 b.rv, .int .i64 (x.nx + 1), .int .i64 b.mo, .int .i64 (b.bo + u), .int .i64 b.fr, .slice pz lz cz] 55) := hU.keep H12n.out (by omega)
                have H13Z : Hid (deb.Fresh V2 W4.heap.size pz lz cz z) := fresh_updN H12Z.out hU (fun hn y hy => by have f1 := H12Z.out.new hn y hy; have f2 := HUPZ.out hn y hy; omega)
                have H13B : Hid (Below w.heap.size w V2) := hU.bel _ _ (by omega) H12B.out
                clear hU H12d H12t H12r H12l H12n H12Z H12B
                refine hK.out _ _ ⟨H13n.out, H13d.out⟩ (fun hHeld => ?_)
                clear hK K
                refine take_at 14 10 (.int .i64 0) _ rfl rfl (by kernel_rfl) (by kernel_rfl) (by kernel_rfl) (fun _ _ _ h => h) (Or.inl ⟨by rfl, fun v hv => by skip; clear hv; go_simp⟩) hHeld ?_
                simp only [Act.put, List.setIfInBounds_toArray, List.set_cons_zero, List.set_cons_succ]
                refine wpAnyH_done (by kernel_rfl) ?_ _
                clear hHeld
                have HSV : Hid (⟨b.me, b.rv, x.nx + 1, b.mo, b.bo + u, b.fr, z⟩ = sold x t te m u) := by
                  show _ = _
                  unfold sold
                  rw [HZV.out, ← HBR.out, HBS.out.1, HBS.out.2.1, HBS.out.2.2.2.1, HBS.out.2.2.2.2]
                have HBV : Hid (⟨x.nx, te, pd, (t.ff + pq), pc, (te - pd - (t.ff + pq)) - pc, u⟩ = bill x t te m u) := by
                  show _ = _
                  unfold bill
                  rw [← HPC.out, ← HRS.out, ← HPD.out, ← HFE.out]
                have Rr0 : Hid (V2.cell? ⟨w.heap.size + 1 + 1, 0, none⟩ = some (.int .i64 b.me)) := H13r.out.cell 0
                have Rr1 : Hid (V2.cell? ⟨w.heap.size + 1 + 1, 1, none⟩ = some (.int .i64 b.rv)) := H13r.out.cell 1
                have Rr2 : Hid (V2.cell? ⟨w.heap.size + 1 + 1, 2, none⟩ = some (.int .i64 (x.nx + 1))) := H13r.out.cell 2
                have Rr3 : Hid (V2.cell? ⟨w.heap.size + 1 + 1, 3, none⟩ = some (.int .i64 b.mo)) := H13r.out.cell 3
                have Rr4 : Hid (V2.cell? ⟨w.heap.size + 1 + 1, 4, none⟩ = some (.int .i64 (b.bo + u))) := H13r.out.cell 4
                have Rr5 : Hid (V2.cell? ⟨w.heap.size + 1 + 1, 5, none⟩ = some (.int .i64 b.fr)) := H13r.out.cell 5
                have Rr6 : Hid (V2.cell? ⟨w.heap.size + 1 + 1, 6, none⟩ = some (.slice pz lz cz)) := H13r.out.cell 6
                have Rl0 : Hid (V2.cell? ⟨w.heap.size + 1 + 1 + 1, 0, none⟩ = some (.int .i64 x.nx)) := H13l.out.cell 0
                have Rl1 : Hid (V2.cell? ⟨w.heap.size + 1 + 1 + 1, 1, none⟩ = some (.int .i64 te)) := H13l.out.cell 1
                have Rl2 : Hid (V2.cell? ⟨w.heap.size + 1 + 1 + 1, 2, none⟩ = some (.int .i64 pd)) := H13l.out.cell 2
                have Rl3 : Hid (V2.cell? ⟨w.heap.size + 1 + 1 + 1, 3, none⟩ = some (.int .i64 (t.ff + pq))) := H13l.out.cell 3
                have Rl4 : Hid (V2.cell? ⟨w.heap.size + 1 + 1 + 1, 4, none⟩ = some (.int .i64 pc)) := H13l.out.cell 4
                have Rl5 : Hid (V2.cell? ⟨w.heap.size + 1 + 1 + 1, 5, none⟩ = some (.int .i64 ((te - pd - (t.ff + pq)) - pc))) := H13l.out.cell 5
                have Rl6 : Hid (V2.cell? ⟨w.heap.size + 1 + 1 + 1, 6, none⟩ = some (.int .i64 u)) := H13l.out.cell 6
                go_wp2_with fail
                exact bodyPost_ret (v := .tuple #[.agg #[.int .i64 b.me, .int .i64 b.rv, .int .i64 (x.nx + 1), .int .i64 b.mo, .int .i64 (b.bo + u), .int .i64 b.fr, .slice pz lz cz], .agg #[.int .i64 x.nx, .int .i64 te, .int .i64 pd, .int .i64 (t.ff + pq), .int .i64 pc, .int .i64 ((te - pd - (t.ff + pq)) - pc), .int .i64 u], .int .i64 0]) (by simp [results, Try.results56, Rr0.out, Rr1.out, Rr2.out, Rr3.out, Rr4.out, Rr5.out, Rr6.out, Rl0.out, Rl1.out, Rl2.out, Rl3.out, Rl4.out, Rl5.out, Rl6.out, go_sem]) rfl ⟨⟨b.me, b.rv, x.nx + 1, b.mo, b.bo + u, b.fr, z⟩, ⟨x.nx, te, pd, (t.ff + pq), pc, (te - pd - (t.ff + pq)) - pc, u⟩, pz, lz, cz, _, rfl, .inr (.inr (.inr ⟨HRY.out, HTE.out, h8, rfl, u, HMO.out, HSV.out, HBV.out⟩)), H13Z.out.low (by omega), H13B.out⟩
              · have d8 : decide (1048575 < x.nx) = true := decide_eq_true (by omega)
                have HV : Hid (SellIs x t te m ac0 bi0 20) := .inr (.inr (.inl ⟨HRY.out, HTE.out, h8, rfl, rfl, rfl⟩))
                clear h7 h8
                have qd2 : w7.cell? ⟨w.heap.size, 2, none⟩ = some (.int .i64 x.nx) := H8d.out.cell 2
                go_wp2_with (first
                  | (refine wp_letAll rfl 55 _ _ rfl (w.heap.size + 1 + 1) rfl #[.int .i64 0, .int .i64 0, .int .i64 0, .int .i64 0, .int .i64 0, .int .i64 0, .slice none 0 0] rfl (by kernel_rfl) (by simp [Value.oneCell']) #[.int .i64 0, .int .i64 0, .int .i64 0, .int .i64 0, .int .i64 0, .int .i64 0, .slice none 0 0] 55 H8r.out rfl ?_)
                  | (refine wp_whole rfl 55 _ rfl (w.heap.size) rfl 55 #[.int .i64 x.me, .int .i64 x.rv, .int .i64 x.nx, .int .i64 x.mo, .int .i64 x.bo, .int .i64 x.fr, .slice p len cap] _ H8d.out Try.underlying55 rfl (by kernel_rfl) ?_)
                  | (refine wp_whole rfl 40 _ rfl (w.heap.size + 1) rfl 40 #[.slice pt lt ct, .int .i64 t.ff, .int .i64 t.fb, .int .i64 t.db, .int .i64 t.al] _ H8t.out Try.underlying40 rfl (by kernel_rfl) ?_)
                  | (refine wp_whole rfl 55 _ rfl (w.heap.size + 1 + 1) rfl 55 #[.int .i64 0, .int .i64 0, .int .i64 0, .int .i64 0, .int .i64 0, .int .i64 0, .slice none 0 0] _ H8r.out Try.underlying55 rfl (by kernel_rfl) ?_)
                  | (refine wp_whole rfl 23 _ rfl (w.heap.size + 1 + 1 + 1) rfl 23 #[.int .i64 0, .int .i64 0, .int .i64 0, .int .i64 0, .int .i64 0, .int .i64 0, .int .i64 0] _ H8l.out Try.underlying23 rfl (by kernel_rfl) ?_)
                  | (refine wp_whole rfl 55 _ rfl (w3.heap.size) rfl 55 #[.int .i64 b.me, .int .i64 b.rv, .int .i64 b.nx, .int .i64 b.mo, .int .i64 b.bo, .int .i64 b.fr, .slice pr lr cr] _ H8n.out Try.underlying55 rfl (by kernel_rfl) ?_)
                  | fail)
                intro w7a hU
                have H9d : Hid (Blk w7a (w.heap.size) #[.int .i64 x.me, .int .i64 x.rv, .int .i64 x.nx, .int .i64 x.mo, .int .i64 x.bo, .int .i64 x.fr, .slice p len cap] 55) := hU.keep H8d.out (by omega)
                have H9t : Hid (Blk w7a (w.heap.size + 1) #[.slice pt lt ct, .int .i64 t.ff, .int .i64 t.fb, .int .i64 t.db, .int .i64 t.al] 40) := hU.keep H8t.out (by omega)
                have H9r : Hid (Blk w7a (w.heap.size + 1 + 1) #[.int .i64 0, .int .i64 0, .int .i64 0, .int .i64 0, .int .i64 0, .int .i64 0, .slice none 0 0] 55) := hU.blk
                have H9l : Hid (Blk w7a (w.heap.size + 1 + 1 + 1) #[.int .i64 0, .int .i64 0, .int .i64 0, .int .i64 0, .int .i64 0, .int .i64 0, .int .i64 0] 23) := hU.keep H8l.out (by omega)
                have H9n : Hid (Blk w7a (w3.heap.size) #[.int .i64 b.me, .int .i64 b.rv, .int .i64 b.nx, .int .i64 b.mo, .int .i64 b.bo, .int .i64 b.fr, .slice pr lr cr] 55) := hU.keep H8n.out (by omega)
                have H9Z : Hid (deb.Fresh w7a W4.heap.size pz lz cz z) := fresh_updN H8Z.out hU (fun hn y hy => by have f1 := H8Z.out.new hn y hy; have f2 := HUPZ.out hn y hy; omega)
                have H9B : Hid (Below w.heap.size w w7a) := hU.bel _ _ (by omega) H8B.out
                have hsw7a : w7a.heap.size = w7.heap.size := hU.size
                clear hU H8d H8t H8r H8l H8n H8T H8Z H8B
                go_wp2_with (first
                  | (refine wp_letAll rfl 23 _ _ rfl (w.heap.size + 1 + 1 + 1) rfl #[.int .i64 0, .int .i64 0, .int .i64 0, .int .i64 0, .int .i64 0, .int .i64 0, .int .i64 0] rfl (by kernel_rfl) (by simp [Value.oneCell']) #[.int .i64 0, .int .i64 0, .int .i64 0, .int .i64 0, .int .i64 0, .int .i64 0, .int .i64 0] 23 H9l.out rfl ?_)
                  | (refine wp_whole rfl 55 _ rfl (w.heap.size) rfl 55 #[.int .i64 x.me, .int .i64 x.rv, .int .i64 x.nx, .int .i64 x.mo, .int .i64 x.bo, .int .i64 x.fr, .slice p len cap] _ H9d.out Try.underlying55 rfl (by kernel_rfl) ?_)
                  | (refine wp_whole rfl 40 _ rfl (w.heap.size + 1) rfl 40 #[.slice pt lt ct, .int .i64 t.ff, .int .i64 t.fb, .int .i64 t.db, .int .i64 t.al] _ H9t.out Try.underlying40 rfl (by kernel_rfl) ?_)
                  | (refine wp_whole rfl 55 _ rfl (w.heap.size + 1 + 1) rfl 55 #[.int .i64 0, .int .i64 0, .int .i64 0, .int .i64 0, .int .i64 0, .int .i64 0, .slice none 0 0] _ H9r.out Try.underlying55 rfl (by kernel_rfl) ?_)
                  | (refine wp_whole rfl 23 _ rfl (w.heap.size + 1 + 1 + 1) rfl 23 #[.int .i64 0, .int .i64 0, .int .i64 0, .int .i64 0, .int .i64 0, .int .i64 0, .int .i64 0] _ H9l.out Try.underlying23 rfl (by kernel_rfl) ?_)
                  | (refine wp_whole rfl 55 _ rfl (w3.heap.size) rfl 55 #[.int .i64 b.me, .int .i64 b.rv, .int .i64 b.nx, .int .i64 b.mo, .int .i64 b.bo, .int .i64 b.fr, .slice pr lr cr] _ H9n.out Try.underlying55 rfl (by kernel_rfl) ?_)
                  | fail)
                intro w7ab hU
                have H10d : Hid (Blk w7ab (w.heap.size) #[.int .i64 x.me, .int .i64 x.rv, .int .i64 x.nx, .int .i64 x.mo, .int .i64 x.bo, .int .i64 x.fr, .slice p len cap] 55) := hU.keep H9d.out (by omega)
                have H10t : Hid (Blk w7ab (w.heap.size + 1) #[.slice pt lt ct, .int .i64 t.ff, .int .i64 t.fb, .int .i64 t.db, .int .i64 t.al] 40) := hU.keep H9t.out (by omega)
                have H10r : Hid (Blk w7ab (w.heap.size + 1 + 1) #[.int .i64 0, .int .i64 0, .int .i64 0, .int .i64 0, .int .i64 0, .int .i64 0, .slice none 0 0] 55) := hU.keep H9r.out (by omega)
                have H10l : Hid (Blk w7ab (w.heap.size + 1 + 1 + 1) #[.int .i64 0, .int .i64 0, .int .i64 0, .int .i64 0, .int .i64 0, .int .i64 0, .int .i64 0] 23) := hU.blk
                have H10n : Hid (Blk w7ab (w3.heap.size) #[.int .i64 b.me, .int .i64 b.rv, .int .i64 b.nx, .int .i64 b.mo, .int .i64 b.bo, .int .i64 b.fr, .slice pr lr cr] 55) := hU.keep H9n.out (by omega)
                have H10Z : Hid (deb.Fresh w7ab W4.heap.size pz lz cz z) := fresh_updN H9Z.out hU (fun hn y hy => by have f1 := H9Z.out.new hn y hy; have f2 := HUPZ.out hn y hy; omega)
                have H10B : Hid (Below w.heap.size w w7ab) := hU.bel _ _ (by omega) H9B.out
                have hsw7ab : w7ab.heap.size = w7a.heap.size := hU.size
                clear hU H9d H9t H9r H9l H9n H9Z H9B
                have Rr0 : Hid (w7ab.cell? ⟨w.heap.size + 1 + 1, 0, none⟩ = some (.int .i64 0)) := H10r.out.cell 0
                have Rr1 : Hid (w7ab.cell? ⟨w.heap.size + 1 + 1, 1, none⟩ = some (.int .i64 0)) := H10r.out.cell 1
                have Rr2 : Hid (w7ab.cell? ⟨w.heap.size + 1 + 1, 2, none⟩ = some (.int .i64 0)) := H10r.out.cell 2
                have Rr3 : Hid (w7ab.cell? ⟨w.heap.size + 1 + 1, 3, none⟩ = some (.int .i64 0)) := H10r.out.cell 3
                have Rr4 : Hid (w7ab.cell? ⟨w.heap.size + 1 + 1, 4, none⟩ = some (.int .i64 0)) := H10r.out.cell 4
                have Rr5 : Hid (w7ab.cell? ⟨w.heap.size + 1 + 1, 5, none⟩ = some (.int .i64 0)) := H10r.out.cell 5
                have Rr6 : Hid (w7ab.cell? ⟨w.heap.size + 1 + 1, 6, none⟩ = some (.slice none 0 0)) := H10r.out.cell 6
                have Rl0 : Hid (w7ab.cell? ⟨w.heap.size + 1 + 1 + 1, 0, none⟩ = some (.int .i64 0)) := H10l.out.cell 0
                have Rl1 : Hid (w7ab.cell? ⟨w.heap.size + 1 + 1 + 1, 1, none⟩ = some (.int .i64 0)) := H10l.out.cell 1
                have Rl2 : Hid (w7ab.cell? ⟨w.heap.size + 1 + 1 + 1, 2, none⟩ = some (.int .i64 0)) := H10l.out.cell 2
                have Rl3 : Hid (w7ab.cell? ⟨w.heap.size + 1 + 1 + 1, 3, none⟩ = some (.int .i64 0)) := H10l.out.cell 3
                have Rl4 : Hid (w7ab.cell? ⟨w.heap.size + 1 + 1 + 1, 4, none⟩ = some (.int .i64 0)) := H10l.out.cell 4
                have Rl5 : Hid (w7ab.cell? ⟨w.heap.size + 1 + 1 + 1, 5, none⟩ = some (.int .i64 0)) := H10l.out.cell 5
                have Rl6 : Hid (w7ab.cell? ⟨w.heap.size + 1 + 1 + 1, 6, none⟩ = some (.int .i64 0)) := H10l.out.cell 6
                go_wp2_with fail
                exact bodyPost_ret (v := .tuple #[.agg #[.int .i64 0, .int .i64 0, .int .i64 0, .int .i64 0, .int .i64 0, .int .i64 0, .slice none 0 0], .agg #[.int .i64 0, .int .i64 0, .int .i64 0, .int .i64 0, .int .i64 0, .int .i64 0, .int .i64 0], .int .i64 20]) (by simp [results, Try.results56, Rr0.out, Rr1.out, Rr2.out, Rr3.out, Rr4.out, Rr5.out, Rr6.out, Rl0.out, Rl1.out, Rl2.out, Rl3.out, Rl4.out, Rl5.out, Rl6.out, go_sem]) rfl ⟨ac0, bi0, none, 0, 0, _, rfl, HV.out, deb.fresh_nil _ _, H10B.out⟩
        · rw [decide_eq_false h5] at HIT
          have HV : Hid (SellIs x t te m ac0 bi0 19) := .inr (.inl ⟨HRY.out, fun hh => h5 hh.1, rfl, rfl, rfl⟩)
          clear h5
          go_wp2_with (first
            | fail)
          refine (HIT.out _).mono ?_
          rintro e wz ⟨rfl, hwz⟩
          obtain rfl : W4 = wz := hwz.symm
          go_wp2_with (first
            | (refine wp_letAll rfl 55 _ _ rfl (w.heap.size + 1 + 1) rfl #[.int .i64 0, .int .i64 0, .int .i64 0, .int .i64 0, .int .i64 0, .int .i64 0, .slice none 0 0] rfl (by kernel_rfl) (by simp [Value.oneCell']) #[.int .i64 0, .int .i64 0, .int .i64 0, .int .i64 0, .int .i64 0, .int .i64 0, .slice none 0 0] 55 H5r.out rfl ?_)
            | (refine wp_whole rfl 55 _ rfl (w.heap.size) rfl 55 #[.int .i64 x.me, .int .i64 x.rv, .int .i64 x.nx, .int .i64 x.mo, .int .i64 x.bo, .int .i64 x.fr, .slice p len cap] _ H5d.out Try.underlying55 rfl (by kernel_rfl) ?_)
            | (refine wp_whole rfl 40 _ rfl (w.heap.size + 1) rfl 40 #[.slice pt lt ct, .int .i64 t.ff, .int .i64 t.fb, .int .i64 t.db, .int .i64 t.al] _ H5t.out Try.underlying40 rfl (by kernel_rfl) ?_)
            | (refine wp_whole rfl 55 _ rfl (w.heap.size + 1 + 1) rfl 55 #[.int .i64 0, .int .i64 0, .int .i64 0, .int .i64 0, .int .i64 0, .int .i64 0, .slice none 0 0] _ H5r.out Try.underlying55 rfl (by kernel_rfl) ?_)
            | (refine wp_whole rfl 23 _ rfl (w.heap.size + 1 + 1 + 1) rfl 23 #[.int .i64 0, .int .i64 0, .int .i64 0, .int .i64 0, .int .i64 0, .int .i64 0, .int .i64 0] _ H5l.out Try.underlying23 rfl (by kernel_rfl) ?_)
            | (refine wp_whole rfl 55 _ rfl (w3.heap.size) rfl 55 #[.int .i64 b.me, .int .i64 b.rv, .int .i64 b.nx, .int .i64 b.mo, .int .i64 b.bo, .int .i64 b.fr, .slice pr lr cr] _ H5n.out Try.underlying55 rfl (by kernel_rfl) ?_)
            | fail)
          intro W4a hU
          have H6d : Hid (Blk W4a (w.heap.size) #[.int .i64 x.me, .int .i64 x.rv, .int .i64 x.nx, .int .i64 x.mo, .int .i64 x.bo, .int .i64 x.fr, .slice p len cap] 55) := hU.keep H5d.out (by omega)
          have H6t : Hid (Blk W4a (w.heap.size + 1) #[.slice pt lt ct, .int .i64 t.ff, .int .i64 t.fb, .int .i64 t.db, .int .i64 t.al] 40) := hU.keep H5t.out (by omega)
          have H6r : Hid (Blk W4a (w.heap.size + 1 + 1) #[.int .i64 0, .int .i64 0, .int .i64 0, .int .i64 0, .int .i64 0, .int .i64 0, .slice none 0 0] 55) := hU.blk
          have H6l : Hid (Blk W4a (w.heap.size + 1 + 1 + 1) #[.int .i64 0, .int .i64 0, .int .i64 0, .int .i64 0, .int .i64 0, .int .i64 0, .int .i64 0] 23) := hU.keep H5l.out (by omega)
          have H6n : Hid (Blk W4a (w3.heap.size) #[.int .i64 b.me, .int .i64 b.rv, .int .i64 b.nx, .int .i64 b.mo, .int .i64 b.bo, .int .i64 b.fr, .slice pr lr cr] 55) := hU.keep H5n.out (by omega)
          have H6F : Hid (deb.Fresh W4a w2.heap.size pr lr cr b.ds) := fresh_updN H5F.out hU (fun hn y hy => by have f1 := H5F.out.new hn y hy; have f2 := HUPF.out hn y hy; omega)
          have H6B : Hid (Below w.heap.size w W4a) := hU.bel _ _ (by omega) H5B.out
          have hsW4a : W4a.heap.size = W4.heap.size := hU.size
          clear hU H5d H5t H5r H5l H5n H5T H5F H5B
          go_wp2_with (first
            | (refine wp_letAll rfl 23 _ _ rfl (w.heap.size + 1 + 1 + 1) rfl #[.int .i64 0, .int .i64 0, .int .i64 0, .int .i64 0, .int .i64 0, .int .i64 0, .int .i64 0] rfl (by kernel_rfl) (by simp [Value.oneCell']) #[.int .i64 0, .int .i64 0, .int .i64 0, .int .i64 0, .int .i64 0, .int .i64 0, .int .i64 0] 23 H6l.out rfl ?_)
            | (refine wp_whole rfl 55 _ rfl (w.heap.size) rfl 55 #[.int .i64 x.me, .int .i64 x.rv, .int .i64 x.nx, .int .i64 x.mo, .int .i64 x.bo, .int .i64 x.fr, .slice p len cap] _ H6d.out Try.underlying55 rfl (by kernel_rfl) ?_)
            | (refine wp_whole rfl 40 _ rfl (w.heap.size + 1) rfl 40 #[.slice pt lt ct, .int .i64 t.ff, .int .i64 t.fb, .int .i64 t.db, .int .i64 t.al] _ H6t.out Try.underlying40 rfl (by kernel_rfl) ?_)
            | (refine wp_whole rfl 55 _ rfl (w.heap.size + 1 + 1) rfl 55 #[.int .i64 0, .int .i64 0, .int .i64 0, .int .i64 0, .int .i64 0, .int .i64 0, .slice none 0 0] _ H6r.out Try.underlying55 rfl (by kernel_rfl) ?_)
            | (refine wp_whole rfl 23 _ rfl (w.heap.size + 1 + 1 + 1) rfl 23 #[.int .i64 0, .int .i64 0, .int .i64 0, .int .i64 0, .int .i64 0, .int .i64 0, .int .i64 0] _ H6l.out Try.underlying23 rfl (by kernel_rfl) ?_)
            | (refine wp_whole rfl 55 _ rfl (w3.heap.size) rfl 55 #[.int .i64 b.me, .int .i64 b.rv, .int .i64 b.nx, .int .i64 b.mo, .int .i64 b.bo, .int .i64 b.fr, .slice pr lr cr] _ H6n.out Try.underlying55 rfl (by kernel_rfl) ?_)
            | fail)
          intro W4ab hU
          have H7d : Hid (Blk W4ab (w.heap.size) #[.int .i64 x.me, .int .i64 x.rv, .int .i64 x.nx, .int .i64 x.mo, .int .i64 x.bo, .int .i64 x.fr, .slice p len cap] 55) := hU.keep H6d.out (by omega)
          have H7t : Hid (Blk W4ab (w.heap.size + 1) #[.slice pt lt ct, .int .i64 t.ff, .int .i64 t.fb, .int .i64 t.db, .int .i64 t.al] 40) := hU.keep H6t.out (by omega)
          have H7r : Hid (Blk W4ab (w.heap.size + 1 + 1) #[.int .i64 0, .int .i64 0, .int .i64 0, .int .i64 0, .int .i64 0, .int .i64 0, .slice none 0 0] 55) := hU.keep H6r.out (by omega)
          have H7l : Hid (Blk W4ab (w.heap.size + 1 + 1 + 1) #[.int .i64 0, .int .i64 0, .int .i64 0, .int .i64 0, .int .i64 0, .int .i64 0, .int .i64 0] 23) := hU.blk
          have H7n : Hid (Blk W4ab (w3.heap.size) #[.int .i64 b.me, .int .i64 b.rv, .int .i64 b.nx, .int .i64 b.mo, .int .i64 b.bo, .int .i64 b.fr, .slice pr lr cr] 55) := hU.keep H6n.out (by omega)
          have H7F : Hid (deb.Fresh W4ab w2.heap.size pr lr cr b.ds) := fresh_updN H6F.out hU (fun hn y hy => by have f1 := H6F.out.new hn y hy; have f2 := HUPF.out hn y hy; omega)
          have H7B : Hid (Below w.heap.size w W4ab) := hU.bel _ _ (by omega) H6B.out
          have hsW4ab : W4ab.heap.size = W4a.heap.size := hU.size
          clear hU H6d H6t H6r H6l H6n H6F H6B
          have Rr0 : Hid (W4ab.cell? ⟨w.heap.size + 1 + 1, 0, none⟩ = some (.int .i64 0)) := H7r.out.cell 0
          have Rr1 : Hid (W4ab.cell? ⟨w.heap.size + 1 + 1, 1, none⟩ = some (.int .i64 0)) := H7r.out.cell 1
          have Rr2 : Hid (W4ab.cell? ⟨w.heap.size + 1 + 1, 2, none⟩ = some (.int .i64 0)) := H7r.out.cell 2
          have Rr3 : Hid (W4ab.cell? ⟨w.heap.size + 1 + 1, 3, none⟩ = some (.int .i64 0)) := H7r.out.cell 3
          have Rr4 : Hid (W4ab.cell? ⟨w.heap.size + 1 + 1, 4, none⟩ = some (.int .i64 0)) := H7r.out.cell 4
          have Rr5 : Hid (W4ab.cell? ⟨w.heap.size + 1 + 1, 5, none⟩ = some (.int .i64 0)) := H7r.out.cell 5
          have Rr6 : Hid (W4ab.cell? ⟨w.heap.size + 1 + 1, 6, none⟩ = some (.slice none 0 0)) := H7r.out.cell 6
          have Rl0 : Hid (W4ab.cell? ⟨w.heap.size + 1 + 1 + 1, 0, none⟩ = some (.int .i64 0)) := H7l.out.cell 0
          have Rl1 : Hid (W4ab.cell? ⟨w.heap.size + 1 + 1 + 1, 1, none⟩ = some (.int .i64 0)) := H7l.out.cell 1
          have Rl2 : Hid (W4ab.cell? ⟨w.heap.size + 1 + 1 + 1, 2, none⟩ = some (.int .i64 0)) := H7l.out.cell 2
          have Rl3 : Hid (W4ab.cell? ⟨w.heap.size + 1 + 1 + 1, 3, none⟩ = some (.int .i64 0)) := H7l.out.cell 3
          have Rl4 : Hid (W4ab.cell? ⟨w.heap.size + 1 + 1 + 1, 4, none⟩ = some (.int .i64 0)) := H7l.out.cell 4
          have Rl5 : Hid (W4ab.cell? ⟨w.heap.size + 1 + 1 + 1, 5, none⟩ = some (.int .i64 0)) := H7l.out.cell 5
          have Rl6 : Hid (W4ab.cell? ⟨w.heap.size + 1 + 1 + 1, 6, none⟩ = some (.int .i64 0)) := H7l.out.cell 6
          go_wp2_with fail
          exact bodyPost_ret (v := .tuple #[.agg #[.int .i64 0, .int .i64 0, .int .i64 0, .int .i64 0, .int .i64 0, .int .i64 0, .slice none 0 0], .agg #[.int .i64 0, .int .i64 0, .int .i64 0, .int .i64 0, .int .i64 0, .int .i64 0, .int .i64 0], .int .i64 19]) (by simp [results, Try.results56, Rr0.out, Rr1.out, Rr2.out, Rr3.out, Rr4.out, Rr5.out, Rr6.out, Rl0.out, Rl1.out, Rl2.out, Rl3.out, Rl4.out, Rl5.out, Rl6.out, go_sem]) rfl ⟨ac0, bi0, none, 0, 0, _, rfl, HV.out, deb.fresh_nil _ _, H7B.out⟩
      · have hne : (fr != 0) = true := by simpa using h4
        have HV : Hid (Refused x t m fr) := by
          rcases hi3 with ⟨q, _⟩ | ⟨_, q, r, _⟩ | ⟨_, _, _, r⟩
          · exact absurd HM.out q
          · exact .inr (.inr ⟨HM.out, HT.out, q, r⟩)
          · exact absurd r h4
        clear hi3 h4
        have H5d : Hid (Blk (w3.alloc (.cells #[.int .i64 b.me, .int .i64 b.rv, .int .i64 b.nx, .int .i64 b.mo, .int .i64 b.bo, .int .i64 b.fr, .slice pr lr cr] 55)) (w.heap.size) #[.int .i64 x.me, .int .i64 x.rv, .int .i64 x.nx, .int .i64 x.mo, .int .i64 x.bo, .int .i64 x.fr, .slice p len cap] 55) := H3d.out.alloc _
        have H5t : Hid (Blk (w3.alloc (.cells #[.int .i64 b.me, .int .i64 b.rv, .int .i64 b.nx, .int .i64 b.mo, .int .i64 b.bo, .int .i64 b.fr, .slice pr lr cr] 55)) (w.heap.size + 1) #[.slice pt lt ct, .int .i64 t.ff, .int .i64 t.fb, .int .i64 t.db, .int .i64 t.al] 40) := H3t.out.alloc _
        have H5r : Hid (Blk (w3.alloc (.cells #[.int .i64 b.me, .int .i64 b.rv, .int .i64 b.nx, .int .i64 b.mo, .int .i64 b.bo, .int .i64 b.fr, .slice pr lr cr] 55)) (w.heap.size + 1 + 1) #[.int .i64 0, .int .i64 0, .int .i64 0, .int .i64 0, .int .i64 0, .int .i64 0, .slice none 0 0] 55) := H3r.out.alloc _
        have H5l : Hid (Blk (w3.alloc (.cells #[.int .i64 b.me, .int .i64 b.rv, .int .i64 b.nx, .int .i64 b.mo, .int .i64 b.bo, .int .i64 b.fr, .slice pr lr cr] 55)) (w.heap.size + 1 + 1 + 1) #[.int .i64 0, .int .i64 0, .int .i64 0, .int .i64 0, .int .i64 0, .int .i64 0, .int .i64 0] 23) := H3l.out.alloc _
        have H5R : Hid (RowD (w3.alloc (.cells #[.int .i64 b.me, .int .i64 b.rv, .int .i64 b.nx, .int .i64 b.mo, .int .i64 b.bo, .int .i64 b.fr, .slice pr lr cr] 55)) p len x.ds) := H3R.out.below ((Below.refl w3.heap.size w3).alloc (Nat.le_refl _) _)
        have H5T : Hid (RowD (w3.alloc (.cells #[.int .i64 b.me, .int .i64 b.rv, .int .i64 b.nx, .int .i64 b.mo, .int .i64 b.bo, .int .i64 b.fr, .slice pr lr cr] 55)) pt lt t.ts) := H3T.out.below ((Below.refl w3.heap.size w3).alloc (Nat.le_refl _) _)
        have H5F : Hid (deb.Fresh (w3.alloc (.cells #[.int .i64 b.me, .int .i64 b.rv, .int .i64 b.nx, .int .i64 b.mo, .int .i64 b.bo, .int .i64 b.fr, .slice pr lr cr] 55)) w2.heap.size pr lr cr b.ds) := H4F.out.below ((Below.refl w3.heap.size w3).alloc (Nat.le_refl _) _)
        have H5n : Hid (Blk (w3.alloc (.cells #[.int .i64 b.me, .int .i64 b.rv, .int .i64 b.nx, .int .i64 b.mo, .int .i64 b.bo, .int .i64 b.fr, .slice pr lr cr] 55)) w3.heap.size #[.int .i64 b.me, .int .i64 b.rv, .int .i64 b.nx, .int .i64 b.mo, .int .i64 b.bo, .int .i64 b.fr, .slice pr lr cr] 55) := Blk.new w3 _ _
        have H5B : Hid (Below w.heap.size w (w3.alloc (.cells #[.int .i64 b.me, .int .i64 b.rv, .int .i64 b.nx, .int .i64 b.mo, .int .i64 b.bo, .int .i64 b.fr, .slice pr lr cr] 55))) := H3B.out.alloc H3B.out.size _
        have hsW4 : w3.heap.size < (w3.alloc (.cells #[.int .i64 b.me, .int .i64 b.rv, .int .i64 b.nx, .int .i64 b.mo, .int .i64 b.bo, .int .i64 b.fr, .slice pr lr cr] 55)).heap.size := (Blk.new w3 #[.int .i64 b.me, .int .i64 b.rv, .int .i64 b.nx, .int .i64 b.mo, .int .i64 b.bo, .int .i64 b.fr, .slice pr lr cr] 55).lt
        clear H3d H3t H3r H3l H3R H3T H4F H3B
        go_upto_region 7 with fail
        generalize (w3.alloc (.cells #[.int .i64 b.me, .int .i64 b.rv, .int .i64 b.nx, .int .i64 b.mo, .int .i64 b.bo, .int .i64 b.fr, .slice pr lr cr] 55)) = W4 at *
        go_wp2_with (first
          | (refine wp_letAll rfl 55 _ _ rfl (w.heap.size + 1 + 1) rfl #[.int .i64 0, .int .i64 0, .int .i64 0, .int .i64 0, .int .i64 0, .int .i64 0, .slice none 0 0] rfl (by kernel_rfl) (by simp [Value.oneCell']) #[.int .i64 0, .int .i64 0, .int .i64 0, .int .i64 0, .int .i64 0, .int .i64 0, .slice none 0 0] 55 H5r.out rfl ?_)
          | (refine wp_whole rfl 55 _ rfl (w.heap.size) rfl 55 #[.int .i64 x.me, .int .i64 x.rv, .int .i64 x.nx, .int .i64 x.mo, .int .i64 x.bo, .int .i64 x.fr, .slice p len cap] _ H5d.out Try.underlying55 rfl (by kernel_rfl) ?_)
          | (refine wp_whole rfl 40 _ rfl (w.heap.size + 1) rfl 40 #[.slice pt lt ct, .int .i64 t.ff, .int .i64 t.fb, .int .i64 t.db, .int .i64 t.al] _ H5t.out Try.underlying40 rfl (by kernel_rfl) ?_)
          | (refine wp_whole rfl 55 _ rfl (w.heap.size + 1 + 1) rfl 55 #[.int .i64 0, .int .i64 0, .int .i64 0, .int .i64 0, .int .i64 0, .int .i64 0, .slice none 0 0] _ H5r.out Try.underlying55 rfl (by kernel_rfl) ?_)
          | (refine wp_whole rfl 23 _ rfl (w.heap.size + 1 + 1 + 1) rfl 23 #[.int .i64 0, .int .i64 0, .int .i64 0, .int .i64 0, .int .i64 0, .int .i64 0, .int .i64 0] _ H5l.out Try.underlying23 rfl (by kernel_rfl) ?_)
          | (refine wp_whole rfl 55 _ rfl (w3.heap.size) rfl 55 #[.int .i64 b.me, .int .i64 b.rv, .int .i64 b.nx, .int .i64 b.mo, .int .i64 b.bo, .int .i64 b.fr, .slice pr lr cr] _ H5n.out Try.underlying55 rfl (by kernel_rfl) ?_)
          | fail)
        intro W4a hU
        have H6d : Hid (Blk W4a (w.heap.size) #[.int .i64 x.me, .int .i64 x.rv, .int .i64 x.nx, .int .i64 x.mo, .int .i64 x.bo, .int .i64 x.fr, .slice p len cap] 55) := hU.keep H5d.out (by omega)
        have H6t : Hid (Blk W4a (w.heap.size + 1) #[.slice pt lt ct, .int .i64 t.ff, .int .i64 t.fb, .int .i64 t.db, .int .i64 t.al] 40) := hU.keep H5t.out (by omega)
        have H6r : Hid (Blk W4a (w.heap.size + 1 + 1) #[.int .i64 0, .int .i64 0, .int .i64 0, .int .i64 0, .int .i64 0, .int .i64 0, .slice none 0 0] 55) := hU.blk
        have H6l : Hid (Blk W4a (w.heap.size + 1 + 1 + 1) #[.int .i64 0, .int .i64 0, .int .i64 0, .int .i64 0, .int .i64 0, .int .i64 0, .int .i64 0] 23) := hU.keep H5l.out (by omega)
        have H6n : Hid (Blk W4a (w3.heap.size) #[.int .i64 b.me, .int .i64 b.rv, .int .i64 b.nx, .int .i64 b.mo, .int .i64 b.bo, .int .i64 b.fr, .slice pr lr cr] 55) := hU.keep H5n.out (by omega)
        have H6F : Hid (deb.Fresh W4a w2.heap.size pr lr cr b.ds) := fresh_updN H5F.out hU (fun hn y hy => by have f1 := H5F.out.new hn y hy; have f2 := HUPF.out hn y hy; omega)
        have H6B : Hid (Below w.heap.size w W4a) := hU.bel _ _ (by omega) H5B.out
        have hsW4a : W4a.heap.size = W4.heap.size := hU.size
        clear hU H5d H5t H5r H5l H5n H5R H5T H5F H5B
        go_wp2_with (first
          | (refine wp_letAll rfl 23 _ _ rfl (w.heap.size + 1 + 1 + 1) rfl #[.int .i64 0, .int .i64 0, .int .i64 0, .int .i64 0, .int .i64 0, .int .i64 0, .int .i64 0] rfl (by kernel_rfl) (by simp [Value.oneCell']) #[.int .i64 0, .int .i64 0, .int .i64 0, .int .i64 0, .int .i64 0, .int .i64 0, .int .i64 0] 23 H6l.out rfl ?_)
          | (refine wp_whole rfl 55 _ rfl (w.heap.size) rfl 55 #[.int .i64 x.me, .int .i64 x.rv, .int .i64 x.nx, .int .i64 x.mo, .int .i64 x.bo, .int .i64 x.fr, .slice p len cap] _ H6d.out Try.underlying55 rfl (by kernel_rfl) ?_)
          | (refine wp_whole rfl 40 _ rfl (w.heap.size + 1) rfl 40 #[.slice pt lt ct, .int .i64 t.ff, .int .i64 t.fb, .int .i64 t.db, .int .i64 t.al] _ H6t.out Try.underlying40 rfl (by kernel_rfl) ?_)
          | (refine wp_whole rfl 55 _ rfl (w.heap.size + 1 + 1) rfl 55 #[.int .i64 0, .int .i64 0, .int .i64 0, .int .i64 0, .int .i64 0, .int .i64 0, .slice none 0 0] _ H6r.out Try.underlying55 rfl (by kernel_rfl) ?_)
          | (refine wp_whole rfl 23 _ rfl (w.heap.size + 1 + 1 + 1) rfl 23 #[.int .i64 0, .int .i64 0, .int .i64 0, .int .i64 0, .int .i64 0, .int .i64 0, .int .i64 0] _ H6l.out Try.underlying23 rfl (by kernel_rfl) ?_)
          | (refine wp_whole rfl 55 _ rfl (w3.heap.size) rfl 55 #[.int .i64 b.me, .int .i64 b.rv, .int .i64 b.nx, .int .i64 b.mo, .int .i64 b.bo, .int .i64 b.fr, .slice pr lr cr] _ H6n.out Try.underlying55 rfl (by kernel_rfl) ?_)
          | fail)
        intro W4ab hU
        have H7d : Hid (Blk W4ab (w.heap.size) #[.int .i64 x.me, .int .i64 x.rv, .int .i64 x.nx, .int .i64 x.mo, .int .i64 x.bo, .int .i64 x.fr, .slice p len cap] 55) := hU.keep H6d.out (by omega)
        have H7t : Hid (Blk W4ab (w.heap.size + 1) #[.slice pt lt ct, .int .i64 t.ff, .int .i64 t.fb, .int .i64 t.db, .int .i64 t.al] 40) := hU.keep H6t.out (by omega)
        have H7r : Hid (Blk W4ab (w.heap.size + 1 + 1) #[.int .i64 0, .int .i64 0, .int .i64 0, .int .i64 0, .int .i64 0, .int .i64 0, .slice none 0 0] 55) := hU.keep H6r.out (by omega)
        have H7l : Hid (Blk W4ab (w.heap.size + 1 + 1 + 1) #[.int .i64 0, .int .i64 0, .int .i64 0, .int .i64 0, .int .i64 0, .int .i64 0, .int .i64 0] 23) := hU.blk
        have H7n : Hid (Blk W4ab (w3.heap.size) #[.int .i64 b.me, .int .i64 b.rv, .int .i64 b.nx, .int .i64 b.mo, .int .i64 b.bo, .int .i64 b.fr, .slice pr lr cr] 55) := hU.keep H6n.out (by omega)
        have H7F : Hid (deb.Fresh W4ab w2.heap.size pr lr cr b.ds) := fresh_updN H6F.out hU (fun hn y hy => by have f1 := H6F.out.new hn y hy; have f2 := HUPF.out hn y hy; omega)
        have H7B : Hid (Below w.heap.size w W4ab) := hU.bel _ _ (by omega) H6B.out
        have hsW4ab : W4ab.heap.size = W4a.heap.size := hU.size
        clear hU H6d H6t H6r H6l H6n H6F H6B
        have Rr0 : Hid (W4ab.cell? ⟨w.heap.size + 1 + 1, 0, none⟩ = some (.int .i64 0)) := H7r.out.cell 0
        have Rr1 : Hid (W4ab.cell? ⟨w.heap.size + 1 + 1, 1, none⟩ = some (.int .i64 0)) := H7r.out.cell 1
        have Rr2 : Hid (W4ab.cell? ⟨w.heap.size + 1 + 1, 2, none⟩ = some (.int .i64 0)) := H7r.out.cell 2
        have Rr3 : Hid (W4ab.cell? ⟨w.heap.size + 1 + 1, 3, none⟩ = some (.int .i64 0)) := H7r.out.cell 3
        have Rr4 : Hid (W4ab.cell? ⟨w.heap.size + 1 + 1, 4, none⟩ = some (.int .i64 0)) := H7r.out.cell 4
        have Rr5 : Hid (W4ab.cell? ⟨w.heap.size + 1 + 1, 5, none⟩ = some (.int .i64 0)) := H7r.out.cell 5
        have Rr6 : Hid (W4ab.cell? ⟨w.heap.size + 1 + 1, 6, none⟩ = some (.slice none 0 0)) := H7r.out.cell 6
        have Rl0 : Hid (W4ab.cell? ⟨w.heap.size + 1 + 1 + 1, 0, none⟩ = some (.int .i64 0)) := H7l.out.cell 0
        have Rl1 : Hid (W4ab.cell? ⟨w.heap.size + 1 + 1 + 1, 1, none⟩ = some (.int .i64 0)) := H7l.out.cell 1
        have Rl2 : Hid (W4ab.cell? ⟨w.heap.size + 1 + 1 + 1, 2, none⟩ = some (.int .i64 0)) := H7l.out.cell 2
        have Rl3 : Hid (W4ab.cell? ⟨w.heap.size + 1 + 1 + 1, 3, none⟩ = some (.int .i64 0)) := H7l.out.cell 3
        have Rl4 : Hid (W4ab.cell? ⟨w.heap.size + 1 + 1 + 1, 4, none⟩ = some (.int .i64 0)) := H7l.out.cell 4
        have Rl5 : Hid (W4ab.cell? ⟨w.heap.size + 1 + 1 + 1, 5, none⟩ = some (.int .i64 0)) := H7l.out.cell 5
        have Rl6 : Hid (W4ab.cell? ⟨w.heap.size + 1 + 1 + 1, 6, none⟩ = some (.int .i64 0)) := H7l.out.cell 6
        go_wp2_with fail
        exact bodyPost_ret (v := .tuple #[.agg #[.int .i64 0, .int .i64 0, .int .i64 0, .int .i64 0, .int .i64 0, .int .i64 0, .slice none 0 0], .agg #[.int .i64 0, .int .i64 0, .int .i64 0, .int .i64 0, .int .i64 0, .int .i64 0, .int .i64 0], .int .i64 fr]) (by simp [results, Try.results56, Rr0.out, Rr1.out, Rr2.out, Rr3.out, Rr4.out, Rr5.out, Rr6.out, Rl0.out, Rl1.out, Rl2.out, Rl3.out, Rl4.out, Rl5.out, Rl6.out, go_sem]) rfl ⟨ac0, bi0, none, 0, 0, _, rfl, .inl ⟨HV.out, rfl, rfl⟩, deb.fresh_nil _ _, H7B.out⟩
    · have hne : (ft != 0) = true := by simpa using h0
      have HV : Hid (Refused x t m ft) := .inr (.inl ⟨HM.out, fun h => h0 (hft.ok.2 h), hft⟩)
      clear hft h0
      go_wp2_with (first
        | (refine wp_letAll rfl 55 _ _ rfl (w.heap.size + 1 + 1) rfl #[.int .i64 0, .int .i64 0, .int .i64 0, .int .i64 0, .int .i64 0, .int .i64 0, .slice none 0 0] rfl (by kernel_rfl) (by simp [Value.oneCell']) #[.int .i64 0, .int .i64 0, .int .i64 0, .int .i64 0, .int .i64 0, .int .i64 0, .slice none 0 0] 55 H2r.out rfl ?_)
        | (refine wp_whole rfl 55 _ rfl (w.heap.size) rfl 55 #[.int .i64 x.me, .int .i64 x.rv, .int .i64 x.nx, .int .i64 x.mo, .int .i64 x.bo, .int .i64 x.fr, .slice p len cap] _ H2d.out Try.underlying55 rfl (by kernel_rfl) ?_)
        | (refine wp_whole rfl 40 _ rfl (w.heap.size + 1) rfl 40 #[.slice pt lt ct, .int .i64 t.ff, .int .i64 t.fb, .int .i64 t.db, .int .i64 t.al] _ H2t.out Try.underlying40 rfl (by kernel_rfl) ?_)
        | (refine wp_whole rfl 55 _ rfl (w.heap.size + 1 + 1) rfl 55 #[.int .i64 0, .int .i64 0, .int .i64 0, .int .i64 0, .int .i64 0, .int .i64 0, .slice none 0 0] _ H2r.out Try.underlying55 rfl (by kernel_rfl) ?_)
        | (refine wp_whole rfl 23 _ rfl (w.heap.size + 1 + 1 + 1) rfl 23 #[.int .i64 0, .int .i64 0, .int .i64 0, .int .i64 0, .int .i64 0, .int .i64 0, .int .i64 0] _ H2l.out Try.underlying23 rfl (by kernel_rfl) ?_)
        | fail)
      intro w2a hU
      have H3d : Hid (Blk w2a (w.heap.size) #[.int .i64 x.me, .int .i64 x.rv, .int .i64 x.nx, .int .i64 x.mo, .int .i64 x.bo, .int .i64 x.fr, .slice p len cap] 55) := hU.keep H2d.out (by omega)
      have H3t : Hid (Blk w2a (w.heap.size + 1) #[.slice pt lt ct, .int .i64 t.ff, .int .i64 t.fb, .int .i64 t.db, .int .i64 t.al] 40) := hU.keep H2t.out (by omega)
      have H3r : Hid (Blk w2a (w.heap.size + 1 + 1) #[.int .i64 0, .int .i64 0, .int .i64 0, .int .i64 0, .int .i64 0, .int .i64 0, .slice none 0 0] 55) := hU.blk
      have H3l : Hid (Blk w2a (w.heap.size + 1 + 1 + 1) #[.int .i64 0, .int .i64 0, .int .i64 0, .int .i64 0, .int .i64 0, .int .i64 0, .int .i64 0] 23) := hU.keep H2l.out (by omega)
      have H3B : Hid (Below w.heap.size w w2a) := hU.bel _ _ (by omega) H2B.out
      have hsw2a : w2a.heap.size = w2.heap.size := hU.size
      clear hU H2d H2t H2r H2l H2R H2T H2B
      go_wp2_with (first
        | (refine wp_letAll rfl 23 _ _ rfl (w.heap.size + 1 + 1 + 1) rfl #[.int .i64 0, .int .i64 0, .int .i64 0, .int .i64 0, .int .i64 0, .int .i64 0, .int .i64 0] rfl (by kernel_rfl) (by simp [Value.oneCell']) #[.int .i64 0, .int .i64 0, .int .i64 0, .int .i64 0, .int .i64 0, .int .i64 0, .int .i64 0] 23 H3l.out rfl ?_)
        | (refine wp_whole rfl 55 _ rfl (w.heap.size) rfl 55 #[.int .i64 x.me, .int .i64 x.rv, .int .i64 x.nx, .int .i64 x.mo, .int .i64 x.bo, .int .i64 x.fr, .slice p len cap] _ H3d.out Try.underlying55 rfl (by kernel_rfl) ?_)
        | (refine wp_whole rfl 40 _ rfl (w.heap.size + 1) rfl 40 #[.slice pt lt ct, .int .i64 t.ff, .int .i64 t.fb, .int .i64 t.db, .int .i64 t.al] _ H3t.out Try.underlying40 rfl (by kernel_rfl) ?_)
        | (refine wp_whole rfl 55 _ rfl (w.heap.size + 1 + 1) rfl 55 #[.int .i64 0, .int .i64 0, .int .i64 0, .int .i64 0, .int .i64 0, .int .i64 0, .slice none 0 0] _ H3r.out Try.underlying55 rfl (by kernel_rfl) ?_)
        | (refine wp_whole rfl 23 _ rfl (w.heap.size + 1 + 1 + 1) rfl 23 #[.int .i64 0, .int .i64 0, .int .i64 0, .int .i64 0, .int .i64 0, .int .i64 0, .int .i64 0] _ H3l.out Try.underlying23 rfl (by kernel_rfl) ?_)
        | fail)
      intro w2ab hU
      have H4d : Hid (Blk w2ab (w.heap.size) #[.int .i64 x.me, .int .i64 x.rv, .int .i64 x.nx, .int .i64 x.mo, .int .i64 x.bo, .int .i64 x.fr, .slice p len cap] 55) := hU.keep H3d.out (by omega)
      have H4t : Hid (Blk w2ab (w.heap.size + 1) #[.slice pt lt ct, .int .i64 t.ff, .int .i64 t.fb, .int .i64 t.db, .int .i64 t.al] 40) := hU.keep H3t.out (by omega)
      have H4r : Hid (Blk w2ab (w.heap.size + 1 + 1) #[.int .i64 0, .int .i64 0, .int .i64 0, .int .i64 0, .int .i64 0, .int .i64 0, .slice none 0 0] 55) := hU.keep H3r.out (by omega)
      have H4l : Hid (Blk w2ab (w.heap.size + 1 + 1 + 1) #[.int .i64 0, .int .i64 0, .int .i64 0, .int .i64 0, .int .i64 0, .int .i64 0, .int .i64 0] 23) := hU.blk
      have H4B : Hid (Below w.heap.size w w2ab) := hU.bel _ _ (by omega) H3B.out
      have hsw2ab : w2ab.heap.size = w2a.heap.size := hU.size
      clear hU H3d H3t H3r H3l H3B
      have Rr0 : Hid (w2ab.cell? ⟨w.heap.size + 1 + 1, 0, none⟩ = some (.int .i64 0)) := H4r.out.cell 0
      have Rr1 : Hid (w2ab.cell? ⟨w.heap.size + 1 + 1, 1, none⟩ = some (.int .i64 0)) := H4r.out.cell 1
      have Rr2 : Hid (w2ab.cell? ⟨w.heap.size + 1 + 1, 2, none⟩ = some (.int .i64 0)) := H4r.out.cell 2
      have Rr3 : Hid (w2ab.cell? ⟨w.heap.size + 1 + 1, 3, none⟩ = some (.int .i64 0)) := H4r.out.cell 3
      have Rr4 : Hid (w2ab.cell? ⟨w.heap.size + 1 + 1, 4, none⟩ = some (.int .i64 0)) := H4r.out.cell 4
      have Rr5 : Hid (w2ab.cell? ⟨w.heap.size + 1 + 1, 5, none⟩ = some (.int .i64 0)) := H4r.out.cell 5
      have Rr6 : Hid (w2ab.cell? ⟨w.heap.size + 1 + 1, 6, none⟩ = some (.slice none 0 0)) := H4r.out.cell 6
      have Rl0 : Hid (w2ab.cell? ⟨w.heap.size + 1 + 1 + 1, 0, none⟩ = some (.int .i64 0)) := H4l.out.cell 0
      have Rl1 : Hid (w2ab.cell? ⟨w.heap.size + 1 + 1 + 1, 1, none⟩ = some (.int .i64 0)) := H4l.out.cell 1
      have Rl2 : Hid (w2ab.cell? ⟨w.heap.size + 1 + 1 + 1, 2, none⟩ = some (.int .i64 0)) := H4l.out.cell 2
      have Rl3 : Hid (w2ab.cell? ⟨w.heap.size + 1 + 1 + 1, 3, none⟩ = some (.int .i64 0)) := H4l.out.cell 3
      have Rl4 : Hid (w2ab.cell? ⟨w.heap.size + 1 + 1 + 1, 4, none⟩ = some (.int .i64 0)) := H4l.out.cell 4
      have Rl5 : Hid (w2ab.cell? ⟨w.heap.size + 1 + 1 + 1, 5, none⟩ = some (.int .i64 0)) := H4l.out.cell 5
      have Rl6 : Hid (w2ab.cell? ⟨w.heap.size + 1 + 1 + 1, 6, none⟩ = some (.int .i64 0)) := H4l.out.cell 6
      go_wp2_with fail
      exact bodyPost_ret (v := .tuple #[.agg #[.int .i64 0, .int .i64 0, .int .i64 0, .int .i64 0, .int .i64 0, .int .i64 0, .slice none 0 0], .agg #[.int .i64 0, .int .i64 0, .int .i64 0, .int .i64 0, .int .i64 0, .int .i64 0, .int .i64 0], .int .i64 ft]) (by simp [results, Try.results56, Rr0.out, Rr1.out, Rr2.out, Rr3.out, Rr4.out, Rr5.out, Rr6.out, Rl0.out, Rl1.out, Rl2.out, Rl3.out, Rl4.out, Rl5.out, Rl6.out, go_sem]) rfl ⟨ac0, bi0, none, 0, 0, _, rfl, .inl ⟨HV.out, rfl, rfl⟩, deb.fresh_nil _ _, H4B.out⟩
  · have HM : Hid (¬ AMay x) := hm
    have H0d : Hid (Blk ((((w.alloc (.cells #[.int .i64 x.me, .int .i64 x.rv, .int .i64 x.nx, .int .i64 x.mo, .int .i64 x.bo, .int .i64 x.fr, .slice p len cap] 55)).alloc (.cells #[.slice pt lt ct, .int .i64 t.ff, .int .i64 t.fb, .int .i64 t.db, .int .i64 t.al] 40)).alloc (.cells #[.int .i64 0, .int .i64 0, .int .i64 0, .int .i64 0, .int .i64 0, .int .i64 0, .slice none 0 0] 55)).alloc (.cells #[.int .i64 0, .int .i64 0, .int .i64 0, .int .i64 0, .int .i64 0, .int .i64 0, .int .i64 0] 23)) (w.heap.size) #[.int .i64 x.me, .int .i64 x.rv, .int .i64 x.nx, .int .i64 x.mo, .int .i64 x.bo, .int .i64 x.fr, .slice p len cap] 55) := (((Blk.new w _ _).alloc _).alloc _).alloc _
    have H0t : Hid (Blk ((((w.alloc (.cells #[.int .i64 x.me, .int .i64 x.rv, .int .i64 x.nx, .int .i64 x.mo, .int .i64 x.bo, .int .i64 x.fr, .slice p len cap] 55)).alloc (.cells #[.slice pt lt ct, .int .i64 t.ff, .int .i64 t.fb, .int .i64 t.db, .int .i64 t.al] 40)).alloc (.cells #[.int .i64 0, .int .i64 0, .int .i64 0, .int .i64 0, .int .i64 0, .int .i64 0, .slice none 0 0] 55)).alloc (.cells #[.int .i64 0, .int .i64 0, .int .i64 0, .int .i64 0, .int .i64 0, .int .i64 0, .int .i64 0] 23)) (w.heap.size + 1) #[.slice pt lt ct, .int .i64 t.ff, .int .i64 t.fb, .int .i64 t.db, .int .i64 t.al] 40) := ((Blk.new1 w _ _ _).alloc _).alloc _
    have H0r : Hid (Blk ((((w.alloc (.cells #[.int .i64 x.me, .int .i64 x.rv, .int .i64 x.nx, .int .i64 x.mo, .int .i64 x.bo, .int .i64 x.fr, .slice p len cap] 55)).alloc (.cells #[.slice pt lt ct, .int .i64 t.ff, .int .i64 t.fb, .int .i64 t.db, .int .i64 t.al] 40)).alloc (.cells #[.int .i64 0, .int .i64 0, .int .i64 0, .int .i64 0, .int .i64 0, .int .i64 0, .slice none 0 0] 55)).alloc (.cells #[.int .i64 0, .int .i64 0, .int .i64 0, .int .i64 0, .int .i64 0, .int .i64 0, .int .i64 0] 23)) (w.heap.size + 1 + 1) #[.int .i64 0, .int .i64 0, .int .i64 0, .int .i64 0, .int .i64 0, .int .i64 0, .slice none 0 0] 55) := (Blk.new2 w _ _ _ _).alloc _
    have H0l : Hid (Blk ((((w.alloc (.cells #[.int .i64 x.me, .int .i64 x.rv, .int .i64 x.nx, .int .i64 x.mo, .int .i64 x.bo, .int .i64 x.fr, .slice p len cap] 55)).alloc (.cells #[.slice pt lt ct, .int .i64 t.ff, .int .i64 t.fb, .int .i64 t.db, .int .i64 t.al] 40)).alloc (.cells #[.int .i64 0, .int .i64 0, .int .i64 0, .int .i64 0, .int .i64 0, .int .i64 0, .slice none 0 0] 55)).alloc (.cells #[.int .i64 0, .int .i64 0, .int .i64 0, .int .i64 0, .int .i64 0, .int .i64 0, .int .i64 0] 23)) (w.heap.size + 1 + 1 + 1) #[.int .i64 0, .int .i64 0, .int .i64 0, .int .i64 0, .int .i64 0, .int .i64 0, .int .i64 0] 23) := Blk.new3 w _ _ _ _ _
    have H0B : Hid (Below w.heap.size w ((((w.alloc (.cells #[.int .i64 x.me, .int .i64 x.rv, .int .i64 x.nx, .int .i64 x.mo, .int .i64 x.bo, .int .i64 x.fr, .slice p len cap] 55)).alloc (.cells #[.slice pt lt ct, .int .i64 t.ff, .int .i64 t.fb, .int .i64 t.db, .int .i64 t.al] 40)).alloc (.cells #[.int .i64 0, .int .i64 0, .int .i64 0, .int .i64 0, .int .i64 0, .int .i64 0, .slice none 0 0] 55)).alloc (.cells #[.int .i64 0, .int .i64 0, .int .i64 0, .int .i64 0, .int .i64 0, .int .i64 0, .int .i64 0] 23))) := ((((Below.refl w.heap.size w).alloc (by simp) _).alloc (by simp) _).alloc (by simp; omega) _).alloc (by simp; omega) _
    have H0R : Hid (RowD ((((w.alloc (.cells #[.int .i64 x.me, .int .i64 x.rv, .int .i64 x.nx, .int .i64 x.mo, .int .i64 x.bo, .int .i64 x.fr, .slice p len cap] 55)).alloc (.cells #[.slice pt lt ct, .int .i64 t.ff, .int .i64 t.fb, .int .i64 t.db, .int .i64 t.al] 40)).alloc (.cells #[.int .i64 0, .int .i64 0, .int .i64 0, .int .i64 0, .int .i64 0, .int .i64 0, .slice none 0 0] 55)).alloc (.cells #[.int .i64 0, .int .i64 0, .int .i64 0, .int .i64 0, .int .i64 0, .int .i64 0, .int .i64 0] 23)) p len x.ds) := h.below H0B.out
    have H0T : Hid (RowD ((((w.alloc (.cells #[.int .i64 x.me, .int .i64 x.rv, .int .i64 x.nx, .int .i64 x.mo, .int .i64 x.bo, .int .i64 x.fr, .slice p len cap] 55)).alloc (.cells #[.slice pt lt ct, .int .i64 t.ff, .int .i64 t.fb, .int .i64 t.db, .int .i64 t.al] 40)).alloc (.cells #[.int .i64 0, .int .i64 0, .int .i64 0, .int .i64 0, .int .i64 0, .int .i64 0, .slice none 0 0] 55)).alloc (.cells #[.int .i64 0, .int .i64 0, .int .i64 0, .int .i64 0, .int .i64 0, .int .i64 0, .int .i64 0] 23)) pt lt t.ts) := ht.below H0B.out
    have hs0 : w.heap.size + 1 + 1 + 1 < ((((w.alloc (.cells #[.int .i64 x.me, .int .i64 x.rv, .int .i64 x.nx, .int .i64 x.mo, .int .i64 x.bo, .int .i64 x.fr, .slice p len cap] 55)).alloc (.cells #[.slice pt lt ct, .int .i64 t.ff, .int .i64 t.fb, .int .i64 t.db, .int .i64 t.al] 40)).alloc (.cells #[.int .i64 0, .int .i64 0, .int .i64 0, .int .i64 0, .int .i64 0, .int .i64 0, .slice none 0 0] 55)).alloc (.cells #[.int .i64 0, .int .i64 0, .int .i64 0, .int .i64 0, .int .i64 0, .int .i64 0, .int .i64 0] 23)).heap.size := H0l.out.lt
    generalize hWW : ((((w.alloc (.cells #[.int .i64 x.me, .int .i64 x.rv, .int .i64 x.nx, .int .i64 x.mo, .int .i64 x.bo, .int .i64 x.fr, .slice p len cap] 55)).alloc (.cells #[.slice pt lt ct, .int .i64 t.ff, .int .i64 t.fb, .int .i64 t.db, .int .i64 t.al] 40)).alloc (.cells #[.int .i64 0, .int .i64 0, .int .i64 0, .int .i64 0, .int .i64 0, .int .i64 0, .slice none 0 0] 55)).alloc (.cells #[.int .i64 0, .int .i64 0, .int .i64 0, .int .i64 0, .int .i64 0, .int .i64 0, .int .i64 0] 23)) = W0 at *
    have HWW : Hid (((((w.alloc (.cells #[.int .i64 x.me, .int .i64 x.rv, .int .i64 x.nx, .int .i64 x.mo, .int .i64 x.bo, .int .i64 x.fr, .slice p len cap] 55)).alloc (.cells #[.slice pt lt ct, .int .i64 t.ff, .int .i64 t.fb, .int .i64 t.db, .int .i64 t.al] 40)).alloc (.cells #[.int .i64 0, .int .i64 0, .int .i64 0, .int .i64 0, .int .i64 0, .int .i64 0, .slice none 0 0] 55)).alloc (.cells #[.int .i64 0, .int .i64 0, .int .i64 0, .int .i64 0, .int .i64 0, .int .i64 0, .int .i64 0] 23)) = W0) := hWW
    clear hWW
    go_enter Try.func56, Try.ntmps56
    go_upto_region 1 with fail
    rw [HWW.out]
    clear HWW
    have HAM : Hid (Calls Try.prog 68 #[.agg #[.int .i64 x.me, .int .i64 x.rv, .int .i64 x.nx, .int .i64 x.mo, .int .i64 x.bo, .int .i64 x.fr, .slice p len cap]] W0 fun e w' => e = .returned (.bool false) ∧ Below W0.heap.size W0 w') := ranot x p len cap _ H0R.out hl hm
    go_wp2_with (first
      | (refine wp_whole rfl 55 _ rfl (w.heap.size) rfl 55 #[.int .i64 x.me, .int .i64 x.rv, .int .i64 x.nx, .int .i64 x.mo, .int .i64 x.bo, .int .i64 x.fr, .slice p len cap] _ H0d.out Try.underlying55 rfl (by kernel_rfl) ?_)
      | (refine wp_whole rfl 40 _ rfl (w.heap.size + 1) rfl 40 #[.slice pt lt ct, .int .i64 t.ff, .int .i64 t.fb, .int .i64 t.db, .int .i64 t.al] _ H0t.out Try.underlying40 rfl (by kernel_rfl) ?_)
      | (refine wp_whole rfl 55 _ rfl (w.heap.size + 1 + 1) rfl 55 #[.int .i64 0, .int .i64 0, .int .i64 0, .int .i64 0, .int .i64 0, .int .i64 0, .slice none 0 0] _ H0r.out Try.underlying55 rfl (by kernel_rfl) ?_)
      | (refine wp_whole rfl 23 _ rfl (w.heap.size + 1 + 1 + 1) rfl 23 #[.int .i64 0, .int .i64 0, .int .i64 0, .int .i64 0, .int .i64 0, .int .i64 0, .int .i64 0] _ H0l.out Try.underlying23 rfl (by kernel_rfl) ?_)
      | fail)
    refine HAM.out.mono ?_
    rintro e w1 ⟨rfl, hb1⟩
    have H1d : Hid (Blk w1 (w.heap.size) #[.int .i64 x.me, .int .i64 x.rv, .int .i64 x.nx, .int .i64 x.mo, .int .i64 x.bo, .int .i64 x.fr, .slice p len cap] 55) := H0d.out.next hb1
    have H1t : Hid (Blk w1 (w.heap.size + 1) #[.slice pt lt ct, .int .i64 t.ff, .int .i64 t.fb, .int .i64 t.db, .int .i64 t.al] 40) := H0t.out.next hb1
    have H1r : Hid (Blk w1 (w.heap.size + 1 + 1) #[.int .i64 0, .int .i64 0, .int .i64 0, .int .i64 0, .int .i64 0, .int .i64 0, .slice none 0 0] 55) := H0r.out.next hb1
    have H1l : Hid (Blk w1 (w.heap.size + 1 + 1 + 1) #[.int .i64 0, .int .i64 0, .int .i64 0, .int .i64 0, .int .i64 0, .int .i64 0, .int .i64 0] 23) := H0l.out.next hb1
    have H1R : Hid (RowD w1 p len x.ds) := H0R.out.below hb1
    have H1T : Hid (RowD w1 pt lt t.ts) := H0T.out.below hb1
    have H1B : Hid (Below w.heap.size w w1) := H0B.out.trans (hb1.mono H0B.out.size)
    have hsw1 : W0.heap.size ≤ w1.heap.size := hb1.size
    clear hb1 H0d H0t H0r H0l H0R H0T H0B
    clear HAM
    go_wp2_with (first
      | (refine wp_letAll rfl 55 _ _ rfl (w.heap.size + 1 + 1) rfl #[.int .i64 0, .int .i64 0, .int .i64 0, .int .i64 0, .int .i64 0, .int .i64 0, .slice none 0 0] rfl (by kernel_rfl) (by simp [Value.oneCell']) #[.int .i64 0, .int .i64 0, .int .i64 0, .int .i64 0, .int .i64 0, .int .i64 0, .slice none 0 0] 55 H1r.out rfl ?_)
      | (refine wp_whole rfl 55 _ rfl (w.heap.size) rfl 55 #[.int .i64 x.me, .int .i64 x.rv, .int .i64 x.nx, .int .i64 x.mo, .int .i64 x.bo, .int .i64 x.fr, .slice p len cap] _ H1d.out Try.underlying55 rfl (by kernel_rfl) ?_)
      | (refine wp_whole rfl 40 _ rfl (w.heap.size + 1) rfl 40 #[.slice pt lt ct, .int .i64 t.ff, .int .i64 t.fb, .int .i64 t.db, .int .i64 t.al] _ H1t.out Try.underlying40 rfl (by kernel_rfl) ?_)
      | (refine wp_whole rfl 55 _ rfl (w.heap.size + 1 + 1) rfl 55 #[.int .i64 0, .int .i64 0, .int .i64 0, .int .i64 0, .int .i64 0, .int .i64 0, .slice none 0 0] _ H1r.out Try.underlying55 rfl (by kernel_rfl) ?_)
      | (refine wp_whole rfl 23 _ rfl (w.heap.size + 1 + 1 + 1) rfl 23 #[.int .i64 0, .int .i64 0, .int .i64 0, .int .i64 0, .int .i64 0, .int .i64 0, .int .i64 0] _ H1l.out Try.underlying23 rfl (by kernel_rfl) ?_)
      | fail)
    intro w1a hU
    have H2d : Hid (Blk w1a (w.heap.size) #[.int .i64 x.me, .int .i64 x.rv, .int .i64 x.nx, .int .i64 x.mo, .int .i64 x.bo, .int .i64 x.fr, .slice p len cap] 55) := hU.keep H1d.out (by omega)
    have H2t : Hid (Blk w1a (w.heap.size + 1) #[.slice pt lt ct, .int .i64 t.ff, .int .i64 t.fb, .int .i64 t.db, .int .i64 t.al] 40) := hU.keep H1t.out (by omega)
    have H2r : Hid (Blk w1a (w.heap.size + 1 + 1) #[.int .i64 0, .int .i64 0, .int .i64 0, .int .i64 0, .int .i64 0, .int .i64 0, .slice none 0 0] 55) := hU.blk
    have H2l : Hid (Blk w1a (w.heap.size + 1 + 1 + 1) #[.int .i64 0, .int .i64 0, .int .i64 0, .int .i64 0, .int .i64 0, .int .i64 0, .int .i64 0] 23) := hU.keep H1l.out (by omega)
    have H2B : Hid (Below w.heap.size w w1a) := hU.bel _ _ (by omega) H1B.out
    have hsw1a : w1a.heap.size = w1.heap.size := hU.size
    clear hU H1d H1t H1r H1l H1R H1T H1B
    go_wp2_with (first
      | (refine wp_letAll rfl 23 _ _ rfl (w.heap.size + 1 + 1 + 1) rfl #[.int .i64 0, .int .i64 0, .int .i64 0, .int .i64 0, .int .i64 0, .int .i64 0, .int .i64 0] rfl (by kernel_rfl) (by simp [Value.oneCell']) #[.int .i64 0, .int .i64 0, .int .i64 0, .int .i64 0, .int .i64 0, .int .i64 0, .int .i64 0] 23 H2l.out rfl ?_)
      | (refine wp_whole rfl 55 _ rfl (w.heap.size) rfl 55 #[.int .i64 x.me, .int .i64 x.rv, .int .i64 x.nx, .int .i64 x.mo, .int .i64 x.bo, .int .i64 x.fr, .slice p len cap] _ H2d.out Try.underlying55 rfl (by kernel_rfl) ?_)
      | (refine wp_whole rfl 40 _ rfl (w.heap.size + 1) rfl 40 #[.slice pt lt ct, .int .i64 t.ff, .int .i64 t.fb, .int .i64 t.db, .int .i64 t.al] _ H2t.out Try.underlying40 rfl (by kernel_rfl) ?_)
      | (refine wp_whole rfl 55 _ rfl (w.heap.size + 1 + 1) rfl 55 #[.int .i64 0, .int .i64 0, .int .i64 0, .int .i64 0, .int .i64 0, .int .i64 0, .slice none 0 0] _ H2r.out Try.underlying55 rfl (by kernel_rfl) ?_)
      | (refine wp_whole rfl 23 _ rfl (w.heap.size + 1 + 1 + 1) rfl 23 #[.int .i64 0, .int .i64 0, .int .i64 0, .int .i64 0, .int .i64 0, .int .i64 0, .int .i64 0] _ H2l.out Try.underlying23 rfl (by kernel_rfl) ?_)
      | fail)
    intro w1ab hU
    have H3d : Hid (Blk w1ab (w.heap.size) #[.int .i64 x.me, .int .i64 x.rv, .int .i64 x.nx, .int .i64 x.mo, .int .i64 x.bo, .int .i64 x.fr, .slice p len cap] 55) := hU.keep H2d.out (by omega)
    have H3t : Hid (Blk w1ab (w.heap.size + 1) #[.slice pt lt ct, .int .i64 t.ff, .int .i64 t.fb, .int .i64 t.db, .int .i64 t.al] 40) := hU.keep H2t.out (by omega)
    have H3r : Hid (Blk w1ab (w.heap.size + 1 + 1) #[.int .i64 0, .int .i64 0, .int .i64 0, .int .i64 0, .int .i64 0, .int .i64 0, .slice none 0 0] 55) := hU.keep H2r.out (by omega)
    have H3l : Hid (Blk w1ab (w.heap.size + 1 + 1 + 1) #[.int .i64 0, .int .i64 0, .int .i64 0, .int .i64 0, .int .i64 0, .int .i64 0, .int .i64 0] 23) := hU.blk
    have H3B : Hid (Below w.heap.size w w1ab) := hU.bel _ _ (by omega) H2B.out
    have hsw1ab : w1ab.heap.size = w1a.heap.size := hU.size
    clear hU H2d H2t H2r H2l H2B
    have Rr0 : Hid (w1ab.cell? ⟨w.heap.size + 1 + 1, 0, none⟩ = some (.int .i64 0)) := H3r.out.cell 0
    have Rr1 : Hid (w1ab.cell? ⟨w.heap.size + 1 + 1, 1, none⟩ = some (.int .i64 0)) := H3r.out.cell 1
    have Rr2 : Hid (w1ab.cell? ⟨w.heap.size + 1 + 1, 2, none⟩ = some (.int .i64 0)) := H3r.out.cell 2
    have Rr3 : Hid (w1ab.cell? ⟨w.heap.size + 1 + 1, 3, none⟩ = some (.int .i64 0)) := H3r.out.cell 3
    have Rr4 : Hid (w1ab.cell? ⟨w.heap.size + 1 + 1, 4, none⟩ = some (.int .i64 0)) := H3r.out.cell 4
    have Rr5 : Hid (w1ab.cell? ⟨w.heap.size + 1 + 1, 5, none⟩ = some (.int .i64 0)) := H3r.out.cell 5
    have Rr6 : Hid (w1ab.cell? ⟨w.heap.size + 1 + 1, 6, none⟩ = some (.slice none 0 0)) := H3r.out.cell 6
    have Rl0 : Hid (w1ab.cell? ⟨w.heap.size + 1 + 1 + 1, 0, none⟩ = some (.int .i64 0)) := H3l.out.cell 0
    have Rl1 : Hid (w1ab.cell? ⟨w.heap.size + 1 + 1 + 1, 1, none⟩ = some (.int .i64 0)) := H3l.out.cell 1
    have Rl2 : Hid (w1ab.cell? ⟨w.heap.size + 1 + 1 + 1, 2, none⟩ = some (.int .i64 0)) := H3l.out.cell 2
    have Rl3 : Hid (w1ab.cell? ⟨w.heap.size + 1 + 1 + 1, 3, none⟩ = some (.int .i64 0)) := H3l.out.cell 3
    have Rl4 : Hid (w1ab.cell? ⟨w.heap.size + 1 + 1 + 1, 4, none⟩ = some (.int .i64 0)) := H3l.out.cell 4
    have Rl5 : Hid (w1ab.cell? ⟨w.heap.size + 1 + 1 + 1, 5, none⟩ = some (.int .i64 0)) := H3l.out.cell 5
    have Rl6 : Hid (w1ab.cell? ⟨w.heap.size + 1 + 1 + 1, 6, none⟩ = some (.int .i64 0)) := H3l.out.cell 6
    go_wp2_with fail
    exact bodyPost_ret (v := .tuple #[.agg #[.int .i64 0, .int .i64 0, .int .i64 0, .int .i64 0, .int .i64 0, .int .i64 0, .slice none 0 0], .agg #[.int .i64 0, .int .i64 0, .int .i64 0, .int .i64 0, .int .i64 0, .int .i64 0, .int .i64 0], .int .i64 5]) (by simp [results, Try.results56, Rr0.out, Rr1.out, Rr2.out, Rr3.out, Rr4.out, Rr5.out, Rr6.out, Rl0.out, Rl1.out, Rl2.out, Rl3.out, Rl4.out, Rl5.out, Rl6.out, go_sem]) rfl ⟨ac0, bi0, none, 0, 0, _, rfl, .inl ⟨.inl ⟨HM.out, rfl⟩, rfl, rfl⟩, deb.fresh_nil _ _, H3B.out⟩

end Go.Proofs.Ytfhlokjpdkmdjaa.acc
