/- An allowance, as the document has it. -/
import Derived.Test.YtlolippocnngcaaAcRl
import Derived.Test.YtlolippocnngcaaAcTf
namespace Go.Proofs.Ytlolippocnngcaa.acc
open Go.Proofs.Ytlolippocnngcaa.tar (Du du0 Came RowD Ld PairT)
open Go.RowKit
set_option maxRecDepth 100000
set_option linter.unusedVariables false
set_option linter.unusedSimpArgs false

set_option maxHeartbeats 16000000 in
theorem rgranted (x : Ac) (p : Option Addr) (len cap : Nat) (t : Tm) (pt : Option Addr) (lt ct : Nat) (m : Int) (w : World) (h : RowD w p len x.ds) (hl : len ≤ maxLen) (ht : RowD w pt lt t.ts) (htl : lt ≤ maxLen) : Calls Try.prog 22 #[.agg #[.int .i64 x.me, .int .i64 x.rv, .int .i64 x.nx, .int .i64 x.mo, .int .i64 x.bo, .int .i64 x.fr, .slice p len cap], .agg #[.slice pt lt ct, .int .i64 t.ff, .int .i64 t.fb, .int .i64 t.db, .int .i64 t.al], .int .i64 m] w fun e w' => BPost w (GrantIs x t m) e w' := by
  by_cases hm : AMay x
  · have HM : Hid (AMay x) := hm
    have hnx := hm.2.2.2.1
    have hmo := hm.2.2.2.2.1
    have H0d : Hid (Blk ((((w.alloc (.cells #[.int .i64 x.me, .int .i64 x.rv, .int .i64 x.nx, .int .i64 x.mo, .int .i64 x.bo, .int .i64 x.fr, .slice p len cap] 32)).alloc (.cells #[.slice pt lt ct, .int .i64 t.ff, .int .i64 t.fb, .int .i64 t.db, .int .i64 t.al] 24)).alloc (.cells #[.int .i64 0, .int .i64 0, .int .i64 0, .int .i64 0, .int .i64 0, .int .i64 0, .slice none 0 0] 32)).alloc (.cells #[.int .i64 0, .int .i64 0, .int .i64 0, .int .i64 0, .int .i64 0, .int .i64 0, .int .i64 0] 41)) (w.heap.size) #[.int .i64 x.me, .int .i64 x.rv, .int .i64 x.nx, .int .i64 x.mo, .int .i64 x.bo, .int .i64 x.fr, .slice p len cap] 32) := (((Blk.new w _ _).alloc _).alloc _).alloc _
    have H0t : Hid (Blk ((((w.alloc (.cells #[.int .i64 x.me, .int .i64 x.rv, .int .i64 x.nx, .int .i64 x.mo, .int .i64 x.bo, .int .i64 x.fr, .slice p len cap] 32)).alloc (.cells #[.slice pt lt ct, .int .i64 t.ff, .int .i64 t.fb, .int .i64 t.db, .int .i64 t.al] 24)).alloc (.cells #[.int .i64 0, .int .i64 0, .int .i64 0, .int .i64 0, .int .i64 0, .int .i64 0, .slice none 0 0] 32)).alloc (.cells #[.int .i64 0, .int .i64 0, .int .i64 0, .int .i64 0, .int .i64 0, .int .i64 0, .int .i64 0] 41)) (w.heap.size + 1) #[.slice pt lt ct, .int .i64 t.ff, .int .i64 t.fb, .int .i64 t.db, .int .i64 t.al] 24) := ((Blk.new1 w _ _ _).alloc _).alloc _
    have H0r : Hid (Blk ((((w.alloc (.cells #[.int .i64 x.me, .int .i64 x.rv, .int .i64 x.nx, .int .i64 x.mo, .int .i64 x.bo, .int .i64 x.fr, .slice p len cap] 32)).alloc (.cells #[.slice pt lt ct, .int .i64 t.ff, .int .i64 t.fb, .int .i64 t.db, .int .i64 t.al] 24)).alloc (.cells #[.int .i64 0, .int .i64 0, .int .i64 0, .int .i64 0, .int .i64 0, .int .i64 0, .slice none 0 0] 32)).alloc (.cells #[.int .i64 0, .int .i64 0, .int .i64 0, .int .i64 0, .int .i64 0, .int .i64 0, .int .i64 0] 41)) (w.heap.size + 1 + 1) #[.int .i64 0, .int .i64 0, .int .i64 0, .int .i64 0, .int .i64 0, .int .i64 0, .slice none 0 0] 32) := (Blk.new2 w _ _ _ _).alloc _
    have H0l : Hid (Blk ((((w.alloc (.cells #[.int .i64 x.me, .int .i64 x.rv, .int .i64 x.nx, .int .i64 x.mo, .int .i64 x.bo, .int .i64 x.fr, .slice p len cap] 32)).alloc (.cells #[.slice pt lt ct, .int .i64 t.ff, .int .i64 t.fb, .int .i64 t.db, .int .i64 t.al] 24)).alloc (.cells #[.int .i64 0, .int .i64 0, .int .i64 0, .int .i64 0, .int .i64 0, .int .i64 0, .slice none 0 0] 32)).alloc (.cells #[.int .i64 0, .int .i64 0, .int .i64 0, .int .i64 0, .int .i64 0, .int .i64 0, .int .i64 0] 41)) (w.heap.size + 1 + 1 + 1) #[.int .i64 0, .int .i64 0, .int .i64 0, .int .i64 0, .int .i64 0, .int .i64 0, .int .i64 0] 41) := Blk.new3 w _ _ _ _ _
    have H0B : Hid (Below w.heap.size w ((((w.alloc (.cells #[.int .i64 x.me, .int .i64 x.rv, .int .i64 x.nx, .int .i64 x.mo, .int .i64 x.bo, .int .i64 x.fr, .slice p len cap] 32)).alloc (.cells #[.slice pt lt ct, .int .i64 t.ff, .int .i64 t.fb, .int .i64 t.db, .int .i64 t.al] 24)).alloc (.cells #[.int .i64 0, .int .i64 0, .int .i64 0, .int .i64 0, .int .i64 0, .int .i64 0, .slice none 0 0] 32)).alloc (.cells #[.int .i64 0, .int .i64 0, .int .i64 0, .int .i64 0, .int .i64 0, .int .i64 0, .int .i64 0] 41))) := ((((Below.refl w.heap.size w).alloc (by simp) _).alloc (by simp) _).alloc (by simp; omega) _).alloc (by simp; omega) _
    have H0R : Hid (RowD ((((w.alloc (.cells #[.int .i64 x.me, .int .i64 x.rv, .int .i64 x.nx, .int .i64 x.mo, .int .i64 x.bo, .int .i64 x.fr, .slice p len cap] 32)).alloc (.cells #[.slice pt lt ct, .int .i64 t.ff, .int .i64 t.fb, .int .i64 t.db, .int .i64 t.al] 24)).alloc (.cells #[.int .i64 0, .int .i64 0, .int .i64 0, .int .i64 0, .int .i64 0, .int .i64 0, .slice none 0 0] 32)).alloc (.cells #[.int .i64 0, .int .i64 0, .int .i64 0, .int .i64 0, .int .i64 0, .int .i64 0, .int .i64 0] 41)) p len x.ds) := h.below H0B.out
    have H0T : Hid (RowD ((((w.alloc (.cells #[.int .i64 x.me, .int .i64 x.rv, .int .i64 x.nx, .int .i64 x.mo, .int .i64 x.bo, .int .i64 x.fr, .slice p len cap] 32)).alloc (.cells #[.slice pt lt ct, .int .i64 t.ff, .int .i64 t.fb, .int .i64 t.db, .int .i64 t.al] 24)).alloc (.cells #[.int .i64 0, .int .i64 0, .int .i64 0, .int .i64 0, .int .i64 0, .int .i64 0, .slice none 0 0] 32)).alloc (.cells #[.int .i64 0, .int .i64 0, .int .i64 0, .int .i64 0, .int .i64 0, .int .i64 0, .int .i64 0] 41)) pt lt t.ts) := ht.below H0B.out
    have hs0 : w.heap.size + 1 + 1 + 1 < ((((w.alloc (.cells #[.int .i64 x.me, .int .i64 x.rv, .int .i64 x.nx, .int .i64 x.mo, .int .i64 x.bo, .int .i64 x.fr, .slice p len cap] 32)).alloc (.cells #[.slice pt lt ct, .int .i64 t.ff, .int .i64 t.fb, .int .i64 t.db, .int .i64 t.al] 24)).alloc (.cells #[.int .i64 0, .int .i64 0, .int .i64 0, .int .i64 0, .int .i64 0, .int .i64 0, .slice none 0 0] 32)).alloc (.cells #[.int .i64 0, .int .i64 0, .int .i64 0, .int .i64 0, .int .i64 0, .int .i64 0, .int .i64 0] 41)).heap.size := H0l.out.lt
    generalize hWW : ((((w.alloc (.cells #[.int .i64 x.me, .int .i64 x.rv, .int .i64 x.nx, .int .i64 x.mo, .int .i64 x.bo, .int .i64 x.fr, .slice p len cap] 32)).alloc (.cells #[.slice pt lt ct, .int .i64 t.ff, .int .i64 t.fb, .int .i64 t.db, .int .i64 t.al] 24)).alloc (.cells #[.int .i64 0, .int .i64 0, .int .i64 0, .int .i64 0, .int .i64 0, .int .i64 0, .slice none 0 0] 32)).alloc (.cells #[.int .i64 0, .int .i64 0, .int .i64 0, .int .i64 0, .int .i64 0, .int .i64 0, .int .i64 0] 41)) = W0 at *
    have HWW : Hid (((((w.alloc (.cells #[.int .i64 x.me, .int .i64 x.rv, .int .i64 x.nx, .int .i64 x.mo, .int .i64 x.bo, .int .i64 x.fr, .slice p len cap] 32)).alloc (.cells #[.slice pt lt ct, .int .i64 t.ff, .int .i64 t.fb, .int .i64 t.db, .int .i64 t.al] 24)).alloc (.cells #[.int .i64 0, .int .i64 0, .int .i64 0, .int .i64 0, .int .i64 0, .int .i64 0, .slice none 0 0] 32)).alloc (.cells #[.int .i64 0, .int .i64 0, .int .i64 0, .int .i64 0, .int .i64 0, .int .i64 0, .int .i64 0] 41)) = W0) := hWW
    clear hWW
    go_enter Try.func22, Try.ntmps22
    go_upto_region 1 with fail
    rw [HWW.out]
    clear HWW
    have HAM : Hid (Calls Try.prog 37 #[.agg #[.int .i64 x.me, .int .i64 x.rv, .int .i64 x.nx, .int .i64 x.mo, .int .i64 x.bo, .int .i64 x.fr, .slice p len cap]] W0 fun e w' => e = .returned (.bool true) ∧ Below W0.heap.size W0 w') := ramay x p len cap _ H0R.out hl hm
    go_wp2_with (first
      | (refine wp_whole rfl 32 _ rfl (w.heap.size) rfl 32 #[.int .i64 x.me, .int .i64 x.rv, .int .i64 x.nx, .int .i64 x.mo, .int .i64 x.bo, .int .i64 x.fr, .slice p len cap] _ H0d.out Try.underlying32 rfl (by kernel_rfl) ?_)
      | (refine wp_whole rfl 24 _ rfl (w.heap.size + 1) rfl 24 #[.slice pt lt ct, .int .i64 t.ff, .int .i64 t.fb, .int .i64 t.db, .int .i64 t.al] _ H0t.out Try.underlying24 rfl (by kernel_rfl) ?_)
      | (refine wp_whole rfl 32 _ rfl (w.heap.size + 1 + 1) rfl 32 #[.int .i64 0, .int .i64 0, .int .i64 0, .int .i64 0, .int .i64 0, .int .i64 0, .slice none 0 0] _ H0r.out Try.underlying32 rfl (by kernel_rfl) ?_)
      | (refine wp_whole rfl 41 _ rfl (w.heap.size + 1 + 1 + 1) rfl 41 #[.int .i64 0, .int .i64 0, .int .i64 0, .int .i64 0, .int .i64 0, .int .i64 0, .int .i64 0] _ H0l.out Try.underlying41 rfl (by kernel_rfl) ?_)
      | fail)
    refine HAM.out.mono ?_
    rintro e w1 ⟨rfl, hb1⟩
    have H1d : Hid (Blk w1 (w.heap.size) #[.int .i64 x.me, .int .i64 x.rv, .int .i64 x.nx, .int .i64 x.mo, .int .i64 x.bo, .int .i64 x.fr, .slice p len cap] 32) := H0d.out.next hb1
    have H1t : Hid (Blk w1 (w.heap.size + 1) #[.slice pt lt ct, .int .i64 t.ff, .int .i64 t.fb, .int .i64 t.db, .int .i64 t.al] 24) := H0t.out.next hb1
    have H1r : Hid (Blk w1 (w.heap.size + 1 + 1) #[.int .i64 0, .int .i64 0, .int .i64 0, .int .i64 0, .int .i64 0, .int .i64 0, .slice none 0 0] 32) := H0r.out.next hb1
    have H1l : Hid (Blk w1 (w.heap.size + 1 + 1 + 1) #[.int .i64 0, .int .i64 0, .int .i64 0, .int .i64 0, .int .i64 0, .int .i64 0, .int .i64 0] 41) := H0l.out.next hb1
    have H1R : Hid (RowD w1 p len x.ds) := H0R.out.below hb1
    have H1T : Hid (RowD w1 pt lt t.ts) := H0T.out.below hb1
    have H1B : Hid (Below w.heap.size w w1) := H0B.out.trans (hb1.mono H0B.out.size)
    have hsw1 : W0.heap.size ≤ w1.heap.size := hb1.size
    clear hb1 H0d H0t H0r H0l H0R H0T H0B
    clear HAM
    clear hm
    have HTF : Hid (Calls Try.prog 11 #[.agg #[.slice pt lt ct, .int .i64 t.ff, .int .i64 t.fb, .int .i64 t.db, .int .i64 t.al]] w1 fun e w' => tar.ErrPost w1 (TFault t) e w') := rterms t pt lt ct w1 H1T.out htl
    go_wp2_with (first
      | (refine wp_whole rfl 32 _ rfl (w.heap.size) rfl 32 #[.int .i64 x.me, .int .i64 x.rv, .int .i64 x.nx, .int .i64 x.mo, .int .i64 x.bo, .int .i64 x.fr, .slice p len cap] _ H1d.out Try.underlying32 rfl (by kernel_rfl) ?_)
      | (refine wp_whole rfl 24 _ rfl (w.heap.size + 1) rfl 24 #[.slice pt lt ct, .int .i64 t.ff, .int .i64 t.fb, .int .i64 t.db, .int .i64 t.al] _ H1t.out Try.underlying24 rfl (by kernel_rfl) ?_)
      | (refine wp_whole rfl 32 _ rfl (w.heap.size + 1 + 1) rfl 32 #[.int .i64 0, .int .i64 0, .int .i64 0, .int .i64 0, .int .i64 0, .int .i64 0, .slice none 0 0] _ H1r.out Try.underlying32 rfl (by kernel_rfl) ?_)
      | (refine wp_whole rfl 41 _ rfl (w.heap.size + 1 + 1 + 1) rfl 41 #[.int .i64 0, .int .i64 0, .int .i64 0, .int .i64 0, .int .i64 0, .int .i64 0, .int .i64 0] _ H1l.out Try.underlying41 rfl (by kernel_rfl) ?_)
      | fail)
    refine HTF.out.mono ?_
    rintro e w2 ⟨ft, rfl, hft, hb2⟩
    have H2d : Hid (Blk w2 (w.heap.size) #[.int .i64 x.me, .int .i64 x.rv, .int .i64 x.nx, .int .i64 x.mo, .int .i64 x.bo, .int .i64 x.fr, .slice p len cap] 32) := H1d.out.next hb2
    have H2t : Hid (Blk w2 (w.heap.size + 1) #[.slice pt lt ct, .int .i64 t.ff, .int .i64 t.fb, .int .i64 t.db, .int .i64 t.al] 24) := H1t.out.next hb2
    have H2r : Hid (Blk w2 (w.heap.size + 1 + 1) #[.int .i64 0, .int .i64 0, .int .i64 0, .int .i64 0, .int .i64 0, .int .i64 0, .slice none 0 0] 32) := H1r.out.next hb2
    have H2l : Hid (Blk w2 (w.heap.size + 1 + 1 + 1) #[.int .i64 0, .int .i64 0, .int .i64 0, .int .i64 0, .int .i64 0, .int .i64 0, .int .i64 0] 41) := H1l.out.next hb2
    have H2R : Hid (RowD w2 p len x.ds) := H1R.out.below hb2
    have H2T : Hid (RowD w2 pt lt t.ts) := H1T.out.below hb2
    have H2B : Hid (Below w.heap.size w w2) := H1B.out.trans (hb2.mono H1B.out.size)
    have hsw2 : w1.heap.size ≤ w2.heap.size := hb2.size
    clear hb2 H1d H1t H1r H1l H1R H1T H1B
    clear HTF
    by_cases h0 : ft = 0
    · subst h0
      have HT : Hid (TRight t) := hft.ok.1 rfl
      clear hft
      have HRO : Hid (Calls Try.prog 18 #[.agg #[.int .i64 x.me, .int .i64 x.rv, .int .i64 x.nx, .int .i64 x.mo, .int .i64 x.bo, .int .i64 x.fr, .slice p len cap], .int .i64 m] w2 fun e w' => APost w2 (RollIs x m) e w') := rrolled x p len cap m w2 H2R.out hl
      go_wp2_with (first
        | (refine wp_whole rfl 32 _ rfl (w.heap.size) rfl 32 #[.int .i64 x.me, .int .i64 x.rv, .int .i64 x.nx, .int .i64 x.mo, .int .i64 x.bo, .int .i64 x.fr, .slice p len cap] _ H2d.out Try.underlying32 rfl (by kernel_rfl) ?_)
        | (refine wp_whole rfl 24 _ rfl (w.heap.size + 1) rfl 24 #[.slice pt lt ct, .int .i64 t.ff, .int .i64 t.fb, .int .i64 t.db, .int .i64 t.al] _ H2t.out Try.underlying24 rfl (by kernel_rfl) ?_)
        | (refine wp_whole rfl 32 _ rfl (w.heap.size + 1 + 1) rfl 32 #[.int .i64 0, .int .i64 0, .int .i64 0, .int .i64 0, .int .i64 0, .int .i64 0, .slice none 0 0] _ H2r.out Try.underlying32 rfl (by kernel_rfl) ?_)
        | (refine wp_whole rfl 41 _ rfl (w.heap.size + 1 + 1 + 1) rfl 41 #[.int .i64 0, .int .i64 0, .int .i64 0, .int .i64 0, .int .i64 0, .int .i64 0, .int .i64 0] _ H2l.out Try.underlying41 rfl (by kernel_rfl) ?_)
        | fail)
      refine HRO.out.mono ?_
      rintro e w3 ⟨b, pr, lr, cr, fr, rfl, hi3, hf3, hb3⟩
      have H3d : Hid (Blk w3 (w.heap.size) #[.int .i64 x.me, .int .i64 x.rv, .int .i64 x.nx, .int .i64 x.mo, .int .i64 x.bo, .int .i64 x.fr, .slice p len cap] 32) := H2d.out.next hb3
      have H3t : Hid (Blk w3 (w.heap.size + 1) #[.slice pt lt ct, .int .i64 t.ff, .int .i64 t.fb, .int .i64 t.db, .int .i64 t.al] 24) := H2t.out.next hb3
      have H3r : Hid (Blk w3 (w.heap.size + 1 + 1) #[.int .i64 0, .int .i64 0, .int .i64 0, .int .i64 0, .int .i64 0, .int .i64 0, .slice none 0 0] 32) := H2r.out.next hb3
      have H3l : Hid (Blk w3 (w.heap.size + 1 + 1 + 1) #[.int .i64 0, .int .i64 0, .int .i64 0, .int .i64 0, .int .i64 0, .int .i64 0, .int .i64 0] 41) := H2l.out.next hb3
      have H3R : Hid (RowD w3 p len x.ds) := H2R.out.below hb3
      have H3T : Hid (RowD w3 pt lt t.ts) := H2T.out.below hb3
      have H3B : Hid (Below w.heap.size w w3) := H2B.out.trans (hb3.mono H2B.out.size)
      have hsw3 : w2.heap.size ≤ w3.heap.size := hb3.size
      clear hb3 H2d H2t H2r H2l H2R H2T H2B
      unfold Ac.v Ac.cs
      clear HRO
      have H4F : Hid (deb.Fresh w3 w2.heap.size pr lr cr b.ds) := hf3
      have HUPF : Hid (0 < lr → ∀ y, pr = some y → y.block < w3.heap.size) := came_lt H4F.out.came
      clear hf3
      by_cases h4 : fr = 0
      · subst h4
        have hrm : RMay x m ∧ b = rolled x m := by
          rcases hi3 with ⟨q, _⟩ | ⟨_, _, q, _⟩ | ⟨_, q, r, _⟩
          · exact absurd HM.out q
          · exact absurd rfl q.ne
          · exact ⟨q, r⟩
        have HRY : Hid (Ready x t m) := ⟨HM.out, HT.out, hrm.1⟩
        have HBR : Hid (b = rolled x m) := hrm.2
        have hbs := rolled_same x m
        rw [← hrm.2] at hbs
        have hbo := (rolled_may HM.out hrm.1).2.2.2.2.2.1
        rw [← hrm.2] at hbo
        have HBS : Hid (b.me = x.me ∧ b.rv = x.rv ∧ b.nx = x.nx ∧ b.mo = m ∧ b.fr = x.fr) := hbs
        clear hrm hi3 hbs
        have H5d : Hid (Blk (w3.alloc (.cells #[.int .i64 b.me, .int .i64 b.rv, .int .i64 b.nx, .int .i64 b.mo, .int .i64 b.bo, .int .i64 b.fr, .slice pr lr cr] 32)) (w.heap.size) #[.int .i64 x.me, .int .i64 x.rv, .int .i64 x.nx, .int .i64 x.mo, .int .i64 x.bo, .int .i64 x.fr, .slice p len cap] 32) := H3d.out.alloc _
        have H5t : Hid (Blk (w3.alloc (.cells #[.int .i64 b.me, .int .i64 b.rv, .int .i64 b.nx, .int .i64 b.mo, .int .i64 b.bo, .int .i64 b.fr, .slice pr lr cr] 32)) (w.heap.size + 1) #[.slice pt lt ct, .int .i64 t.ff, .int .i64 t.fb, .int .i64 t.db, .int .i64 t.al] 24) := H3t.out.alloc _
        have H5r : Hid (Blk (w3.alloc (.cells #[.int .i64 b.me, .int .i64 b.rv, .int .i64 b.nx, .int .i64 b.mo, .int .i64 b.bo, .int .i64 b.fr, .slice pr lr cr] 32)) (w.heap.size + 1 + 1) #[.int .i64 0, .int .i64 0, .int .i64 0, .int .i64 0, .int .i64 0, .int .i64 0, .slice none 0 0] 32) := H3r.out.alloc _
        have H5l : Hid (Blk (w3.alloc (.cells #[.int .i64 b.me, .int .i64 b.rv, .int .i64 b.nx, .int .i64 b.mo, .int .i64 b.bo, .int .i64 b.fr, .slice pr lr cr] 32)) (w.heap.size + 1 + 1 + 1) #[.int .i64 0, .int .i64 0, .int .i64 0, .int .i64 0, .int .i64 0, .int .i64 0, .int .i64 0] 41) := H3l.out.alloc _
        have H5R : Hid (RowD (w3.alloc (.cells #[.int .i64 b.me, .int .i64 b.rv, .int .i64 b.nx, .int .i64 b.mo, .int .i64 b.bo, .int .i64 b.fr, .slice pr lr cr] 32)) p len x.ds) := H3R.out.below ((Below.refl w3.heap.size w3).alloc (Nat.le_refl _) _)
        have H5T : Hid (RowD (w3.alloc (.cells #[.int .i64 b.me, .int .i64 b.rv, .int .i64 b.nx, .int .i64 b.mo, .int .i64 b.bo, .int .i64 b.fr, .slice pr lr cr] 32)) pt lt t.ts) := H3T.out.below ((Below.refl w3.heap.size w3).alloc (Nat.le_refl _) _)
        have H5F : Hid (deb.Fresh (w3.alloc (.cells #[.int .i64 b.me, .int .i64 b.rv, .int .i64 b.nx, .int .i64 b.mo, .int .i64 b.bo, .int .i64 b.fr, .slice pr lr cr] 32)) w2.heap.size pr lr cr b.ds) := H4F.out.below ((Below.refl w3.heap.size w3).alloc (Nat.le_refl _) _)
        have H5n : Hid (Blk (w3.alloc (.cells #[.int .i64 b.me, .int .i64 b.rv, .int .i64 b.nx, .int .i64 b.mo, .int .i64 b.bo, .int .i64 b.fr, .slice pr lr cr] 32)) w3.heap.size #[.int .i64 b.me, .int .i64 b.rv, .int .i64 b.nx, .int .i64 b.mo, .int .i64 b.bo, .int .i64 b.fr, .slice pr lr cr] 32) := Blk.new w3 _ _
        have H5B : Hid (Below w.heap.size w (w3.alloc (.cells #[.int .i64 b.me, .int .i64 b.rv, .int .i64 b.nx, .int .i64 b.mo, .int .i64 b.bo, .int .i64 b.fr, .slice pr lr cr] 32))) := H3B.out.alloc H3B.out.size _
        have hsW4 : w3.heap.size < (w3.alloc (.cells #[.int .i64 b.me, .int .i64 b.rv, .int .i64 b.nx, .int .i64 b.mo, .int .i64 b.bo, .int .i64 b.fr, .slice pr lr cr] 32)).heap.size := (Blk.new w3 #[.int .i64 b.me, .int .i64 b.rv, .int .i64 b.nx, .int .i64 b.mo, .int .i64 b.bo, .int .i64 b.fr, .slice pr lr cr] 32).lt
        clear H3d H3t H3r H3l H3R H3T H4F H3B
        go_upto_region 7 with fail
        generalize (w3.alloc (.cells #[.int .i64 b.me, .int .i64 b.rv, .int .i64 b.nx, .int .i64 b.mo, .int .i64 b.bo, .int .i64 b.fr, .slice pr lr cr] 32)) = W4 at *
        by_cases h5 : t.al = 0
        · have d5 : (t.al == 0) = true := by simpa using h5
          have HV : Hid (GrantIs x t m ac0 bi0 22) := .inr (.inl ⟨HRY.out, h5, rfl, rfl, rfl⟩)
          clear h5
          have qt4 : W4.cell? ⟨w.heap.size + 1, 4, none⟩ = some (.int .i64 t.al) := H5t.out.cell 4
          go_wp2_with (first
            | (refine wp_letAll rfl 32 _ _ rfl (w.heap.size + 1 + 1) rfl #[.int .i64 0, .int .i64 0, .int .i64 0, .int .i64 0, .int .i64 0, .int .i64 0, .slice none 0 0] rfl (by kernel_rfl) (by simp [Value.oneCell']) #[.int .i64 0, .int .i64 0, .int .i64 0, .int .i64 0, .int .i64 0, .int .i64 0, .slice none 0 0] 32 H5r.out rfl ?_)
            | (refine wp_whole rfl 32 _ rfl (w.heap.size) rfl 32 #[.int .i64 x.me, .int .i64 x.rv, .int .i64 x.nx, .int .i64 x.mo, .int .i64 x.bo, .int .i64 x.fr, .slice p len cap] _ H5d.out Try.underlying32 rfl (by kernel_rfl) ?_)
            | (refine wp_whole rfl 24 _ rfl (w.heap.size + 1) rfl 24 #[.slice pt lt ct, .int .i64 t.ff, .int .i64 t.fb, .int .i64 t.db, .int .i64 t.al] _ H5t.out Try.underlying24 rfl (by kernel_rfl) ?_)
            | (refine wp_whole rfl 32 _ rfl (w.heap.size + 1 + 1) rfl 32 #[.int .i64 0, .int .i64 0, .int .i64 0, .int .i64 0, .int .i64 0, .int .i64 0, .slice none 0 0] _ H5r.out Try.underlying32 rfl (by kernel_rfl) ?_)
            | (refine wp_whole rfl 41 _ rfl (w.heap.size + 1 + 1 + 1) rfl 41 #[.int .i64 0, .int .i64 0, .int .i64 0, .int .i64 0, .int .i64 0, .int .i64 0, .int .i64 0] _ H5l.out Try.underlying41 rfl (by kernel_rfl) ?_)
            | (refine wp_whole rfl 32 _ rfl (w3.heap.size) rfl 32 #[.int .i64 b.me, .int .i64 b.rv, .int .i64 b.nx, .int .i64 b.mo, .int .i64 b.bo, .int .i64 b.fr, .slice pr lr cr] _ H5n.out Try.underlying32 rfl (by kernel_rfl) ?_)
            | fail)
          intro W4a hU
          have H6d : Hid (Blk W4a (w.heap.size) #[.int .i64 x.me, .int .i64 x.rv, .int .i64 x.nx, .int .i64 x.mo, .int .i64 x.bo, .int .i64 x.fr, .slice p len cap] 32) := hU.keep H5d.out (by omega)
          have H6t : Hid (Blk W4a (w.heap.size + 1) #[.slice pt lt ct, .int .i64 t.ff, .int .i64 t.fb, .int .i64 t.db, .int .i64 t.al] 24) := hU.keep H5t.out (by omega)
          have H6r : Hid (Blk W4a (w.heap.size + 1 + 1) #[.int .i64 0, .int .i64 0, .int .i64 0, .int .i64 0, .int .i64 0, .int .i64 0, .slice none 0 0] 32) := hU.blk
          have H6l : Hid (Blk W4a (w.heap.size + 1 + 1 + 1) #[.int .i64 0, .int .i64 0, .int .i64 0, .int .i64 0, .int .i64 0, .int .i64 0, .int .i64 0] 41) := hU.keep H5l.out (by omega)
          have H6n : Hid (Blk W4a (w3.heap.size) #[.int .i64 b.me, .int .i64 b.rv, .int .i64 b.nx, .int .i64 b.mo, .int .i64 b.bo, .int .i64 b.fr, .slice pr lr cr] 32) := hU.keep H5n.out (by omega)
          have H6F : Hid (deb.Fresh W4a w2.heap.size pr lr cr b.ds) := fresh_updN H5F.out hU (fun hn y hy => by have f1 := H5F.out.new hn y hy; have f2 := HUPF.out hn y hy; omega)
          have H6B : Hid (Below w.heap.size w W4a) := hU.bel _ _ (by omega) H5B.out
          have hsW4a : W4a.heap.size = W4.heap.size := hU.size
          clear hU H5d H5t H5r H5l H5n H5R H5T H5F H5B
          go_wp2_with (first
            | (refine wp_letAll rfl 41 _ _ rfl (w.heap.size + 1 + 1 + 1) rfl #[.int .i64 0, .int .i64 0, .int .i64 0, .int .i64 0, .int .i64 0, .int .i64 0, .int .i64 0] rfl (by kernel_rfl) (by simp [Value.oneCell']) #[.int .i64 0, .int .i64 0, .int .i64 0, .int .i64 0, .int .i64 0, .int .i64 0, .int .i64 0] 41 H6l.out rfl ?_)
            | (refine wp_whole rfl 32 _ rfl (w.heap.size) rfl 32 #[.int .i64 x.me, .int .i64 x.rv, .int .i64 x.nx, .int .i64 x.mo, .int .i64 x.bo, .int .i64 x.fr, .slice p len cap] _ H6d.out Try.underlying32 rfl (by kernel_rfl) ?_)
            | (refine wp_whole rfl 24 _ rfl (w.heap.size + 1) rfl 24 #[.slice pt lt ct, .int .i64 t.ff, .int .i64 t.fb, .int .i64 t.db, .int .i64 t.al] _ H6t.out Try.underlying24 rfl (by kernel_rfl) ?_)
            | (refine wp_whole rfl 32 _ rfl (w.heap.size + 1 + 1) rfl 32 #[.int .i64 0, .int .i64 0, .int .i64 0, .int .i64 0, .int .i64 0, .int .i64 0, .slice none 0 0] _ H6r.out Try.underlying32 rfl (by kernel_rfl) ?_)
            | (refine wp_whole rfl 41 _ rfl (w.heap.size + 1 + 1 + 1) rfl 41 #[.int .i64 0, .int .i64 0, .int .i64 0, .int .i64 0, .int .i64 0, .int .i64 0, .int .i64 0] _ H6l.out Try.underlying41 rfl (by kernel_rfl) ?_)
            | (refine wp_whole rfl 32 _ rfl (w3.heap.size) rfl 32 #[.int .i64 b.me, .int .i64 b.rv, .int .i64 b.nx, .int .i64 b.mo, .int .i64 b.bo, .int .i64 b.fr, .slice pr lr cr] _ H6n.out Try.underlying32 rfl (by kernel_rfl) ?_)
            | fail)
          intro W4ab hU
          have H7d : Hid (Blk W4ab (w.heap.size) #[.int .i64 x.me, .int .i64 x.rv, .int .i64 x.nx, .int .i64 x.mo, .int .i64 x.bo, .int .i64 x.fr, .slice p len cap] 32) := hU.keep H6d.out (by omega)
          have H7t : Hid (Blk W4ab (w.heap.size + 1) #[.slice pt lt ct, .int .i64 t.ff, .int .i64 t.fb, .int .i64 t.db, .int .i64 t.al] 24) := hU.keep H6t.out (by omega)
          have H7r : Hid (Blk W4ab (w.heap.size + 1 + 1) #[.int .i64 0, .int .i64 0, .int .i64 0, .int .i64 0, .int .i64 0, .int .i64 0, .slice none 0 0] 32) := hU.keep H6r.out (by omega)
          have H7l : Hid (Blk W4ab (w.heap.size + 1 + 1 + 1) #[.int .i64 0, .int .i64 0, .int .i64 0, .int .i64 0, .int .i64 0, .int .i64 0, .int .i64 0] 41) := hU.blk
          have H7n : Hid (Blk W4ab (w3.heap.size) #[.int .i64 b.me, .int .i64 b.rv, .int .i64 b.nx, .int .i64 b.mo, .int .i64 b.bo, .int .i64 b.fr, .slice pr lr cr] 32) := hU.keep H6n.out (by omega)
          have H7F : Hid (deb.Fresh W4ab w2.heap.size pr lr cr b.ds) := fresh_updN H6F.out hU (fun hn y hy => by have f1 := H6F.out.new hn y hy; have f2 := HUPF.out hn y hy; omega)
          have H7B : Hid (Below w.heap.size w W4ab) := hU.bel _ _ (by omega) H6B.out
          have hsW4ab : W4ab.heap.size = W4a.heap.size := hU.size
          clear hU H6d H6t H6r H6l H6n H6F H6B
          have Rr0 : Hid (W4ab.cell? ⟨w.heap.size + 1 + 1, 0, none⟩ = some (.int .i64 0)) := H7r.out.cell 0
          have Rr1 : Hid (W4ab.cell? ⟨w.heap.size + 1 + 1, 1, none⟩ = some (.int .i64 0)) := H7r.out.cell 1
          have Rr2 : Hid (W4ab.cell? ⟨w.heap.size + 1 + 1, 2, none⟩ = some (.int .i64 0)) := H7r.out.cell 2
          have Rr3 : Hid (W4ab.cell? ⟨w.heap.size + 1 + 1, 3, none⟩ = some (.int .i64 0)) := H7r.out.cell 3
          have Rr4 : Hid (W4ab.cell? ⟨w.heap.size + 1 + 1, 4, none⟩ = some (.int .i64 0)) := H7r.out.cell 4
          have Rr5 : Hid (W4ab.cell? ⟨w.heap.size + 1 + 1, 5, none⟩ = some (.int .i64 0)) := H7r.out.cell 5
          have Rr6 : Hid (W4ab.cell? ⟨w.heap.size + 1 + 1, 6, none⟩ = some (.slice none 0 0)) := H7r.out.cell 6
          have Rl0 : Hid (W4ab.cell? ⟨w.heap.size + 1 + 1 + 1, 0, none⟩ = some (.int .i64 0)) := H7l.out.cell 0
          have Rl1 : Hid (W4ab.cell? ⟨w.heap.size + 1 + 1 + 1, 1, none⟩ = some (.int .i64 0)) := H7l.out.cell 1
          have Rl2 : Hid (W4ab.cell? ⟨w.heap.size + 1 + 1 + 1, 2, none⟩ = some (.int .i64 0)) := H7l.out.cell 2
          have Rl3 : Hid (W4ab.cell? ⟨w.heap.size + 1 + 1 + 1, 3, none⟩ = some (.int .i64 0)) := H7l.out.cell 3
          have Rl4 : Hid (W4ab.cell? ⟨w.heap.size + 1 + 1 + 1, 4, none⟩ = some (.int .i64 0)) := H7l.out.cell 4
          have Rl5 : Hid (W4ab.cell? ⟨w.heap.size + 1 + 1 + 1, 5, none⟩ = some (.int .i64 0)) := H7l.out.cell 5
          have Rl6 : Hid (W4ab.cell? ⟨w.heap.size + 1 + 1 + 1, 6, none⟩ = some (.int .i64 0)) := H7l.out.cell 6
          go_wp2_with fail
          exact bodyPost_ret (v := .tuple #[.agg #[.int .i64 0, .int .i64 0, .int .i64 0, .int .i64 0, .int .i64 0, .int .i64 0, .slice none 0 0], .agg #[.int .i64 0, .int .i64 0, .int .i64 0, .int .i64 0, .int .i64 0, .int .i64 0, .int .i64 0], .int .i64 22]) (by simp [results, Try.results22, Rr0.out, Rr1.out, Rr2.out, Rr3.out, Rr4.out, Rr5.out, Rr6.out, Rl0.out, Rl1.out, Rl2.out, Rl3.out, Rl4.out, Rl5.out, Rl6.out, go_sem]) rfl ⟨ac0, bi0, none, 0, 0, _, rfl, HV.out, deb.fresh_nil _ _, H7B.out⟩
        · have d5 : (t.al == 0) = false := by simpa using h5
          by_cases h6 : x.fr = m
          · have d6 : (x.fr == m) = true := by simpa using h6
            have HV : Hid (GrantIs x t m ac0 bi0 21) := .inr (.inr (.inl ⟨HRY.out, h5, h6, rfl, rfl, rfl⟩))
            clear h5 h6
            have qt4 : W4.cell? ⟨w.heap.size + 1, 4, none⟩ = some (.int .i64 t.al) := H5t.out.cell 4
            have qd5 : W4.cell? ⟨w.heap.size, 5, none⟩ = some (.int .i64 x.fr) := H5d.out.cell 5
            go_wp2_with (first
              | (refine wp_letAll rfl 32 _ _ rfl (w.heap.size + 1 + 1) rfl #[.int .i64 0, .int .i64 0, .int .i64 0, .int .i64 0, .int .i64 0, .int .i64 0, .slice none 0 0] rfl (by kernel_rfl) (by simp [Value.oneCell']) #[.int .i64 0, .int .i64 0, .int .i64 0, .int .i64 0, .int .i64 0, .int .i64 0, .slice none 0 0] 32 H5r.out rfl ?_)
              | (refine wp_whole rfl 32 _ rfl (w.heap.size) rfl 32 #[.int .i64 x.me, .int .i64 x.rv, .int .i64 x.nx, .int .i64 x.mo, .int .i64 x.bo, .int .i64 x.fr, .slice p len cap] _ H5d.out Try.underlying32 rfl (by kernel_rfl) ?_)
              | (refine wp_whole rfl 24 _ rfl (w.heap.size + 1) rfl 24 #[.slice pt lt ct, .int .i64 t.ff, .int .i64 t.fb, .int .i64 t.db, .int .i64 t.al] _ H5t.out Try.underlying24 rfl (by kernel_rfl) ?_)
              | (refine wp_whole rfl 32 _ rfl (w.heap.size + 1 + 1) rfl 32 #[.int .i64 0, .int .i64 0, .int .i64 0, .int .i64 0, .int .i64 0, .int .i64 0, .slice none 0 0] _ H5r.out Try.underlying32 rfl (by kernel_rfl) ?_)
              | (refine wp_whole rfl 41 _ rfl (w.heap.size + 1 + 1 + 1) rfl 41 #[.int .i64 0, .int .i64 0, .int .i64 0, .int .i64 0, .int .i64 0, .int .i64 0, .int .i64 0] _ H5l.out Try.underlying41 rfl (by kernel_rfl) ?_)
              | (refine wp_whole rfl 32 _ rfl (w3.heap.size) rfl 32 #[.int .i64 b.me, .int .i64 b.rv, .int .i64 b.nx, .int .i64 b.mo, .int .i64 b.bo, .int .i64 b.fr, .slice pr lr cr] _ H5n.out Try.underlying32 rfl (by kernel_rfl) ?_)
              | fail)
            intro W4a hU
            have H6d : Hid (Blk W4a (w.heap.size) #[.int .i64 x.me, .int .i64 x.rv, .int .i64 x.nx, .int .i64 x.mo, .int .i64 x.bo, .int .i64 x.fr, .slice p len cap] 32) := hU.keep H5d.out (by omega)
            have H6t : Hid (Blk W4a (w.heap.size + 1) #[.slice pt lt ct, .int .i64 t.ff, .int .i64 t.fb, .int .i64 t.db, .int .i64 t.al] 24) := hU.keep H5t.out (by omega)
            have H6r : Hid (Blk W4a (w.heap.size + 1 + 1) #[.int .i64 0, .int .i64 0, .int .i64 0, .int .i64 0, .int .i64 0, .int .i64 0, .slice none 0 0] 32) := hU.blk
            have H6l : Hid (Blk W4a (w.heap.size + 1 + 1 + 1) #[.int .i64 0, .int .i64 0, .int .i64 0, .int .i64 0, .int .i64 0, .int .i64 0, .int .i64 0] 41) := hU.keep H5l.out (by omega)
            have H6n : Hid (Blk W4a (w3.heap.size) #[.int .i64 b.me, .int .i64 b.rv, .int .i64 b.nx, .int .i64 b.mo, .int .i64 b.bo, .int .i64 b.fr, .slice pr lr cr] 32) := hU.keep H5n.out (by omega)
            have H6F : Hid (deb.Fresh W4a w2.heap.size pr lr cr b.ds) := fresh_updN H5F.out hU (fun hn y hy => by have f1 := H5F.out.new hn y hy; have f2 := HUPF.out hn y hy; omega)
            have H6B : Hid (Below w.heap.size w W4a) := hU.bel _ _ (by omega) H5B.out
            have hsW4a : W4a.heap.size = W4.heap.size := hU.size
            clear hU H5d H5t H5r H5l H5n H5R H5T H5F H5B
            go_wp2_with (first
              | (refine wp_letAll rfl 41 _ _ rfl (w.heap.size + 1 + 1 + 1) rfl #[.int .i64 0, .int .i64 0, .int .i64 0, .int .i64 0, .int .i64 0, .int .i64 0, .int .i64 0] rfl (by kernel_rfl) (by simp [Value.oneCell']) #[.int .i64 0, .int .i64 0, .int .i64 0, .int .i64 0, .int .i64 0, .int .i64 0, .int .i64 0] 41 H6l.out rfl ?_)
              | (refine wp_whole rfl 32 _ rfl (w.heap.size) rfl 32 #[.int .i64 x.me, .int .i64 x.rv, .int .i64 x.nx, .int .i64 x.mo, .int .i64 x.bo, .int .i64 x.fr, .slice p len cap] _ H6d.out Try.underlying32 rfl (by kernel_rfl) ?_)
              | (refine wp_whole rfl 24 _ rfl (w.heap.size + 1) rfl 24 #[.slice pt lt ct, .int .i64 t.ff, .int .i64 t.fb, .int .i64 t.db, .int .i64 t.al] _ H6t.out Try.underlying24 rfl (by kernel_rfl) ?_)
              | (refine wp_whole rfl 32 _ rfl (w.heap.size + 1 + 1) rfl 32 #[.int .i64 0, .int .i64 0, .int .i64 0, .int .i64 0, .int .i64 0, .int .i64 0, .slice none 0 0] _ H6r.out Try.underlying32 rfl (by kernel_rfl) ?_)
              | (refine wp_whole rfl 41 _ rfl (w.heap.size + 1 + 1 + 1) rfl 41 #[.int .i64 0, .int .i64 0, .int .i64 0, .int .i64 0, .int .i64 0, .int .i64 0, .int .i64 0] _ H6l.out Try.underlying41 rfl (by kernel_rfl) ?_)
              | (refine wp_whole rfl 32 _ rfl (w3.heap.size) rfl 32 #[.int .i64 b.me, .int .i64 b.rv, .int .i64 b.nx, .int .i64 b.mo, .int .i64 b.bo, .int .i64 b.fr, .slice pr lr cr] _ H6n.out Try.underlying32 rfl (by kernel_rfl) ?_)
              | fail)
            intro W4ab hU
            have H7d : Hid (Blk W4ab (w.heap.size) #[.int .i64 x.me, .int .i64 x.rv, .int .i64 x.nx, .int .i64 x.mo, .int .i64 x.bo, .int .i64 x.fr, .slice p len cap] 32) := hU.keep H6d.out (by omega)
            have H7t : Hid (Blk W4ab (w.heap.size + 1) #[.slice pt lt ct, .int .i64 t.ff, .int .i64 t.fb, .int .i64 t.db, .int .i64 t.al] 24) := hU.keep H6t.out (by omega)
            have H7r : Hid (Blk W4ab (w.heap.size + 1 + 1) #[.int .i64 0, .int .i64 0, .int .i64 0, .int .i64 0, .int .i64 0, .int .i64 0, .slice none 0 0] 32) := hU.keep H6r.out (by omega)
            have H7l : Hid (Blk W4ab (w.heap.size + 1 + 1 + 1) #[.int .i64 0, .int .i64 0, .int .i64 0, .int .i64 0, .int .i64 0, .int .i64 0, .int .i64 0] 41) := hU.blk
            have H7n : Hid (Blk W4ab (w3.heap.size) #[.int .i64 b.me, .int .i64 b.rv, .int .i64 b.nx, .int .i64 b.mo, .int .i64 b.bo, .int .i64 b.fr, .slice pr lr cr] 32) := hU.keep H6n.out (by omega)
            have H7F : Hid (deb.Fresh W4ab w2.heap.size pr lr cr b.ds) := fresh_updN H6F.out hU (fun hn y hy => by have f1 := H6F.out.new hn y hy; have f2 := HUPF.out hn y hy; omega)
            have H7B : Hid (Below w.heap.size w W4ab) := hU.bel _ _ (by omega) H6B.out
            have hsW4ab : W4ab.heap.size = W4a.heap.size := hU.size
            clear hU H6d H6t H6r H6l H6n H6F H6B
            have Rr0 : Hid (W4ab.cell? ⟨w.heap.size + 1 + 1, 0, none⟩ = some (.int .i64 0)) := H7r.out.cell 0
            have Rr1 : Hid (W4ab.cell? ⟨w.heap.size + 1 + 1, 1, none⟩ = some (.int .i64 0)) := H7r.out.cell 1
            have Rr2 : Hid (W4ab.cell? ⟨w.heap.size + 1 + 1, 2, none⟩ = some (.int .i64 0)) := H7r.out.cell 2
            have Rr3 : Hid (W4ab.cell? ⟨w.heap.size + 1 + 1, 3, none⟩ = some (.int .i64 0)) := H7r.out.cell 3
            have Rr4 : Hid (W4ab.cell? ⟨w.heap.size + 1 + 1, 4, none⟩ = some (.int .i64 0)) := H7r.out.cell 4
            have Rr5 : Hid (W4ab.cell? ⟨w.heap.size + 1 + 1, 5, none⟩ = some (.int .i64 0)) := H7r.out.cell 5
            have Rr6 : Hid (W4ab.cell? ⟨w.heap.size + 1 + 1, 6, none⟩ = some (.slice none 0 0)) := H7r.out.cell 6
            have Rl0 : Hid (W4ab.cell? ⟨w.heap.size + 1 + 1 + 1, 0, none⟩ = some (.int .i64 0)) := H7l.out.cell 0
            have Rl1 : Hid (W4ab.cell? ⟨w.heap.size + 1 + 1 + 1, 1, none⟩ = some (.int .i64 0)) := H7l.out.cell 1
            have Rl2 : Hid (W4ab.cell? ⟨w.heap.size + 1 + 1 + 1, 2, none⟩ = some (.int .i64 0)) := H7l.out.cell 2
            have Rl3 : Hid (W4ab.cell? ⟨w.heap.size + 1 + 1 + 1, 3, none⟩ = some (.int .i64 0)) := H7l.out.cell 3
            have Rl4 : Hid (W4ab.cell? ⟨w.heap.size + 1 + 1 + 1, 4, none⟩ = some (.int .i64 0)) := H7l.out.cell 4
            have Rl5 : Hid (W4ab.cell? ⟨w.heap.size + 1 + 1 + 1, 5, none⟩ = some (.int .i64 0)) := H7l.out.cell 5
            have Rl6 : Hid (W4ab.cell? ⟨w.heap.size + 1 + 1 + 1, 6, none⟩ = some (.int .i64 0)) := H7l.out.cell 6
            go_wp2_with fail
            exact bodyPost_ret (v := .tuple #[.agg #[.int .i64 0, .int .i64 0, .int .i64 0, .int .i64 0, .int .i64 0, .int .i64 0, .slice none 0 0], .agg #[.int .i64 0, .int .i64 0, .int .i64 0, .int .i64 0, .int .i64 0, .int .i64 0, .int .i64 0], .int .i64 21]) (by simp [results, Try.results22, Rr0.out, Rr1.out, Rr2.out, Rr3.out, Rr4.out, Rr5.out, Rr6.out, Rl0.out, Rl1.out, Rl2.out, Rl3.out, Rl4.out, Rl5.out, Rl6.out, go_sem]) rfl ⟨ac0, bi0, none, 0, 0, _, rfl, HV.out, deb.fresh_nil _ _, H7B.out⟩
          · have d6 : (x.fr == m) = false := by simpa using h6
            by_cases h7 : x.nx ≤ 1048575
            · have d7 : (x.nx == 1048576) = false := by simp; omega
              have qt4 : W4.cell? ⟨w.heap.size + 1, 4, none⟩ = some (.int .i64 t.al) := H5t.out.cell 4
              have qd5 : W4.cell? ⟨w.heap.size, 5, none⟩ = some (.int .i64 x.fr) := H5d.out.cell 5
              have qd2 : W4.cell? ⟨w.heap.size, 2, none⟩ = some (.int .i64 x.nx) := H5d.out.cell 2
              go_wp2_with (first
                | (refine wp_let1 rfl 3 _ _ rfl (w3.heap.size) 5 rfl .i64 m rfl (by kernel_rfl) #[.int .i64 b.me, .int .i64 b.rv, .int .i64 b.nx, .int .i64 b.mo, .int .i64 b.bo, .int .i64 b.fr, .slice pr lr cr] 32 H5n.out (by simp) ?_)
                | fail)
              clear qt4 qd5 qd2
              intro W5 hU
              have H6d : Hid (Blk W5 (w.heap.size) #[.int .i64 x.me, .int .i64 x.rv, .int .i64 x.nx, .int .i64 x.mo, .int .i64 x.bo, .int .i64 x.fr, .slice p len cap] 32) := hU.keep H5d.out (by omega)
              have H6t : Hid (Blk W5 (w.heap.size + 1) #[.slice pt lt ct, .int .i64 t.ff, .int .i64 t.fb, .int .i64 t.db, .int .i64 t.al] 24) := hU.keep H5t.out (by omega)
              have H6r : Hid (Blk W5 (w.heap.size + 1 + 1) #[.int .i64 0, .int .i64 0, .int .i64 0, .int .i64 0, .int .i64 0, .int .i64 0, .slice none 0 0] 32) := hU.keep H5r.out (by omega)
              have H6l : Hid (Blk W5 (w.heap.size + 1 + 1 + 1) #[.int .i64 0, .int .i64 0, .int .i64 0, .int .i64 0, .int .i64 0, .int .i64 0, .int .i64 0] 41) := hU.keep H5l.out (by omega)
              have H6n : Hid (Blk W5 (w3.heap.size) #[.int .i64 b.me, .int .i64 b.rv, .int .i64 b.nx, .int .i64 b.mo, .int .i64 b.bo, .int .i64 m, .slice pr lr cr] 32) := hU.blk
              have H6F : Hid (deb.Fresh W5 w2.heap.size pr lr cr b.ds) := fresh_updN H5F.out hU (fun hn y hy => by have f1 := H5F.out.new hn y hy; have f2 := HUPF.out hn y hy; omega)
              have H6B : Hid (Below w.heap.size w W5) := hU.bel _ _ (by omega) H5B.out
              have hsW5 : W5.heap.size = W4.heap.size := hU.size
              clear hU H5d H5t H5r H5l H5n H5R H5T H5F H5B
              have qd2 : W5.cell? ⟨w.heap.size, 2, none⟩ = some (.int .i64 x.nx) := H6d.out.cell 2
              go_wp2_with (first
                | (refine wp_let1 rfl 3 _ _ rfl (w3.heap.size) 2 rfl .i64 (x.nx + 1) rfl (by kernel_rfl) #[.int .i64 b.me, .int .i64 b.rv, .int .i64 b.nx, .int .i64 b.mo, .int .i64 b.bo, .int .i64 m, .slice pr lr cr] 32 H6n.out (by simp) ?_)
                | (refine wp_whole rfl 32 _ rfl (w.heap.size) rfl 32 #[.int .i64 x.me, .int .i64 x.rv, .int .i64 x.nx, .int .i64 x.mo, .int .i64 x.bo, .int .i64 x.fr, .slice p len cap] _ H6d.out Try.underlying32 rfl (by kernel_rfl) ?_)
                | (refine wp_whole rfl 24 _ rfl (w.heap.size + 1) rfl 24 #[.slice pt lt ct, .int .i64 t.ff, .int .i64 t.fb, .int .i64 t.db, .int .i64 t.al] _ H6t.out Try.underlying24 rfl (by kernel_rfl) ?_)
                | (refine wp_whole rfl 32 _ rfl (w.heap.size + 1 + 1) rfl 32 #[.int .i64 0, .int .i64 0, .int .i64 0, .int .i64 0, .int .i64 0, .int .i64 0, .slice none 0 0] _ H6r.out Try.underlying32 rfl (by kernel_rfl) ?_)
                | (refine wp_whole rfl 41 _ rfl (w.heap.size + 1 + 1 + 1) rfl 41 #[.int .i64 0, .int .i64 0, .int .i64 0, .int .i64 0, .int .i64 0, .int .i64 0, .int .i64 0] _ H6l.out Try.underlying41 rfl (by kernel_rfl) ?_)
                | (refine wp_whole rfl 32 _ rfl (w3.heap.size) rfl 32 #[.int .i64 b.me, .int .i64 b.rv, .int .i64 b.nx, .int .i64 b.mo, .int .i64 b.bo, .int .i64 m, .slice pr lr cr] _ H6n.out Try.underlying32 rfl (by kernel_rfl) ?_)
                | fail)
              intro W6 hU
              have H7d : Hid (Blk W6 (w.heap.size) #[.int .i64 x.me, .int .i64 x.rv, .int .i64 x.nx, .int .i64 x.mo, .int .i64 x.bo, .int .i64 x.fr, .slice p len cap] 32) := hU.keep H6d.out (by omega)
              have H7t : Hid (Blk W6 (w.heap.size + 1) #[.slice pt lt ct, .int .i64 t.ff, .int .i64 t.fb, .int .i64 t.db, .int .i64 t.al] 24) := hU.keep H6t.out (by omega)
              have H7r : Hid (Blk W6 (w.heap.size + 1 + 1) #[.int .i64 0, .int .i64 0, .int .i64 0, .int .i64 0, .int .i64 0, .int .i64 0, .slice none 0 0] 32) := hU.keep H6r.out (by omega)
              have H7l : Hid (Blk W6 (w.heap.size + 1 + 1 + 1) #[.int .i64 0, .int .i64 0, .int .i64 0, .int .i64 0, .int .i64 0, .int .i64 0, .int .i64 0] 41) := hU.keep H6l.out (by omega)
              have H7n : Hid (Blk W6 (w3.heap.size) #[.int .i64 b.me, .int .i64 b.rv, .int .i64 (x.nx + 1), .int .i64 b.mo, .int .i64 b.bo, .int .i64 m, .slice pr lr cr] 32) := hU.blk
              have H7F : Hid (deb.Fresh W6 w2.heap.size pr lr cr b.ds) := fresh_updN H6F.out hU (fun hn y hy => by have f1 := H6F.out.new hn y hy; have f2 := HUPF.out hn y hy; omega)
              have H7B : Hid (Below w.heap.size w W6) := hU.bel _ _ (by omega) H6B.out
              have hsW6 : W6.heap.size = W5.heap.size := hU.size
              clear hU H6d H6t H6r H6l H6n H6F H6B
              clear qd2
              go_upto_region 17 with fail
              refine wp_region_held_drew (S := fun v => Blk v (w3.heap.size) #[.int .i64 b.me, .int .i64 b.rv, .int .i64 (x.nx + 1), .int .i64 b.mo, .int .i64 b.bo, .int .i64 m, .slice pr lr cr] 32 ∧ Blk v (w.heap.size) #[.int .i64 x.me, .int .i64 x.rv, .int .i64 x.nx, .int .i64 x.mo, .int .i64 x.bo, .int .i64 x.fr, .slice p len cap] 32 ∧ Blk v (w.heap.size + 1) #[.slice pt lt ct, .int .i64 t.ff, .int .i64 t.fb, .int .i64 t.db, .int .i64 t.al] 24) (by kernel_rfl) ⟨Blk.drew H7n.out 1, Blk.drew H7d.out 1, Blk.drew H7t.out 1⟩ (fun hHeld => ?_)
              refine take_at 0 56 (.agg #[.int .i64 b.me, .int .i64 b.rv, .int .i64 (x.nx + 1), .int .i64 b.mo, .int .i64 b.bo, .int .i64 m, .slice pr lr cr]) _ rfl rfl (by kernel_rfl) (by kernel_rfl) (by kernel_rfl) (fun _ _ _ h => h) (Or.inl ⟨by rfl, fun v hv => by have g0 := hv.1.cell 0; have g1 := hv.1.cell 1; have g2 := hv.1.cell 2; have g3 := hv.1.cell 3; have g4 := hv.1.cell 4; have g5 := hv.1.cell 5; have g6 := hv.1.cell 6; clear hv; go_simp⟩) hHeld ?_
              simp only [Act.put, List.setIfInBounds_toArray, List.set_cons_zero, List.set_cons_succ]
              refine take_at 1 57 (.pointer (some ⟨w.heap.size, 2, none⟩)) _ rfl rfl (by kernel_rfl) (by kernel_rfl) (by kernel_rfl) (fun _ _ _ h => h) (Or.inl ⟨by rfl, fun v hv => by skip; clear hv; go_simp⟩) hHeld ?_
              simp only [Act.put, List.setIfInBounds_toArray, List.set_cons_zero, List.set_cons_succ]
              refine take_at 2 58 (.int .i64 x.nx) _ rfl rfl (by kernel_rfl) (by kernel_rfl) (by kernel_rfl) (fun _ _ _ h => h) (Or.inl ⟨by rfl, fun v hv => by have g := hv.2.1.cell 2; clear hv; go_simp⟩) hHeld ?_
              simp only [Act.put, List.setIfInBounds_toArray, List.set_cons_zero, List.set_cons_succ]
              refine take_at 3 59 (.pointer (some ⟨w.heap.size + 1, 4, none⟩)) _ rfl rfl (by kernel_rfl) (by kernel_rfl) (by kernel_rfl) (fun _ _ _ h => h) (Or.inl ⟨by rfl, fun v hv => by skip; clear hv; go_simp⟩) hHeld ?_
              simp only [Act.put, List.setIfInBounds_toArray, List.set_cons_zero, List.set_cons_succ]
              refine take_at 4 60 (.int .i64 t.al) _ rfl rfl (by kernel_rfl) (by kernel_rfl) (by kernel_rfl) (fun _ _ _ h => h) (Or.inl ⟨by rfl, fun v hv => by have g := hv.2.2.cell 4; clear hv; go_simp⟩) hHeld ?_
              simp only [Act.put, List.setIfInBounds_toArray, List.set_cons_zero, List.set_cons_succ]
              refine take_at 5 61 (.agg #[.int .i64 x.nx, .int .i64 0, .int .i64 0, .int .i64 0, .int .i64 0, .int .i64 0, .int .i64 t.al]) _ rfl rfl (by kernel_rfl) (by kernel_rfl) (by kernel_rfl) (fun _ _ _ h => h) (Or.inl ⟨by rfl, fun v hv => by skip; clear hv; go_simp⟩) hHeld ?_
              simp only [Act.put, List.setIfInBounds_toArray, List.set_cons_zero, List.set_cons_succ]
              refine wpAnyH_ready (rs := [6]) (by kernel_rfl) (by simp) (AllReadyH.cons rfl (fun K hK => ?_) AllReadyH.nil)
              rw [if_pos (by rfl)]
              refine wp_letOp 32 _ _ rfl (w.heap.size + 1 + 1) rfl #[.int .i64 b.me, .int .i64 b.rv, .int .i64 (x.nx + 1), .int .i64 b.mo, .int .i64 b.bo, .int .i64 m, .slice pr lr cr] rfl (by kernel_rfl) (by simp [Value.oneCell']) #[.int .i64 0, .int .i64 0, .int .i64 0, .int .i64 0, .int .i64 0, .int .i64 0, .slice none 0 0] 32 (Blk.drew H7r.out 1) rfl rfl ?_
              intro V1 hU
              have H8d : Hid (Blk V1 (w.heap.size) #[.int .i64 x.me, .int .i64 x.rv, .int .i64 x.nx, .int .i64 x.mo, .int .i64 x.bo, .int .i64 x.fr, .slice p len cap] 32) := hU.keep (Blk.drew H7d.out 1) (by omega)
              have H8t : Hid (Blk V1 (w.heap.size + 1) #[.slice pt lt ct, .int .i64 t.ff, .int .i64 t.fb, .int .i64 t.db, .int .i64 t.al] 24) := hU.keep (Blk.drew H7t.out 1) (by omega)
              have H8r : Hid (Blk V1 (w.heap.size + 1 + 1) #[.int .i64 b.me, .int .i64 b.rv, .int .i64 (x.nx + 1), .int .i64 b.mo, .int .i64 b.bo, .int .i64 m, .slice pr lr cr] 32) := hU.blk
              have H8l : Hid (Blk V1 (w.heap.size + 1 + 1 + 1) #[.int .i64 0, .int .i64 0, .int .i64 0, .int .i64 0, .int .i64 0, .int .i64 0, .int .i64 0] 41) := hU.keep (Blk.drew H7l.out 1) (by omega)
              have H8n : Hid (Blk V1 (w3.heap.size) #[.int .i64 b.me, .int .i64 b.rv, .int .i64 (x.nx + 1), .int .i64 b.mo, .int .i64 b.bo, .int .i64 m, .slice pr lr cr] 32) := hU.keep (Blk.drew H7n.out 1) (by omega)
              have H8F : Hid (deb.Fresh V1 w2.heap.size pr lr cr b.ds) := fresh_updN (fresh_drew H7F.out) hU (fun hn y hy => by have f1 := H7F.out.new hn y hy; have f2 := HUPF.out hn y hy; omega)
              have H8B : Hid (Below w.heap.size w V1) := hU.bel _ _ (by omega) H7B.out.drew
              clear hU H7d H7t H7r H7l H7n H7F H7B
              refine hK.out _ _ ⟨H8n.out, H8d.out, H8t.out⟩ (fun hHeld => ?_)
              clear hK K
              refine wpAnyH_ready (rs := [7]) (by kernel_rfl) (by simp) (AllReadyH.cons rfl (fun K hK => ?_) AllReadyH.nil)
              rw [if_pos (by rfl)]
              refine wp_letOp 41 _ _ rfl (w.heap.size + 1 + 1 + 1) rfl #[.int .i64 x.nx, .int .i64 0, .int .i64 0, .int .i64 0, .int .i64 0, .int .i64 0, .int .i64 t.al] rfl (by kernel_rfl) (by simp [Value.oneCell']) #[.int .i64 0, .int .i64 0, .int .i64 0, .int .i64 0, .int .i64 0, .int .i64 0, .int .i64 0] 41 H8l.out rfl rfl ?_
              intro V2 hU
              have H9d : Hid (Blk V2 (w.heap.size) #[.int .i64 x.me, .int .i64 x.rv, .int .i64 x.nx, .int .i64 x.mo, .int .i64 x.bo, .int .i64 x.fr, .slice p len cap] 32) := hU.keep H8d.out (by omega)
              have H9t : Hid (Blk V2 (w.heap.size + 1) #[.slice pt lt ct, .int .i64 t.ff, .int .i64 t.fb, .int .i64 t.db, .int .i64 t.al] 24) := hU.keep H8t.out (by omega)
              have H9r : Hid (Blk V2 (w.heap.size + 1 + 1) #[.int .i64 b.me, .int .i64 b.rv, .int .i64 (x.nx + 1), .int .i64 b.mo, .int .i64 b.bo, .int .i64 m, .slice pr lr cr] 32) := hU.keep H8r.out (by omega)
              have H9l : Hid (Blk V2 (w.heap.size + 1 + 1 + 1) #[.int .i64 x.nx, .int .i64 0, .int .i64 0, .int .i64 0, .int .i64 0, .int .i64 0, .int .i64 t.al] 41) := hU.blk
              have H9n : Hid (Blk V2 (w3.heap.size) #[.int .i64 b.me, .int .i64 b.rv, .int .i64 (x.nx + 1), .int .i64 b.mo, .int .i64 b.bo, .int .i64 m, .slice pr lr cr] 32) := hU.keep H8n.out (by omega)
              have H9F : Hid (deb.Fresh V2 w2.heap.size pr lr cr b.ds) := fresh_updN H8F.out hU (fun hn y hy => by have f1 := H8F.out.new hn y hy; have f2 := HUPF.out hn y hy; omega)
              have H9B : Hid (Below w.heap.size w V2) := hU.bel _ _ (by omega) H8B.out
              clear hU H8d H8t H8r H8l H8n H8F H8B
              refine hK.out _ _ ⟨H9n.out, H9d.out, H9t.out⟩ (fun hHeld => ?_)
              clear hK K
              refine take_at 8 8 (.int .i64 0) _ rfl rfl (by kernel_rfl) (by kernel_rfl) (by kernel_rfl) (fun _ _ _ h => h) (Or.inl ⟨by rfl, fun v hv => by skip; clear hv; go_simp⟩) hHeld ?_
              simp only [Act.put, List.setIfInBounds_toArray, List.set_cons_zero, List.set_cons_succ]
              refine wpAnyH_done (by kernel_rfl) ?_ _
              clear hHeld
              have HGV : Hid (⟨b.me, b.rv, x.nx + 1, b.mo, b.bo, m, b.ds⟩ = granted x m) := by
                show _ = _
                unfold granted
                rw [← HBR.out, HBS.out.1, HBS.out.2.1, HBS.out.2.2.2.1]
              have Rr0 : Hid (V2.cell? ⟨w.heap.size + 1 + 1, 0, none⟩ = some (.int .i64 b.me)) := H9r.out.cell 0
              have Rr1 : Hid (V2.cell? ⟨w.heap.size + 1 + 1, 1, none⟩ = some (.int .i64 b.rv)) := H9r.out.cell 1
              have Rr2 : Hid (V2.cell? ⟨w.heap.size + 1 + 1, 2, none⟩ = some (.int .i64 (x.nx + 1))) := H9r.out.cell 2
              have Rr3 : Hid (V2.cell? ⟨w.heap.size + 1 + 1, 3, none⟩ = some (.int .i64 b.mo)) := H9r.out.cell 3
              have Rr4 : Hid (V2.cell? ⟨w.heap.size + 1 + 1, 4, none⟩ = some (.int .i64 b.bo)) := H9r.out.cell 4
              have Rr5 : Hid (V2.cell? ⟨w.heap.size + 1 + 1, 5, none⟩ = some (.int .i64 m)) := H9r.out.cell 5
              have Rr6 : Hid (V2.cell? ⟨w.heap.size + 1 + 1, 6, none⟩ = some (.slice pr lr cr)) := H9r.out.cell 6
              have Rl0 : Hid (V2.cell? ⟨w.heap.size + 1 + 1 + 1, 0, none⟩ = some (.int .i64 x.nx)) := H9l.out.cell 0
              have Rl1 : Hid (V2.cell? ⟨w.heap.size + 1 + 1 + 1, 1, none⟩ = some (.int .i64 0)) := H9l.out.cell 1
              have Rl2 : Hid (V2.cell? ⟨w.heap.size + 1 + 1 + 1, 2, none⟩ = some (.int .i64 0)) := H9l.out.cell 2
              have Rl3 : Hid (V2.cell? ⟨w.heap.size + 1 + 1 + 1, 3, none⟩ = some (.int .i64 0)) := H9l.out.cell 3
              have Rl4 : Hid (V2.cell? ⟨w.heap.size + 1 + 1 + 1, 4, none⟩ = some (.int .i64 0)) := H9l.out.cell 4
              have Rl5 : Hid (V2.cell? ⟨w.heap.size + 1 + 1 + 1, 5, none⟩ = some (.int .i64 0)) := H9l.out.cell 5
              have Rl6 : Hid (V2.cell? ⟨w.heap.size + 1 + 1 + 1, 6, none⟩ = some (.int .i64 t.al)) := H9l.out.cell 6
              go_wp2_with fail
              exact bodyPost_ret (v := .tuple #[.agg #[.int .i64 b.me, .int .i64 b.rv, .int .i64 (x.nx + 1), .int .i64 b.mo, .int .i64 b.bo, .int .i64 m, .slice pr lr cr], .agg #[.int .i64 x.nx, .int .i64 0, .int .i64 0, .int .i64 0, .int .i64 0, .int .i64 0, .int .i64 t.al], .int .i64 0]) (by simp [results, Try.results22, Rr0.out, Rr1.out, Rr2.out, Rr3.out, Rr4.out, Rr5.out, Rr6.out, Rl0.out, Rl1.out, Rl2.out, Rl3.out, Rl4.out, Rl5.out, Rl6.out, go_sem]) rfl ⟨⟨b.me, b.rv, x.nx + 1, b.mo, b.bo, m, b.ds⟩, ⟨x.nx, 0, 0, 0, 0, 0, t.al⟩, pr, lr, cr, _, rfl, .inr (.inr (.inr (.inr ⟨HRY.out, h5, h6, h7, rfl, HGV.out, rfl⟩))), H9F.out.low (by omega), H9B.out⟩
            · have d7 : (x.nx == 1048576) = true := by simp; omega
              have HV : Hid (GrantIs x t m ac0 bi0 20) := .inr (.inr (.inr (.inl ⟨HRY.out, h5, h6, h7, rfl, rfl, rfl⟩)))
              clear h5 h6 h7
              have qt4 : W4.cell? ⟨w.heap.size + 1, 4, none⟩ = some (.int .i64 t.al) := H5t.out.cell 4
              have qd5 : W4.cell? ⟨w.heap.size, 5, none⟩ = some (.int .i64 x.fr) := H5d.out.cell 5
              have qd2 : W4.cell? ⟨w.heap.size, 2, none⟩ = some (.int .i64 x.nx) := H5d.out.cell 2
              go_wp2_with (first
                | (refine wp_letAll rfl 32 _ _ rfl (w.heap.size + 1 + 1) rfl #[.int .i64 0, .int .i64 0, .int .i64 0, .int .i64 0, .int .i64 0, .int .i64 0, .slice none 0 0] rfl (by kernel_rfl) (by simp [Value.oneCell']) #[.int .i64 0, .int .i64 0, .int .i64 0, .int .i64 0, .int .i64 0, .int .i64 0, .slice none 0 0] 32 H5r.out rfl ?_)
                | (refine wp_whole rfl 32 _ rfl (w.heap.size) rfl 32 #[.int .i64 x.me, .int .i64 x.rv, .int .i64 x.nx, .int .i64 x.mo, .int .i64 x.bo, .int .i64 x.fr, .slice p len cap] _ H5d.out Try.underlying32 rfl (by kernel_rfl) ?_)
                | (refine wp_whole rfl 24 _ rfl (w.heap.size + 1) rfl 24 #[.slice pt lt ct, .int .i64 t.ff, .int .i64 t.fb, .int .i64 t.db, .int .i64 t.al] _ H5t.out Try.underlying24 rfl (by kernel_rfl) ?_)
                | (refine wp_whole rfl 32 _ rfl (w.heap.size + 1 + 1) rfl 32 #[.int .i64 0, .int .i64 0, .int .i64 0, .int .i64 0, .int .i64 0, .int .i64 0, .slice none 0 0] _ H5r.out Try.underlying32 rfl (by kernel_rfl) ?_)
                | (refine wp_whole rfl 41 _ rfl (w.heap.size + 1 + 1 + 1) rfl 41 #[.int .i64 0, .int .i64 0, .int .i64 0, .int .i64 0, .int .i64 0, .int .i64 0, .int .i64 0] _ H5l.out Try.underlying41 rfl (by kernel_rfl) ?_)
                | (refine wp_whole rfl 32 _ rfl (w3.heap.size) rfl 32 #[.int .i64 b.me, .int .i64 b.rv, .int .i64 b.nx, .int .i64 b.mo, .int .i64 b.bo, .int .i64 b.fr, .slice pr lr cr] _ H5n.out Try.underlying32 rfl (by kernel_rfl) ?_)
                | fail)
              intro W4a hU
              have H6d : Hid (Blk W4a (w.heap.size) #[.int .i64 x.me, .int .i64 x.rv, .int .i64 x.nx, .int .i64 x.mo, .int .i64 x.bo, .int .i64 x.fr, .slice p len cap] 32) := hU.keep H5d.out (by omega)
              have H6t : Hid (Blk W4a (w.heap.size + 1) #[.slice pt lt ct, .int .i64 t.ff, .int .i64 t.fb, .int .i64 t.db, .int .i64 t.al] 24) := hU.keep H5t.out (by omega)
              have H6r : Hid (Blk W4a (w.heap.size + 1 + 1) #[.int .i64 0, .int .i64 0, .int .i64 0, .int .i64 0, .int .i64 0, .int .i64 0, .slice none 0 0] 32) := hU.blk
              have H6l : Hid (Blk W4a (w.heap.size + 1 + 1 + 1) #[.int .i64 0, .int .i64 0, .int .i64 0, .int .i64 0, .int .i64 0, .int .i64 0, .int .i64 0] 41) := hU.keep H5l.out (by omega)
              have H6n : Hid (Blk W4a (w3.heap.size) #[.int .i64 b.me, .int .i64 b.rv, .int .i64 b.nx, .int .i64 b.mo, .int .i64 b.bo, .int .i64 b.fr, .slice pr lr cr] 32) := hU.keep H5n.out (by omega)
              have H6F : Hid (deb.Fresh W4a w2.heap.size pr lr cr b.ds) := fresh_updN H5F.out hU (fun hn y hy => by have f1 := H5F.out.new hn y hy; have f2 := HUPF.out hn y hy; omega)
              have H6B : Hid (Below w.heap.size w W4a) := hU.bel _ _ (by omega) H5B.out
              have hsW4a : W4a.heap.size = W4.heap.size := hU.size
              clear hU H5d H5t H5r H5l H5n H5R H5T H5F H5B
              go_wp2_with (first
                | (refine wp_letAll rfl 41 _ _ rfl (w.heap.size + 1 + 1 + 1) rfl #[.int .i64 0, .int .i64 0, .int .i64 0, .int .i64 0, .int .i64 0, .int .i64 0, .int .i64 0] rfl (by kernel_rfl) (by simp [Value.oneCell']) #[.int .i64 0, .int .i64 0, .int .i64 0, .int .i64 0, .int .i64 0, .int .i64 0, .int .i64 0] 41 H6l.out rfl ?_)
                | (refine wp_whole rfl 32 _ rfl (w.heap.size) rfl 32 #[.int .i64 x.me, .int .i64 x.rv, .int .i64 x.nx, .int .i64 x.mo, .int .i64 x.bo, .int .i64 x.fr, .slice p len cap] _ H6d.out Try.underlying32 rfl (by kernel_rfl) ?_)
                | (refine wp_whole rfl 24 _ rfl (w.heap.size + 1) rfl 24 #[.slice pt lt ct, .int .i64 t.ff, .int .i64 t.fb, .int .i64 t.db, .int .i64 t.al] _ H6t.out Try.underlying24 rfl (by kernel_rfl) ?_)
                | (refine wp_whole rfl 32 _ rfl (w.heap.size + 1 + 1) rfl 32 #[.int .i64 0, .int .i64 0, .int .i64 0, .int .i64 0, .int .i64 0, .int .i64 0, .slice none 0 0] _ H6r.out Try.underlying32 rfl (by kernel_rfl) ?_)
                | (refine wp_whole rfl 41 _ rfl (w.heap.size + 1 + 1 + 1) rfl 41 #[.int .i64 0, .int .i64 0, .int .i64 0, .int .i64 0, .int .i64 0, .int .i64 0, .int .i64 0] _ H6l.out Try.underlying41 rfl (by kernel_rfl) ?_)
                | (refine wp_whole rfl 32 _ rfl (w3.heap.size) rfl 32 #[.int .i64 b.me, .int .i64 b.rv, .int .i64 b.nx, .int .i64 b.mo, .int .i64 b.bo, .int .i64 b.fr, .slice pr lr cr] _ H6n.out Try.underlying32 rfl (by kernel_rfl) ?_)
                | fail)
              intro W4ab hU
              have H7d : Hid (Blk W4ab (w.heap.size) #[.int .i64 x.me, .int .i64 x.rv, .int .i64 x.nx, .int .i64 x.mo, .int .i64 x.bo, .int .i64 x.fr, .slice p len cap] 32) := hU.keep H6d.out (by omega)
              have H7t : Hid (Blk W4ab (w.heap.size + 1) #[.slice pt lt ct, .int .i64 t.ff, .int .i64 t.fb, .int .i64 t.db, .int .i64 t.al] 24) := hU.keep H6t.out (by omega)
              have H7r : Hid (Blk W4ab (w.heap.size + 1 + 1) #[.int .i64 0, .int .i64 0, .int .i64 0, .int .i64 0, .int .i64 0, .int .i64 0, .slice none 0 0] 32) := hU.keep H6r.out (by omega)
              have H7l : Hid (Blk W4ab (w.heap.size + 1 + 1 + 1) #[.int .i64 0, .int .i64 0, .int .i64 0, .int .i64 0, .int .i64 0, .int .i64 0, .int .i64 0] 41) := hU.blk
              have H7n : Hid (Blk W4ab (w3.heap.size) #[.int .i64 b.me, .int .i64 b.rv, .int .i64 b.nx, .int .i64 b.mo, .int .i64 b.bo, .int .i64 b.fr, .slice pr lr cr] 32) := hU.keep H6n.out (by omega)
              have H7F : Hid (deb.Fresh W4ab w2.heap.size pr lr cr b.ds) := fresh_updN H6F.out hU (fun hn y hy => by have f1 := H6F.out.new hn y hy; have f2 := HUPF.out hn y hy; omega)
              have H7B : Hid (Below w.heap.size w W4ab) := hU.bel _ _ (by omega) H6B.out
              have hsW4ab : W4ab.heap.size = W4a.heap.size := hU.size
              clear hU H6d H6t H6r H6l H6n H6F H6B
              have Rr0 : Hid (W4ab.cell? ⟨w.heap.size + 1 + 1, 0, none⟩ = some (.int .i64 0)) := H7r.out.cell 0
              have Rr1 : Hid (W4ab.cell? ⟨w.heap.size + 1 + 1, 1, none⟩ = some (.int .i64 0)) := H7r.out.cell 1
              have Rr2 : Hid (W4ab.cell? ⟨w.heap.size + 1 + 1, 2, none⟩ = some (.int .i64 0)) := H7r.out.cell 2
              have Rr3 : Hid (W4ab.cell? ⟨w.heap.size + 1 + 1, 3, none⟩ = some (.int .i64 0)) := H7r.out.cell 3
              have Rr4 : Hid (W4ab.cell? ⟨w.heap.size + 1 + 1, 4, none⟩ = some (.int .i64 0)) := H7r.out.cell 4
              have Rr5 : Hid (W4ab.cell? ⟨w.heap.size + 1 + 1, 5, none⟩ = some (.int .i64 0)) := H7r.out.cell 5
              have Rr6 : Hid (W4ab.cell? ⟨w.heap.size + 1 + 1, 6, none⟩ = some (.slice none 0 0)) := H7r.out.cell 6
              have Rl0 : Hid (W4ab.cell? ⟨w.heap.size + 1 + 1 + 1, 0, none⟩ = some (.int .i64 0)) := H7l.out.cell 0
              have Rl1 : Hid (W4ab.cell? ⟨w.heap.size + 1 + 1 + 1, 1, none⟩ = some (.int .i64 0)) := H7l.out.cell 1
              have Rl2 : Hid (W4ab.cell? ⟨w.heap.size + 1 + 1 + 1, 2, none⟩ = some (.int .i64 0)) := H7l.out.cell 2
              have Rl3 : Hid (W4ab.cell? ⟨w.heap.size + 1 + 1 + 1, 3, none⟩ = some (.int .i64 0)) := H7l.out.cell 3
              have Rl4 : Hid (W4ab.cell? ⟨w.heap.size + 1 + 1 + 1, 4, none⟩ = some (.int .i64 0)) := H7l.out.cell 4
              have Rl5 : Hid (W4ab.cell? ⟨w.heap.size + 1 + 1 + 1, 5, none⟩ = some (.int .i64 0)) := H7l.out.cell 5
              have Rl6 : Hid (W4ab.cell? ⟨w.heap.size + 1 + 1 + 1, 6, none⟩ = some (.int .i64 0)) := H7l.out.cell 6
              go_wp2_with fail
              exact bodyPost_ret (v := .tuple #[.agg #[.int .i64 0, .int .i64 0, .int .i64 0, .int .i64 0, .int .i64 0, .int .i64 0, .slice none 0 0], .agg #[.int .i64 0, .int .i64 0, .int .i64 0, .int .i64 0, .int .i64 0, .int .i64 0, .int .i64 0], .int .i64 20]) (by simp [results, Try.results22, Rr0.out, Rr1.out, Rr2.out, Rr3.out, Rr4.out, Rr5.out, Rr6.out, Rl0.out, Rl1.out, Rl2.out, Rl3.out, Rl4.out, Rl5.out, Rl6.out, go_sem]) rfl ⟨ac0, bi0, none, 0, 0, _, rfl, HV.out, deb.fresh_nil _ _, H7B.out⟩
      · have hne : (fr != 0) = true := by simpa using h4
        have HV : Hid (Refused x t m fr) := by
          rcases hi3 with ⟨q, _⟩ | ⟨_, q, r, _⟩ | ⟨_, _, _, r⟩
          · exact absurd HM.out q
          · exact .inr (.inr ⟨HM.out, HT.out, q, r⟩)
          · exact absurd r h4
        clear hi3 h4
        have H5d : Hid (Blk (w3.alloc (.cells #[.int .i64 b.me, .int .i64 b.rv, .int .i64 b.nx, .int .i64 b.mo, .int .i64 b.bo, .int .i64 b.fr, .slice pr lr cr] 32)) (w.heap.size) #[.int .i64 x.me, .int .i64 x.rv, .int .i64 x.nx, .int .i64 x.mo, .int .i64 x.bo, .int .i64 x.fr, .slice p len cap] 32) := H3d.out.alloc _
        have H5t : Hid (Blk (w3.alloc (.cells #[.int .i64 b.me, .int .i64 b.rv, .int .i64 b.nx, .int .i64 b.mo, .int .i64 b.bo, .int .i64 b.fr, .slice pr lr cr] 32)) (w.heap.size + 1) #[.slice pt lt ct, .int .i64 t.ff, .int .i64 t.fb, .int .i64 t.db, .int .i64 t.al] 24) := H3t.out.alloc _
        have H5r : Hid (Blk (w3.alloc (.cells #[.int .i64 b.me, .int .i64 b.rv, .int .i64 b.nx, .int .i64 b.mo, .int .i64 b.bo, .int .i64 b.fr, .slice pr lr cr] 32)) (w.heap.size + 1 + 1) #[.int .i64 0, .int .i64 0, .int .i64 0, .int .i64 0, .int .i64 0, .int .i64 0, .slice none 0 0] 32) := H3r.out.alloc _
        have H5l : Hid (Blk (w3.alloc (.cells #[.int .i64 b.me, .int .i64 b.rv, .int .i64 b.nx, .int .i64 b.mo, .int .i64 b.bo, .int .i64 b.fr, .slice pr lr cr] 32)) (w.heap.size + 1 + 1 + 1) #[.int .i64 0, .int .i64 0, .int .i64 0, .int .i64 0, .int .i64 0, .int .i64 0, .int .i64 0] 41) := H3l.out.alloc _
        have H5R : Hid (RowD (w3.alloc (.cells #[.int .i64 b.me, .int .i64 b.rv, .int .i64 b.nx, .int .i64 b.mo, .int .i64 b.bo, .int .i64 b.fr, .slice pr lr cr] 32)) p len x.ds) := H3R.out.below ((Below.refl w3.heap.size w3).alloc (Nat.le_refl _) _)
        have H5T : Hid (RowD (w3.alloc (.cells #[.int .i64 b.me, .int .i64 b.rv, .int .i64 b.nx, .int .i64 b.mo, .int .i64 b.bo, .int .i64 b.fr, .slice pr lr cr] 32)) pt lt t.ts) := H3T.out.below ((Below.refl w3.heap.size w3).alloc (Nat.le_refl _) _)
        have H5F : Hid (deb.Fresh (w3.alloc (.cells #[.int .i64 b.me, .int .i64 b.rv, .int .i64 b.nx, .int .i64 b.mo, .int .i64 b.bo, .int .i64 b.fr, .slice pr lr cr] 32)) w2.heap.size pr lr cr b.ds) := H4F.out.below ((Below.refl w3.heap.size w3).alloc (Nat.le_refl _) _)
        have H5n : Hid (Blk (w3.alloc (.cells #[.int .i64 b.me, .int .i64 b.rv, .int .i64 b.nx, .int .i64 b.mo, .int .i64 b.bo, .int .i64 b.fr, .slice pr lr cr] 32)) w3.heap.size #[.int .i64 b.me, .int .i64 b.rv, .int .i64 b.nx, .int .i64 b.mo, .int .i64 b.bo, .int .i64 b.fr, .slice pr lr cr] 32) := Blk.new w3 _ _
        have H5B : Hid (Below w.heap.size w (w3.alloc (.cells #[.int .i64 b.me, .int .i64 b.rv, .int .i64 b.nx, .int .i64 b.mo, .int .i64 b.bo, .int .i64 b.fr, .slice pr lr cr] 32))) := H3B.out.alloc H3B.out.size _
        have hsW4 : w3.heap.size < (w3.alloc (.cells #[.int .i64 b.me, .int .i64 b.rv, .int .i64 b.nx, .int .i64 b.mo, .int .i64 b.bo, .int .i64 b.fr, .slice pr lr cr] 32)).heap.size := (Blk.new w3 #[.int .i64 b.me, .int .i64 b.rv, .int .i64 b.nx, .int .i64 b.mo, .int .i64 b.bo, .int .i64 b.fr, .slice pr lr cr] 32).lt
        clear H3d H3t H3r H3l H3R H3T H4F H3B
        go_upto_region 7 with fail
        generalize (w3.alloc (.cells #[.int .i64 b.me, .int .i64 b.rv, .int .i64 b.nx, .int .i64 b.mo, .int .i64 b.bo, .int .i64 b.fr, .slice pr lr cr] 32)) = W4 at *
        go_wp2_with (first
          | (refine wp_letAll rfl 32 _ _ rfl (w.heap.size + 1 + 1) rfl #[.int .i64 0, .int .i64 0, .int .i64 0, .int .i64 0, .int .i64 0, .int .i64 0, .slice none 0 0] rfl (by kernel_rfl) (by simp [Value.oneCell']) #[.int .i64 0, .int .i64 0, .int .i64 0, .int .i64 0, .int .i64 0, .int .i64 0, .slice none 0 0] 32 H5r.out rfl ?_)
          | (refine wp_whole rfl 32 _ rfl (w.heap.size) rfl 32 #[.int .i64 x.me, .int .i64 x.rv, .int .i64 x.nx, .int .i64 x.mo, .int .i64 x.bo, .int .i64 x.fr, .slice p len cap] _ H5d.out Try.underlying32 rfl (by kernel_rfl) ?_)
          | (refine wp_whole rfl 24 _ rfl (w.heap.size + 1) rfl 24 #[.slice pt lt ct, .int .i64 t.ff, .int .i64 t.fb, .int .i64 t.db, .int .i64 t.al] _ H5t.out Try.underlying24 rfl (by kernel_rfl) ?_)
          | (refine wp_whole rfl 32 _ rfl (w.heap.size + 1 + 1) rfl 32 #[.int .i64 0, .int .i64 0, .int .i64 0, .int .i64 0, .int .i64 0, .int .i64 0, .slice none 0 0] _ H5r.out Try.underlying32 rfl (by kernel_rfl) ?_)
          | (refine wp_whole rfl 41 _ rfl (w.heap.size + 1 + 1 + 1) rfl 41 #[.int .i64 0, .int .i64 0, .int .i64 0, .int .i64 0, .int .i64 0, .int .i64 0, .int .i64 0] _ H5l.out Try.underlying41 rfl (by kernel_rfl) ?_)
          | (refine wp_whole rfl 32 _ rfl (w3.heap.size) rfl 32 #[.int .i64 b.me, .int .i64 b.rv, .int .i64 b.nx, .int .i64 b.mo, .int .i64 b.bo, .int .i64 b.fr, .slice pr lr cr] _ H5n.out Try.underlying32 rfl (by kernel_rfl) ?_)
          | fail)
        intro W4a hU
        have H6d : Hid (Blk W4a (w.heap.size) #[.int .i64 x.me, .int .i64 x.rv, .int .i64 x.nx, .int .i64 x.mo, .int .i64 x.bo, .int .i64 x.fr, .slice p len cap] 32) := hU.keep H5d.out (by omega)
        have H6t : Hid (Blk W4a (w.heap.size + 1) #[.slice pt lt ct, .int .i64 t.ff, .int .i64 t.fb, .int .i64 t.db, .int .i64 t.al] 24) := hU.keep H5t.out (by omega)
        have H6r : Hid (Blk W4a (w.heap.size + 1 + 1) #[.int .i64 0, .int .i64 0, .int .i64 0, .int .i64 0, .int .i64 0, .int .i64 0, .slice none 0 0] 32) := hU.blk
        have H6l : Hid (Blk W4a (w.heap.size + 1 + 1 + 1) #[.int .i64 0, .int .i64 0, .int .i64 0, .int .i64 0, .int .i64 0, .int .i64 0, .int .i64 0] 41) := hU.keep H5l.out (by omega)
        have H6n : Hid (Blk W4a (w3.heap.size) #[.int .i64 b.me, .int .i64 b.rv, .int .i64 b.nx, .int .i64 b.mo, .int .i64 b.bo, .int .i64 b.fr, .slice pr lr cr] 32) := hU.keep H5n.out (by omega)
        have H6F : Hid (deb.Fresh W4a w2.heap.size pr lr cr b.ds) := fresh_updN H5F.out hU (fun hn y hy => by have f1 := H5F.out.new hn y hy; have f2 := HUPF.out hn y hy; omega)
        have H6B : Hid (Below w.heap.size w W4a) := hU.bel _ _ (by omega) H5B.out
        have hsW4a : W4a.heap.size = W4.heap.size := hU.size
        clear hU H5d H5t H5r H5l H5n H5R H5T H5F H5B
        go_wp2_with (first
          | (refine wp_letAll rfl 41 _ _ rfl (w.heap.size + 1 + 1 + 1) rfl #[.int .i64 0, .int .i64 0, .int .i64 0, .int .i64 0, .int .i64 0, .int .i64 0, .int .i64 0] rfl (by kernel_rfl) (by simp [Value.oneCell']) #[.int .i64 0, .int .i64 0, .int .i64 0, .int .i64 0, .int .i64 0, .int .i64 0, .int .i64 0] 41 H6l.out rfl ?_)
          | (refine wp_whole rfl 32 _ rfl (w.heap.size) rfl 32 #[.int .i64 x.me, .int .i64 x.rv, .int .i64 x.nx, .int .i64 x.mo, .int .i64 x.bo, .int .i64 x.fr, .slice p len cap] _ H6d.out Try.underlying32 rfl (by kernel_rfl) ?_)
          | (refine wp_whole rfl 24 _ rfl (w.heap.size + 1) rfl 24 #[.slice pt lt ct, .int .i64 t.ff, .int .i64 t.fb, .int .i64 t.db, .int .i64 t.al] _ H6t.out Try.underlying24 rfl (by kernel_rfl) ?_)
          | (refine wp_whole rfl 32 _ rfl (w.heap.size + 1 + 1) rfl 32 #[.int .i64 0, .int .i64 0, .int .i64 0, .int .i64 0, .int .i64 0, .int .i64 0, .slice none 0 0] _ H6r.out Try.underlying32 rfl (by kernel_rfl) ?_)
          | (refine wp_whole rfl 41 _ rfl (w.heap.size + 1 + 1 + 1) rfl 41 #[.int .i64 0, .int .i64 0, .int .i64 0, .int .i64 0, .int .i64 0, .int .i64 0, .int .i64 0] _ H6l.out Try.underlying41 rfl (by kernel_rfl) ?_)
          | (refine wp_whole rfl 32 _ rfl (w3.heap.size) rfl 32 #[.int .i64 b.me, .int .i64 b.rv, .int .i64 b.nx, .int .i64 b.mo, .int .i64 b.bo, .int .i64 b.fr, .slice pr lr cr] _ H6n.out Try.underlying32 rfl (by kernel_rfl) ?_)
          | fail)
        intro W4ab hU
        have H7d : Hid (Blk W4ab (w.heap.size) #[.int .i64 x.me, .int .i64 x.rv, .int .i64 x.nx, .int .i64 x.mo, .int .i64 x.bo, .int .i64 x.fr, .slice p len cap] 32) := hU.keep H6d.out (by omega)
        have H7t : Hid (Blk W4ab (w.heap.size + 1) #[.slice pt lt ct, .int .i64 t.ff, .int .i64 t.fb, .int .i64 t.db, .int .i64 t.al] 24) := hU.keep H6t.out (by omega)
        have H7r : Hid (Blk W4ab (w.heap.size + 1 + 1) #[.int .i64 0, .int .i64 0, .int .i64 0, .int .i64 0, .int .i64 0, .int .i64 0, .slice none 0 0] 32) := hU.keep H6r.out (by omega)
        have H7l : Hid (Blk W4ab (w.heap.size + 1 + 1 + 1) #[.int .i64 0, .int .i64 0, .int .i64 0, .int .i64 0, .int .i64 0, .int .i64 0, .int .i64 0] 41) := hU.blk
        have H7n : Hid (Blk W4ab (w3.heap.size) #[.int .i64 b.me, .int .i64 b.rv, .int .i64 b.nx, .int .i64 b.mo, .int .i64 b.bo, .int .i64 b.fr, .slice pr lr cr] 32) := hU.keep H6n.out (by omega)
        have H7F : Hid (deb.Fresh W4ab w2.heap.size pr lr cr b.ds) := fresh_updN H6F.out hU (fun hn y hy => by have f1 := H6F.out.new hn y hy; have f2 := HUPF.out hn y hy; omega)
        have H7B : Hid (Below w.heap.size w W4ab) := hU.bel _ _ (by omega) H6B.out
        have hsW4ab : W4ab.heap.size = W4a.heap.size := hU.size
        clear hU H6d H6t H6r H6l H6n H6F H6B
        have Rr0 : Hid (W4ab.cell? ⟨w.heap.size + 1 + 1, 0, none⟩ = some (.int .i64 0)) := H7r.out.cell 0
        have Rr1 : Hid (W4ab.cell? ⟨w.heap.size + 1 + 1, 1, none⟩ = some (.int .i64 0)) := H7r.out.cell 1
        have Rr2 : Hid (W4ab.cell? ⟨w.heap.size + 1 + 1, 2, none⟩ = some (.int .i64 0)) := H7r.out.cell 2
        have Rr3 : Hid (W4ab.cell? ⟨w.heap.size + 1 + 1, 3, none⟩ = some (.int .i64 0)) := H7r.out.cell 3
        have Rr4 : Hid (W4ab.cell? ⟨w.heap.size + 1 + 1, 4, none⟩ = some (.int .i64 0)) := H7r.out.cell 4
        have Rr5 : Hid (W4ab.cell? ⟨w.heap.size + 1 + 1, 5, none⟩ = some (.int .i64 0)) := H7r.out.cell 5
        have Rr6 : Hid (W4ab.cell? ⟨w.heap.size + 1 + 1, 6, none⟩ = some (.slice none 0 0)) := H7r.out.cell 6
        have Rl0 : Hid (W4ab.cell? ⟨w.heap.size + 1 + 1 + 1, 0, none⟩ = some (.int .i64 0)) := H7l.out.cell 0
        have Rl1 : Hid (W4ab.cell? ⟨w.heap.size + 1 + 1 + 1, 1, none⟩ = some (.int .i64 0)) := H7l.out.cell 1
        have Rl2 : Hid (W4ab.cell? ⟨w.heap.size + 1 + 1 + 1, 2, none⟩ = some (.int .i64 0)) := H7l.out.cell 2
        have Rl3 : Hid (W4ab.cell? ⟨w.heap.size + 1 + 1 + 1, 3, none⟩ = some (.int .i64 0)) := H7l.out.cell 3
        have Rl4 : Hid (W4ab.cell? ⟨w.heap.size + 1 + 1 + 1, 4, none⟩ = some (.int .i64 0)) := H7l.out.cell 4
        have Rl5 : Hid (W4ab.cell? ⟨w.heap.size + 1 + 1 + 1, 5, none⟩ = some (.int .i64 0)) := H7l.out.cell 5
        have Rl6 : Hid (W4ab.cell? ⟨w.heap.size + 1 + 1 + 1, 6, none⟩ = some (.int .i64 0)) := H7l.out.cell 6
        go_wp2_with fail
        exact bodyPost_ret (v := .tuple #[.agg #[.int .i64 0, .int .i64 0, .int .i64 0, .int .i64 0, .int .i64 0, .int .i64 0, .slice none 0 0], .agg #[.int .i64 0, .int .i64 0, .int .i64 0, .int .i64 0, .int .i64 0, .int .i64 0, .int .i64 0], .int .i64 fr]) (by simp [results, Try.results22, Rr0.out, Rr1.out, Rr2.out, Rr3.out, Rr4.out, Rr5.out, Rr6.out, Rl0.out, Rl1.out, Rl2.out, Rl3.out, Rl4.out, Rl5.out, Rl6.out, go_sem]) rfl ⟨ac0, bi0, none, 0, 0, _, rfl, .inl ⟨HV.out, rfl, rfl⟩, deb.fresh_nil _ _, H7B.out⟩
    · have hne : (ft != 0) = true := by simpa using h0
      have HV : Hid (Refused x t m ft) := .inr (.inl ⟨HM.out, fun h => h0 (hft.ok.2 h), hft⟩)
      clear hft h0
      go_wp2_with (first
        | (refine wp_letAll rfl 32 _ _ rfl (w.heap.size + 1 + 1) rfl #[.int .i64 0, .int .i64 0, .int .i64 0, .int .i64 0, .int .i64 0, .int .i64 0, .slice none 0 0] rfl (by kernel_rfl) (by simp [Value.oneCell']) #[.int .i64 0, .int .i64 0, .int .i64 0, .int .i64 0, .int .i64 0, .int .i64 0, .slice none 0 0] 32 H2r.out rfl ?_)
        | (refine wp_whole rfl 32 _ rfl (w.heap.size) rfl 32 #[.int .i64 x.me, .int .i64 x.rv, .int .i64 x.nx, .int .i64 x.mo, .int .i64 x.bo, .int .i64 x.fr, .slice p len cap] _ H2d.out Try.underlying32 rfl (by kernel_rfl) ?_)
        | (refine wp_whole rfl 24 _ rfl (w.heap.size + 1) rfl 24 #[.slice pt lt ct, .int .i64 t.ff, .int .i64 t.fb, .int .i64 t.db, .int .i64 t.al] _ H2t.out Try.underlying24 rfl (by kernel_rfl) ?_)
        | (refine wp_whole rfl 32 _ rfl (w.heap.size + 1 + 1) rfl 32 #[.int .i64 0, .int .i64 0, .int .i64 0, .int .i64 0, .int .i64 0, .int .i64 0, .slice none 0 0] _ H2r.out Try.underlying32 rfl (by kernel_rfl) ?_)
        | (refine wp_whole rfl 41 _ rfl (w.heap.size + 1 + 1 + 1) rfl 41 #[.int .i64 0, .int .i64 0, .int .i64 0, .int .i64 0, .int .i64 0, .int .i64 0, .int .i64 0] _ H2l.out Try.underlying41 rfl (by kernel_rfl) ?_)
        | fail)
      intro w2a hU
      have H3d : Hid (Blk w2a (w.heap.size) #[.int .i64 x.me, .int .i64 x.rv, .int .i64 x.nx, .int .i64 x.mo, .int .i64 x.bo, .int .i64 x.fr, .slice p len cap] 32) := hU.keep H2d.out (by omega)
      have H3t : Hid (Blk w2a (w.heap.size + 1) #[.slice pt lt ct, .int .i64 t.ff, .int .i64 t.fb, .int .i64 t.db, .int .i64 t.al] 24) := hU.keep H2t.out (by omega)
      have H3r : Hid (Blk w2a (w.heap.size + 1 + 1) #[.int .i64 0, .int .i64 0, .int .i64 0, .int .i64 0, .int .i64 0, .int .i64 0, .slice none 0 0] 32) := hU.blk
      have H3l : Hid (Blk w2a (w.heap.size + 1 + 1 + 1) #[.int .i64 0, .int .i64 0, .int .i64 0, .int .i64 0, .int .i64 0, .int .i64 0, .int .i64 0] 41) := hU.keep H2l.out (by omega)
      have H3B : Hid (Below w.heap.size w w2a) := hU.bel _ _ (by omega) H2B.out
      have hsw2a : w2a.heap.size = w2.heap.size := hU.size
      clear hU H2d H2t H2r H2l H2R H2T H2B
      go_wp2_with (first
        | (refine wp_letAll rfl 41 _ _ rfl (w.heap.size + 1 + 1 + 1) rfl #[.int .i64 0, .int .i64 0, .int .i64 0, .int .i64 0, .int .i64 0, .int .i64 0, .int .i64 0] rfl (by kernel_rfl) (by simp [Value.oneCell']) #[.int .i64 0, .int .i64 0, .int .i64 0, .int .i64 0, .int .i64 0, .int .i64 0, .int .i64 0] 41 H3l.out rfl ?_)
        | (refine wp_whole rfl 32 _ rfl (w.heap.size) rfl 32 #[.int .i64 x.me, .int .i64 x.rv, .int .i64 x.nx, .int .i64 x.mo, .int .i64 x.bo, .int .i64 x.fr, .slice p len cap] _ H3d.out Try.underlying32 rfl (by kernel_rfl) ?_)
        | (refine wp_whole rfl 24 _ rfl (w.heap.size + 1) rfl 24 #[.slice pt lt ct, .int .i64 t.ff, .int .i64 t.fb, .int .i64 t.db, .int .i64 t.al] _ H3t.out Try.underlying24 rfl (by kernel_rfl) ?_)
        | (refine wp_whole rfl 32 _ rfl (w.heap.size + 1 + 1) rfl 32 #[.int .i64 0, .int .i64 0, .int .i64 0, .int .i64 0, .int .i64 0, .int .i64 0, .slice none 0 0] _ H3r.out Try.underlying32 rfl (by kernel_rfl) ?_)
        | (refine wp_whole rfl 41 _ rfl (w.heap.size + 1 + 1 + 1) rfl 41 #[.int .i64 0, .int .i64 0, .int .i64 0, .int .i64 0, .int .i64 0, .int .i64 0, .int .i64 0] _ H3l.out Try.underlying41 rfl (by kernel_rfl) ?_)
        | fail)
      intro w2ab hU
      have H4d : Hid (Blk w2ab (w.heap.size) #[.int .i64 x.me, .int .i64 x.rv, .int .i64 x.nx, .int .i64 x.mo, .int .i64 x.bo, .int .i64 x.fr, .slice p len cap] 32) := hU.keep H3d.out (by omega)
      have H4t : Hid (Blk w2ab (w.heap.size + 1) #[.slice pt lt ct, .int .i64 t.ff, .int .i64 t.fb, .int .i64 t.db, .int .i64 t.al] 24) := hU.keep H3t.out (by omega)
      have H4r : Hid (Blk w2ab (w.heap.size + 1 + 1) #[.int .i64 0, .int .i64 0, .int .i64 0, .int .i64 0, .int .i64 0, .int .i64 0, .slice none 0 0] 32) := hU.keep H3r.out (by omega)
      have H4l : Hid (Blk w2ab (w.heap.size + 1 + 1 + 1) #[.int .i64 0, .int .i64 0, .int .i64 0, .int .i64 0, .int .i64 0, .int .i64 0, .int .i64 0] 41) := hU.blk
      have H4B : Hid (Below w.heap.size w w2ab) := hU.bel _ _ (by omega) H3B.out
      have hsw2ab : w2ab.heap.size = w2a.heap.size := hU.size
      clear hU H3d H3t H3r H3l H3B
      have Rr0 : Hid (w2ab.cell? ⟨w.heap.size + 1 + 1, 0, none⟩ = some (.int .i64 0)) := H4r.out.cell 0
      have Rr1 : Hid (w2ab.cell? ⟨w.heap.size + 1 + 1, 1, none⟩ = some (.int .i64 0)) := H4r.out.cell 1
      have Rr2 : Hid (w2ab.cell? ⟨w.heap.size + 1 + 1, 2, none⟩ = some (.int .i64 0)) := H4r.out.cell 2
      have Rr3 : Hid (w2ab.cell? ⟨w.heap.size + 1 + 1, 3, none⟩ = some (.int .i64 0)) := H4r.out.cell 3
      have Rr4 : Hid (w2ab.cell? ⟨w.heap.size + 1 + 1, 4, none⟩ = some (.int .i64 0)) := H4r.out.cell 4
      have Rr5 : Hid (w2ab.cell? ⟨w.heap.size + 1 + 1, 5, none⟩ = some (.int .i64 0)) := H4r.out.cell 5
      have Rr6 : Hid (w2ab.cell? ⟨w.heap.size + 1 + 1, 6, none⟩ = some (.slice none 0 0)) := H4r.out.cell 6
      have Rl0 : Hid (w2ab.cell? ⟨w.heap.size + 1 + 1 + 1, 0, none⟩ = some (.int .i64 0)) := H4l.out.cell 0
      have Rl1 : Hid (w2ab.cell? ⟨w.heap.size + 1 + 1 + 1, 1, none⟩ = some (.int .i64 0)) := H4l.out.cell 1
      have Rl2 : Hid (w2ab.cell? ⟨w.heap.size + 1 + 1 + 1, 2, none⟩ = some (.int .i64 0)) := H4l.out.cell 2
      have Rl3 : Hid (w2ab.cell? ⟨w.heap.size + 1 + 1 + 1, 3, none⟩ = some (.int .i64 0)) := H4l.out.cell 3
      have Rl4 : Hid (w2ab.cell? ⟨w.heap.size + 1 + 1 + 1, 4, none⟩ = some (.int .i64 0)) := H4l.out.cell 4
      have Rl5 : Hid (w2ab.cell? ⟨w.heap.size + 1 + 1 + 1, 5, none⟩ = some (.int .i64 0)) := H4l.out.cell 5
      have Rl6 : Hid (w2ab.cell? ⟨w.heap.size + 1 + 1 + 1, 6, none⟩ = some (.int .i64 0)) := H4l.out.cell 6
      go_wp2_with fail
      exact bodyPost_ret (v := .tuple #[.agg #[.int .i64 0, .int .i64 0, .int .i64 0, .int .i64 0, .int .i64 0, .int .i64 0, .slice none 0 0], .agg #[.int .i64 0, .int .i64 0, .int .i64 0, .int .i64 0, .int .i64 0, .int .i64 0, .int .i64 0], .int .i64 ft]) (by simp [results, Try.results22, Rr0.out, Rr1.out, Rr2.out, Rr3.out, Rr4.out, Rr5.out, Rr6.out, Rl0.out, Rl1.out, Rl2.out, Rl3.out, Rl4.out, Rl5.out, Rl6.out, go_sem]) rfl ⟨ac0, bi0, none, 0, 0, _, rfl, .inl ⟨HV.out, rfl, rfl⟩, deb.fresh_nil _ _, H4B.out⟩
  · have HM : Hid (¬ AMay x) := hm
    have H0d : Hid (Blk ((((w.alloc (.cells #[.int .i64 x.me, .int .i64 x.rv, .int .i64 x.nx, .int .i64 x.mo, .int .i64 x.bo, .int .i64 x.fr, .slice p len cap] 32)).alloc (.cells #[.slice pt lt ct, .int .i64 t.ff, .int .i64 t.fb, .int .i64 t.db, .int .i64 t.al] 24)).alloc (.cells #[.int .i64 0, .int .i64 0, .int .i64 0, .int .i64 0, .int .i64 0, .int .i64 0, .slice none 0 0] 32)).alloc (.cells #[.int .i64 0, .int .i64 0, .int .i64 0, .int .i64 0, .int .i64 0, .int .i64 0, .int .i64 0] 41)) (w.heap.size) #[.int .i64 x.me, .int .i64 x.rv, .int .i64 x.nx, .int .i64 x.mo, .int .i64 x.bo, .int .i64 x.fr, .slice p len cap] 32) := (((Blk.new w _ _).alloc _).alloc _).alloc _
    have H0t : Hid (Blk ((((w.alloc (.cells #[.int .i64 x.me, .int .i64 x.rv, .int .i64 x.nx, .int .i64 x.mo, .int .i64 x.bo, .int .i64 x.fr, .slice p len cap] 32)).alloc (.cells #[.slice pt lt ct, .int .i64 t.ff, .int .i64 t.fb, .int .i64 t.db, .int .i64 t.al] 24)).alloc (.cells #[.int .i64 0, .int .i64 0, .int .i64 0, .int .i64 0, .int .i64 0, .int .i64 0, .slice none 0 0] 32)).alloc (.cells #[.int .i64 0, .int .i64 0, .int .i64 0, .int .i64 0, .int .i64 0, .int .i64 0, .int .i64 0] 41)) (w.heap.size + 1) #[.slice pt lt ct, .int .i64 t.ff, .int .i64 t.fb, .int .i64 t.db, .int .i64 t.al] 24) := ((Blk.new1 w _ _ _).alloc _).alloc _
    have H0r : Hid (Blk ((((w.alloc (.cells #[.int .i64 x.me, .int .i64 x.rv, .int .i64 x.nx, .int .i64 x.mo, .int .i64 x.bo, .int .i64 x.fr, .slice p len cap] 32)).alloc (.cells #[.slice pt lt ct, .int .i64 t.ff, .int .i64 t.fb, .int .i64 t.db, .int .i64 t.al] 24)).alloc (.cells #[.int .i64 0, .int .i64 0, .int .i64 0, .int .i64 0, .int .i64 0, .int .i64 0, .slice none 0 0] 32)).alloc (.cells #[.int .i64 0, .int .i64 0, .int .i64 0, .int .i64 0, .int .i64 0, .int .i64 0, .int .i64 0] 41)) (w.heap.size + 1 + 1) #[.int .i64 0, .int .i64 0, .int .i64 0, .int .i64 0, .int .i64 0, .int .i64 0, .slice none 0 0] 32) := (Blk.new2 w _ _ _ _).alloc _
    have H0l : Hid (Blk ((((w.alloc (.cells #[.int .i64 x.me, .int .i64 x.rv, .int .i64 x.nx, .int .i64 x.mo, .int .i64 x.bo, .int .i64 x.fr, .slice p len cap] 32)).alloc (.cells #[.slice pt lt ct, .int .i64 t.ff, .int .i64 t.fb, .int .i64 t.db, .int .i64 t.al] 24)).alloc (.cells #[.int .i64 0, .int .i64 0, .int .i64 0, .int .i64 0, .int .i64 0, .int .i64 0, .slice none 0 0] 32)).alloc (.cells #[.int .i64 0, .int .i64 0, .int .i64 0, .int .i64 0, .int .i64 0, .int .i64 0, .int .i64 0] 41)) (w.heap.size + 1 + 1 + 1) #[.int .i64 0, .int .i64 0, .int .i64 0, .int .i64 0, .int .i64 0, .int .i64 0, .int .i64 0] 41) := Blk.new3 w _ _ _ _ _
    have H0B : Hid (Below w.heap.size w ((((w.alloc (.cells #[.int .i64 x.me, .int .i64 x.rv, .int .i64 x.nx, .int .i64 x.mo, .int .i64 x.bo, .int .i64 x.fr, .slice p len cap] 32)).alloc (.cells #[.slice pt lt ct, .int .i64 t.ff, .int .i64 t.fb, .int .i64 t.db, .int .i64 t.al] 24)).alloc (.cells #[.int .i64 0, .int .i64 0, .int .i64 0, .int .i64 0, .int .i64 0, .int .i64 0, .slice none 0 0] 32)).alloc (.cells #[.int .i64 0, .int .i64 0, .int .i64 0, .int .i64 0, .int .i64 0, .int .i64 0, .int .i64 0] 41))) := ((((Below.refl w.heap.size w).alloc (by simp) _).alloc (by simp) _).alloc (by simp; omega) _).alloc (by simp; omega) _
    have H0R : Hid (RowD ((((w.alloc (.cells #[.int .i64 x.me, .int .i64 x.rv, .int .i64 x.nx, .int .i64 x.mo, .int .i64 x.bo, .int .i64 x.fr, .slice p len cap] 32)).alloc (.cells #[.slice pt lt ct, .int .i64 t.ff, .int .i64 t.fb, .int .i64 t.db, .int .i64 t.al] 24)).alloc (.cells #[.int .i64 0, .int .i64 0, .int .i64 0, .int .i64 0, .int .i64 0, .int .i64 0, .slice none 0 0] 32)).alloc (.cells #[.int .i64 0, .int .i64 0, .int .i64 0, .int .i64 0, .int .i64 0, .int .i64 0, .int .i64 0] 41)) p len x.ds) := h.below H0B.out
    have H0T : Hid (RowD ((((w.alloc (.cells #[.int .i64 x.me, .int .i64 x.rv, .int .i64 x.nx, .int .i64 x.mo, .int .i64 x.bo, .int .i64 x.fr, .slice p len cap] 32)).alloc (.cells #[.slice pt lt ct, .int .i64 t.ff, .int .i64 t.fb, .int .i64 t.db, .int .i64 t.al] 24)).alloc (.cells #[.int .i64 0, .int .i64 0, .int .i64 0, .int .i64 0, .int .i64 0, .int .i64 0, .slice none 0 0] 32)).alloc (.cells #[.int .i64 0, .int .i64 0, .int .i64 0, .int .i64 0, .int .i64 0, .int .i64 0, .int .i64 0] 41)) pt lt t.ts) := ht.below H0B.out
    have hs0 : w.heap.size + 1 + 1 + 1 < ((((w.alloc (.cells #[.int .i64 x.me, .int .i64 x.rv, .int .i64 x.nx, .int .i64 x.mo, .int .i64 x.bo, .int .i64 x.fr, .slice p len cap] 32)).alloc (.cells #[.slice pt lt ct, .int .i64 t.ff, .int .i64 t.fb, .int .i64 t.db, .int .i64 t.al] 24)).alloc (.cells #[.int .i64 0, .int .i64 0, .int .i64 0, .int .i64 0, .int .i64 0, .int .i64 0, .slice none 0 0] 32)).alloc (.cells #[.int .i64 0, .int .i64 0, .int .i64 0, .int .i64 0, .int .i64 0, .int .i64 0, .int .i64 0] 41)).heap.size := H0l.out.lt
    generalize hWW : ((((w.alloc (.cells #[.int .i64 x.me, .int .i64 x.rv, .int .i64 x.nx, .int .i64 x.mo, .int .i64 x.bo, .int .i64 x.fr, .slice p len cap] 32)).alloc (.cells #[.slice pt lt ct, .int .i64 t.ff, .int .i64 t.fb, .int .i64 t.db, .int .i64 t.al] 24)).alloc (.cells #[.int .i64 0, .int .i64 0, .int .i64 0, .int .i64 0, .int .i64 0, .int .i64 0, .slice none 0 0] 32)).alloc (.cells #[.int .i64 0, .int .i64 0, .int .i64 0, .int .i64 0, .int .i64 0, .int .i64 0, .int .i64 0] 41)) = W0 at *
    have HWW : Hid (((((w.alloc (.cells #[.int .i64 x.me, .int .i64 x.rv, .int .i64 x.nx, .int .i64 x.mo, .int .i64 x.bo, .int .i64 x.fr, .slice p len cap] 32)).alloc (.cells #[.slice pt lt ct, .int .i64 t.ff, .int .i64 t.fb, .int .i64 t.db, .int .i64 t.al] 24)).alloc (.cells #[.int .i64 0, .int .i64 0, .int .i64 0, .int .i64 0, .int .i64 0, .int .i64 0, .slice none 0 0] 32)).alloc (.cells #[.int .i64 0, .int .i64 0, .int .i64 0, .int .i64 0, .int .i64 0, .int .i64 0, .int .i64 0] 41)) = W0) := hWW
    clear hWW
    go_enter Try.func22, Try.ntmps22
    go_upto_region 1 with fail
    rw [HWW.out]
    clear HWW
    have HAM : Hid (Calls Try.prog 37 #[.agg #[.int .i64 x.me, .int .i64 x.rv, .int .i64 x.nx, .int .i64 x.mo, .int .i64 x.bo, .int .i64 x.fr, .slice p len cap]] W0 fun e w' => e = .returned (.bool false) ∧ Below W0.heap.size W0 w') := ranot x p len cap _ H0R.out hl hm
    go_wp2_with (first
      | (refine wp_whole rfl 32 _ rfl (w.heap.size) rfl 32 #[.int .i64 x.me, .int .i64 x.rv, .int .i64 x.nx, .int .i64 x.mo, .int .i64 x.bo, .int .i64 x.fr, .slice p len cap] _ H0d.out Try.underlying32 rfl (by kernel_rfl) ?_)
      | (refine wp_whole rfl 24 _ rfl (w.heap.size + 1) rfl 24 #[.slice pt lt ct, .int .i64 t.ff, .int .i64 t.fb, .int .i64 t.db, .int .i64 t.al] _ H0t.out Try.underlying24 rfl (by kernel_rfl) ?_)
      | (refine wp_whole rfl 32 _ rfl (w.heap.size + 1 + 1) rfl 32 #[.int .i64 0, .int .i64 0, .int .i64 0, .int .i64 0, .int .i64 0, .int .i64 0, .slice none 0 0] _ H0r.out Try.underlying32 rfl (by kernel_rfl) ?_)
      | (refine wp_whole rfl 41 _ rfl (w.heap.size + 1 + 1 + 1) rfl 41 #[.int .i64 0, .int .i64 0, .int .i64 0, .int .i64 0, .int .i64 0, .int .i64 0, .int .i64 0] _ H0l.out Try.underlying41 rfl (by kernel_rfl) ?_)
      | fail)
    refine HAM.out.mono ?_
    rintro e w1 ⟨rfl, hb1⟩
    have H1d : Hid (Blk w1 (w.heap.size) #[.int .i64 x.me, .int .i64 x.rv, .int .i64 x.nx, .int .i64 x.mo, .int .i64 x.bo, .int .i64 x.fr, .slice p len cap] 32) := H0d.out.next hb1
    have H1t : Hid (Blk w1 (w.heap.size + 1) #[.slice pt lt ct, .int .i64 t.ff, .int .i64 t.fb, .int .i64 t.db, .int .i64 t.al] 24) := H0t.out.next hb1
    have H1r : Hid (Blk w1 (w.heap.size + 1 + 1) #[.int .i64 0, .int .i64 0, .int .i64 0, .int .i64 0, .int .i64 0, .int .i64 0, .slice none 0 0] 32) := H0r.out.next hb1
    have H1l : Hid (Blk w1 (w.heap.size + 1 + 1 + 1) #[.int .i64 0, .int .i64 0, .int .i64 0, .int .i64 0, .int .i64 0, .int .i64 0, .int .i64 0] 41) := H0l.out.next hb1
    have H1R : Hid (RowD w1 p len x.ds) := H0R.out.below hb1
    have H1T : Hid (RowD w1 pt lt t.ts) := H0T.out.below hb1
    have H1B : Hid (Below w.heap.size w w1) := H0B.out.trans (hb1.mono H0B.out.size)
    have hsw1 : W0.heap.size ≤ w1.heap.size := hb1.size
    clear hb1 H0d H0t H0r H0l H0R H0T H0B
    clear HAM
    go_wp2_with (first
      | (refine wp_letAll rfl 32 _ _ rfl (w.heap.size + 1 + 1) rfl #[.int .i64 0, .int .i64 0, .int .i64 0, .int .i64 0, .int .i64 0, .int .i64 0, .slice none 0 0] rfl (by kernel_rfl) (by simp [Value.oneCell']) #[.int .i64 0, .int .i64 0, .int .i64 0, .int .i64 0, .int .i64 0, .int .i64 0, .slice none 0 0] 32 H1r.out rfl ?_)
      | (refine wp_whole rfl 32 _ rfl (w.heap.size) rfl 32 #[.int .i64 x.me, .int .i64 x.rv, .int .i64 x.nx, .int .i64 x.mo, .int .i64 x.bo, .int .i64 x.fr, .slice p len cap] _ H1d.out Try.underlying32 rfl (by kernel_rfl) ?_)
      | (refine wp_whole rfl 24 _ rfl (w.heap.size + 1) rfl 24 #[.slice pt lt ct, .int .i64 t.ff, .int .i64 t.fb, .int .i64 t.db, .int .i64 t.al] _ H1t.out Try.underlying24 rfl (by kernel_rfl) ?_)
      | (refine wp_whole rfl 32 _ rfl (w.heap.size + 1 + 1) rfl 32 #[.int .i64 0, .int .i64 0, .int .i64 0, .int .i64 0, .int .i64 0, .int .i64 0, .slice none 0 0] _ H1r.out Try.underlying32 rfl (by kernel_rfl) ?_)
      | (refine wp_whole rfl 41 _ rfl (w.heap.size + 1 + 1 + 1) rfl 41 #[.int .i64 0, .int .i64 0, .int .i64 0, .int .i64 0, .int .i64 0, .int .i64 0, .int .i64 0] _ H1l.out Try.underlying41 rfl (by kernel_rfl) ?_)
      | fail)
    intro w1a hU
    have H2d : Hid (Blk w1a (w.heap.size) #[.int .i64 x.me, .int .i64 x.rv, .int .i64 x.nx, .int .i64 x.mo, .int .i64 x.bo, .int .i64 x.fr, .slice p len cap] 32) := hU.keep H1d.out (by omega)
    have H2t : Hid (Blk w1a (w.heap.size + 1) #[.slice pt lt ct, .int .i64 t.ff, .int .i64 t.fb, .int .i64 t.db, .int .i64 t.al] 24) := hU.keep H1t.out (by omega)
    have H2r : Hid (Blk w1a (w.heap.size + 1 + 1) #[.int .i64 0, .int .i64 0, .int .i64 0, .int .i64 0, .int .i64 0, .int .i64 0, .slice none 0 0] 32) := hU.blk
    have H2l : Hid (Blk w1a (w.heap.size + 1 + 1 + 1) #[.int .i64 0, .int .i64 0, .int .i64 0, .int .i64 0, .int .i64 0, .int .i64 0, .int .i64 0] 41) := hU.keep H1l.out (by omega)
    have H2B : Hid (Below w.heap.size w w1a) := hU.bel _ _ (by omega) H1B.out
    have hsw1a : w1a.heap.size = w1.heap.size := hU.size
    clear hU H1d H1t H1r H1l H1R H1T H1B
    go_wp2_with (first
      | (refine wp_letAll rfl 41 _ _ rfl (w.heap.size + 1 + 1 + 1) rfl #[.int .i64 0, .int .i64 0, .int .i64 0, .int .i64 0, .int .i64 0, .int .i64 0, .int .i64 0] rfl (by kernel_rfl) (by simp [Value.oneCell']) #[.int .i64 0, .int .i64 0, .int .i64 0, .int .i64 0, .int .i64 0, .int .i64 0, .int .i64 0] 41 H2l.out rfl ?_)
      | (refine wp_whole rfl 32 _ rfl (w.heap.size) rfl 32 #[.int .i64 x.me, .int .i64 x.rv, .int .i64 x.nx, .int .i64 x.mo, .int .i64 x.bo, .int .i64 x.fr, .slice p len cap] _ H2d.out Try.underlying32 rfl (by kernel_rfl) ?_)
      | (refine wp_whole rfl 24 _ rfl (w.heap.size + 1) rfl 24 #[.slice pt lt ct, .int .i64 t.ff, .int .i64 t.fb, .int .i64 t.db, .int .i64 t.al] _ H2t.out Try.underlying24 rfl (by kernel_rfl) ?_)
      | (refine wp_whole rfl 32 _ rfl (w.heap.size + 1 + 1) rfl 32 #[.int .i64 0, .int .i64 0, .int .i64 0, .int .i64 0, .int .i64 0, .int .i64 0, .slice none 0 0] _ H2r.out Try.underlying32 rfl (by kernel_rfl) ?_)
      | (refine wp_whole rfl 41 _ rfl (w.heap.size + 1 + 1 + 1) rfl 41 #[.int .i64 0, .int .i64 0, .int .i64 0, .int .i64 0, .int .i64 0, .int .i64 0, .int .i64 0] _ H2l.out Try.underlying41 rfl (by kernel_rfl) ?_)
      | fail)
    intro w1ab hU
    have H3d : Hid (Blk w1ab (w.heap.size) #[.int .i64 x.me, .int .i64 x.rv, .int .i64 x.nx, .int .i64 x.mo, .int .i64 x.bo, .int .i64 x.fr, .slice p len cap] 32) := hU.keep H2d.out (by omega)
    have H3t : Hid (Blk w1ab (w.heap.size + 1) #[.slice pt lt ct, .int .i64 t.ff, .int .i64 t.fb, .int .i64 t.db, .int .i64 t.al] 24) := hU.keep H2t.out (by omega)
    have H3r : Hid (Blk w1ab (w.heap.size + 1 + 1) #[.int .i64 0, .int .i64 0, .int .i64 0, .int .i64 0, .int .i64 0, .int .i64 0, .slice none 0 0] 32) := hU.keep H2r.out (by omega)
    have H3l : Hid (Blk w1ab (w.heap.size + 1 + 1 + 1) #[.int .i64 0, .int .i64 0, .int .i64 0, .int .i64 0, .int .i64 0, .int .i64 0, .int .i64 0] 41) := hU.blk
    have H3B : Hid (Below w.heap.size w w1ab) := hU.bel _ _ (by omega) H2B.out
    have hsw1ab : w1ab.heap.size = w1a.heap.size := hU.size
    clear hU H2d H2t H2r H2l H2B
    have Rr0 : Hid (w1ab.cell? ⟨w.heap.size + 1 + 1, 0, none⟩ = some (.int .i64 0)) := H3r.out.cell 0
    have Rr1 : Hid (w1ab.cell? ⟨w.heap.size + 1 + 1, 1, none⟩ = some (.int .i64 0)) := H3r.out.cell 1
    have Rr2 : Hid (w1ab.cell? ⟨w.heap.size + 1 + 1, 2, none⟩ = some (.int .i64 0)) := H3r.out.cell 2
    have Rr3 : Hid (w1ab.cell? ⟨w.heap.size + 1 + 1, 3, none⟩ = some (.int .i64 0)) := H3r.out.cell 3
    have Rr4 : Hid (w1ab.cell? ⟨w.heap.size + 1 + 1, 4, none⟩ = some (.int .i64 0)) := H3r.out.cell 4
    have Rr5 : Hid (w1ab.cell? ⟨w.heap.size + 1 + 1, 5, none⟩ = some (.int .i64 0)) := H3r.out.cell 5
    have Rr6 : Hid (w1ab.cell? ⟨w.heap.size + 1 + 1, 6, none⟩ = some (.slice none 0 0)) := H3r.out.cell 6
    have Rl0 : Hid (w1ab.cell? ⟨w.heap.size + 1 + 1 + 1, 0, none⟩ = some (.int .i64 0)) := H3l.out.cell 0
    have Rl1 : Hid (w1ab.cell? ⟨w.heap.size + 1 + 1 + 1, 1, none⟩ = some (.int .i64 0)) := H3l.out.cell 1
    have Rl2 : Hid (w1ab.cell? ⟨w.heap.size + 1 + 1 + 1, 2, none⟩ = some (.int .i64 0)) := H3l.out.cell 2
    have Rl3 : Hid (w1ab.cell? ⟨w.heap.size + 1 + 1 + 1, 3, none⟩ = some (.int .i64 0)) := H3l.out.cell 3
    have Rl4 : Hid (w1ab.cell? ⟨w.heap.size + 1 + 1 + 1, 4, none⟩ = some (.int .i64 0)) := H3l.out.cell 4
    have Rl5 : Hid (w1ab.cell? ⟨w.heap.size + 1 + 1 + 1, 5, none⟩ = some (.int .i64 0)) := H3l.out.cell 5
    have Rl6 : Hid (w1ab.cell? ⟨w.heap.size + 1 + 1 + 1, 6, none⟩ = some (.int .i64 0)) := H3l.out.cell 6
    go_wp2_with fail
    exact bodyPost_ret (v := .tuple #[.agg #[.int .i64 0, .int .i64 0, .int .i64 0, .int .i64 0, .int .i64 0, .int .i64 0, .slice none 0 0], .agg #[.int .i64 0, .int .i64 0, .int .i64 0, .int .i64 0, .int .i64 0, .int .i64 0, .int .i64 0], .int .i64 5]) (by simp [results, Try.results22, Rr0.out, Rr1.out, Rr2.out, Rr3.out, Rr4.out, Rr5.out, Rr6.out, Rl0.out, Rl1.out, Rl2.out, Rl3.out, Rl4.out, Rl5.out, Rl6.out, go_sem]) rfl ⟨ac0, bi0, none, 0, 0, _, rfl, .inl ⟨.inl ⟨HM.out, rfl⟩, rfl, rfl⟩, deb.fresh_nil _ _, H3B.out⟩

end Go.Proofs.Ytlolippocnngcaa.acc
