/- A debt more, as the document has it. -/
import Derived.Test.YtfhlokjpdkmdjaaSh
import Derived.Test.YtfhlokjpdkmdjaaAcCp
import Derived.Test.YtfhlokjpdkmdjaaAcMy
import Derived.Test.YtfhlokjpdkmdjaaAcGw
namespace Go.Proofs.Ytfhlokjpdkmdjaa.acc
open Go.Proofs.Ytfhlokjpdkmdjaa.tar (Du du0 Came RowD Ld PairT)
open Go.RowKit
set_option maxRecDepth 100000
set_option linter.unusedVariables false
set_option linter.unusedSimpArgs false

set_option maxHeartbeats 8000000 in
theorem rowes (x : Ac) (p : Option Addr) (len cap : Nat) (q : Du) (w : World) (h : RowD w p len x.ds) (hl : len ≤ maxLen) : Calls Try.prog 55 #[.agg #[.int .i64 x.me, .int .i64 x.rv, .int .i64 x.nx, .int .i64 x.mo, .int .i64 x.bo, .int .i64 x.fr, .slice p len cap], .agg #[.int .i64 q.a, .int .i64 q.b]] w fun e w' => APost w (OweIs x q) e w' := by
  have hlen := h.1
  have HI1 : Hid (∀ W, Calls Try.prog 47 #[.int .i64 q.a, .int .i64 1, .int .i64 1000000000] W fun e w' => e = .returned (.bool (decide (1 ≤ q.a ∧ q.a ≤ 1000000000))) ∧ w' = W) := fun W => cal.cin q.a 1 1000000000 W
  have HI2 : Hid (∀ W, Calls Try.prog 47 #[.int .i64 q.b, .int .i64 0, .int .i64 10000] W fun e w' => e = .returned (.bool (decide (0 ≤ q.b ∧ q.b ≤ 10000))) ∧ w' = W) := fun W => cal.cin q.b 0 10000 W
  by_cases hm : AMay x
  · have HM : Hid (AMay x) := hm
    have hdm := hm.1
    have hl8 : len ≤ 8 := by have := hm.1.1; omega
    obtain ⟨W0, HWW, H0d, H0e, H0r, H0B, hs0⟩ := sh3 w #[.int .i64 x.me, .int .i64 x.rv, .int .i64 x.nx, .int .i64 x.mo, .int .i64 x.bo, .int .i64 x.fr, .slice p len cap] 55 #[.int .i64 q.a, .int .i64 q.b] 25 #[.int .i64 0, .int .i64 0, .int .i64 0, .int .i64 0, .int .i64 0, .int .i64 0, .slice none 0 0] 55
    have H0R : Hid (RowD W0 p len x.ds) := h.below H0B.out
    go_enter Try.func55, Try.ntmps55
    go_upto_region 1 with fail
    rw [HWW.out]
    clear HWW
    have HAM : Hid (Calls Try.prog 68 #[.agg #[.int .i64 x.me, .int .i64 x.rv, .int .i64 x.nx, .int .i64 x.mo, .int .i64 x.bo, .int .i64 x.fr, .slice p len cap]] W0 fun e w' => e = .returned (.bool true) ∧ Below W0.heap.size W0 w') := ramay x p len cap _ H0R.out hl hm
    go_wp2_with (first
      | (refine wp_whole rfl 55 _ rfl _ rfl 55 _ _ H0d.out Try.underlying55 rfl (by kernel_rfl) ?_)
      | (refine wp_whole rfl 25 _ rfl _ rfl 25 _ _ H0e.out Try.underlying25 rfl (by kernel_rfl) ?_)
      | (refine wp_whole rfl 55 _ rfl _ rfl 55 _ _ H0r.out Try.underlying55 rfl (by kernel_rfl) ?_)
      | fail)
    refine HAM.out.mono ?_
    rintro e w1 ⟨rfl, hb1⟩
    have H1d := shN H0d hb1
    have H1e := shN H0e hb1
    have H1r := shN H0r hb1
    have H1R : Hid (RowD w1 p len x.ds) := H0R.out.below hb1
    have H1B := shB H0B hb1
    have hsw1 : W0.heap.size ≤ w1.heap.size := hb1.size
    clear hb1 H0d H0e H0r H0R H0B
    clear HAM
    clear hm
    by_cases h1 : 1 ≤ q.a ∧ q.a ≤ 1000000000
    · rw [decide_eq_true h1] at HI1
      by_cases h2 : 0 ≤ q.b ∧ q.b ≤ 10000
      · rw [decide_eq_true h2] at HI2
        have qe0 : w1.cell? ⟨w.heap.size + 1, 0, none⟩ = some (.int .i64 q.a) := H1e.out.cell 0
        have qe1 : w1.cell? ⟨w.heap.size + 1, 1, none⟩ = some (.int .i64 q.b) := H1e.out.cell 1
        go_wp2_with fail
        refine (HI1.out _).mono ?_
        rintro e wz ⟨rfl, hwz⟩
        obtain rfl : w1 = wz := hwz.symm
        go_wp2_with fail
        refine (HI2.out _).mono ?_
        rintro e wz ⟨rfl, hwz⟩
        obtain rfl : w1 = wz := hwz.symm
        clear qe0 qe1 HI1 HI2
        by_cases h3 : len < 8
        · have d3 : decide (8 ≤ (len : Int)) = false := decide_eq_false (by omega)
          have d4 : decide (8 ≤ len) = false := decide_eq_false (by omega)
          have HCP : Hid (Calls Try.prog 69 #[.agg #[.int .i64 x.me, .int .i64 x.rv, .int .i64 x.nx, .int .i64 x.mo, .int .i64 x.bo, .int .i64 x.fr, .slice p len cap]] w1 fun e w' => ∃ p' cap', e = .returned (Ac.v x p' len cap') ∧ deb.Fresh w' w1.heap.size p' len cap' x.ds ∧ Ld 25 w' w1.heap.size (.slice p' len cap') x.ds ∧ Below w1.heap.size w1 w') := rcopyL x p len cap w1 H1R.out hdm
          have HMN : Hid (deb.Mays (x.ds ++ [q])) := ⟨by rw [List.length_append, hlen]; show len + 1 ≤ 8; omega, deb.fits_mem fun d hd => by
            rcases List.mem_append.1 hd with hd | hd
            · exact deb.mem_fits hdm.2 d hd
            · have e2 := List.mem_singleton.1 hd
              subst e2
              exact ⟨⟨by omega, h1.2⟩, h2⟩⟩
          have hzl : x.ds.length ≤ 1000000 := by omega
          have HOV : Hid (OweIs x q ⟨x.me, x.rv, x.nx, x.mo, x.bo, x.fr, x.ds ++ [q]⟩ 0) := .inr (.inr (.inr ⟨HM.out, ⟨h1, h2⟩, by rw [hlen]; exact h3, rfl, rfl⟩))
          have qd6 : w1.cell? ⟨w.heap.size, 6, none⟩ = some (.slice p len cap) := H1d.out.cell 6
          go_wp2_with (first
            | (refine wp_whole rfl 55 _ rfl _ rfl 55 _ _ H1d.out Try.underlying55 rfl (by kernel_rfl) ?_)
            | (refine wp_whole rfl 25 _ rfl _ rfl 25 _ _ H1e.out Try.underlying25 rfl (by kernel_rfl) ?_)
            | (refine wp_whole rfl 55 _ rfl _ rfl 55 _ _ H1r.out Try.underlying55 rfl (by kernel_rfl) ?_)
            | fail)
          refine HCP.out.mono ?_
          rintro e w3 ⟨p3, cap3, rfl, hf3, hl3, hb3⟩
          have H2d := shN H1d hb3
          have H2e := shN H1e hb3
          have H2r := shN H1r hb3
          have H2R : Hid (RowD w3 p len x.ds) := H1R.out.below hb3
          have H2B := shB H1B hb3
          have hsw3 : w1.heap.size ≤ w3.heap.size := hb3.size
          clear hb3 H1d H1e H1r H1R H1B
          clear qd6
          unfold Ac.v Ac.cs
          have HL3 : Hid (Ld 25 w3 w1.heap.size (.slice p3 len cap3) x.ds) := hl3
          clear hf3 hl3 HCP
          have HL4 : Hid (Ld 25 (w3.alloc (.cells #[.int .i64 x.me, .int .i64 x.rv, .int .i64 x.nx, .int .i64 x.mo, .int .i64 x.bo, .int .i64 x.fr, .slice p3 len cap3] 55)) w1.heap.size (.slice p3 len cap3) x.ds) := HL3.out.alloc _
          have H3d : Hid (Blk (w3.alloc (.cells #[.int .i64 x.me, .int .i64 x.rv, .int .i64 x.nx, .int .i64 x.mo, .int .i64 x.bo, .int .i64 x.fr, .slice p3 len cap3] 55)) (w.heap.size) #[.int .i64 x.me, .int .i64 x.rv, .int .i64 x.nx, .int .i64 x.mo, .int .i64 x.bo, .int .i64 x.fr, .slice p len cap] 55) := H2d.out.alloc _
          have H3e : Hid (Blk (w3.alloc (.cells #[.int .i64 x.me, .int .i64 x.rv, .int .i64 x.nx, .int .i64 x.mo, .int .i64 x.bo, .int .i64 x.fr, .slice p3 len cap3] 55)) (w.heap.size + 1) #[.int .i64 q.a, .int .i64 q.b] 25) := H2e.out.alloc _
          have H3r : Hid (Blk (w3.alloc (.cells #[.int .i64 x.me, .int .i64 x.rv, .int .i64 x.nx, .int .i64 x.mo, .int .i64 x.bo, .int .i64 x.fr, .slice p3 len cap3] 55)) (w.heap.size + 1 + 1) #[.int .i64 0, .int .i64 0, .int .i64 0, .int .i64 0, .int .i64 0, .int .i64 0, .slice none 0 0] 55) := H2r.out.alloc _
          have H3n : Hid (Blk (w3.alloc (.cells #[.int .i64 x.me, .int .i64 x.rv, .int .i64 x.nx, .int .i64 x.mo, .int .i64 x.bo, .int .i64 x.fr, .slice p3 len cap3] 55)) w3.heap.size #[.int .i64 x.me, .int .i64 x.rv, .int .i64 x.nx, .int .i64 x.mo, .int .i64 x.bo, .int .i64 x.fr, .slice p3 len cap3] 55) := Blk.new w3 _ _
          have H3B : Hid (Below w.heap.size w (w3.alloc (.cells #[.int .i64 x.me, .int .i64 x.rv, .int .i64 x.nx, .int .i64 x.mo, .int .i64 x.bo, .int .i64 x.fr, .slice p3 len cap3] 55))) := H2B.out.alloc H2B.out.size _
          have hsW4 : w3.heap.size < (w3.alloc (.cells #[.int .i64 x.me, .int .i64 x.rv, .int .i64 x.nx, .int .i64 x.mo, .int .i64 x.bo, .int .i64 x.fr, .slice p3 len cap3] 55)).heap.size := (Blk.new w3 #[.int .i64 x.me, .int .i64 x.rv, .int .i64 x.nx, .int .i64 x.mo, .int .i64 x.bo, .int .i64 x.fr, .slice p3 len cap3] 55).lt
          clear H2d H2e H2r H2B
          go_upto_region 8 with fail
          generalize (w3.alloc (.cells #[.int .i64 x.me, .int .i64 x.rv, .int .i64 x.nx, .int .i64 x.mo, .int .i64 x.bo, .int .i64 x.fr, .slice p3 len cap3] 55)) = W4 at *
          have HZA : Hid (Ld 25 (W4.alloc (.cells #[.int .i64 q.a, .int .i64 q.b] 25)) w1.heap.size (.slice p3 len cap3) x.ds) := HL4.out.alloc _
          have HBA : Hid (Below w.heap.size w (W4.alloc (.cells #[.int .i64 q.a, .int .i64 q.b] 25))) := H3B.out.alloc H3B.out.size _
          have hsA : W4.heap.size < (W4.alloc (.cells #[.int .i64 q.a, .int .i64 q.b] 25)).heap.size := (Blk.new W4 #[.int .i64 q.a, .int .i64 q.b] 25).lt
          have HCA : Hid ((W4.alloc (.cells #[.int .i64 q.a, .int .i64 q.b] 25)).cell? ⟨W4.heap.size, 0, none⟩ = some (.int .i64 q.a) ∧ (W4.alloc (.cells #[.int .i64 q.a, .int .i64 q.b] 25)).cell? ⟨W4.heap.size, 1, none⟩ = some (.int .i64 q.b)) := ⟨(Blk.new W4 _ _).cell 0, (Blk.new W4 _ _).cell 1⟩
          have HAd : Hid (Blk (W4.alloc (.cells #[.int .i64 q.a, .int .i64 q.b] 25)) (w.heap.size) #[.int .i64 x.me, .int .i64 x.rv, .int .i64 x.nx, .int .i64 x.mo, .int .i64 x.bo, .int .i64 x.fr, .slice p len cap] 55) := H3d.out.alloc _
          have HAe : Hid (Blk (W4.alloc (.cells #[.int .i64 q.a, .int .i64 q.b] 25)) (w.heap.size + 1) #[.int .i64 q.a, .int .i64 q.b] 25) := H3e.out.alloc _
          have HAr : Hid (Blk (W4.alloc (.cells #[.int .i64 q.a, .int .i64 q.b] 25)) (w.heap.size + 1 + 1) #[.int .i64 0, .int .i64 0, .int .i64 0, .int .i64 0, .int .i64 0, .int .i64 0, .slice none 0 0] 55) := H3r.out.alloc _
          have HAn : Hid (Blk (W4.alloc (.cells #[.int .i64 q.a, .int .i64 q.b] 25)) (w3.heap.size) #[.int .i64 x.me, .int .i64 x.rv, .int .i64 x.nx, .int .i64 x.mo, .int .i64 x.bo, .int .i64 x.fr, .slice p3 len cap3] 55) := H3n.out.alloc _
          have qn6 : W4.cell? ⟨w3.heap.size, 6, none⟩ = some (.slice p3 len cap3) := H3n.out.cell 6
          go_wp2_with (first
            | (at_builtin; refine tar.wp_pair deb.debtT rfl _ _ rfl w1.heap.size W4.heap.size (.slice p3 len cap3) x.ds q rfl rfl HZA.out HCA.out hzl (by omega) ?_)
            | (refine wp_whole rfl 55 _ rfl _ rfl 55 _ _ H3d.out Try.underlying55 rfl (by kernel_rfl) ?_)
            | (refine wp_whole rfl 25 _ rfl _ rfl 25 _ _ H3e.out Try.underlying25 rfl (by kernel_rfl) ?_)
            | (refine wp_whole rfl 55 _ rfl _ rfl 55 _ _ H3r.out Try.underlying55 rfl (by kernel_rfl) ?_)
            | (refine wp_whole rfl 55 _ rfl _ rfl 55 _ _ H3n.out Try.underlying55 rfl (by kernel_rfl) ?_)
            | fail)
          intro v5 w5 h5 hg5
          have H5d : Hid (Blk w5 (w.heap.size) #[.int .i64 x.me, .int .i64 x.rv, .int .i64 x.nx, .int .i64 x.mo, .int .i64 x.bo, .int .i64 x.fr, .slice p len cap] 55) := grown_blk HAd.out hg5 (tar.own_far HZA.out (by omega))
          have H5e : Hid (Blk w5 (w.heap.size + 1) #[.int .i64 q.a, .int .i64 q.b] 25) := grown_blk HAe.out hg5 (tar.own_far HZA.out (by omega))
          have H5r : Hid (Blk w5 (w.heap.size + 1 + 1) #[.int .i64 0, .int .i64 0, .int .i64 0, .int .i64 0, .int .i64 0, .int .i64 0, .slice none 0 0] 55) := grown_blk HAr.out hg5 (tar.own_far HZA.out (by omega))
          have H5n : Hid (Blk w5 (w3.heap.size) #[.int .i64 x.me, .int .i64 x.rv, .int .i64 x.nx, .int .i64 x.mo, .int .i64 x.bo, .int .i64 x.fr, .slice p3 len cap3] 55) := grown_blk HAn.out hg5 (fun e => by have := (World.ownsRow.lt HL3.out _ e.symm).2; omega)
          have H5B : Hid (Below w.heap.size w w5) := tar.own_bel HZA.out hg5 HBA.out (by omega) (by omega)
          have hsw5 : (W4.alloc (.cells #[.int .i64 q.a, .int .i64 q.b] 25)).heap.size ≤ w5.heap.size := hg5.size
          obtain ⟨p5, c5, hv5, hf5⟩ := deb.ld_fresh h5 HMN.out
          subst hv5
          have HUNE : Hid (0 < (x.ds ++ [q]).length → ∀ y, p5 = some y → y.block ≠ w3.heap.size) := ld_ne h5 H5n.out (by decide)
          have HUNR : Hid (0 < (x.ds ++ [q]).length → ∀ y, p5 = some y → y.block ≠ w.heap.size + 1 + 1) := ld_ne h5 H5r.out (by decide)
          have H5F : Hid (deb.Fresh w5 w1.heap.size p5 (x.ds ++ [q]).length c5 (x.ds ++ [q])) := hf5
          clear h5 hg5 hf5 HL3 HL4 HZA HBA HCA HAd HAe HAr HAn H3d H3e H3r H3n H3B
          clear qn6
          generalize (x.ds ++ [q]).length = n5 at *
          go_wp2_with (first
            | (refine wp_letS rfl 53 _ _ rfl (w3.heap.size) 6 rfl p5 n5 c5 rfl (by kernel_rfl) #[.int .i64 x.me, .int .i64 x.rv, .int .i64 x.nx, .int .i64 x.mo, .int .i64 x.bo, .int .i64 x.fr, .slice p3 len cap3] 55 H5n.out (by simp) ?_)
            | (refine wp_whole rfl 55 _ rfl _ rfl 55 _ _ H5d.out Try.underlying55 rfl (by kernel_rfl) ?_)
            | (refine wp_whole rfl 25 _ rfl _ rfl 25 _ _ H5e.out Try.underlying25 rfl (by kernel_rfl) ?_)
            | (refine wp_whole rfl 55 _ rfl _ rfl 55 _ _ H5r.out Try.underlying55 rfl (by kernel_rfl) ?_)
            | (refine wp_whole rfl 55 _ rfl _ rfl 55 _ _ H5n.out Try.underlying55 rfl (by kernel_rfl) ?_)
            | fail)
          intro W6 hU
          have H6d := shK hU H5d (by omega)
          have H6e := shK hU H5e (by omega)
          have H6r := shK hU H5r (by omega)
          have H6n : Hid (Blk W6 (w3.heap.size) #[.int .i64 x.me, .int .i64 x.rv, .int .i64 x.nx, .int .i64 x.mo, .int .i64 x.bo, .int .i64 x.fr, .slice p5 n5 c5] 55) := hU.blk
          have H6B := shV hU H5B (by omega)
          have H6F : Hid (deb.Fresh W6 w1.heap.size p5 n5 c5 (x.ds ++ [q])) := fresh_updN H5F.out hU HUNE.out
          clear hU H5d H5e H5r H5n H5B H5F
          go_wp2_with (first
            | (refine wp_letAll rfl 55 _ _ rfl _ rfl _ rfl (by kernel_rfl) (by simp [Value.oneCell']) _ 55 H6r.out rfl ?_)
            | (refine wp_whole rfl 55 _ rfl _ rfl 55 _ _ H6d.out Try.underlying55 rfl (by kernel_rfl) ?_)
            | (refine wp_whole rfl 25 _ rfl _ rfl 25 _ _ H6e.out Try.underlying25 rfl (by kernel_rfl) ?_)
            | (refine wp_whole rfl 55 _ rfl _ rfl 55 _ _ H6r.out Try.underlying55 rfl (by kernel_rfl) ?_)
            | (refine wp_whole rfl 55 _ rfl _ rfl 55 _ _ H6n.out Try.underlying55 rfl (by kernel_rfl) ?_)
            | fail)
          intro W7 hU
          have H7r : Hid (Blk W7 (w.heap.size + 1 + 1) #[.int .i64 x.me, .int .i64 x.rv, .int .i64 x.nx, .int .i64 x.mo, .int .i64 x.bo, .int .i64 x.fr, .slice p5 n5 c5] 55) := hU.blk
          have H7B := shV hU H6B (by omega)
          have H7F : Hid (deb.Fresh W7 w1.heap.size p5 n5 c5 (x.ds ++ [q])) := fresh_updN H6F.out hU HUNR.out
          clear hU H6d H6e H6r H6n H6B H6F
          obtain ⟨Rr0, Rr1, Rr2, Rr3, Rr4, Rr5, Rr6⟩ := shc7 H7r
          go_wp2_with fail
          exact bodyPost_ret (v := .tuple #[.agg #[.int .i64 x.me, .int .i64 x.rv, .int .i64 x.nx, .int .i64 x.mo, .int .i64 x.bo, .int .i64 x.fr, .slice p5 n5 c5], .int .i64 0]) (by simp [results, Try.results55, Rr0.out, Rr1.out, Rr2.out, Rr3.out, Rr4.out, Rr5.out, Rr6.out, go_sem]) rfl ⟨⟨x.me, x.rv, x.nx, x.mo, x.bo, x.fr, x.ds ++ [q]⟩, p5, n5, c5, _, rfl, HOV.out, H7F.out.low (by omega), H7B.out⟩
        · have d3 : decide (8 ≤ (len : Int)) = true := decide_eq_true (by omega)
          have d4 : decide (8 ≤ len) = true := decide_eq_true (by omega)
          have HV : Hid (OweIs x q ac0 16) := .inr (.inr (.inl ⟨HM.out, ⟨h1, h2⟩, by rw [hlen]; exact h3, rfl, rfl⟩))
          clear h3
          have qd6 : w1.cell? ⟨w.heap.size, 6, none⟩ = some (.slice p len cap) := H1d.out.cell 6
          go_wp2_with (first
            | (refine wp_letAll rfl 55 _ _ rfl _ rfl _ rfl (by kernel_rfl) (by simp [Value.oneCell']) _ 55 H1r.out rfl ?_)
            | (refine wp_whole rfl 55 _ rfl _ rfl 55 _ _ H1d.out Try.underlying55 rfl (by kernel_rfl) ?_)
            | (refine wp_whole rfl 25 _ rfl _ rfl 25 _ _ H1e.out Try.underlying25 rfl (by kernel_rfl) ?_)
            | (refine wp_whole rfl 55 _ rfl _ rfl 55 _ _ H1r.out Try.underlying55 rfl (by kernel_rfl) ?_)
            | fail)
          intro w1a hU
          have H2d := shK hU H1d (by omega)
          have H2e := shK hU H1e (by omega)
          have H2r : Hid (Blk w1a (w.heap.size + 1 + 1) #[.int .i64 0, .int .i64 0, .int .i64 0, .int .i64 0, .int .i64 0, .int .i64 0, .slice none 0 0] 55) := hU.blk
          have H2B := shV hU H1B (by omega)
          have hsw1a : w1a.heap.size = w1.heap.size := hU.size
          clear hU H1d H1e H1r H1R H1B
          obtain ⟨Rr0, Rr1, Rr2, Rr3, Rr4, Rr5, Rr6⟩ := shc7 H2r
          go_wp2_with fail
          exact bodyPost_ret (v := .tuple #[.agg #[.int .i64 0, .int .i64 0, .int .i64 0, .int .i64 0, .int .i64 0, .int .i64 0, .slice none 0 0], .int .i64 16]) (by simp [results, Try.results55, Rr0.out, Rr1.out, Rr2.out, Rr3.out, Rr4.out, Rr5.out, Rr6.out, go_sem]) rfl ⟨ac0, none, 0, 0, _, rfl, HV.out, deb.fresh_nil _ _, H2B.out⟩
      · rw [decide_eq_false h2] at HI2
        have HV : Hid (OweIs x q ac0 2) := .inr (.inl ⟨HM.out, fun hh => h2 hh.2, rfl, rfl⟩)
        clear h2
        have qe0 : w1.cell? ⟨w.heap.size + 1, 0, none⟩ = some (.int .i64 q.a) := H1e.out.cell 0
        have qe1 : w1.cell? ⟨w.heap.size + 1, 1, none⟩ = some (.int .i64 q.b) := H1e.out.cell 1
        go_wp2_with fail
        refine (HI1.out _).mono ?_
        rintro e wz ⟨rfl, hwz⟩
        obtain rfl : w1 = wz := hwz.symm
        go_wp2_with fail
        refine (HI2.out _).mono ?_
        rintro e wz ⟨rfl, hwz⟩
        obtain rfl : w1 = wz := hwz.symm
        go_wp2_with (first
          | (refine wp_letAll rfl 55 _ _ rfl _ rfl _ rfl (by kernel_rfl) (by simp [Value.oneCell']) _ 55 H1r.out rfl ?_)
          | (refine wp_whole rfl 55 _ rfl _ rfl 55 _ _ H1d.out Try.underlying55 rfl (by kernel_rfl) ?_)
          | (refine wp_whole rfl 25 _ rfl _ rfl 25 _ _ H1e.out Try.underlying25 rfl (by kernel_rfl) ?_)
          | (refine wp_whole rfl 55 _ rfl _ rfl 55 _ _ H1r.out Try.underlying55 rfl (by kernel_rfl) ?_)
          | fail)
        intro w1a hU
        have H2d := shK hU H1d (by omega)
        have H2e := shK hU H1e (by omega)
        have H2r : Hid (Blk w1a (w.heap.size + 1 + 1) #[.int .i64 0, .int .i64 0, .int .i64 0, .int .i64 0, .int .i64 0, .int .i64 0, .slice none 0 0] 55) := hU.blk
        have H2B := shV hU H1B (by omega)
        have hsw1a : w1a.heap.size = w1.heap.size := hU.size
        clear hU H1d H1e H1r H1R H1B
        obtain ⟨Rr0, Rr1, Rr2, Rr3, Rr4, Rr5, Rr6⟩ := shc7 H2r
        go_wp2_with fail
        exact bodyPost_ret (v := .tuple #[.agg #[.int .i64 0, .int .i64 0, .int .i64 0, .int .i64 0, .int .i64 0, .int .i64 0, .slice none 0 0], .int .i64 2]) (by simp [results, Try.results55, Rr0.out, Rr1.out, Rr2.out, Rr3.out, Rr4.out, Rr5.out, Rr6.out, go_sem]) rfl ⟨ac0, none, 0, 0, _, rfl, HV.out, deb.fresh_nil _ _, H2B.out⟩
    · rw [decide_eq_false h1] at HI1
      have HV : Hid (OweIs x q ac0 2) := .inr (.inl ⟨HM.out, fun hh => h1 hh.1, rfl, rfl⟩)
      clear h1
      have qe0 : w1.cell? ⟨w.heap.size + 1, 0, none⟩ = some (.int .i64 q.a) := H1e.out.cell 0
      go_wp2_with fail
      refine (HI1.out _).mono ?_
      rintro e wz ⟨rfl, hwz⟩
      obtain rfl : w1 = wz := hwz.symm
      go_wp2_with (first
        | (refine wp_letAll rfl 55 _ _ rfl _ rfl _ rfl (by kernel_rfl) (by simp [Value.oneCell']) _ 55 H1r.out rfl ?_)
        | fail)
      intro w1a hU
      have H2d := shK hU H1d (by omega)
      have H2e := shK hU H1e (by omega)
      have H2r : Hid (Blk w1a (w.heap.size + 1 + 1) #[.int .i64 0, .int .i64 0, .int .i64 0, .int .i64 0, .int .i64 0, .int .i64 0, .slice none 0 0] 55) := hU.blk
      have H2B := shV hU H1B (by omega)
      have hsw1a : w1a.heap.size = w1.heap.size := hU.size
      clear hU H1d H1e H1r H1R H1B
      obtain ⟨Rr0, Rr1, Rr2, Rr3, Rr4, Rr5, Rr6⟩ := shc7 H2r
      go_wp2_with fail
      exact bodyPost_ret (v := .tuple #[.agg #[.int .i64 0, .int .i64 0, .int .i64 0, .int .i64 0, .int .i64 0, .int .i64 0, .slice none 0 0], .int .i64 2]) (by simp [results, Try.results55, Rr0.out, Rr1.out, Rr2.out, Rr3.out, Rr4.out, Rr5.out, Rr6.out, go_sem]) rfl ⟨ac0, none, 0, 0, _, rfl, HV.out, deb.fresh_nil _ _, H2B.out⟩
  · have HM : Hid (¬ AMay x) := hm
    obtain ⟨W0, HWW, H0d, H0e, H0r, H0B, hs0⟩ := sh3 w #[.int .i64 x.me, .int .i64 x.rv, .int .i64 x.nx, .int .i64 x.mo, .int .i64 x.bo, .int .i64 x.fr, .slice p len cap] 55 #[.int .i64 q.a, .int .i64 q.b] 25 #[.int .i64 0, .int .i64 0, .int .i64 0, .int .i64 0, .int .i64 0, .int .i64 0, .slice none 0 0] 55
    have H0R : Hid (RowD W0 p len x.ds) := h.below H0B.out
    go_enter Try.func55, Try.ntmps55
    go_upto_region 1 with fail
    rw [HWW.out]
    clear HWW
    have HAM : Hid (Calls Try.prog 68 #[.agg #[.int .i64 x.me, .int .i64 x.rv, .int .i64 x.nx, .int .i64 x.mo, .int .i64 x.bo, .int .i64 x.fr, .slice p len cap]] W0 fun e w' => e = .returned (.bool false) ∧ Below W0.heap.size W0 w') := ranot x p len cap _ H0R.out hl hm
    go_wp2_with (first
      | (refine wp_whole rfl 55 _ rfl _ rfl 55 _ _ H0d.out Try.underlying55 rfl (by kernel_rfl) ?_)
      | (refine wp_whole rfl 25 _ rfl _ rfl 25 _ _ H0e.out Try.underlying25 rfl (by kernel_rfl) ?_)
      | (refine wp_whole rfl 55 _ rfl _ rfl 55 _ _ H0r.out Try.underlying55 rfl (by kernel_rfl) ?_)
      | fail)
    refine HAM.out.mono ?_
    rintro e w1 ⟨rfl, hb1⟩
    have H1d := shN H0d hb1
    have H1e := shN H0e hb1
    have H1r := shN H0r hb1
    have H1R : Hid (RowD w1 p len x.ds) := H0R.out.below hb1
    have H1B := shB H0B hb1
    have hsw1 : W0.heap.size ≤ w1.heap.size := hb1.size
    clear hb1 H0d H0e H0r H0R H0B
    clear HAM
    go_wp2_with (first
      | (refine wp_letAll rfl 55 _ _ rfl _ rfl _ rfl (by kernel_rfl) (by simp [Value.oneCell']) _ 55 H1r.out rfl ?_)
      | (refine wp_whole rfl 55 _ rfl _ rfl 55 _ _ H1d.out Try.underlying55 rfl (by kernel_rfl) ?_)
      | (refine wp_whole rfl 25 _ rfl _ rfl 25 _ _ H1e.out Try.underlying25 rfl (by kernel_rfl) ?_)
      | (refine wp_whole rfl 55 _ rfl _ rfl 55 _ _ H1r.out Try.underlying55 rfl (by kernel_rfl) ?_)
      | fail)
    intro w1a hU
    have H2d := shK hU H1d (by omega)
    have H2e := shK hU H1e (by omega)
    have H2r : Hid (Blk w1a (w.heap.size + 1 + 1) #[.int .i64 0, .int .i64 0, .int .i64 0, .int .i64 0, .int .i64 0, .int .i64 0, .slice none 0 0] 55) := hU.blk
    have H2B := shV hU H1B (by omega)
    have hsw1a : w1a.heap.size = w1.heap.size := hU.size
    clear hU H1d H1e H1r H1R H1B
    obtain ⟨Rr0, Rr1, Rr2, Rr3, Rr4, Rr5, Rr6⟩ := shc7 H2r
    go_wp2_with fail
    exact bodyPost_ret (v := .tuple #[.agg #[.int .i64 0, .int .i64 0, .int .i64 0, .int .i64 0, .int .i64 0, .int .i64 0, .slice none 0 0], .int .i64 5]) (by simp [results, Try.results55, Rr0.out, Rr1.out, Rr2.out, Rr3.out, Rr4.out, Rr5.out, Rr6.out, go_sem]) rfl ⟨ac0, none, 0, 0, _, rfl, .inl ⟨HM.out, rfl, rfl⟩, deb.fresh_nil _ _, H2B.out⟩

end Go.Proofs.Ytfhlokjpdkmdjaa.acc
