import Derived.Test.YtomibnggmhjdfaaGreatVVendLoads1
import Derived.Test.YtomibnggmhjdfaaGreatVVendLoads3
import Derived.Test.YtomibnggmhjdfaaGreatVVendLoads4
import Derived.Test.YtomibnggmhjdfaaGreatVVendLoads44
set_option linter.unusedVariables false
set_option linter.unusedSimpArgs false
namespace Go.Proofs.YtomibnggmhjdfaaGreat
namespace vnd
open disk (RepIs)
open book (Ev ev0 EMay evL evOf DecIs Cm cm0 So so0 BookIs Sees ECame FirstAt NoneAt)
open acc (Ac Tm Bi TCame ACame)
open cell (Wr RowU)
open Go.RowKit
set_option maxRecDepth 100000
theorem load_len {t : Tm} {c : List Int} {bk : List Cm} {l : List Ev} (h : LoadIs t c bk 0) (hk : KeptIs c l 0) : l.length ≤ 120 := by
 obtain ⟨l', e, hk', ⟨p, _, q⟩ | ⟨_, a, q⟩⟩ := h
 ·exact absurd q.symm p
 ·rw [(hk.one hk').1]; exact (book_ok q).2.1
set_option maxHeartbeats 2000000 in
theorem pload (t : Tm) (pt : Option Addr) (lt ct : Nat) (a : Option Addr) (n cap : Nat) (c : List Int) (w : World) (ht : TCame w t pt lt ct) (h : Dk w a n cap c) : Calls Tryz.prog 7 #[.agg #[.slice pt lt ct, .int .i64 t.ff, .int .i64 t.fb, .int .i64 t.db, .int .i64 t.al], .slice a n cap] w fun e w' => LoadPost w t c e w' := by
 have HC : Hid (∀ W, Below w.heap.size w W → Dk W a n cap c) := fun W hW => h.below hW
 have HT : Hid (∀ W, Below w.heap.size w W → TCame W t pt lt ct) := fun W hW => ht.below hW
 clear h ht
 obtain ⟨W0, HWW, H0t, H0r, H0B, hs0⟩ := sh2 w #[.slice pt lt ct, .int .i64 t.ff, .int .i64 t.fb, .int .i64 t.db, .int .i64 t.al] 24 #[.slice none 0 0] 29
 go_enter Tryz.func7, Tryz.ntmps7
 go_upto_region 1 with fail
 rw [HWW.out]
 clear HWW
 have HOP : Hid (Calls Tryz.prog 17 #[.agg #[.slice pt lt ct, .int .i64 t.ff, .int .i64 t.fb, .int .i64 t.db, .int .i64 t.al], .slice a n cap] W0 fun e w' => OpnP W0 t a n cap c e w') := popen t pt lt ct a n cap c W0 (HT.out _ H0B.out) (HC.out _ H0B.out)
 go_wp2_with (first
  | (refine zqw rfl rfl rfl H0t zqu24 ?_)
  | (refine zqw rfl rfl rfl H0r zqu29 ?_)
  | fail)
 refine HOP.out.mono ?_
 rintro e w1 (⟨f, rfl, h0, hli, hb1⟩ | ⟨p2, m2, c2, xs, bk, l, rfl, hli, hkp, hse, hm2, hb1⟩)
 ·have d0 : (f != 0) = true := by simpa using h0
  have H1t := shN H0t hb1
  have H1r := shN H0r hb1
  have H1B := shB H0B hb1
  have hsw1 : W0.heap.size ≤ w1.heap.size := hb1.size
  clear hb1 H0t H0r H0B
  have HLI : Hid (f ≠ 0 ∧ LoadIs t c [] f) := ⟨h0, hli⟩
  clear h0 hli HOP
  obtain ⟨W2, HWW, H2s, HBB, hsW2⟩ := sh1 w1 #[.slice none 0 0, .slice none 0 0, .int .i64 0] 47
  have H2t := shN H1t HBB.out
  have H2r := shN H1r HBB.out
  have H2B := shB H1B HBB.out
  go_upto_region 2 with fail
  clear H1t H1r H1B
  rw [HWW.out]
  clear HWW HBB
  have qs0 : W2.cell? ⟨w1.heap.size, 0, none⟩ = some (.slice none 0 0) := H2s.out.cell 0
  go_wp2_with (first
   | (refine wp_letAll rfl 29 _ _ rfl _ rfl _ rfl (by kernel_rfl) (by simp [Value.oneCell']) _ 29 H2r.out rfl ?_)
   | (refine zqw rfl rfl rfl H2t zqu24 ?_)
   | (refine zqw rfl rfl rfl H2r zqu29 ?_)
   | (refine zqw rfl rfl rfl H2s zqu47 ?_)
   | fail)
  intro W3 hU
  have H3t := shK hU H2t (by omega)
  have H3r : Hid (Blk W3 (w.heap.size + 1) #[.slice none 0 0] 29) := hU.blk
  have H3s := shK hU H2s (by omega)
  have H3B := shV hU H2B (by omega)
  have hsW3 : W3.heap.size = W2.heap.size := hU.size
  clear hU H2t H2r H2s H2B
  clear qs0
  have Rr0 : Hid (W3.cell? ⟨w.heap.size + 1, 0, none⟩ = some (.slice none 0 0)) := H3r.out.cell 0
  go_wp2_with fail
  exact bodyPost_ret (v := .tuple #[.agg #[.slice none 0 0], .int .i64 f]) (by simp [results, Tryz.results7, Rr0.out, go_sem]) rfl ⟨none, 0, 0, [], [], f, rfl, HLI.out.2, book.sees_nil _, Nat.zero_le _, H3B.out⟩
 ·have HLI : Hid (LoadIs t c bk 0) := hli
  have HKI : Hid (KeptIs c l 0) := hkp
  have HSE : Hid (Sees w1 p2 m2 xs bk) := hse
  have H1t := shN H0t hb1
  have H1r := shN H0r hb1
  have H1B := shB H0B hb1
  have hsw1 : W0.heap.size ≤ w1.heap.size := hb1.size
  clear hb1 H0t H0r H0B
  have HL2 : Hid (l.length ≤ 120) := load_len hli hkp
  clear hli hkp hse HOP
  have H2X : Hid (Below w1.heap.size w1 w1) := Below.refl _ _
  obtain ⟨W2, HWW, H3s, H3X, hsW2⟩ := sh1 w1 #[.slice p2 m2 c2, .slice a n cap, .int .i64 (l.length : Int)] 47
  have H3t := shN H1t H3X.out
  have H3r := shN H1r H3X.out
  have H3B := shB H1B H3X.out
  go_upto_region 2 with fail
  clear H1t H1r H2X H1B
  rw [HWW.out]
  clear HWW
  have HSW : Hid (Sees W2 p2 m2 xs bk) := HSE.out.below H3X.out
  clear HSE
  have qs0 : W2.cell? ⟨w1.heap.size, 0, none⟩ = some (.slice p2 m2 c2) := H3s.out.cell 0
  go_wp2_with (first
   | (refine wp_letAll rfl 29 _ _ rfl _ rfl _ rfl (by kernel_rfl) (by simp [Value.oneCell']) _ 29 H3r.out rfl ?_)
   | (refine zqw rfl rfl rfl H3t zqu24 ?_)
   | (refine zqw rfl rfl rfl H3r zqu29 ?_)
   | (refine zqw rfl rfl rfl H3s zqu47 ?_)
   | fail)
  intro W3 hU
  have HS3 : Hid (Sees W3 p2 m2 xs bk) := sees_far HSW.out (one_odd H3r.out) hU
  have H4t := shK hU H3t (by omega)
  have H4r : Hid (Blk W3 (w.heap.size + 1) #[.slice p2 m2 c2] 29) := hU.blk
  have H4s := shK hU H3s (by omega)
  have H4B := shV hU H3B (by omega)
  have hsW3 : W3.heap.size = W2.heap.size := hU.size
  clear hU H3t H3r H3s H3B
  clear qs0
  have Rr0 : Hid (W3.cell? ⟨w.heap.size + 1, 0, none⟩ = some (.slice p2 m2 c2)) := H4r.out.cell 0
  go_wp2_with fail
  exact bodyPost_ret (v := .tuple #[.agg #[.slice p2 m2 c2], .int .i64 0]) (by simp [results, Tryz.results7, Rr0.out, go_sem]) rfl ⟨p2, m2, c2, xs, bk, 0, rfl, HLI.out, HS3.out, hm2, H4B.out⟩
theorem kload : KvLoad := fun W t pt lt ct a n cap c ht hd => pload t pt lt ct a n cap c W ht hd
end vnd
namespace acc
open Go.ChangeShapes Go.WideShapes Go.ChangeAt Go.RowKit Go.Deep
set_option maxRecDepth 100000
theorem open_terms {H : Type} {enc : TypeId × Value → H} {W : World} {r : Reach} {b0 b1 : Nat} {held : Bool} {v : Value} {d : DataW H} {ps : List MemPlace}
  (hval : Value.okWide Tryz.prog W r b0 24 v) (h : DataW.Trod enc Tryz.prog W b1 (fun _ => true) held 24 v d ps) (hs : ∀ n ∈ d.weights Tryz.prog 24, n ≤ reachBytes) :
  ∃ (x : Tm) (p : Option Addr) (len cap : Nat), v = x.v p len cap ∧ TCame W x p len cap := by
 have hu := Tryz.underlying24
 have hc : Tryz.prog.cellsOf 24 = 5 := by kernel_rfl
 have ci : Tryz.prog.cellsOf 3 = 1 := by kernel_rfl
 have csl : Tryz.prog.cellsOf 22 = 1 := by kernel_rfl
 obtain ⟨cs, rfl, hsz⟩ := okWide_struct hu hval
 rw [hc] at hsz
 obtain ⟨c0, c1, c2, c3, c4, rfl⟩ : ∃ c0 c1 c2 c3 c4, cs = #[c0, c1, c2, c3, c4] := by
  cases cs with
  | mk l => match l, hsz with
   | [c0, c1, c2, c3, c4], _ => exact ⟨c0, c1, c2, c3, c4, rfl⟩
 obtain ⟨fuel, hf⟩ := h
 obtain ⟨xs, n, hx, hd, _, hlen, hg⟩ := DataW.trod_struct hu hf
 match xs, hlen with
 | [y0, y1, y2, y3, y4], _ =>
  have g0 := hg 0 _ rfl
  have g1 := hg 1 _ rfl
  have g2 := hg 2 _ rfl
  have g3 := hg 3 _ rfl
  have g4 := hg 4 _ rfl
  simp [Value.cells, ci, csl] at g0 g1 g2 g3 g4
  obtain ⟨x1, e1, -, w1⟩ := DataW.trod_int Tryz.underlying3 g1
  obtain ⟨x2, e2, -, w2⟩ := DataW.trod_int Tryz.underlying3 g2
  obtain ⟨x3, e3, -, w3⟩ := DataW.trod_int Tryz.underlying3 g3
  obtain ⟨x4, e4, -, w4⟩ := DataW.trod_int Tryz.underlying3 g4
  simp at e1 e2 e3 e4
  subst e1 e2 e3 e4
  rcases Deep.open_slice_pairs Tryz.underlying22 Tryz.underlying136 (by kernel_rfl) rfl rfl (by kernel_rfl) (by kernel_rfl) g0 with ⟨hcs, _⟩ | ⟨x, l, c, mm, fu, V0, V1, D0, D1, P0, P1, hcs, _, hl, hm, hmm, hy, hall⟩
  ·simp at hcs
   subst hcs
   exact ⟨⟨[], x1, x2, x3, x4⟩, none, 0, 0, rfl, ⟨tar.RowD.nil _ _, (fun _ => rfl), Nat.le_refl _, by omega, (fun x hx => by cases hx)⟩, ⟨w1, w2, w3, w4⟩⟩
  ·simp at hcs
   subst hcs
   simp only [if_true] at hmm
   subst hmm
   have hr := tar.rowD_of (len := l) (w := W) (a := x) (m := mm) (by omega) (fun j hj => by
    obtain ⟨k0, k1, t0, t1⟩ := hall j hj
    obtain ⟨z0, hv0, _, hw0⟩ := DataW.trod_int Tryz.underlying3 t0
    obtain ⟨z1, hv1, _, hw1⟩ := DataW.trod_int Tryz.underlying3 t1
    simp only [List.cons.injEq, and_true] at hv0 hv1
    rw [hv0] at k0
    rw [hv1] at k1
    exact ⟨z0, z1, k0, k1, hw0, hw1⟩)
   obtain ⟨zs, r1, r2⟩ := hr
   subst hy
   obtain ⟨hd1, _⟩ := Prod.mk.inj hd
   subst hd1
   have h1 := hs ((l + (mm - l)) * Tryz.prog.bytesOf 136) (by simp [DataW.weights, hu, DataW.weightsEach, Tryz.underlying22])
   rw [show Tryz.prog.bytesOf 136 = 16 from by kernel_rfl] at h1
   simp only [reachBytes] at h1
   exact ⟨⟨zs, x1, x2, x3, x4⟩, some x, l, mm, rfl, ⟨r1, (fun h => by cases h), hl, by omega, r2⟩, ⟨w1, w2, w3, w4⟩⟩
end acc
namespace cell
open Go.RowKit
theorem word_of {z : Int} (h : (Lit.int .u32 z).wf = true) : 0 ≤ z ∧ z < 4294967296 := by
 simp only [Lit.wf, Bool.and_eq_true, decide_eq_true_eq] at h
 rw [show IntKind.u32.min = 0 from by decide, show IntKind.u32.max = 4294967295 from by decide] at h
 omega
end cell
end Go.Proofs.YtomibnggmhjdfaaGreat
