import Derived.Test.YtomibnggmhjdfaaGreatVVCes38
set_option linter.unusedVariables false
set_option linter.unusedSimpArgs false
namespace Go.Proofs.YtomibnggmhjdfaaGreat
namespace vnd
open disk (RepIs AppIs RepPost AppPost Lr Recs Sli sl0)
open book (Ev ev0 EMay evL evOf EncIs DecIs Cm cm0 So so0 BookIs BookPost Sees ECame RowE FirstAt NoneAt Tells EncPost DecPost)
open acc (Ac Tm Bi SellIs GrantIs RekeyIs OweIs)
open cell (Wr RowU RowW Lw Ws)
open token (Tok)
open Go.RowKit
set_option maxRecDepth 100000
set_option maxHeartbeats 4000000 in
theorem rcharge (t : Tm) (pt : Option Addr) (lt ct : Nat) (a : Option Addr) (n cap : Nat) (c : List Int) (me : Int) (q : tar.Du) (w : World) (ht : tar.Came w pt lt ct t.ts) (h : RowU w a n c) (hw : ∀ x ∈ c, 0 ≤ x ∧ x < 4294967296) : Calls Tryz.prog 16 #[.agg #[.slice pt lt ct, .int .i64 t.ff, .int .i64 t.fb, .int .i64 t.db, .int .i64 t.al], .slice a n cap, .int .i64 me, .agg #[.int .i64 q.a, .int .i64 q.b]] w fun e w' => WrPost w (ChaIs t c me q.a q.b) e w' := by
 have HC : Hid (∀ W, Below w.heap.size w W → RowU W a n c) := fun W hW => h.below hW
 have HT : Hid (∀ W, Below w.heap.size w W → tar.Came W pt lt ct t.ts) := fun W hW => ht.below hW
 have HW : Hid (∀ x ∈ c, 0 ≤ x ∧ x < 4294967296) := hw
 clear h ht hw
 obtain ⟨W0, HWW, H0t, H0d, H0B, hs0⟩ := sh2 w #[.slice pt lt ct, .int .i64 t.ff, .int .i64 t.fb, .int .i64 t.db, .int .i64 t.al] 24 #[.int .i64 q.a, .int .i64 q.b] 43
 go_enter Tryz.func16, Tryz.ntmps16
 go_upto_region 1 with fail
 rw [HWW.out]
 clear HWW
 have HLO : Hid (Calls Tryz.prog 9 #[.agg #[.slice pt lt ct, .int .i64 t.ff, .int .i64 t.fb, .int .i64 t.db, .int .i64 t.al], .slice a n cap] W0 fun e w' => LoadPost W0 t c e w') := rloaded t pt lt ct a n cap c W0 (HT.out _ H0B.out) (HC.out _ H0B.out) HW.out
 go_wp2_with (first
  | (refine zqw rfl rfl rfl H0t zqu24 ?_)
  | (refine zqw rfl rfl rfl H0d zqu43 ?_)
  | fail)
 refine HLO.out.mono ?_
 rintro e w1 ⟨p2, m2, c2, xs, bk, g, rfl, hli, hse, hm2, hb1⟩
 have H1t := shN H0t hb1
 have H1d := shN H0d hb1
 have H1B := shB H0B hb1
 have hsw1 : W0.heap.size ≤ w1.heap.size := hb1.size
 clear hb1 H0t H0d H0B
 have HLI : Hid (LoadIs t c bk g) := hli
 have HSE : Hid (Sees w1 p2 m2 xs bk) := hse
 clear hli hse HLO
 have H2X : Hid (Below w1.heap.size w1 w1) := Below.refl _ _
 obtain ⟨W2, HWW, H3k, H3X, hsW2⟩ := sh1 w1 #[.slice p2 m2 c2] 29
 have H3t := shN H1t H3X.out
 have H3d := shN H1d H3X.out
 have H3B := shB H1B H3X.out
 go_upto_region 2 with fail
 clear H1t H1d H2X H1B
 rw [HWW.out]
 clear HWW
 by_cases h0 : g = 0
 ·subst h0
  have HS2 : Hid (Sees W2 p2 m2 xs bk) := HSE.out.below H3X.out
  have HFO : Hid (Calls Tryz.prog 26 #[.agg #[.slice p2 m2 c2], .int .i64 me] W2 fun e w' => ∃ x, e = .returned (.int .i64 x) ∧ book.FoundIs xs me x ∧ Below W2.heap.size W2 w') := book.rfound p2 m2 c2 xs me W2 HS2.out.row (by omega)
  go_wp2_with (first
   | (refine zqw rfl rfl rfl H3t zqu24 ?_)
   | (refine zqw rfl rfl rfl H3d zqu43 ?_)
   | (refine zqw rfl rfl rfl H3k zqu29 ?_)
   | fail)
  refine HFO.out.mono ?_
  rintro e w3 ⟨x, rfl, hfo, hb3⟩
  have H4t := shN H3t hb3
  have H4d := shN H3d hb3
  have H4k := shN H3k hb3
  have H4X := shB H3X hb3
  have H4B := shB H3B hb3
  have hsw3 : W2.heap.size ≤ w3.heap.size := hb3.size
  clear hb3 H3t H3d H3k H3X H3B
  have HSW : Hid (Sees w3 p2 m2 xs bk) := HSE.out.below H4X.out
  have hff := found_first HSW.out.len HSW.out.num hfo
  clear hfo HFO HS2
  rcases hff with ⟨rfl, hnone⟩ | ⟨k, rfl, hfirst, hkx⟩
  ·have HV : Hid (ChaIs t c me q.a q.b [] 18) := ⟨bk, 0, HLI.out, .inr (.inl ⟨rfl, hnone, rfl, rfl⟩)⟩
   clear hnone
   go_wp2_with fail
   go_ret2
   exact ⟨_, [], 18, rfl, HV.out, cell.Lw.zero _ _, H4B.out⟩
  ·have HFI : Hid (FirstAt bk me k) := hfirst
   have dk : decide ((k : Int) < 0) = false := decide_eq_false (by omega)
   clear hfirst
   obtain ⟨cb, co, hpp, hcl, hcc⟩ : ∃ b off, p2 = some ⟨b, off, none⟩ ∧ b < w3.heap.size ∧ ∀ i j, i < m2 → j < 8 → w3.cell? ⟨b, off + i * 8 + j, none⟩ = (xs.getD i book.cu0).cs[j]? := by
    rcases HSW.out.row.2 with h | h
    ·have := HSW.out.row.1; omega
    ·exact h
   subst hpp
   have hkm : k < m2 := by have := HSW.out.row.1; omega
   have hnm := HSW.out.num k hkx
   have hds := HSW.out.ds k hkx
   have y0 : w3.cell? ⟨cb, co + k * 8, none⟩ = some (.int .i64 (bk.getD k cm0).a.me) := (hcc k 0 hkm (by decide)).trans (by rw [← hnm.1]; rfl)
   have y1 : w3.cell? ⟨cb, co + k * 8 + 1, none⟩ = some (.int .i64 (bk.getD k cm0).a.rv) := (hcc k 1 hkm (by decide)).trans (by rw [← hnm.2.1]; rfl)
   have y2 : w3.cell? ⟨cb, co + k * 8 + 2, none⟩ = some (.int .i64 (bk.getD k cm0).a.nx) := (hcc k 2 hkm (by decide)).trans (by rw [← hnm.2.2.1]; rfl)
   have y3 : w3.cell? ⟨cb, co + k * 8 + 3, none⟩ = some (.int .i64 (bk.getD k cm0).a.mo) := (hcc k 3 hkm (by decide)).trans (by rw [← hnm.2.2.2.1]; rfl)
   have y4 : w3.cell? ⟨cb, co + k * 8 + 4, none⟩ = some (.int .i64 (bk.getD k cm0).a.bo) := (hcc k 4 hkm (by decide)).trans (by rw [← hnm.2.2.2.2.1]; rfl)
   have y5 : w3.cell? ⟨cb, co + k * 8 + 5, none⟩ = some (.int .i64 (bk.getD k cm0).a.fr) := (hcc k 5 hkm (by decide)).trans (by rw [← hnm.2.2.2.2.2]; rfl)
   have y6 : w3.cell? ⟨cb, co + k * 8 + 6, none⟩ = some (.slice (xs.getD k book.cu0).dp (xs.getD k book.cu0).dn (xs.getD k book.cu0).dc) := hcc k 6 hkm (by decide)
   clear hcc hnm
   generalize (xs.getD k book.cu0).dp = dp at *
   generalize (xs.getD k book.cu0).dn = dn at *
   generalize (xs.getD k book.cu0).dc = dc at *
   generalize hy : (bk.getD k cm0).a = y at *
   have HY : Hid ((bk.getD k cm0).a = y) := hy
   clear hy
   have HOW : Hid (Calls Tryz.prog 29 #[.agg #[.int .i64 y.me, .int .i64 y.rv, .int .i64 y.nx, .int .i64 y.mo, .int .i64 y.bo, .int .i64 y.fr, .slice dp dn dc], .agg #[.int .i64 q.a, .int .i64 q.b]] w3.drew fun e w' => acc.APost w3.drew (OweIs y q) e w') := acc.rowes y dp dn dc q w3.drew (hds.below (bel_drew (Below.refl _ _) 1)).row hds.most
   clear hds HSE HSW HT
   have qk : w3.cell? ⟨w1.heap.size, 0, none⟩ = some (.slice (some ⟨cb, co, none⟩) m2 c2) := H4k.out.cell 0
   have lk : w1.heap.size < w3.heap.size := H4k.out.lt
   have qd0 : w3.cell? ⟨w.heap.size + 1, 0, none⟩ = some (.int .i64 q.a) := H4d.out.cell 0
   have qd1 : w3.cell? ⟨w.heap.size + 1, 1, none⟩ = some (.int .i64 q.b) := H4d.out.cell 1
   have ld : w.heap.size + 1 < w3.heap.size := H4d.out.lt
   go_wp2_with fail
   have HB0 : Hid (Below w3.heap.size w3 w3.drew) := (Below.refl _ _).drew
   refine wp_region_held_drew (S := fun v => Below w3.heap.size w3 v) (by kernel_rfl) HB0.out (fun hHeld => ?_)
   refine zqs 0 30 (.pointer (some ⟨w1.heap.size, 0, none⟩)) rfl rfl (by kernel_rfl) (fun _ _ _ h => h) rfl (fun v hv => by clear hv; go_simp) hHeld ?_
   simp only [Act.put, zqa, zqb, zqc]
   refine zqt 1 31 (.slice (some ⟨cb, co, none⟩) m2 c2) rfl rfl (by kernel_rfl) (fun _ _ _ h => h) (Or.inl ⟨by rfl, fun v hv => by have g0 := (hv.cell (p := ⟨w1.heap.size, 0, none⟩) lk).trans qk; clear hv; go_simp⟩) hHeld ?_
   simp only [Act.put, zqa, zqb, zqc]
   refine zqs 2 32 (.int .i64 (k : Int)) rfl rfl (by kernel_rfl) (fun _ _ _ h => h) rfl (fun v hv => by clear hv; go_simp) hHeld ?_
   simp only [Act.put, zqa, zqb, zqc]
   refine zqs 3 33 (.pointer (some ⟨cb, co + k * 8, none⟩)) rfl rfl (by kernel_rfl) (fun _ _ _ h => h) rfl (fun v hv => by clear hv; go_simp) hHeld ?_
   simp only [Act.put, zqa, zqb, zqc]
   refine zqs 4 34 (.pointer (some ⟨cb, co + k * 8, none⟩)) rfl rfl (by kernel_rfl) (fun _ _ _ h => h) rfl (fun v hv => by clear hv; go_simp) hHeld ?_
   simp only [Act.put, zqa, zqb, zqc]
   refine zqt 5 35 (.agg #[.int .i64 y.me, .int .i64 y.rv, .int .i64 y.nx, .int .i64 y.mo, .int .i64 y.bo, .int .i64 y.fr, .slice dp dn dc]) rfl rfl (by kernel_rfl) (fun _ _ _ h => h) (Or.inl ⟨by rfl, fun v hv => by have g0 := (hv.cell (p := ⟨cb, co + k * 8, none⟩) hcl).trans y0; have g1 := (hv.cell (p := ⟨cb, co + k * 8 + 1, none⟩) hcl).trans y1; have g2 := (hv.cell (p := ⟨cb, co + k * 8 + 2, none⟩) hcl).trans y2; have g3 := (hv.cell (p := ⟨cb, co + k * 8 + 3, none⟩) hcl).trans y3; have g4 := (hv.cell (p := ⟨cb, co + k * 8 + 4, none⟩) hcl).trans y4; have g5 := (hv.cell (p := ⟨cb, co + k * 8 + 5, none⟩) hcl).trans y5; have g6 := (hv.cell (p := ⟨cb, co + k * 8 + 6, none⟩) hcl).trans y6; clear hv; go_simp⟩) hHeld ?_
   simp only [Act.put, zqa, zqb, zqc]
   refine zqt 6 36 (.agg #[.int .i64 q.a, .int .i64 q.b]) rfl rfl (by kernel_rfl) (fun _ _ _ h => h) (Or.inl ⟨by rfl, fun v hv => by have g0 := (hv.cell (p := ⟨w.heap.size + 1, 0, none⟩) ld).trans qd0; have g1 := (hv.cell (p := ⟨w.heap.size + 1, 1, none⟩) ld).trans qd1; clear hv; go_simp⟩) hHeld ?_
   simp only [Act.put, zqa, zqb, zqc]
   refine zqo 7 (by kernel_rfl) rfl (fun K hK => ?_)
   rw [if_pos (by rfl)]
   refine wp_callOp 37 rfl (by clear hK; go_simp) HOW.out ?_
   rintro e w4 ⟨b, p4, n4, c4, h4, rfl, hoi, hfr, hbd⟩
   have hb4 : Below w3.heap.size w3 w4 := bel_step HB0.out hbd
   have HOI : Hid (OweIs y q b h4) := hoi
   have H5t := shN H4t hb4
   have H5d := shN H4d hb4
   have H5k := shN H4k hb4
   have H5B := shB H4B hb4
   have hsw4 : w3.heap.size ≤ w4.heap.size := hb4.size
   refine ⟨_, rfl, hK.out _ _ hb4 (fun hHeld => ?_)⟩
   clear hK K hoi hfr hbd HOW y0 y1 y2 y3 y4 y5 y6 qk qd0 qd1 H4X H4t H4d H4k H4B
   simp only [Act.put, zqa, zqb, zqc]
   unfold acc.Ac.v acc.Ac.cs
   refine zqs 8 29 (.tuple #[.agg #[.int .i64 b.me, .int .i64 b.rv, .int .i64 b.nx, .int .i64 b.mo, .int .i64 b.bo, .int .i64 b.fr, .slice p4 n4 c4], .int .i64 h4]) rfl rfl (by kernel_rfl) (fun _ _ _ h => h) rfl (fun v hv => by clear hv; go_simp) hHeld ?_
   simp only [Act.put, zqa, zqb, zqc]
   refine zqs 9 38 (.agg #[.int .i64 b.me, .int .i64 b.rv, .int .i64 b.nx, .int .i64 b.mo, .int .i64 b.bo, .int .i64 b.fr, .slice p4 n4 c4]) rfl rfl (by kernel_rfl) (fun _ _ _ h => h) rfl (fun v hv => by clear hv; go_simp) hHeld ?_
   simp only [Act.put, zqa, zqb, zqc]
   refine zqs 10 39 (.int .i64 h4) rfl rfl (by kernel_rfl) (fun _ _ _ h => h) rfl (fun v hv => by clear hv; go_simp) hHeld ?_
   simp only [Act.put, zqa, zqb, zqc]
   refine zqs 11 11 (.int .i64 h4) rfl rfl (by kernel_rfl) (fun _ _ _ h => h) rfl (fun v hv => by clear hv; go_simp) hHeld ?_
   simp only [Act.put, zqa, zqb, zqc]
   refine wpAnyH_done (by kernel_rfl) ?_ _
   clear hHeld hb4
   by_cases h5 : h4 = 0
   ·subst h5
    have HKE : Hid (Calls Tryz.prog 27 #[.slice a n cap, .agg #[.int .i64 5, .int .i64 me, .int .i64 0, .int .i64 0, .int .i64 0, .int .i64 0, .int .i64 0, .int .i64 0, .int .i64 0, .int .i64 0, .int .i64 0, .int .i64 q.a, .int .i64 q.b]] w4 fun e w' => WrPost w4 (KeepIs c (chaE me q.a q.b)) e w') := rkeeps a n cap c (chaE me q.a q.b) w4 (HC.out _ H5B.out) HW.out
    go_wp2_with (first
     | (refine zqw rfl rfl rfl H5t zqu24 ?_)
     | (refine zqw rfl rfl rfl H5d zqu43 ?_)
     | (refine zqw rfl rfl rfl H5k zqu29 ?_)
     | fail)
    refine HKE.out.mono ?_
    rintro e w5 ⟨V, ls, f, rfl, hke, hlw, hb5⟩
    have H6t := shN H5t hb5
    have H6d := shN H5d hb5
    have H6k := shN H5k hb5
    have H6B := shB H5B hb5
    have hsw5 : w4.heap.size ≤ w5.heap.size := hb5.size
    clear hb5 H5t H5d H5k H5B
    have HV : Hid (ChaIs t c me q.a q.b ls f) := ⟨bk, 0, HLI.out, .inr (.inr ⟨rfl, k, b, 0, HFI.out, by rw [HY.out]; exact HOI.out, .inr ⟨rfl, hke⟩⟩)⟩
    have HL : Hid (Lw w5 w.heap.size V ls) := lw_low hlw (by omega)
    clear hke hlw HKE
    go_wp2_with fail
    go_ret2
    exact ⟨V, ls, f, rfl, HV.out, HL.out, H6B.out⟩
   ·have d5 : (h4 != 0) = true := by simpa using h5
    have HV : Hid (ChaIs t c me q.a q.b [] h4) := ⟨bk, 0, HLI.out, .inr (.inr ⟨rfl, k, b, h4, HFI.out, by rw [HY.out]; exact HOI.out, .inl ⟨h5, rfl, rfl⟩⟩)⟩
    clear h5
    go_wp2_with fail
    go_ret2
    exact ⟨_, [], h4, rfl, HV.out, cell.Lw.zero _ _, H5B.out⟩
 ·have d0 : (g != 0) = true := by simpa using h0
  have HV : Hid (ChaIs t c me q.a q.b [] g) := ⟨bk, g, HLI.out, .inl ⟨h0, rfl, rfl⟩⟩
  clear h0
  go_wp2_with fail
  go_ret2
  exact ⟨_, [], g, rfl, HV.out, cell.Lw.zero _ _, H3B.out⟩
set_option maxHeartbeats 8000000 in
theorem VendCharges_walk (K : KvCha) (t : Tm) (pt : Option Addr) (lt ct : Nat) (a : Option Addr) (n cap : Nat) (c : List Int) (me : Int) (q : tar.Du) (w : World) (ht : acc.TCame w t pt lt ct) (h : Dk w a n cap c) (hme : (Lit.int .i64 me).wf = true) (hqa : (Lit.int .i64 q.a).wf = true) (hqb : (Lit.int .i64 q.b).wf = true) : Calls Tryz.prog 5 #[t.v pt lt ct, .slice a n cap, .int .i64 me, .agg #[.int .i64 q.a, .int .i64 q.b]] w fun e w' => e = .returned (.bool true) ∧ Below w.heap.size w w' := by
 have HC : Hid (∀ W, Below w.heap.size w W → Dk W a n cap c) := fun W hW => h.below hW
 have HT : Hid (∀ W, Below w.heap.size w W → acc.TCame W t pt lt ct) := fun W hW => ht.below hW
 have HWF : Hid (acc.wf4 t) := ht.wf
 have HN : Hid (c.length = n) := h.row.1
 have HNM : Hid (n ≤ maxLen) := by show n ≤ maxLen; have := h.bytes; unfold maxLen; omega
 have HKK : Hid KvCha := K
 unfold acc.Tm.v
 clear h ht K
 obtain ⟨W0, HWW, H0t, H0d, H0B, hs0⟩ := sh2 w #[.slice pt lt ct, .int .i64 t.ff, .int .i64 t.fb, .int .i64 t.db, .int .i64 t.al] 24 #[.int .i64 q.a, .int .i64 q.b] 43
 go_enter Tryz.func5, Tryz.ntmps5
 go_upto_region 1 with fail
 rw [HWW.out]
 clear HWW
 have HWD : Hid (Calls Tryz.prog 6 #[.slice a n cap] W0 fun e w' => cell.GaveU W0 c e w') := cell.words_any a n cap c W0 (HC.out _ H0B.out).row (HC.out _ H0B.out).nil (HC.out _ H0B.out).bytes
 go_wp2_with (first
  | (refine zqw rfl rfl rfl H0t zqu24 ?_)
  | (refine wp_wholeG (by rfl) 24 _ rfl (w.heap.size) rfl 24 #[.slice pt lt ct, .int .i64 t.ff, .int .i64 t.fb, .int .i64 t.db, .int .i64 t.al] _ H0t.out Tryz.underlying24 rfl (by kernel_rfl) ?_)
  | (refine zqw rfl rfl rfl H0d zqu43 ?_)
  | (refine wp_wholeG (by rfl) 43 _ rfl (w.heap.size + 1) rfl 43 #[.int .i64 q.a, .int .i64 q.b] _ H0d.out Tryz.underlying43 rfl (by kernel_rfl) ?_)
  | fail)
 refine HWD.out.mono ?_
 rintro e w1 ⟨v1, rfl, hws, hb1⟩
 have H1t := shN H0t hb1
 have H1d := shN H0d hb1
 have H1B := shB H0B hb1
 have hsw1 : W0.heap.size ≤ w1.heap.size := hb1.size
 clear hb1 H0t H0d H0B
 obtain ⟨a1, cap1, rfl, hd, hnn, hle⟩ := hws.row
 rw [HN.out] at hd hle ⊢
 have HD1 : Hid (Dk w1 a1 n cap1 c) := ⟨hd, hnn, hle, (HC.out _ H1B.out).bytes, (HC.out _ H1B.out).wd⟩
 clear hd hnn hle hws HWD
 have H2P : Hid (Below w1.heap.size w1 w1) := Below.refl _ _
 have HTE : Hid (∀ W, Below w1.heap.size w1 W → Calls Tryz.prog 8 #[.agg #[.slice pt lt ct, .int .i64 t.ff, .int .i64 t.fb, .int .i64 t.db, .int .i64 t.al]] W fun e w' => ∃ p' cap', e = .returned (t.v p' lt cap') ∧ deb.Fresh w' W.heap.size p' lt cap' t.ts ∧ Below W.heap.size W w') := fun W hW => acc.terms_any t pt lt ct W (HT.out _ (bel_step H1B.out hW))
 have HKL : Hid (∀ W p2 c2, Below w1.heap.size w1 W → tar.Came W p2 lt c2 t.ts → Calls Tryz.prog 15 #[.agg #[.slice p2 lt c2, .int .i64 t.ff, .int .i64 t.fb, .int .i64 t.db, .int .i64 t.al], .slice a1 n cap1, .int .i64 me, .agg #[.int .i64 q.a, .int .i64 q.b]] W fun e w' => WrGot W (ChaIs t c me q.a q.b) e w') := fun W p2 c2 hW hU => HKK.out W t p2 lt c2 a1 n cap1 c me q ⟨hU, HWF.out⟩ (HD1.out.below hW) hme hqa hqb
 clear hme hqa hqb HKK
 go_wp2_with fail
 have HB0 : Hid (Below w1.heap.size w1 w1.drew) := (Below.refl _ _).drew
 refine wp_region_held_drew (S := fun v => Below w1.heap.size w1 v) (by kernel_rfl) HB0.out (fun hHeld => ?_)
 refine zqt 0 17 (.agg #[.slice pt lt ct, .int .i64 t.ff, .int .i64 t.fb, .int .i64 t.db, .int .i64 t.al]) rfl rfl (by kernel_rfl) (fun _ _ _ h => h) (yieldsIf_whole (by rfl) 24 _ rfl (w.heap.size) rfl 24 #[.slice pt lt ct, .int .i64 t.ff, .int .i64 t.fb, .int .i64 t.db, .int .i64 t.al] _ (fun v hv => H1t.out.next hv) Tryz.underlying24 rfl (by kernel_rfl)) hHeld ?_
 simp only [Act.put, zqa, zqb, zqc]
 refine zqt 4 21 (.agg #[.int .i64 q.a, .int .i64 q.b]) rfl rfl (by kernel_rfl) (fun _ _ _ h => h) (yieldsIf_whole (by rfl) 43 _ rfl (w.heap.size + 1) rfl 43 #[.int .i64 q.a, .int .i64 q.b] _ (fun v hv => H1d.out.next hv) Tryz.underlying43 rfl (by kernel_rfl)) hHeld ?_
 simp only [Act.put, zqa, zqb, zqc]
 refine zqs 2 19 (.slice a1 n cap1) rfl rfl (by kernel_rfl) (fun _ _ _ h => h) rfl (fun v hv => by clear hv; go_simp) hHeld ?_
 simp only [Act.put, zqa, zqb, zqc]
 refine zqs 3 20 (.int .i64 me) rfl rfl (by kernel_rfl) (fun _ _ _ h => h) rfl (fun v hv => by clear hv; go_simp) hHeld ?_
 simp only [Act.put, zqa, zqb, zqc]
 refine zqo 1 (by kernel_rfl) rfl (fun K hK => ?_)
 rw [if_pos (by rfl)]
 refine wp_callOp 18 rfl (by clear hK; go_simp) (HTE.out _ HB0.out) ?_
 rintro e U1 ⟨p2, c2, rfl, hf2, hbx⟩
 have HB1 := shB HB0 hbx
 have HU1 : Hid (tar.Came U1 p2 lt c2 t.ts) := hf2.came
 refine ⟨_, rfl, hK.out _ _ HB1.out (fun hHeld => ?_)⟩
 clear hK K hf2 hbx HTE HB0
 simp only [Act.put, zqa, zqb, zqc]
 unfold acc.Tm.v
 refine zqo 5 (by kernel_rfl) rfl (fun K hK => ?_)
 rw [if_pos (by rfl)]
 refine wp_callOp 22 rfl (by clear hK; go_simp) (HKL.out _ p2 c2 HB1.out HU1.out) ?_
 rintro e w3 ⟨p3, m3, c3, ls, f, rfl, hri, hrw, _, hle3, hm3, hbx⟩
 have hb3 : Below w1.heap.size w1 w3 := bel_step HB1.out hbx
 have H3t := shN H1t hb3
 have H3d := shN H1d hb3
 have H3P := shB H2P hb3
 have H3B := shB H1B hb3
 refine ⟨_, rfl, hK.out _ _ hb3 (fun hHeld => ?_)⟩
 clear hK K hbx HU1 HB1 H1t H1d H2P H1B
 simp only [Act.put, zqa, zqb, zqc]
 refine zqs 6 16 (.tuple #[.slice p3 m3 c3, .int .i64 f]) rfl rfl (by kernel_rfl) (fun _ _ _ h => h) rfl (fun v hv => by clear hv; go_simp) hHeld ?_
 simp only [Act.put, zqa, zqb, zqc]
 refine zqs 7 23 (.slice p3 m3 c3) rfl rfl (by kernel_rfl) (fun _ _ _ h => h) rfl (fun v hv => by clear hv; go_simp) hHeld ?_
 simp only [Act.put, zqa, zqb, zqc]
 refine zqs 8 24 (.int .i64 f) rfl rfl (by kernel_rfl) (fun _ _ _ h => h) rfl (fun v hv => by clear hv; go_simp) hHeld ?_
 simp only [Act.put, zqa, zqb, zqc]
 refine zqs 9 10 (.slice p3 m3 c3) rfl rfl (by kernel_rfl) (fun _ _ _ h => h) rfl (fun v hv => by clear hv; go_simp) hHeld ?_
 simp only [Act.put, zqa, zqb, zqc]
 refine zqs 10 11 (.int .i64 f) rfl rfl (by kernel_rfl) (fun _ _ _ h => h) rfl (fun v hv => by clear hv; go_simp) hHeld ?_
 simp only [Act.put, zqa, zqb, zqc]
 refine wpAnyH_done (by kernel_rfl) ?_ _
 clear hHeld hb3
 have HRI : Hid (ChaIs t c me q.a q.b ls f) := hri
 have HRW : Hid (RowW w3 p3 m3 ls) := hrw
 clear hri hrw HKL
 have H4S : Hid (Below w3.heap.size w3 w3) := Below.refl _ _
 have HRL : Hid (Calls Tryz.prog 16 #[.agg #[.slice pt lt ct, .int .i64 t.ff, .int .i64 t.fb, .int .i64 t.db, .int .i64 t.al], .slice a n cap, .int .i64 me, .agg #[.int .i64 q.a, .int .i64 q.b]] w3 fun e w' => WrGot w3 (ChaIs t c me q.a q.b) e w') := (rcharge t pt lt ct a n cap c me q w3 (HT.out _ H3B.out).ts (HC.out _ H3B.out).row (HC.out _ H3B.out).wd).mono fun e w' hh => wr_got hh fun ls f => cha_few
 go_wp2_with (first
  | (refine zqw rfl rfl rfl H3t zqu24 ?_)
  | (refine wp_wholeG (by rfl) 24 _ rfl (w.heap.size) rfl 24 #[.slice pt lt ct, .int .i64 t.ff, .int .i64 t.fb, .int .i64 t.db, .int .i64 t.al] _ H3t.out Tryz.underlying24 rfl (by kernel_rfl) ?_)
  | (refine zqw rfl rfl rfl H3d zqu43 ?_)
  | (refine wp_wholeG (by rfl) 43 _ rfl (w.heap.size + 1) rfl 43 #[.int .i64 q.a, .int .i64 q.b] _ H3d.out Tryz.underlying43 rfl (by kernel_rfl) ?_)
  | fail)
 refine HRL.out.mono ?_
 rintro e w5 ⟨p5, m5, c5, ls2, f2, rfl, hri, hrw, _, hle5, hm5, hb5⟩
 have H5t := shN H3t hb5
 have H5d := shN H3d hb5
 have H5P := shB H3P hb5
 have H5S := shB H4S hb5
 have H5B := shB H3B hb5
 have hsw5 : w3.heap.size ≤ w5.heap.size := hb5.size
 clear hb5 H3t H3d H3P H4S H3B
 obtain ⟨hls, hff⟩ := HRI.out.one hri
 subst hls hff
 have hmm : m3 = m5 := HRW.out.1.symm.trans hrw.1
 subst hmm
 have HSB : Hid (Calls Tryz.prog 14 #[.slice p3 m3 c3, .slice p5 m3 c5] w5 fun e w' => e = .returned (.bool true) ∧ Below w5.heap.size w5 w') := cell.writes_law p3 p5 m3 c3 c5 ls w5 (HRW.out.below H5S.out) hrw (by unfold maxLen; omega)
 have ef : (f == f) = true := by simp
 clear hri hrw HRL
 go_wp2_with (first
  | (refine zqw rfl rfl rfl H5t zqu24 ?_)
  | (refine wp_wholeG (by rfl) 24 _ rfl (w.heap.size) rfl 24 #[.slice pt lt ct, .int .i64 t.ff, .int .i64 t.fb, .int .i64 t.db, .int .i64 t.al] _ H5t.out Tryz.underlying24 rfl (by kernel_rfl) ?_)
  | (refine zqw rfl rfl rfl H5d zqu43 ?_)
  | (refine wp_wholeG (by rfl) 43 _ rfl (w.heap.size + 1) rfl 43 #[.int .i64 q.a, .int .i64 q.b] _ H5d.out Tryz.underlying43 rfl (by kernel_rfl) ?_)
  | fail)
 refine HSB.out.mono ?_
 rintro e w7 ⟨rfl, hb7⟩
 have H6t := shN H5t hb7
 have H6d := shN H5d hb7
 have H6P := shB H5P hb7
 have H6S := shB H5S hb7
 have H6B := shB H5B hb7
 have hsw7 : w5.heap.size ≤ w7.heap.size := hb7.size
 clear hb7 H5t H5d H5P H5S H5B
 clear HSB
 have HSW : Hid (Calls Tryz.prog 11 #[.slice a n cap, .slice a1 n cap1] w7 fun e w' => e = .returned (.bool true) ∧ Below w7.heap.size w7 w') := cell.words_law a a1 n cap cap1 c w7 (HC.out _ H6B.out).row (HD1.out.below H6P.out).row HNM.out
 go_wp2_with (first
  | (refine zqw rfl rfl rfl H6t zqu24 ?_)
  | (refine wp_wholeG (by rfl) 24 _ rfl (w.heap.size) rfl 24 #[.slice pt lt ct, .int .i64 t.ff, .int .i64 t.fb, .int .i64 t.db, .int .i64 t.al] _ H6t.out Tryz.underlying24 rfl (by kernel_rfl) ?_)
  | (refine zqw rfl rfl rfl H6d zqu43 ?_)
  | (refine wp_wholeG (by rfl) 43 _ rfl (w.heap.size + 1) rfl 43 #[.int .i64 q.a, .int .i64 q.b] _ H6d.out Tryz.underlying43 rfl (by kernel_rfl) ?_)
  | fail)
 refine HSW.out.mono ?_
 rintro e w8 ⟨rfl, hb8⟩
 have H7t := shN H6t hb8
 have H7d := shN H6d hb8
 have H7P := shB H6P hb8
 have H7S := shB H6S hb8
 have H7B := shB H6B hb8
 have hsw8 : w7.heap.size ≤ w8.heap.size := hb8.size
 clear hb8 H6t H6d H6P H6S H6B
 go_wp2_with fail
 go_ret
 exact ⟨rfl, H7B.out⟩
end vnd
end Go.Proofs.YtomibnggmhjdfaaGreat
