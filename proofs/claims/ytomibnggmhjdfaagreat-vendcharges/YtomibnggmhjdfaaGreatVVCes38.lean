import Derived.Test.YtomibnggmhjdfaaGreatVVCes30
import Derived.Test.YtomibnggmhjdfaaGreatVVCes37
set_option linter.unusedVariables false
set_option linter.unusedSimpArgs false
namespace Go.Proofs.YtomibnggmhjdfaaGreat
namespace vnd
open disk (RepIs AppIs RepPost Lr Recs Sli sl0)
open book (Ev ev0 EMay evL evOf EncIs DecIs Cm cm0 So so0 BookIs BookPost Sees ECame RowE FirstAt NoneAt Tells DecPost)
open acc (Ac Tm Bi SellIs GrantIs RekeyIs OweIs)
open cell (Wr RowU)
open token (Tok)
open Go.RowKit
set_option maxRecDepth 100000
set_option maxHeartbeats 4000000 in
theorem rkept (a : Option Addr) (n cap : Nat) (c : List Int) (w : World) (h : RowU w a n c) (hw : ∀ x ∈ c, 0 ≤ x ∧ x < 4294967296) : Calls Tryz.prog 19 #[.slice a n cap] w fun e w' => KeptPost w c e w' := by
 have HRE : Hid (Calls Tryz.prog 32 #[.slice a n cap] w fun e w' => RepPost w c e w') := disk.replayed a n cap c w h hw
 have HW : Hid (∀ x ∈ c, 0 ≤ x ∧ x < 4294967296) := hw
 clear h hw
 go_enter Tryz.func19, Tryz.ntmps19
 go_wp2_with fail
 refine HRE.out.mono ?_
 rintro e w1 ⟨V, sl, o, x, f, rfl, hlr, hrc, hri, hb1⟩
 obtain ⟨pa, pc, rfl⟩ := hlr.len
 have HB1 : Hid (Below w.heap.size w w1) := hb1
 have HRI : Hid (RepIs c o x f) := hri
 have HLR : Hid (Lr 25 w1 w.heap.size (.slice pa sl.length pc) sl) := hlr
 have HRC : Hid (Recs w1 (Value.slice pa sl.length pc).ownBlock sl o) := hrc
 have HOL : Hid (sl.length = o.length) := hrc.1
 have hol : sl.length ≤ 2048 := by rw [hrc.1]; exact rep_len hri
 clear hlr hrc hri hb1 HRE
 by_cases h0 : f = 0
 ·subst h0
  generalize hN : sl.length = N at *
  have HN : Hid (sl.length = N) := hN
  clear hN
  go_wp2_with fail
  go_loopw [7, 8] (fun u z wr => ∃ (k : Nat) (U : Value), k ≤ N ∧ z = .int .i64 (k : Int) ∧ U = u ∧ book.Le wr w1.heap.size U ((o.take k).map evOf) ∧ (∀ j, j < k → DecOk (o.getD j [])) ∧ Below w1.heap.size w1 wr) (fun _ z _ => N - (intOf z).toNat)
  case atStart => exact ⟨0, _, Nat.zero_le _, rfl, rfl, book.Le.zero _ _, (fun j hj => absurd hj (Nat.not_lt_zero _)), Below.refl _ _⟩
  case round =>
   obtain ⟨k, U, hk, rfl, hU, hle, hok, hb⟩ := hrel
   subst hU
   have HLE : Hid (book.Le wr w1.heap.size U ((o.take k).map evOf)) := hle
   have HOK : Hid (∀ j, j < k → DecOk (o.getD j [])) := hok
   have HBR : Hid (Below w1.heap.size w1 wr) := hb
   by_cases hlt : k < N
   ·have hdl : decide ((k : Int) < (N : Int)) = true := by simp; omega
    have hks : k < sl.length := by rw [HN.out]; exact hlt
    have hko : k < o.length := by rw [← HOL.out]; exact hlt
    obtain ⟨g, gc, hgv, _, hgl, _, hgc⟩ := HLR.out.row (by rw [HN.out]; omega)
    have hpa : pa = some ⟨g, 0, none⟩ := by injection hgv
    subst hpa
    obtain ⟨⟨rb, ro, hra, hrl, _⟩, hrow⟩ := HRC.out.2 k hks
    have ck : wr.cell? ⟨g, k, none⟩ = some (sl.getD k sl0).v := (hb.cell (p := ⟨g, k, none⟩) hgl).trans (hgc k hks)
    unfold disk.Sli.v at ck
    have HDE : Hid (Calls Tryz.prog 33 #[.slice (sl.getD k sl0).a (sl.getD k sl0).n (sl.getD k sl0).c] wr fun e w' => DecPost wr (o.getD k []) e w') := book.rdecoded _ _ _ _ wr (hrow.below hb) (fun y hy => HW.out y (rep_in HRI.out _ (getD_inR hko) y hy))
    clear hle hok hb hgc hrow hra hrl hgv
    generalize (sl.getD k sl0).a = sa at *
    generalize (sl.getD k sl0).n = sn at *
    generalize (sl.getD k sl0).c = sc at *
    have HTK : Hid ((o.take k).map evOf ++ [evOf (o.getD k [])] = (o.take (k + 1)).map evOf) := take_mapE o k hko
    have hzl : ((o.take k).map evOf).length ≤ 1000000 := by rw [List.length_map, List.length_take]; omega
    generalize (o.take k).map evOf = Z at *
    go_wp2_with fail
    refine HDE.out.mono ?_
    rintro e w2 ⟨v, f2, rfl, hd, hb2⟩
    unfold book.Ev.v
    have HX : Hid (Blk (w2.alloc (.cells #[.int .i64 v.kd, .int .i64 v.me, .int .i64 v.mo, .int .i64 v.id, .int .i64 v.te, .int .i64 v.de, .int .i64 v.fe, .int .i64 v.pr, .int .i64 v.ch, .int .i64 v.un, .int .i64 v.tg, .int .i64 v.ow, .int .i64 v.bp] 71)) w2.heap.size #[.int .i64 v.kd, .int .i64 v.me, .int .i64 v.mo, .int .i64 v.id, .int .i64 v.te, .int .i64 v.de, .int .i64 v.fe, .int .i64 v.pr, .int .i64 v.ch, .int .i64 v.un, .int .i64 v.tg, .int .i64 v.ow, .int .i64 v.bp] 71) := Blk.new w2 _ _
    have HBX : Hid (Below w1.heap.size w1 (w2.alloc (.cells #[.int .i64 v.kd, .int .i64 v.me, .int .i64 v.mo, .int .i64 v.id, .int .i64 v.te, .int .i64 v.de, .int .i64 v.fe, .int .i64 v.pr, .int .i64 v.ch, .int .i64 v.un, .int .i64 v.tg, .int .i64 v.ow, .int .i64 v.bp] 71))) := (HBR.out.trans (hb2.mono HBR.out.size)).alloc (Nat.le_trans HBR.out.size hb2.size) _
    have HLX : Hid (book.Le (w2.alloc (.cells #[.int .i64 v.kd, .int .i64 v.me, .int .i64 v.mo, .int .i64 v.id, .int .i64 v.te, .int .i64 v.de, .int .i64 v.fe, .int .i64 v.pr, .int .i64 v.ch, .int .i64 v.un, .int .i64 v.tg, .int .i64 v.ow, .int .i64 v.bp] 71)) w1.heap.size U Z) := (HLE.out.next hb2).alloc _
    have HD : Hid (DecIs (o.getD k []) v f2) := hd
    have hsx : w2.heap.size < (w2.alloc (.cells #[.int .i64 v.kd, .int .i64 v.me, .int .i64 v.mo, .int .i64 v.id, .int .i64 v.te, .int .i64 v.de, .int .i64 v.fe, .int .i64 v.pr, .int .i64 v.ch, .int .i64 v.un, .int .i64 v.tg, .int .i64 v.ow, .int .i64 v.bp] 71)).heap.size := (Blk.new w2 #[.int .i64 v.kd, .int .i64 v.me, .int .i64 v.mo, .int .i64 v.id, .int .i64 v.te, .int .i64 v.de, .int .i64 v.fe, .int .i64 v.pr, .int .i64 v.ch, .int .i64 v.un, .int .i64 v.tg, .int .i64 v.ow, .int .i64 v.bp] 71).lt
    clear hd hb2 HDE HLE HBR ck
    go_upto_region 9 with fail
    generalize (w2.alloc (.cells #[.int .i64 v.kd, .int .i64 v.me, .int .i64 v.mo, .int .i64 v.id, .int .i64 v.te, .int .i64 v.de, .int .i64 v.fe, .int .i64 v.pr, .int .i64 v.ch, .int .i64 v.un, .int .i64 v.tg, .int .i64 v.ow, .int .i64 v.bp] 71)) = W3 at *
    generalize w2.heap.size = gx at *
    by_cases h2 : f2 = 0
    ·subst h2
     obtain ⟨hdk, hve⟩ := dec_ok HD.out
     have HV : Hid (evOf (o.getD k []) = v) := hve.symm
     have HOK2 : Hid (∀ j, j < k + 1 → DecOk (o.getD j [])) := fun j hj => by
      by_cases e : j = k
      ·subst e; exact hdk
      ·exact HOK.out j (by omega)
     have HBK : Hid (Blk (W3.alloc (.cells #[.int .i64 v.kd, .int .i64 v.me, .int .i64 v.mo, .int .i64 v.id, .int .i64 v.te, .int .i64 v.de, .int .i64 v.fe, .int .i64 v.pr, .int .i64 v.ch, .int .i64 v.un, .int .i64 v.tg, .int .i64 v.ow, .int .i64 v.bp] 71)) W3.heap.size v.cl.toArray 71) := Blk.new W3 _ _
     have HLA : Hid (book.Le (W3.alloc (.cells #[.int .i64 v.kd, .int .i64 v.me, .int .i64 v.mo, .int .i64 v.id, .int .i64 v.te, .int .i64 v.de, .int .i64 v.fe, .int .i64 v.pr, .int .i64 v.ch, .int .i64 v.un, .int .i64 v.tg, .int .i64 v.ow, .int .i64 v.bp] 71)) w1.heap.size U Z) := HLX.out.alloc _
     have HBA : Hid (Below w1.heap.size w1 (W3.alloc (.cells #[.int .i64 v.kd, .int .i64 v.me, .int .i64 v.mo, .int .i64 v.id, .int .i64 v.te, .int .i64 v.de, .int .i64 v.fe, .int .i64 v.pr, .int .i64 v.ch, .int .i64 v.un, .int .i64 v.tg, .int .i64 v.ow, .int .i64 v.bp] 71))) := HBX.out.alloc HBX.out.size _
     clear hdk hve HD HOK
     go_wp2_with (first
      | (refine zqw rfl rfl rfl HX zqu71 ?_)
      | (at_builtin; refine book.wp_ev rfl _ _ rfl w1.heap.size W3.heap.size U Z v rfl rfl HLA.out HBK.out hzl HBA.out.size ?_)
      | fail)
     intro v3 w3 h3 hg3
     have HB3 : Hid (Below w1.heap.size w1 w3) := tar.own_bel HLA.out hg3 HBA.out (Nat.le_refl _) HBA.out.size
     have H3 : Hid (book.Le w3 w1.heap.size v3 (Z ++ [v])) := h3
     clear h3 hg3 HLA HBA HBK HX HLX HBX
     go_wp2_with fail
     go_roundw
     case rel => exact ⟨k + 1, v3, by omega, by go_num, by first | rfl | trivial, by rw [← HTK.out, HV.out]; exact H3.out, HOK2.out, HB3.out⟩
     case measure => simp [intOf]; omega
    ·have d2 : (f2 != 0) = true := by simpa using h2
     have HK : Hid (KeptIs c [] f2) := ⟨o, x, 0, HRI.out, .inr (.inr ⟨rfl, h2, rfl, k, hko, HOK.out, by have := dec_no HD.out h2; rw [← this]; exact HD.out⟩)⟩
     have HBF : Hid (Below w.heap.size w W3) := HB1.out.trans (HBX.out.mono HB1.out.size)
     clear h2 HD HOK
     go_wp2_with fail
     go_ret2
     exact ⟨none, 0, 0, [], f2, rfl, HK.out, ecame_nil _, Nat.zero_le _, HBF.out⟩
   ·obtain rfl : k = N := by omega
    have hdl : decide ((k : Int) < (k : Int)) = false := by simp
    have HTA : Hid (o.take k = o) := List.take_of_length_le (by rw [← HOL.out]; exact Nat.le_refl _)
    have HK : Hid (KeptIs c (o.map evOf) 0) := ⟨o, x, 0, HRI.out, .inr (.inl ⟨rfl, fun j hj => HOK.out j (by rw [HOL.out]; exact hj), rfl, rfl⟩)⟩
    have hwf : ∀ v ∈ o.map evOf, book.wf13 v := fun v hv => by
     obtain ⟨z, hz, rfl⟩ := List.mem_map.1 hv
     obtain ⟨j, hj, rfl⟩ := List.mem_iff_getElem.1 hz
     have e : o.getD j [] = o[j] := by simp [List.getD, List.getElem?_eq_getElem hj]
     have := HOK.out j (by rw [HOL.out]; exact hj)
     rw [e] at this
     exact book.wf_may this.2
    have hl2 := HLE.out
    rw [HTA.out] at hl2
    obtain ⟨pz, cz, hvz, hcz⟩ := hl2.came (by rw [List.length_map, ← HOL.out]; omega) hwf
    have hlen : (o.map evOf).length = k := by rw [List.length_map]; exact HOL.out.symm
    rw [hlen] at hvz hcz
    subst hvz
    have HCZ : Hid (ECame wr pz k cz (o.map evOf)) := hcz
    have HBF : Hid (Below w.heap.size w wr) := HB1.out.trans (HBR.out.mono HB1.out.size)
    clear hle hok hb hl2 hcz hwf hlen HLE HOK HTA
    go_wp2_with fail
    go_ret2
    exact ⟨pz, k, cz, _, 0, rfl, HK.out, HCZ.out, hol, HBF.out⟩
 ·have d0 : (f != 0) = true := by simpa using h0
  have HK : Hid (KeptIs c [] f) := ⟨o, x, f, HRI.out, .inl ⟨h0, rfl, rfl⟩⟩
  clear h0
  go_wp2_with fail
  go_ret2
  exact ⟨none, 0, 0, [], f, rfl, HK.out, ecame_nil _, Nat.zero_le _, HB1.out⟩
set_option maxHeartbeats 2000000 in
theorem rloaded (t : Tm) (pt : Option Addr) (lt ct : Nat) (a : Option Addr) (n cap : Nat) (c : List Int) (w : World) (ht : tar.Came w pt lt ct t.ts) (h : RowU w a n c) (hw : ∀ x ∈ c, 0 ≤ x ∧ x < 4294967296) : Calls Tryz.prog 9 #[.agg #[.slice pt lt ct, .int .i64 t.ff, .int .i64 t.fb, .int .i64 t.db, .int .i64 t.al], .slice a n cap] w fun e w' => LoadPost w t c e w' := by
 have HC : Hid (∀ W, Below w.heap.size w W → RowU W a n c) := fun W hW => h.below hW
 have HT : Hid (∀ W, Below w.heap.size w W → tar.Came W pt lt ct t.ts) := fun W hW => ht.below hW
 have HW : Hid (∀ x ∈ c, 0 ≤ x ∧ x < 4294967296) := hw
 clear h ht hw
 obtain ⟨W0, HWW, H0t, H0r, H0B, hs0⟩ := sh2 w #[.slice pt lt ct, .int .i64 t.ff, .int .i64 t.fb, .int .i64 t.db, .int .i64 t.al] 24 #[.slice none 0 0] 29
 go_enter Tryz.func9, Tryz.ntmps9
 go_upto_region 1 with fail
 rw [HWW.out]
 clear HWW
 have HKP : Hid (Calls Tryz.prog 19 #[.slice a n cap] W0 fun e w' => KeptPost W0 c e w') := rkept a n cap c W0 (HC.out _ H0B.out) HW.out
 go_wp2_with (first
  | (refine zqw rfl rfl rfl H0t zqu24 ?_)
  | (refine zqw rfl rfl rfl H0r zqu29 ?_)
  | fail)
 refine HKP.out.mono ?_
 rintro e w1 ⟨p, m, cp, l, f, rfl, hk, hec, hm, hb1⟩
 have H1t := shN H0t hb1
 have H1r := shN H0r hb1
 have H1B := shB H0B hb1
 have hsw1 : W0.heap.size ≤ w1.heap.size := hb1.size
 clear hb1 H0t H0r H0B
 have HKI : Hid (KeptIs c l f) := hk
 have HEC : Hid (ECame w1 p m cp l) := hec
 clear hk hec HKP
 by_cases h0 : f = 0
 ·subst h0
  have HBO : Hid (Calls Tryz.prog 20 #[.agg #[.slice pt lt ct, .int .i64 t.ff, .int .i64 t.fb, .int .i64 t.db, .int .i64 t.al], .slice p m cp] w1 fun e w' => BookPost w1 t l e w') := book.rbook t pt lt ct p m cp l w1 (HT.out _ H1B.out).row (HT.out _ H1B.out).most HEC.out.row (by omega)
  go_wp2_with (first
   | (refine zqw rfl rfl rfl H1t zqu24 ?_)
   | (refine zqw rfl rfl rfl H1r zqu29 ?_)
   | fail)
  refine HBO.out.mono ?_
  rintro e w2 ⟨p2, m2, c2, xs, bk, at_, f2, rfl, hbi, hse, hm2, hb2⟩
  have H2t := shN H1t hb2
  have H2r := shN H1r hb2
  have H2B := shB H1B hb2
  have hsw2 : w1.heap.size ≤ w2.heap.size := hb2.size
  clear hb2 H1t H1r H1B
  have HV : Hid (LoadIs t c bk f2) := ⟨l, 0, HKI.out, .inr ⟨rfl, at_, hbi⟩⟩
  obtain ⟨W3, HWW, H3n, HBB, hsW3⟩ := sh1 w2 #[.slice p2 m2 c2] 29
  have HS2 : Hid (Sees W3 p2 m2 xs bk) := hse.below HBB.out
  clear hbi hse HBO HEC HKI
  have H3t := shN H2t HBB.out
  have H3r := shN H2r HBB.out
  have H3B := shB H2B HBB.out
  go_upto_region 5 with fail
  clear H2t H2r H2B
  rw [HWW.out]
  clear HWW HBB
  go_wp2_with (first
   | (refine zql rfl rfl rfl rfl zqu29 (by simp [Value.oneCell']) H3r rfl ?_)
   | (refine zqw rfl rfl rfl H3t zqu24 ?_)
   | (refine zqw rfl rfl rfl H3r zqu29 ?_)
   | (refine zqw rfl rfl rfl H3n zqu29 ?_)
   | fail)
  intro W4 hU
  have HS4 : Hid (Sees W4 p2 m2 xs bk) := sees_one HS2.out H3r.out hU
  have H4t := shK hU H3t (by omega)
  have H4r : Hid (Blk W4 (w.heap.size + 1) #[.slice p2 m2 c2] 29) := hU.blk
  have H4n := shK hU H3n (by omega)
  have H4B := shV hU H3B (by omega)
  have hsW4 : W4.heap.size = W3.heap.size := hU.size
  clear hU H3t H3r H3n H3B
  have Rr0 : Hid (W4.cell? ⟨w.heap.size + 1, 0, none⟩ = some (.slice p2 m2 c2)) := H4r.out.cell 0
  go_wp2_with fail
  exact bodyPost_ret (v := .tuple #[.agg #[.slice p2 m2 c2], .int .i64 f2]) (by simp [results, Tryz.results9, Rr0.out, go_sem]) rfl ⟨p2, m2, c2, xs, bk, f2, rfl, HV.out, HS4.out, hm2, H4B.out⟩
 ·have d0 : (f != 0) = true := by simpa using h0
  have HV : Hid (LoadIs t c [] f) := ⟨l, f, HKI.out, .inl ⟨h0, rfl, rfl⟩⟩
  clear h0 HEC HKI
  go_wp2_with (first
   | (refine zql rfl rfl rfl rfl zqu29 (by simp [Value.oneCell']) H1r rfl ?_)
   | (refine zqw rfl rfl rfl H1t zqu24 ?_)
   | (refine zqw rfl rfl rfl H1r zqu29 ?_)
   | fail)
  intro W3 hU
  have H2t := shK hU H1t (by omega)
  have H2r : Hid (Blk W3 (w.heap.size + 1) #[.slice none 0 0] 29) := hU.blk
  have H2B := shV hU H1B (by omega)
  have hsW3 : W3.heap.size = w1.heap.size := hU.size
  clear hU H1t H1r H1B
  have Rr0 : Hid (W3.cell? ⟨w.heap.size + 1, 0, none⟩ = some (.slice none 0 0)) := H2r.out.cell 0
  go_wp2_with fail
  exact bodyPost_ret (v := .tuple #[.agg #[.slice none 0 0], .int .i64 f]) (by simp [results, Tryz.results9, Rr0.out, go_sem]) rfl ⟨none, 0, 0, [], [], f, rfl, HV.out, book.sees_nil _, Nat.zero_le _, H2B.out⟩
open disk (AppPost)
open book (EncPost)
open cell (RowW Lw Ws)
set_option maxHeartbeats 2000000 in
theorem rkeeps (a : Option Addr) (n cap : Nat) (c : List Int) (v : Ev) (w : World) (h : RowU w a n c) (hw : ∀ x ∈ c, 0 ≤ x ∧ x < 4294967296) : Calls Tryz.prog 27 #[.slice a n cap, .agg #[.int .i64 v.kd, .int .i64 v.me, .int .i64 v.mo, .int .i64 v.id, .int .i64 v.te, .int .i64 v.de, .int .i64 v.fe, .int .i64 v.pr, .int .i64 v.ch, .int .i64 v.un, .int .i64 v.tg, .int .i64 v.ow, .int .i64 v.bp]] w fun e w' => WrPost w (KeepIs c v) e w' := by
 have HC : Hid (∀ W, Below w.heap.size w W → RowU W a n c) := fun W hW => h.below hW
 have HW : Hid (∀ x ∈ c, 0 ≤ x ∧ x < 4294967296) := hw
 clear h hw
 obtain ⟨W0, HWW, H0v, H0B, hs0⟩ := sh1 w #[.int .i64 v.kd, .int .i64 v.me, .int .i64 v.mo, .int .i64 v.id, .int .i64 v.te, .int .i64 v.de, .int .i64 v.fe, .int .i64 v.pr, .int .i64 v.ch, .int .i64 v.un, .int .i64 v.tg, .int .i64 v.ow, .int .i64 v.bp] 71
 go_enter Tryz.func27, Tryz.ntmps27
 go_upto_region 1 with fail
 rw [HWW.out]
 clear HWW
 have HKP : Hid (Calls Tryz.prog 19 #[.slice a n cap] W0 fun e w' => KeptPost W0 c e w') := rkept a n cap c W0 (HC.out _ H0B.out) HW.out
 go_wp2_with (first
  | (refine zqw rfl rfl rfl H0v zqu71 ?_)
  | fail)
 refine HKP.out.mono ?_
 rintro e w1 ⟨p, m, cp, l, f, rfl, hk, hec, hm, hb1⟩
 have H1v := shN H0v hb1
 have H1B := shB H0B hb1
 have hsw1 : W0.heap.size ≤ w1.heap.size := hb1.size
 clear hb1 H0v H0B
 have HKI : Hid (KeptIs c l f) := hk
 have HLN : Hid (l.length = m) := hec.row.1
 clear hk hec HKP
 by_cases h1 : m < 120
 ·have d1 : decide (120 ≤ (m : Int)) = false := decide_eq_false (by omega)
  have d1n : decide (120 ≤ m) = false := decide_eq_false (by omega)
  have HEN : Hid (Calls Tryz.prog 42 #[.agg #[.int .i64 v.kd, .int .i64 v.me, .int .i64 v.mo, .int .i64 v.id, .int .i64 v.te, .int .i64 v.de, .int .i64 v.fe, .int .i64 v.pr, .int .i64 v.ch, .int .i64 v.un, .int .i64 v.tg, .int .i64 v.ow, .int .i64 v.bp]] w1 fun e w' => EncPost w1 v e w') := book.rencoded v w1
  go_wp2_with (first
   | (refine zqw rfl rfl rfl H1v zqu71 ?_)
   | fail)
  refine HEN.out.mono ?_
  rintro e w2 ⟨V, ws, g, rfl, hen, hws, hb2⟩
  have H2v := shN H1v hb2
  have H2B := shB H1B hb2
  have hsw2 : w1.heap.size ≤ w2.heap.size := hb2.size
  clear hb2 H1v H1B
  have HEI : Hid (EncIs v ws g) := hen
  clear hen HEN
  by_cases h2 : g = 0
  ·subst h2
   obtain ⟨pw, cw, rfl, hrw⟩ := hws.row
   have HAP : Hid (Calls Tryz.prog 43 #[.slice a n cap, .slice pw ws.length cw] w2 fun e w' => AppPost w2 c ws e w') := disk.appended a n cap c pw ws.length cw ws w2 (HC.out _ H2B.out) HW.out hrw.1
   clear hrw hws
   go_wp2_with (first
    | (refine zqw rfl rfl rfl H2v zqu71 ?_)
    | fail)
   refine HAP.out.mono ?_
   rintro e w3 ⟨V3, ls, f3, rfl, hlw, hap, hb3⟩
   have H3v := shN H2v hb3
   have H3B := shB H2B hb3
   have hsw3 : w2.heap.size ≤ w3.heap.size := hb3.size
   clear hb3 H2v H2B
   have HV : Hid (KeepIs c v ls f3) := ⟨l, f, HKI.out, .inr ⟨by rw [HLN.out]; exact h1, ws, 0, HEI.out, .inr ⟨rfl, hap⟩⟩⟩
   have HL : Hid (Lw w3 w.heap.size V3 ls) := lw_low hlw (by omega)
   clear hlw hap HAP
   go_wp2_with fail
   go_ret2
   exact ⟨V3, ls, f3, rfl, HV.out, HL.out, H3B.out⟩
  ·have d2 : (g != 0) = true := by simpa using h2
   have HV : Hid (KeepIs c v [] g) := ⟨l, f, HKI.out, .inr ⟨by rw [HLN.out]; exact h1, ws, g, HEI.out, .inl ⟨h2, rfl, rfl⟩⟩⟩
   clear h2
   go_wp2_with fail
   go_ret2
   exact ⟨_, [], g, rfl, HV.out, cell.Lw.zero _ _, H2B.out⟩
 ·have d1 : decide (120 ≤ (m : Int)) = true := decide_eq_true (by omega)
  have d1n : decide (120 ≤ m) = true := decide_eq_true (by omega)
  have HV : Hid (KeepIs c v [] 16) := ⟨l, f, HKI.out, .inl ⟨by rw [HLN.out]; exact h1, rfl, rfl⟩⟩
  clear h1
  go_wp2_with fail
  go_ret2
  exact ⟨_, [], 16, rfl, HV.out, cell.Lw.zero _ _, H1B.out⟩
end vnd
namespace acc
open tar (Du du0 Came RowD Ld PairT)
open Go.RowKit
set_option maxRecDepth 100000
set_option maxHeartbeats 4000000 in
theorem terms_any (x : Tm) (p : Option Addr) (len cap : Nat) (w : World) (h : TCame w x p len cap) : Calls Tryz.prog 8 #[x.v p len cap] w fun e w' => ∃ p' cap', e = .returned (x.v p' len cap') ∧ deb.Fresh w' w.heap.size p' len cap' x.ts ∧ Below w.heap.size w w' := by
 have hlen := h.ts.row.1
 have HCW : Hid (TCame w x p len cap) := h
 unfold Tm.v
 obtain ⟨W0, HWW, H0d, H0r, H0B, hs0⟩ := sh2 w #[.slice p len cap, .int .i64 x.ff, .int .i64 x.fb, .int .i64 x.db, .int .i64 x.al] 24 #[.slice none 0 0, .int .i64 0, .int .i64 0, .int .i64 0, .int .i64 0] 24
 have H0C : Hid (Came W0 p len cap x.ts) := h.ts.below H0B.out
 go_enter Tryz.func8, Tryz.ntmps8
 go_upto_region 1 with fail
 rw [HWW.out]
 clear HWW
 have HDB : Hid (Calls Tryz.prog 18 #[.slice p len cap] W0 fun e w' => tar.GaveD 136 W0 x.ts e w') := tar.steps_any p len cap x.ts W0 H0C.out
 clear h
 have qd0 : W0.cell? ⟨w.heap.size, 0, none⟩ = some (.slice p len cap) := H0d.out.cell 0
 go_wp2_with fail
 refine HDB.out.mono ?_
 rintro e w2 ⟨v2, rfl, hl2, hb2⟩
 have H1d := shN H0d hb2
 have H1r := shN H0r hb2
 have H1C : Hid (Came w2 p len cap x.ts) := H0C.out.below hb2
 have H1B := shB H0B hb2
 have hsw2 : W0.heap.size ≤ w2.heap.size := hb2.size
 clear hb2 H0d H0r H0C H0B
 have HNW := HCW.out.ts
 obtain ⟨p2, c2, hv2, hc2⟩ := hl2.came (by rw [hlen]; exact HNW.bytes) HNW.wf
 subst hv2
 have hn2 := deb.ld_new hl2
 rw [hlen] at hc2 hn2 ⊢
 have H2F : Hid (deb.Fresh w2 W0.heap.size p2 len c2 x.ts) := ⟨hc2, hn2⟩
 have HUPF : Hid (0 < len → ∀ y, p2 = some y → y.block < w2.heap.size) := came_lt H2F.out.came
 clear hl2 hc2 hn2 HNW HDB qd0
 go_wp2_with (first
  | (refine wp_letS rfl 22 _ _ rfl (w.heap.size) 0 rfl p2 len c2 rfl (by kernel_rfl) #[.slice p len cap, .int .i64 x.ff, .int .i64 x.fb, .int .i64 x.db, .int .i64 x.al] 24 H1d.out (by simp) ?_)
  | (refine zqw rfl rfl rfl H1d zqu24 ?_)
  | (refine zqw rfl rfl rfl H1r zqu24 ?_)
  | fail)
 intro W3 hU
 have H3d : Hid (Blk W3 (w.heap.size) #[.slice p2 len c2, .int .i64 x.ff, .int .i64 x.fb, .int .i64 x.db, .int .i64 x.al] 24) := hU.blk
 have H3r := shK hU H1r (by omega)
 have H3F : Hid (deb.Fresh W3 W0.heap.size p2 len c2 x.ts) := fresh_updN H2F.out hU (fun hn y hy => by have f1 := H2F.out.new hn y hy; have f2 := HUPF.out hn y hy; omega)
 have H3B := shV hU H1B (by omega)
 have hsW3 : W3.heap.size = w2.heap.size := hU.size
 clear hU H1d H1r H2F H1B
 go_wp2_with (first
  | (refine zql rfl rfl rfl rfl zqu24 (by simp [Value.oneCell']) H3r rfl ?_)
  | (refine zqw rfl rfl rfl H3d zqu24 ?_)
  | (refine zqw rfl rfl rfl H3r zqu24 ?_)
  | fail)
 intro W4 hU
 have H4d := shK hU H3d (by omega)
 have H4r : Hid (Blk W4 (w.heap.size + 1) #[.slice p2 len c2, .int .i64 x.ff, .int .i64 x.fb, .int .i64 x.db, .int .i64 x.al] 24) := hU.blk
 have H4F : Hid (deb.Fresh W4 W0.heap.size p2 len c2 x.ts) := fresh_updN H3F.out hU (fun hn y hy => by have f1 := H3F.out.new hn y hy; have f2 := HUPF.out hn y hy; omega)
 have H4B := shV hU H3B (by omega)
 have hsW4 : W4.heap.size = W3.heap.size := hU.size
 clear hU H3d H3r H3F H3B
 obtain ⟨R0, R1, R2, R3, R4⟩ := shc5 H4r
 go_wp2_with fail
 exact bodyPost_ret (v := .agg #[.slice p2 len c2, .int .i64 x.ff, .int .i64 x.fb, .int .i64 x.db, .int .i64 x.al]) (by simp [results, Tryz.results8, R0.out, R1.out, R2.out, R3.out, R4.out, go_sem]) rfl ⟨p2, c2, rfl, H4F.out.low (by omega), H4B.out⟩
end acc
end Go.Proofs.YtomibnggmhjdfaaGreat
