import Derived.Test.YtomibnggmhjdfaaGreatVVCes37
import Derived.Test.YtomibnggmhjdfaaGreatVVCes44
set_option linter.unusedVariables false
set_option linter.unusedSimpArgs false
namespace Go.Proofs.YtomibnggmhjdfaaGreat
namespace vnd
open disk (RepIs AppIs)
open book (Ev ev0 EMay evL evOf EncIs DecIs Cm cm0 So so0 BookIs Sees ECame FirstAt NoneAt)
open acc (Ac Tm Bi TCame ACame)
open cell (Wr RowU)
open Go.RowKit
set_option maxRecDepth 100000
theorem info_ev : ∃ i, Tryz.prog.info? 71 = some i ∧ i.zero = some (.agg #[.int .i64 0, .int .i64 0, .int .i64 0, .int .i64 0, .int .i64 0, .int .i64 0, .int .i64 0, .int .i64 0, .int .i64 0, .int .i64 0, .int .i64 0, .int .i64 0, .int .i64 0]) ∧ i.size = 13 ∧ i.bytes = 104 := info_parts (by kernel_rfl)
theorem make_ev (N : Nat) (h : N ≤ 100000) (w : World) : (Instr.makeSlice 51 (.int .i64 0) (.int .i64 (N : Int))).run Tryz.prog w = .ok (.slice (some ⟨w.heap.size, 0, none⟩) 0 N) (w.alloc (.cells (madeCells (Value.agg #[.int .i64 0, .int .i64 0, .int .i64 0, .int .i64 0, .int .i64 0, .int .i64 0, .int .i64 0, .int .i64 0, .int .i64 0, .int .i64 0, .int .i64 0, .int .i64 0, .int .i64 0]).cells (N * 13)) 71)) := by
 obtain ⟨i0, hi, hz0, hz1, hz2⟩ := info_ev
 have := run_make (P := Tryz.prog) w 51 71 i0 (.agg #[.int .i64 0, .int .i64 0, .int .i64 0, .int .i64 0, .int .i64 0, .int .i64 0, .int .i64 0, .int .i64 0, .int .i64 0, .int .i64 0, .int .i64 0, .int .i64 0, .int .i64 0]) Tryz.underlying51 hi hz0 .i64 .i64 0 (N : Int) (by omega) (by omega) (by rw [hz2]; omega) (by omega)
 rw [hz1, show (N : Int).toNat = N by omega] at this
 exact this
set_option maxHeartbeats 4000000 in
theorem pevents (a : Option Addr) (n cap : Nat) (c : List Int) (w : World) (h : Dk w a n cap c) : Calls Tryz.prog 30 #[.slice a n cap] w fun e w' => KeptPost w c e w' := by
 have HRE : Hid (Calls Tryz.prog 49 #[.slice a n cap] w fun e w' => disk.RepNew w c e w') := disk.kreplay w a n cap c h.row h.nil h.room h.bytes h.wd
 have HW : Hid (∀ x ∈ c, 0 ≤ x ∧ x < 4294967296) := h.wd
 clear h
 go_enter Tryz.func30, Tryz.ntmps30
 go_wp2_with fail
 refine HRE.out.mono ?_
 rintro e w1 ⟨ra, N, rc, o, x, f, rfl, hrd, hn, hri, hb1⟩
 have HB1 : Hid (Below w.heap.size w w1) := hb1
 have HRI : Hid (RepIs c o x f) := hri
 have HRD : Hid (disk.ReadsF w1 w.heap.size ra N o) := hrd
 have HOL : Hid (o.length = N) := hrd.1
 have hol : N ≤ 2048 := by rw [← hrd.1]; exact rep_len hri
 clear hrd hri hb1 HRE hn
 by_cases h0 : f = 0
 ·subst h0
  have hmk := make_ev N (by omega) w1
  have HL0 : Hid (book.Le (w1.alloc (.cells (madeCells (Value.agg #[.int .i64 0, .int .i64 0, .int .i64 0, .int .i64 0, .int .i64 0, .int .i64 0, .int .i64 0, .int .i64 0, .int .i64 0, .int .i64 0, .int .i64 0, .int .i64 0, .int .i64 0]).cells (N * 13)) 71)) w1.heap.size (.slice (some ⟨w1.heap.size, 0, none⟩) 0 N) []) := World.ownsRow_made w1 _ N (Nat.le_refl _) (by unfold maxLen; omega) (size_madeCells _ _)
  have HB0 : Hid (Below w1.heap.size w1 (w1.alloc (.cells (madeCells (Value.agg #[.int .i64 0, .int .i64 0, .int .i64 0, .int .i64 0, .int .i64 0, .int .i64 0, .int .i64 0, .int .i64 0, .int .i64 0, .int .i64 0, .int .i64 0, .int .i64 0, .int .i64 0]).cells (N * 13)) 71))) := (Below.refl _ _).alloc (Nat.le_refl _) _
  generalize (w1.alloc (.cells (madeCells (Value.agg #[.int .i64 0, .int .i64 0, .int .i64 0, .int .i64 0, .int .i64 0, .int .i64 0, .int .i64 0, .int .i64 0, .int .i64 0, .int .i64 0, .int .i64 0, .int .i64 0, .int .i64 0]).cells (N * 13)) 71)) = W0 at *
  go_wp2_with fail
  clear hmk
  go_loopw [7, 26] (fun u z wr => ∃ (k : Nat) (U : Value), k ≤ N ∧ z = .int .i64 (k : Int) ∧ U = u ∧ book.Le wr w1.heap.size U ((o.take k).map evOf) ∧ (∀ j, j < k → DecOk (o.getD j [])) ∧ Below w1.heap.size w1 wr) (fun _ z _ => N - (intOf z).toNat)
  case atStart => exact ⟨0, _, Nat.zero_le _, rfl, rfl, HL0.out, (fun j hj => absurd hj (Nat.not_lt_zero _)), HB0.out⟩
  case round =>
   obtain ⟨k, U, hk, rfl, hU, hle, hok, hb⟩ := hrel
   subst hU
   have HLE : Hid (book.Le wr w1.heap.size U ((o.take k).map evOf)) := hle
   have HOK : Hid (∀ j, j < k → DecOk (o.getD j [])) := hok
   have HBR : Hid (Below w1.heap.size w1 wr) := hb
   clear HL0 HB0
   by_cases hlt : k < N
   ·have hdl : decide ((k : Int) < (N : Int)) = true := by simp; omega
    have hko : k < o.length := by rw [HOL.out]; exact hlt
    obtain ⟨g, off, rfl, _, hgl, hgc⟩ := HRD.out.2.resolve_left (by omega)
    obtain ⟨s, h1, h2, h3, _⟩ := hgc k hlt
    have ck : wr.cell? ⟨g, off + k, none⟩ = some (.slice s.a s.n s.c) := (hb.cell (p := ⟨g, off + k, none⟩) hgl).trans h1
    have HDE : Hid (Calls Tryz.prog 50 #[.slice s.a s.n s.c] wr fun e w' => book.DecGot wr (o.getD k []) e w') := book.kdec wr s.a s.n s.c _ (h2.below hb) h3.2.2 h3.2.1 (by have := h3.1; omega) (fun y hy => HW.out y (rep_in HRI.out _ (getD_inR hko) y hy))
    clear hle hok hb hgc h1 h2 h3
    generalize s.a = sa at *
    generalize s.n = sn at *
    generalize s.c = sc at *
    have HTK : Hid ((o.take k).map evOf ++ [evOf (o.getD k [])] = (o.take (k + 1)).map evOf) := take_mapE o k hko
    have hzl : ((o.take k).map evOf).length ≤ 1000000 := by rw [List.length_map, List.length_take]; omega
    generalize (o.take k).map evOf = Z at *
    go_wp2_with fail
    refine HDE.out.mono ?_
    rintro e w2 ⟨v, f2, rfl, hd, hb2⟩
    unfold book.Ev.v
    have HX : Hid (Blk (w2.alloc (.cells #[.int .i64 v.kd, .int .i64 v.me, .int .i64 v.mo, .int .i64 v.id, .int .i64 v.te, .int .i64 v.de, .int .i64 v.fe, .int .i64 v.pr, .int .i64 v.ch, .int .i64 v.un, .int .i64 v.tg, .int .i64 v.ow, .int .i64 v.bp] 71)) w2.heap.size #[.int .i64 v.kd, .int .i64 v.me, .int .i64 v.mo, .int .i64 v.id, .int .i64 v.te, .int .i64 v.de, .int .i64 v.fe, .int .i64 v.pr, .int .i64 v.ch, .int .i64 v.un, .int .i64 v.tg, .int .i64 v.ow, .int .i64 v.bp] 71) := Blk.new w2 _ _
    have HBX : Hid (Below w1.heap.size w1 (w2.alloc (.cells #[.int .i64 v.kd, .int .i64 v.me, .int .i64 v.mo, .int .i64 v.id, .int .i64 v.te, .int .i64 v.de, .int .i64 v.fe, .int .i64 v.pr, .int .i64 v.ch, .int .i64 v.un, .int .i64 v.tg, .int .i64 v.ow, .int .i64 v.bp] 71))) := (HBR.out.trans (hb2.mono HBR.out.size)).alloc (Nat.le_trans HBR.out.size hb2.size) _
    have HLX : Hid (book.Le (w2.alloc (.cells #[.int .i64 v.kd, .int .i64 v.me, .int .i64 v.mo, .int .i64 v.id, .int .i64 v.te, .int .i64 v.de, .int .i64 v.fe, .int .i64 v.pr, .int .i64 v.ch, .int .i64 v.un, .int .i64 v.tg, .int .i64 v.ow, .int .i64 v.bp] 71)) w1.heap.size U Z) := (HLE.out.next hb2).alloc _
    have HD : Hid (DecIs (o.getD k []) v f2) := hd
    have hsx : w2.heap.size < (w2.alloc (.cells #[.int .i64 v.kd, .int .i64 v.me, .int .i64 v.mo, .int .i64 v.id, .int .i64 v.te, .int .i64 v.de, .int .i64 v.fe, .int .i64 v.pr, .int .i64 v.ch, .int .i64 v.un, .int .i64 v.tg, .int .i64 v.ow, .int .i64 v.bp] 71)).heap.size := (Blk.new w2 #[.int .i64 v.kd, .int .i64 v.me, .int .i64 v.mo, .int .i64 v.id, .int .i64 v.te, .int .i64 v.de, .int .i64 v.fe, .int .i64 v.pr, .int .i64 v.ch, .int .i64 v.un, .int .i64 v.tg, .int .i64 v.ow, .int .i64 v.bp] 71).lt
    clear hd hb2 HDE HLE HBR ck
    go_upto_region 9 with fail
    generalize (w2.alloc (.cells #[.int .i64 v.kd, .int .i64 v.me, .int .i64 v.mo, .int .i64 v.id, .int .i64 v.te, .int .i64 v.de, .int .i64 v.fe, .int .i64 v.pr, .int .i64 v.ch, .int .i64 v.un, .int .i64 v.tg, .int .i64 v.ow, .int .i64 v.bp] 71)) = W3 at *
    generalize w2.heap.size = gx at *
    by_cases h2 : f2 = 0
    ·subst h2
     obtain ⟨hdk, hve⟩ := dec_ok HD.out
     have HV : Hid (evOf (o.getD k []) = v) := hve.symm
     have HOK2 : Hid (∀ j, j < k + 1 → DecOk (o.getD j [])) := fun j hj => by
      by_cases e : j = k
      ·subst e; exact hdk
      ·exact HOK.out j (by omega)
     have HBK : Hid (Blk (W3.alloc (.cells #[.int .i64 v.kd, .int .i64 v.me, .int .i64 v.mo, .int .i64 v.id, .int .i64 v.te, .int .i64 v.de, .int .i64 v.fe, .int .i64 v.pr, .int .i64 v.ch, .int .i64 v.un, .int .i64 v.tg, .int .i64 v.ow, .int .i64 v.bp] 71)) W3.heap.size v.cl.toArray 71) := Blk.new W3 _ _
     have HLA : Hid (book.Le (W3.alloc (.cells #[.int .i64 v.kd, .int .i64 v.me, .int .i64 v.mo, .int .i64 v.id, .int .i64 v.te, .int .i64 v.de, .int .i64 v.fe, .int .i64 v.pr, .int .i64 v.ch, .int .i64 v.un, .int .i64 v.tg, .int .i64 v.ow, .int .i64 v.bp] 71)) w1.heap.size U Z) := HLX.out.alloc _
     have HBA : Hid (Below w1.heap.size w1 (W3.alloc (.cells #[.int .i64 v.kd, .int .i64 v.me, .int .i64 v.mo, .int .i64 v.id, .int .i64 v.te, .int .i64 v.de, .int .i64 v.fe, .int .i64 v.pr, .int .i64 v.ch, .int .i64 v.un, .int .i64 v.tg, .int .i64 v.ow, .int .i64 v.bp] 71))) := HBX.out.alloc HBX.out.size _
     clear hdk hve HD HOK
     go_wp2_with (first
      | (refine zqw rfl rfl rfl HX zqu71 ?_)
      | (at_builtin; refine book.wp_ev rfl _ _ rfl w1.heap.size W3.heap.size U Z v rfl rfl HLA.out HBK.out hzl HBA.out.size ?_)
      | fail)
     intro v3 w3 h3 hg3
     have HB3 : Hid (Below w1.heap.size w1 w3) := tar.own_bel HLA.out hg3 HBA.out (Nat.le_refl _) HBA.out.size
     have H3 : Hid (book.Le w3 w1.heap.size v3 (Z ++ [v])) := h3
     clear h3 hg3 HLA HBA HBK HX HLX HBX
     go_wp2_with fail
     go_roundw
     case rel => exact ⟨k + 1, v3, by omega, by go_num, by first | rfl | trivial, by rw [← HTK.out, HV.out]; exact H3.out, HOK2.out, HB3.out⟩
     case measure => simp [intOf]; omega
    ·have d2 : (f2 != 0) = true := by simpa using h2
     have HK : Hid (KeptIs c [] f2) := ⟨o, x, 0, HRI.out, .inr (.inr ⟨rfl, h2, rfl, k, hko, HOK.out, by have := dec_no HD.out h2; rw [← this]; exact HD.out⟩)⟩
     have HBF : Hid (Below w.heap.size w W3) := HB1.out.trans (HBX.out.mono HB1.out.size)
     clear h2 HD HOK
     go_wp2_with fail
     go_ret2
     exact ⟨none, 0, 0, [], f2, rfl, HK.out, ecame_nil _, Nat.zero_le _, HBF.out⟩
   ·obtain rfl : k = N := by omega
    have hdl : decide ((k : Int) < (k : Int)) = false := by simp
    have HTA : Hid (o.take k = o) := List.take_of_length_le (by rw [HOL.out]; exact Nat.le_refl _)
    have HK : Hid (KeptIs c (o.map evOf) 0) := ⟨o, x, 0, HRI.out, .inr (.inl ⟨rfl, fun j hj => HOK.out j (by rw [← HOL.out]; exact hj), rfl, rfl⟩)⟩
    have hwf : ∀ v ∈ o.map evOf, book.wf13 v := fun v hv => by
     obtain ⟨z, hz, rfl⟩ := List.mem_map.1 hv
     obtain ⟨j, hj, rfl⟩ := List.mem_iff_getElem.1 hz
     have e : o.getD j [] = o[j] := by simp [List.getD, List.getElem?_eq_getElem hj]
     have := HOK.out j (by rw [← HOL.out]; exact hj)
     rw [e] at this
     exact book.wf_may this.2
    have hl2 := HLE.out
    rw [HTA.out] at hl2
    obtain ⟨pz, cz, hvz, hcz⟩ := hl2.came (by rw [List.length_map, HOL.out]; omega) hwf
    have hlen : (o.map evOf).length = k := by rw [List.length_map]; exact HOL.out
    rw [hlen] at hvz hcz
    subst hvz
    have HCZ : Hid (ECame wr pz k cz (o.map evOf)) := hcz
    have HBF : Hid (Below w.heap.size w wr) := HB1.out.trans (HBR.out.mono HB1.out.size)
    clear hle hok hb hl2 hcz hwf hlen HLE HOK HTA
    go_wp2_with fail
    go_ret2
    exact ⟨pz, k, cz, _, 0, rfl, HK.out, HCZ.out, hol, HBF.out⟩
 ·have d0 : (f != 0) = true := by simpa using h0
  have HK : Hid (KeptIs c [] f) := ⟨o, x, f, HRI.out, .inl ⟨h0, rfl, rfl⟩⟩
  clear h0
  go_wp2_with fail
  go_ret2
  exact ⟨none, 0, 0, [], f, rfl, HK.out, ecame_nil _, Nat.zero_le _, HB1.out⟩
def OpnP (w : World) (t : Tm) (a : Option Addr) (n cap : Nat) (c : List Int) (e : Ending) (w' : World) : Prop :=
 (∃ f, e = .returned (.tuple #[.agg #[.slice none 0 0, .slice none 0 0, .int .i64 0], .int .i64 f]) ∧ f ≠ 0 ∧ LoadIs t c [] f ∧ Below w.heap.size w w') ∨
 (∃ p m cp xs bk l, e = .returned (.tuple #[.agg #[.slice p m cp, .slice a n cap, .int .i64 (l.length : Int)], .int .i64 0]) ∧ LoadIs t c bk 0 ∧ KeptIs c l 0 ∧ Sees w' p m xs bk ∧ m ≤ 120 ∧ Below w.heap.size w w')
set_option maxHeartbeats 2000000 in
theorem popen (t : Tm) (pt : Option Addr) (lt ct : Nat) (a : Option Addr) (n cap : Nat) (c : List Int) (w : World) (ht : TCame w t pt lt ct) (h : Dk w a n cap c) : Calls Tryz.prog 17 #[.agg #[.slice pt lt ct, .int .i64 t.ff, .int .i64 t.fb, .int .i64 t.db, .int .i64 t.al], .slice a n cap] w fun e w' => OpnP w t a n cap c e w' := by
 have HC : Hid (∀ W, Below w.heap.size w W → Dk W a n cap c) := fun W hW => h.below hW
 have HT : Hid (∀ W, Below w.heap.size w W → TCame W t pt lt ct) := fun W hW => ht.below hW
 clear h ht
 obtain ⟨W0, HWW, H0t, H0r, H0B, hs0⟩ := sh2 w #[.slice pt lt ct, .int .i64 t.ff, .int .i64 t.fb, .int .i64 t.db, .int .i64 t.al] 24 #[.slice none 0 0, .slice none 0 0, .int .i64 0] 47
 go_enter Tryz.func17, Tryz.ntmps17
 go_upto_region 1 with fail
 rw [HWW.out]
 clear HWW
 have HKP : Hid (Calls Tryz.prog 30 #[.slice a n cap] W0 fun e w' => KeptPost W0 c e w') := pevents a n cap c W0 (HC.out _ H0B.out)
 go_wp2_with (first
  | (refine zqw rfl rfl rfl H0t zqu24 ?_)
  | (refine zqw rfl rfl rfl H0r zqu47 ?_)
  | fail)
 refine HKP.out.mono ?_
 rintro e w1 ⟨p, m, cp, l, f, rfl, hk, hec, hm, hb1⟩
 have H1t := shN H0t hb1
 have H1r := shN H0r hb1
 have H1B := shB H0B hb1
 have hsw1 : W0.heap.size ≤ w1.heap.size := hb1.size
 clear hb1 H0t H0r H0B
 have HKI : Hid (KeptIs c l f) := hk
 have HEC : Hid (ECame w1 p m cp l) := hec
 have HLN : Hid (l.length = m) := hec.row.1
 clear hk hec HKP
 by_cases h0 : f = 0
 ·subst h0
  have HBO : Hid (Calls Tryz.prog 31 #[.agg #[.slice pt lt ct, .int .i64 t.ff, .int .i64 t.fb, .int .i64 t.db, .int .i64 t.al], .slice p m cp] w1 fun e w' => book.BookPost w1 t l e w') := book.kof w1 t pt lt ct p m cp l (HT.out _ H1B.out) HEC.out
  go_wp2_with (first
   | (refine zqw rfl rfl rfl H1t zqu24 ?_)
   | (refine zqw rfl rfl rfl H1r zqu47 ?_)
   | fail)
  refine HBO.out.mono ?_
  rintro e w2 ⟨p2, m2, c2, xs, bk, at_, f2, rfl, hbi, hse, hm2, hb2⟩
  have H2t := shN H1t hb2
  have H2r := shN H1r hb2
  have H2B := shB H1B hb2
  have hsw2 : w1.heap.size ≤ w2.heap.size := hb2.size
  clear hb2 H1t H1r H1B
  have HV : Hid (LoadIs t c bk f2) := ⟨l, 0, HKI.out, .inr ⟨rfl, at_, hbi⟩⟩
  have HBN : Hid (f2 ≠ 0 → bk = []) := book_no hbi
  have HS2 : Hid (Sees w2 p2 m2 xs bk) := hse
  clear hbi hse HBO HEC
  have H3X : Hid (Below w2.heap.size w2 w2) := Below.refl _ _
  obtain ⟨W3, HWW, H4n, H4X, hsW3⟩ := sh1 w2 #[.slice p2 m2 c2] 29
  have H4t := shN H2t H4X.out
  have H4r := shN H2r H4X.out
  have H4B := shB H2B H4X.out
  go_upto_region 5 with fail
  clear H2t H2r H3X H2B
  rw [HWW.out]
  clear HWW
  have HS3 : Hid (Sees W3 p2 m2 xs bk) := HS2.out.below H4X.out
  by_cases h2 : f2 = 0
  ·subst h2
   clear HS2
   go_wp2_with (first
    | (refine zql rfl rfl rfl rfl zqu47 (by simp [Value.oneCell']) H4r rfl ?_)
    | (refine zqw rfl rfl rfl H4t zqu24 ?_)
    | (refine zqw rfl rfl rfl H4r zqu47 ?_)
    | (refine zqw rfl rfl rfl H4n zqu29 ?_)
    | fail)
   intro W4 hU
   have HS4 : Hid (Sees W4 p2 m2 xs bk) := sees_far HS3.out (shop_odd H4r.out) hU
   have H5t := shK hU H4t (by omega)
   have H5r : Hid (Blk W4 (w.heap.size + 1) #[.slice p2 m2 c2, .slice a n cap, .int .i64 (m : Int)] 47) := hU.blk
   have H5n := shK hU H4n (by omega)
   have H5B := shV hU H4B (by omega)
   have hsW4 : W4.heap.size = W3.heap.size := hU.size
   clear hU H4t H4r H4n H4B
   have Rr0 : Hid (W4.cell? ⟨w.heap.size + 1, 0, none⟩ = some (.slice p2 m2 c2)) := H5r.out.cell 0
   have Rr1 : Hid (W4.cell? ⟨w.heap.size + 1, 1, none⟩ = some (.slice a n cap)) := H5r.out.cell 1
   have Rr2 : Hid (W4.cell? ⟨w.heap.size + 1, 2, none⟩ = some (.int .i64 (m : Int))) := H5r.out.cell 2
   go_wp2_with fail
   exact bodyPost_ret (v := .tuple #[.agg #[.slice p2 m2 c2, .slice a n cap, .int .i64 (m : Int)], .int .i64 0]) (by simp [results, Tryz.results17, Rr0.out, Rr1.out, Rr2.out, go_sem]) rfl (.inr ⟨p2, m2, c2, xs, bk, l, by rw [HLN.out], HV.out, HKI.out, HS4.out, hm2, H5B.out⟩)
  ·have d2 : (f2 != 0) = true := by simpa using h2
   have HV2 : Hid (f2 ≠ 0 ∧ LoadIs t c [] f2) := ⟨h2, by rw [← HBN.out h2]; exact HV.out⟩
   clear h2 HS2 HS3 HBN HV
   go_wp2_with (first
    | (refine zql rfl rfl rfl rfl zqu47 (by simp [Value.oneCell']) H4r rfl ?_)
    | (refine zqw rfl rfl rfl H4t zqu24 ?_)
    | (refine zqw rfl rfl rfl H4r zqu47 ?_)
    | (refine zqw rfl rfl rfl H4n zqu29 ?_)
    | fail)
   intro W4 hU
   have H5t := shK hU H4t (by omega)
   have H5r : Hid (Blk W4 (w.heap.size + 1) #[.slice none 0 0, .slice none 0 0, .int .i64 0] 47) := hU.blk
   have H5n := shK hU H4n (by omega)
   have H5B := shV hU H4B (by omega)
   have hsW4 : W4.heap.size = W3.heap.size := hU.size
   clear hU H4t H4r H4n H4B
   obtain ⟨Rr0, Rr1, Rr2⟩ := shc3 H5r
   go_wp2_with fail
   exact bodyPost_ret (v := .tuple #[.agg #[.slice none 0 0, .slice none 0 0, .int .i64 0], .int .i64 f2]) (by simp [results, Tryz.results17, Rr0.out, Rr1.out, Rr2.out, go_sem]) rfl (.inl ⟨f2, rfl, HV2.out.1, HV2.out.2, H5B.out⟩)
 ·have d0 : (f != 0) = true := by simpa using h0
  have HV : Hid (f ≠ 0 ∧ LoadIs t c [] f) := ⟨h0, l, f, HKI.out, .inl ⟨h0, rfl, rfl⟩⟩
  clear h0 HEC HKI
  go_wp2_with (first
   | (refine zql rfl rfl rfl rfl zqu47 (by simp [Value.oneCell']) H1r rfl ?_)
   | (refine zqw rfl rfl rfl H1t zqu24 ?_)
   | (refine zqw rfl rfl rfl H1r zqu47 ?_)
   | fail)
  intro W3 hU
  have H2t := shK hU H1t (by omega)
  have H2r : Hid (Blk W3 (w.heap.size + 1) #[.slice none 0 0, .slice none 0 0, .int .i64 0] 47) := hU.blk
  have H2B := shV hU H1B (by omega)
  have hsW3 : W3.heap.size = w1.heap.size := hU.size
  clear hU H1t H1r H1B
  obtain ⟨Rr0, Rr1, Rr2⟩ := shc3 H2r
  go_wp2_with fail
  exact bodyPost_ret (v := .tuple #[.agg #[.slice none 0 0, .slice none 0 0, .int .i64 0], .int .i64 f]) (by simp [results, Tryz.results17, Rr0.out, Rr1.out, Rr2.out, go_sem]) rfl (.inl ⟨f, rfl, HV.out.1, HV.out.2, H2B.out⟩)
theorem load_len {t : Tm} {c : List Int} {bk : List Cm} {l : List Ev} (h : LoadIs t c bk 0) (hk : KeptIs c l 0) : l.length ≤ 120 := by
 obtain ⟨l', e, hk', ⟨p, _, q⟩ | ⟨_, a, q⟩⟩ := h
 ·exact absurd q.symm p
 ·rw [(hk.one hk').1]; exact (book_ok q).2.1
def CusP (w : World) (bk : List Cm) (me : Int) (e : Ending) (w' : World) : Prop := Below w.heap.size w w' ∧ ((e = .returned (.tuple #[.agg #[.int .i64 0, .int .i64 0, .int .i64 0, .int .i64 0, .int .i64 0, .int .i64 0, .slice none 0 0, .slice none 0 0], .int .i64 18]) ∧ NoneAt bk me) ∨
 ∃ k dp dn dc sp sn sc, e = .returned (.tuple #[.agg #[.int .i64 (bk.getD k cm0).a.me, .int .i64 (bk.getD k cm0).a.rv, .int .i64 (bk.getD k cm0).a.nx, .int .i64 (bk.getD k cm0).a.mo, .int .i64 (bk.getD k cm0).a.bo, .int .i64 (bk.getD k cm0).a.fr, .slice dp dn dc, .slice sp sn sc], .int .i64 0]) ∧ FirstAt bk me k ∧ k < bk.length ∧ tar.Came w dp dn dc (bk.getD k cm0).a.ds ∧ book.RowS w sp sn (bk.getD k cm0).so)
theorem find_first {xs : List book.Cu} {bk : List Cm} {me x f : Int} (hl : xs.length = bk.length) (hn : ∀ i, i < xs.length → book.Nums (xs.getD i book.cu0) (bk.getD i cm0).a) (h : book.FindIs xs me x f) : (f = 18 ∧ NoneAt bk me) ∨ (∃ k : Nat, x = (k : Int) ∧ f = 0 ∧ FirstAt bk me k ∧ k < xs.length) := by
 rcases h with ⟨k, h1, h2, h3, h4, h5⟩ | ⟨h1, h2, h3⟩
 ·refine .inr ⟨k, h4, h5, ⟨by rw [← hl]; exact h1, by rw [← (hn k h1).1]; exact h2, fun j hj => by rw [← (hn j (by omega)).1]; exact h3 j hj⟩, h1⟩
 ·exact .inl ⟨h3, fun j hj => by rw [← (hn j (by rw [hl]; exact hj)).1]; exact h1 j (by rw [hl]; exact hj)⟩
set_option maxHeartbeats 2000000 in
theorem pcust (p2 : Option Addr) (m2 c2 : Nat) (xs : List book.Cu) (bk : List Cm) (a : Option Addr) (n cap : Nat) (q me : Int) (w : World) (h : Sees w p2 m2 xs bk) (hm : m2 ≤ 120) : Calls Tryz.prog 23 #[.agg #[.slice p2 m2 c2, .slice a n cap, .int .i64 q], .int .i64 me] w fun e w' => CusP w bk me e w' := by
 have HSE : Hid (Sees w p2 m2 xs bk) := h
 clear h
 obtain ⟨W0, HWW, H0s, H0r, H0B, hs0⟩ := sh2 w #[.slice p2 m2 c2, .slice a n cap, .int .i64 q] 47 #[.int .i64 0, .int .i64 0, .int .i64 0, .int .i64 0, .int .i64 0, .int .i64 0, .slice none 0 0, .slice none 0 0] 62
 go_enter Tryz.func23, Tryz.ntmps23
 go_upto_region 1 with fail
 rw [HWW.out]
 clear HWW
 have HFI : Hid (Calls Tryz.prog 39 #[.agg #[.slice p2 m2 c2], .int .i64 me] W0 fun e w' => book.FindPost W0 xs me e w') := book.pfind W0 p2 m2 c2 xs me (HSE.out.below H0B.out).row (by omega)
 have qs0 : W0.cell? ⟨w.heap.size, 0, none⟩ = some (.slice p2 m2 c2) := H0s.out.cell 0
 go_wp2_with (first
  | (refine zqw rfl rfl rfl H0s zqu47 ?_)
  | (refine zqw rfl rfl rfl H0r zqu62 ?_)
  | fail)
 refine HFI.out.mono ?_
 rintro e w1 ⟨x, f, rfl, hfi, hb1⟩
 have H1s := shN H0s hb1
 have H1r := shN H0r hb1
 have H1B := shB H0B hb1
 have hsw1 : W0.heap.size ≤ w1.heap.size := hb1.size
 clear hb1 H0s H0r H0B
 clear qs0
 have hff := find_first HSE.out.len HSE.out.num hfi
 clear hfi HFI
 rcases hff with ⟨rfl, hnone⟩ | ⟨k, rfl, rfl, hfirst, hkx⟩
 ·have HNO : Hid (NoneAt bk me) := hnone
  clear hnone
  go_wp2_with (first
   | (refine zql rfl rfl rfl rfl zqu62 (by simp [Value.oneCell']) H1r rfl ?_)
   | (refine zqw rfl rfl rfl H1s zqu47 ?_)
   | (refine zqw rfl rfl rfl H1r zqu62 ?_)
   | fail)
  intro W2 hU
  have H2s := shK hU H1s (by omega)
  have H2r : Hid (Blk W2 (w.heap.size + 1) #[.int .i64 0, .int .i64 0, .int .i64 0, .int .i64 0, .int .i64 0, .int .i64 0, .slice none 0 0, .slice none 0 0] 62) := hU.blk
  have H2B := shV hU H1B (by omega)
  have hsW2 : W2.heap.size = w1.heap.size := hU.size
  clear hU H1s H1r H1B
  have Rr0 : Hid (W2.cell? ⟨w.heap.size + 1, 0, none⟩ = some (.int .i64 0)) := H2r.out.cell 0
  have Rr1 : Hid (W2.cell? ⟨w.heap.size + 1, 1, none⟩ = some (.int .i64 0)) := H2r.out.cell 1
  have Rr2 : Hid (W2.cell? ⟨w.heap.size + 1, 2, none⟩ = some (.int .i64 0)) := H2r.out.cell 2
  have Rr3 : Hid (W2.cell? ⟨w.heap.size + 1, 3, none⟩ = some (.int .i64 0)) := H2r.out.cell 3
  have Rr4 : Hid (W2.cell? ⟨w.heap.size + 1, 4, none⟩ = some (.int .i64 0)) := H2r.out.cell 4
  have Rr5 : Hid (W2.cell? ⟨w.heap.size + 1, 5, none⟩ = some (.int .i64 0)) := H2r.out.cell 5
  have Rr6 : Hid (W2.cell? ⟨w.heap.size + 1, 6, none⟩ = some (.slice none 0 0)) := H2r.out.cell 6
  have Rr7 : Hid (W2.cell? ⟨w.heap.size + 1, 7, none⟩ = some (.slice none 0 0)) := H2r.out.cell 7
  go_wp2_with fail
  exact bodyPost_ret (v := .tuple #[.agg #[.int .i64 0, .int .i64 0, .int .i64 0, .int .i64 0, .int .i64 0, .int .i64 0, .slice none 0 0, .slice none 0 0], .int .i64 18]) (by simp [results, Tryz.results23, Rr0.out, Rr1.out, Rr2.out, Rr3.out, Rr4.out, Rr5.out, Rr6.out, Rr7.out, go_sem]) rfl ⟨H2B.out, .inl ⟨rfl, HNO.out⟩⟩
 ·have HFT : Hid (FirstAt bk me k) := hfirst
  have HSW : Hid (Sees w1 p2 m2 xs bk) := HSE.out.below H1B.out
  have HKB : Hid (k < bk.length) := by rw [← HSE.out.len]; exact hkx
  have HDS : Hid (tar.Came w (xs.getD k book.cu0).dp (xs.getD k book.cu0).dn (xs.getD k book.cu0).dc (bk.getD k cm0).a.ds ∧ book.RowS w (xs.getD k book.cu0).sp (xs.getD k book.cu0).sn (bk.getD k cm0).so) := ⟨HSE.out.ds k hkx, HSE.out.so k hkx⟩
  obtain ⟨cb, co, hpp, hcl, hcc⟩ : ∃ b off, p2 = some ⟨b, off, none⟩ ∧ b < w1.heap.size ∧ ∀ i j, i < m2 → j < 8 → w1.cell? ⟨b, off + i * 8 + j, none⟩ = (xs.getD i book.cu0).cs[j]? := by
   rcases HSW.out.row.2 with h | h
   ·have := HSW.out.row.1; omega
   ·exact h
  subst hpp
  have hkm : k < m2 := by have := HSW.out.row.1; omega
  have hnm := HSW.out.num k hkx
  have hds := HSW.out.ds k hkx
  have y0 : w1.cell? ⟨cb, co + k * 8, none⟩ = some (.int .i64 (bk.getD k cm0).a.me) := (hcc k 0 hkm (by decide)).trans (by rw [← hnm.1]; rfl)
  have y1 : w1.cell? ⟨cb, co + k * 8 + 1, none⟩ = some (.int .i64 (bk.getD k cm0).a.rv) := (hcc k 1 hkm (by decide)).trans (by rw [← hnm.2.1]; rfl)
  have y2 : w1.cell? ⟨cb, co + k * 8 + 2, none⟩ = some (.int .i64 (bk.getD k cm0).a.nx) := (hcc k 2 hkm (by decide)).trans (by rw [← hnm.2.2.1]; rfl)
  have y3 : w1.cell? ⟨cb, co + k * 8 + 3, none⟩ = some (.int .i64 (bk.getD k cm0).a.mo) := (hcc k 3 hkm (by decide)).trans (by rw [← hnm.2.2.2.1]; rfl)
  have y4 : w1.cell? ⟨cb, co + k * 8 + 4, none⟩ = some (.int .i64 (bk.getD k cm0).a.bo) := (hcc k 4 hkm (by decide)).trans (by rw [← hnm.2.2.2.2.1]; rfl)
  have y5 : w1.cell? ⟨cb, co + k * 8 + 5, none⟩ = some (.int .i64 (bk.getD k cm0).a.fr) := (hcc k 5 hkm (by decide)).trans (by rw [← hnm.2.2.2.2.2]; rfl)
  have y6 : w1.cell? ⟨cb, co + k * 8 + 6, none⟩ = some (.slice (xs.getD k book.cu0).dp (xs.getD k book.cu0).dn (xs.getD k book.cu0).dc) := hcc k 6 hkm (by decide)
  have y7 : w1.cell? ⟨cb, co + k * 8 + 7, none⟩ = some (.slice (xs.getD k book.cu0).sp (xs.getD k book.cu0).sn (xs.getD k book.cu0).sc) := hcc k 7 hkm (by decide)
  clear hcc hnm
  generalize (xs.getD k book.cu0).dp = dp at *
  generalize (xs.getD k book.cu0).dn = dn at *
  generalize (xs.getD k book.cu0).dc = dc at *
  generalize hy : (bk.getD k cm0).a = y at *
  have HY : Hid ((bk.getD k cm0).a = y) := hy
  clear hy
  generalize (xs.getD k book.cu0).sp = sp at *
  generalize (xs.getD k book.cu0).sn = sn at *
  generalize (xs.getD k book.cu0).sc = sc at *
  clear hds hfirst hkx HSW HSE
  have qs0 : w1.cell? ⟨w.heap.size, 0, none⟩ = some (.slice (some ⟨cb, co, none⟩) m2 c2) := H1s.out.cell 0
  go_wp2_with (first
   | (refine zql rfl rfl rfl rfl zqu62 (by simp [Value.oneCell']) H1r rfl ?_)
   | (refine zqw rfl rfl rfl H1s zqu47 ?_)
   | (refine zqw rfl rfl rfl H1r zqu62 ?_)
   | fail)
  intro W2 hU
  have H2s := shK hU H1s (by omega)
  have H2r : Hid (Blk W2 (w.heap.size + 1) #[.int .i64 y.me, .int .i64 y.rv, .int .i64 y.nx, .int .i64 y.mo, .int .i64 y.bo, .int .i64 y.fr, .slice dp dn dc, .slice sp sn sc] 62) := hU.blk
  have H2B := shV hU H1B (by omega)
  have hsW2 : W2.heap.size = w1.heap.size := hU.size
  clear hU H1s H1r H1B
  clear qs0
  obtain ⟨Rr0, Rr1, Rr2, Rr3, Rr4, Rr5, Rr6, Rr7⟩ := shc8 H2r
  go_wp2_with fail
  exact bodyPost_ret (v := .tuple #[.agg #[.int .i64 y.me, .int .i64 y.rv, .int .i64 y.nx, .int .i64 y.mo, .int .i64 y.bo, .int .i64 y.fr, .slice dp dn dc, .slice sp sn sc], .int .i64 0]) (by simp [results, Tryz.results23, Rr0.out, Rr1.out, Rr2.out, Rr3.out, Rr4.out, Rr5.out, Rr6.out, Rr7.out, go_sem]) rfl ⟨H2B.out, .inr ⟨k, dp, dn, dc, sp, sn, sc, by rw [HY.out], HFT.out, HKB.out, by rw [HY.out]; exact HDS.out.1, HDS.out.2⟩⟩
theorem owe_ev {a b : Ac} {me : Int} {q : tar.Du} (h : acc.OweIs a q b 0) (ha : a.me = me) : EMay (chaE me q.a q.b) := by
 rcases h with ⟨_, _, h⟩ | ⟨_, _, _, h⟩ | ⟨_, _, _, _, h⟩ | ⟨hm, hd, _⟩
 ·cases h
 ·cases h
 ·cases h
 ·exact ⟨by rw [← ha]; exact hm.2.1, .inr (.inl ⟨rfl, rfl, rfl, rfl, rfl, rfl, rfl, rfl, rfl, rfl, hd⟩)⟩
set_option maxHeartbeats 2000000 in
theorem pcha (t : Tm) (pt : Option Addr) (lt ct : Nat) (a : Option Addr) (n cap : Nat) (c : List Int) (me : Int) (q : tar.Du) (w : World) (ht : TCame w t pt lt ct) (h : Dk w a n cap c) (hq : (Lit.int .i64 q.a).wf = true ∧ (Lit.int .i64 q.b).wf = true) : Calls Tryz.prog 15 #[.agg #[.slice pt lt ct, .int .i64 t.ff, .int .i64 t.fb, .int .i64 t.db, .int .i64 t.al], .slice a n cap, .int .i64 me, .agg #[.int .i64 q.a, .int .i64 q.b]] w fun e w' => WrGot w (ChaIs t c me q.a q.b) e w' := by
 have HQ : Hid ((Lit.int .i64 q.a).wf = true ∧ (Lit.int .i64 q.b).wf = true) := hq
 clear hq
 have HC : Hid (∀ W, Below w.heap.size w W → Dk W a n cap c) := fun W hW => h.below hW
 have HT : Hid (∀ W, Below w.heap.size w W → TCame W t pt lt ct) := fun W hW => ht.below hW
 clear h ht
 obtain ⟨W0, HWW, H0t, H0d, H0B, hs0⟩ := sh2 w #[.slice pt lt ct, .int .i64 t.ff, .int .i64 t.fb, .int .i64 t.db, .int .i64 t.al] 24 #[.int .i64 q.a, .int .i64 q.b] 43
 go_enter Tryz.func15, Tryz.ntmps15
 go_upto_region 1 with fail
 rw [HWW.out]
 clear HWW
 have HOP : Hid (Calls Tryz.prog 17 #[.agg #[.slice pt lt ct, .int .i64 t.ff, .int .i64 t.fb, .int .i64 t.db, .int .i64 t.al], .slice a n cap] W0 fun e w' => OpnP W0 t a n cap c e w') := popen t pt lt ct a n cap c W0 (HT.out _ H0B.out) (HC.out _ H0B.out)
 go_wp2_with (first
  | (refine zqw rfl rfl rfl H0t zqu24 ?_)
  | (refine zqw rfl rfl rfl H0d zqu43 ?_)
  | fail)
 refine HOP.out.mono ?_
 rintro e w1 (⟨f, rfl, h0, hli, hb1⟩ | ⟨p2, m2, c2, xs, bk, l, rfl, hli, hkp, hse, hm2, hb1⟩)
 ·have d0 : (f != 0) = true := by simpa using h0
  have H1t := shN H0t hb1
  have H1d := shN H0d hb1
  have H1B := shB H0B hb1
  have hsw1 : W0.heap.size ≤ w1.heap.size := hb1.size
  clear hb1 H0t H0d H0B
  have HLI : Hid (f ≠ 0 ∧ LoadIs t c [] f) := ⟨h0, hli⟩
  clear h0 hli HOP
  obtain ⟨W2, HWW, H2s, HBB, hsW2⟩ := sh1 w1 #[.slice none 0 0, .slice none 0 0, .int .i64 0] 47
  have H2t := shN H1t HBB.out
  have H2d := shN H1d HBB.out
  have H2B := shB H1B HBB.out
  go_upto_region 2 with fail
  clear H1t H1d H1B
  rw [HWW.out]
  clear HWW HBB
  have HV : Hid (ChaIs t c me q.a q.b [] f) := ⟨[], f, HLI.out.2, .inl ⟨HLI.out.1, rfl, rfl⟩⟩
  clear HLI
  go_wp2_with fail
  go_ret2
  exact ⟨none, 0, 0, [], f, rfl, HV.out, ⟨rfl, .inl rfl⟩, (fun x hx => by cases hx), Nat.le_refl _, Nat.zero_le _, H2B.out⟩
 ·have HLI : Hid (LoadIs t c bk 0) := hli
  have HKI : Hid (KeptIs c l 0) := hkp
  have HSE : Hid (Sees w1 p2 m2 xs bk) := hse
  have H1t := shN H0t hb1
  have H1d := shN H0d hb1
  have H1B := shB H0B hb1
  have hsw1 : W0.heap.size ≤ w1.heap.size := hb1.size
  clear hb1 H0t H0d H0B
  have HL2 : Hid (l.length ≤ 120) := load_len hli hkp
  clear hli hkp hse HOP
  have H2X : Hid (Below w1.heap.size w1 w1) := Below.refl _ _
  obtain ⟨W2, HWW, H3s, H3X, hsW2⟩ := sh1 w1 #[.slice p2 m2 c2, .slice a n cap, .int .i64 (l.length : Int)] 47
  have H3t := shN H1t H3X.out
  have H3d := shN H1d H3X.out
  have H3B := shB H1B H3X.out
  go_upto_region 2 with fail
  clear H1t H1d H2X H1B
  rw [HWW.out]
  clear HWW
  have HSW : Hid (Sees W2 p2 m2 xs bk) := HSE.out.below H3X.out
  clear HSE
  have HCU : Hid (Calls Tryz.prog 23 #[.agg #[.slice p2 m2 c2, .slice a n cap, .int .i64 (l.length : Int)], .int .i64 me] W2 fun e w' => CusP W2 bk me e w') := pcust p2 m2 c2 xs bk a n cap _ me W2 HSW.out hm2
  go_wp2_with (first
   | (refine zqw rfl rfl rfl H3t zqu24 ?_)
   | (refine zqw rfl rfl rfl H3d zqu43 ?_)
   | (refine zqw rfl rfl rfl H3s zqu47 ?_)
   | fail)
  refine HCU.out.mono ?_
  rintro e w3 ⟨hb3, ⟨rfl, hno⟩ | ⟨k, dp, dn, dc, sp, sn, sc, rfl, hft, hkb, hcm, hso⟩⟩
  ·have HNO : Hid (NoneAt bk me) := hno
   clear hno HCU HSW
   have H4t := shN H3t hb3
   have H4d := shN H3d hb3
   have H4s := shN H3s hb3
   have H4B := shB H3B hb3
   have hsw3 : W2.heap.size ≤ w3.heap.size := hb3.size
   clear hb3 H3t H3d H3s H3B
   obtain ⟨W4, HWW, H5q, HBB, hsW4⟩ := sh1 w3 #[.int .i64 0, .int .i64 0, .int .i64 0, .int .i64 0, .int .i64 0, .int .i64 0, .slice none 0 0, .slice none 0 0] 62
   have H5t := shN H4t HBB.out
   have H5d := shN H4d HBB.out
   have H5s := shN H4s HBB.out
   have H5B := shB H4B HBB.out
   go_upto_region 5 with fail
   clear H4t H4d H4s H4B
   rw [HWW.out]
   clear HWW HBB
   have HV : Hid (ChaIs t c me q.a q.b [] 18) := ⟨bk, 0, HLI.out, .inr (.inl ⟨rfl, HNO.out, rfl, rfl⟩)⟩
   go_wp2_with fail
   go_ret2
   exact ⟨none, 0, 0, [], 18, rfl, HV.out, ⟨rfl, .inl rfl⟩, (fun x hx => by cases hx), Nat.le_refl _, Nat.zero_le _, H5B.out⟩
  ·have HFT : Hid (FirstAt bk me k) := hft
   have HWF : Hid (acc.wf6 (bk.getD k cm0).a) := load_wf HLI.out _ (book.getD_in hkb)
   have HCM : Hid (tar.Came W2 dp dn dc (bk.getD k cm0).a.ds) := hcm
   have HSO : Hid (book.RowS W2 sp sn (bk.getD k cm0).so) := hso
   have HK3 : Hid (Below W2.heap.size W2 w3) := hb3
   clear hft hkb hcm hso HCU HSW
   generalize hy : (bk.getD k cm0).a = y at *
   have HY : Hid ((bk.getD k cm0).a = y) := hy
   clear hy
   have H4t := shN H3t hb3
   have H4d := shN H3d hb3
   have H4s := shN H3s hb3
   have H4B := shB H3B hb3
   have hsw3 : W2.heap.size ≤ w3.heap.size := hb3.size
   clear hb3 H3t H3d H3s H3B
   have H5t : Hid (Blk (w3.alloc (.cells #[.int .i64 y.me, .int .i64 y.rv, .int .i64 y.nx, .int .i64 y.mo, .int .i64 y.bo, .int .i64 y.fr, .slice dp dn dc, .slice sp sn sc] 62)) (w.heap.size) #[.slice pt lt ct, .int .i64 t.ff, .int .i64 t.fb, .int .i64 t.db, .int .i64 t.al] 24) := H4t.out.alloc _
   have H5d : Hid (Blk (w3.alloc (.cells #[.int .i64 y.me, .int .i64 y.rv, .int .i64 y.nx, .int .i64 y.mo, .int .i64 y.bo, .int .i64 y.fr, .slice dp dn dc, .slice sp sn sc] 62)) (w.heap.size + 1) #[.int .i64 q.a, .int .i64 q.b] 43) := H4d.out.alloc _
   have H5s : Hid (Blk (w3.alloc (.cells #[.int .i64 y.me, .int .i64 y.rv, .int .i64 y.nx, .int .i64 y.mo, .int .i64 y.bo, .int .i64 y.fr, .slice dp dn dc, .slice sp sn sc] 62)) (w1.heap.size) #[.slice p2 m2 c2, .slice a n cap, .int .i64 (l.length : Int)] 47) := H4s.out.alloc _
   have H5Y : Hid (Below W2.heap.size W2 (w3.alloc (.cells #[.int .i64 y.me, .int .i64 y.rv, .int .i64 y.nx, .int .i64 y.mo, .int .i64 y.bo, .int .i64 y.fr, .slice dp dn dc, .slice sp sn sc] 62))) := HK3.out.alloc HK3.out.size _
   have H5q : Hid (Blk (w3.alloc (.cells #[.int .i64 y.me, .int .i64 y.rv, .int .i64 y.nx, .int .i64 y.mo, .int .i64 y.bo, .int .i64 y.fr, .slice dp dn dc, .slice sp sn sc] 62)) (w3.heap.size) #[.int .i64 y.me, .int .i64 y.rv, .int .i64 y.nx, .int .i64 y.mo, .int .i64 y.bo, .int .i64 y.fr, .slice dp dn dc, .slice sp sn sc] 62) := Blk.new w3 _ _
   have H5B : Hid (Below w.heap.size w (w3.alloc (.cells #[.int .i64 y.me, .int .i64 y.rv, .int .i64 y.nx, .int .i64 y.mo, .int .i64 y.bo, .int .i64 y.fr, .slice dp dn dc, .slice sp sn sc] 62))) := H4B.out.alloc H4B.out.size _
   have hsW4 : w3.heap.size < (w3.alloc (.cells #[.int .i64 y.me, .int .i64 y.rv, .int .i64 y.nx, .int .i64 y.mo, .int .i64 y.bo, .int .i64 y.fr, .slice dp dn dc, .slice sp sn sc] 62)).heap.size := (Blk.new w3 #[.int .i64 y.me, .int .i64 y.rv, .int .i64 y.nx, .int .i64 y.mo, .int .i64 y.bo, .int .i64 y.fr, .slice dp dn dc, .slice sp sn sc] 62).lt
   go_upto_region 5 with fail
   clear H4t H4d H4s HK3 H4B
   generalize (w3.alloc (.cells #[.int .i64 y.me, .int .i64 y.rv, .int .i64 y.nx, .int .i64 y.mo, .int .i64 y.bo, .int .i64 y.fr, .slice dp dn dc, .slice sp sn sc] 62)) = W4 at *
   have HOW : Hid (Calls Tryz.prog 28 #[.agg #[.int .i64 y.me, .int .i64 y.rv, .int .i64 y.nx, .int .i64 y.mo, .int .i64 y.bo, .int .i64 y.fr, .slice dp dn dc], .agg #[.int .i64 q.a, .int .i64 q.b]] W4 fun e w' => acc.APost W4 (acc.OweIs y q) e w') := acc.kowe W4 y dp dn dc q ⟨HCM.out.below H5Y.out, HWF.out⟩ HQ.out
   obtain ⟨qq0, qq1, qq2, qq3, qq4, qq5, qq6, -⟩ := scl8 H5q
   go_wp2_with (first
    | (refine zqw rfl rfl rfl H5t zqu24 ?_)
    | (refine zqw rfl rfl rfl H5d zqu43 ?_)
    | (refine zqw rfl rfl rfl H5s zqu47 ?_)
    | (refine zqw rfl rfl rfl H5q zqu62 ?_)
    | fail)
   refine HOW.out.mono ?_
   rintro e w4 ⟨b, p4, n4, c4, h4, rfl, hoi, hfr, hb4⟩
   have H6t := shN H5t hb4
   have H6d := shN H5d hb4
   have H6s := shN H5s hb4
   have H6q := shN H5q hb4
   have H6B := shB H5B hb4
   have hsw4 : W4.heap.size ≤ w4.heap.size := hb4.size
   clear hb4 H5t H5d H5s H5q H5B
   clear qq0 qq1 qq2 qq3 qq4 qq5 qq6
   have HOI : Hid (acc.OweIs y q b h4) := hoi
   clear hoi hfr HOW HCM HSO
   unfold acc.Ac.v acc.Ac.cs
   obtain ⟨W5, HWW, H7b, HBB, hsW5⟩ := sh1 w4 #[.int .i64 b.me, .int .i64 b.rv, .int .i64 b.nx, .int .i64 b.mo, .int .i64 b.bo, .int .i64 b.fr, .slice p4 n4 c4] 59
   have H7t := shN H6t HBB.out
   have H7d := shN H6d HBB.out
   have H7s := shN H6s HBB.out
   have H7q := shN H6q HBB.out
   have H7B := shB H6B HBB.out
   go_upto_region 8 with fail
   clear H6t H6d H6s H6q H6B
   rw [HWW.out]
   clear HWW HBB
   by_cases h5 : h4 = 0
   ·subst h5
    have HEV : Hid (EMay (chaE me q.a q.b)) := owe_ev HOI.out (by rw [← HY.out]; exact HFT.out.2.1)
    have HKE : Hid (Calls Tryz.prog 24 #[.agg #[.slice p2 m2 c2, .slice a n cap, .int .i64 (l.length : Int)], .agg #[.int .i64 5, .int .i64 me, .int .i64 0, .int .i64 0, .int .i64 0, .int .i64 0, .int .i64 0, .int .i64 0, .int .i64 0, .int .i64 0, .int .i64 0, .int .i64 q.a, .int .i64 q.b]] W5 fun e w' => WrGot W5 (KeepIs c (chaE me q.a q.b)) e w') := pkeep p2 m2 c2 a n cap c l (chaE me q.a q.b) W5 (HC.out _ H7B.out) HKI.out HL2.out HEV.out
    go_wp2_with (first
     | (refine zqw rfl rfl rfl H7t zqu24 ?_)
     | (refine zqw rfl rfl rfl H7d zqu43 ?_)
     | (refine zqw rfl rfl rfl H7s zqu47 ?_)
     | (refine zqw rfl rfl rfl H7q zqu62 ?_)
     | (refine zqw rfl rfl rfl H7b zqu59 ?_)
     | fail)
    refine HKE.out.mono ?_
    rintro e w5 ⟨p3, m3, c3, ls, f3, rfl, hke, hrow, hnew, hle, hsm, hb5⟩
    have H8t := shN H7t hb5
    have H8d := shN H7d hb5
    have H8s := shN H7s hb5
    have H8q := shN H7q hb5
    have H8b := shN H7b hb5
    have H8B := shB H7B hb5
    have hsw5 : W5.heap.size ≤ w5.heap.size := hb5.size
    clear hb5 H7t H7d H7s H7q H7b H7B
    have HV : Hid (ChaIs t c me q.a q.b ls f3) := ⟨bk, 0, HLI.out, .inr (.inr ⟨rfl, k, b, 0, HFT.out, by rw [HY.out]; exact HOI.out, .inr ⟨rfl, hke⟩⟩)⟩
    have HRW : Hid (cell.RowW w5 p3 m3 ls) := hrow
    have HNW : Hid (∀ x, p3 = some x → w.heap.size ≤ x.block) := fun x hx => Nat.le_trans (by omega) (hnew x hx)
    clear hke hrow hnew HKE
    go_wp2_with fail
    go_ret2
    exact ⟨p3, m3, c3, ls, f3, rfl, HV.out, HRW.out, HNW.out, hle, hsm, H8B.out⟩
   ·have d5 : (h4 != 0) = true := by simpa using h5
    have HV : Hid (ChaIs t c me q.a q.b [] h4) := ⟨bk, 0, HLI.out, .inr (.inr ⟨rfl, k, b, h4, HFT.out, by rw [HY.out]; exact HOI.out, .inl ⟨h5, rfl, rfl⟩⟩)⟩
    clear h5
    go_wp2_with fail
    go_ret2
    exact ⟨none, 0, 0, [], h4, rfl, HV.out, ⟨rfl, .inl rfl⟩, (fun x hx => by cases hx), Nat.le_refl _, Nat.zero_le _, H7B.out⟩
theorem kcha : KvCha := fun W t pt lt ct a n cap c me q ht hd _ h1 h2 => pcha t pt lt ct a n cap c me q W ht hd ⟨h1, h2⟩
end vnd
end Go.Proofs.YtomibnggmhjdfaaGreat
