import Derived.Test.YtomibnggmhjdfaaGreatVVendLoads1
import Derived.Test.YtomibnggmhjdfaaGreatVVendLoads3
import Derived.Test.YtomibnggmhjdfaaGreatVVendLoads4
import Derived.Test.YtomibnggmhjdfaaGreatVVendLoads6
import Derived.Test.YtomibnggmhjdfaaGreatVVendLoads9
import Derived.Test.YtomibnggmhjdfaaGreatVVendLoads22
set_option linter.unusedVariables false
set_option linter.unusedSimpArgs false
namespace Go.Proofs.YtomibnggmhjdfaaGreat
namespace vnd
open disk (RepIs RepPost Lr Recs Sli sl0)
open book (Ev ev0 EMay evL evOf DecIs Cm cm0 So so0 BookIs BookPost Sees ECame RowE FirstAt NoneAt Tells DecPost)
open acc (Ac Tm Bi SellIs GrantIs RekeyIs OweIs)
open cell (Wr RowU)
open token (Tok)
open Go.RowKit
set_option maxRecDepth 100000
set_option maxHeartbeats 2000000 in
theorem rloaded (t : Tm) (pt : Option Addr) (lt ct : Nat) (a : Option Addr) (n cap : Nat) (c : List Int) (w : World) (ht : tar.Came w pt lt ct t.ts) (h : RowU w a n c) (hw : ∀ x ∈ c, 0 ≤ x ∧ x < 4294967296) : Calls Tryz.prog 9 #[.agg #[.slice pt lt ct, .int .i64 t.ff, .int .i64 t.fb, .int .i64 t.db, .int .i64 t.al], .slice a n cap] w fun e w' => LoadPost w t c e w' := by
 have HC : Hid (∀ W, Below w.heap.size w W → RowU W a n c) := fun W hW => h.below hW
 have HT : Hid (∀ W, Below w.heap.size w W → tar.Came W pt lt ct t.ts) := fun W hW => ht.below hW
 have HW : Hid (∀ x ∈ c, 0 ≤ x ∧ x < 4294967296) := hw
 clear h ht hw
 obtain ⟨W0, HWW, H0t, H0r, H0B, hs0⟩ := sh2 w #[.slice pt lt ct, .int .i64 t.ff, .int .i64 t.fb, .int .i64 t.db, .int .i64 t.al] 24 #[.slice none 0 0] 29
 go_enter Tryz.func9, Tryz.ntmps9
 go_upto_region 1 with fail
 rw [HWW.out]
 clear HWW
 have HKP : Hid (Calls Tryz.prog 19 #[.slice a n cap] W0 fun e w' => KeptPost W0 c e w') := rkept a n cap c W0 (HC.out _ H0B.out) HW.out
 go_wp2_with (first
  | (refine zqw rfl rfl rfl H0t zqu24 ?_)
  | (refine zqw rfl rfl rfl H0r zqu29 ?_)
  | fail)
 refine HKP.out.mono ?_
 rintro e w1 ⟨p, m, cp, l, f, rfl, hk, hec, hm, hb1⟩
 have H1t := shN H0t hb1
 have H1r := shN H0r hb1
 have H1B := shB H0B hb1
 have hsw1 : W0.heap.size ≤ w1.heap.size := hb1.size
 clear hb1 H0t H0r H0B
 have HKI : Hid (KeptIs c l f) := hk
 have HEC : Hid (ECame w1 p m cp l) := hec
 clear hk hec HKP
 by_cases h0 : f = 0
 ·subst h0
  have HBO : Hid (Calls Tryz.prog 20 #[.agg #[.slice pt lt ct, .int .i64 t.ff, .int .i64 t.fb, .int .i64 t.db, .int .i64 t.al], .slice p m cp] w1 fun e w' => BookPost w1 t l e w') := book.rbook t pt lt ct p m cp l w1 (HT.out _ H1B.out).row (HT.out _ H1B.out).most HEC.out.row (by omega)
  go_wp2_with (first
   | (refine zqw rfl rfl rfl H1t zqu24 ?_)
   | (refine zqw rfl rfl rfl H1r zqu29 ?_)
   | fail)
  refine HBO.out.mono ?_
  rintro e w2 ⟨p2, m2, c2, xs, bk, at_, f2, rfl, hbi, hse, hm2, hb2⟩
  have H2t := shN H1t hb2
  have H2r := shN H1r hb2
  have H2B := shB H1B hb2
  have hsw2 : w1.heap.size ≤ w2.heap.size := hb2.size
  clear hb2 H1t H1r H1B
  have HV : Hid (LoadIs t c bk f2) := ⟨l, 0, HKI.out, .inr ⟨rfl, at_, hbi⟩⟩
  obtain ⟨W3, HWW, H3n, HBB, hsW3⟩ := sh1 w2 #[.slice p2 m2 c2] 29
  have HS2 : Hid (Sees W3 p2 m2 xs bk) := hse.below HBB.out
  clear hbi hse HBO HEC HKI
  have H3t := shN H2t HBB.out
  have H3r := shN H2r HBB.out
  have H3B := shB H2B HBB.out
  go_upto_region 5 with fail
  clear H2t H2r H2B
  rw [HWW.out]
  clear HWW HBB
  go_wp2_with (first
   | (refine wp_letAll rfl 29 _ _ rfl _ rfl _ rfl (by kernel_rfl) (by simp [Value.oneCell']) _ 29 H3r.out rfl ?_)
   | (refine zqw rfl rfl rfl H3t zqu24 ?_)
   | (refine zqw rfl rfl rfl H3r zqu29 ?_)
   | (refine zqw rfl rfl rfl H3n zqu29 ?_)
   | fail)
  intro W4 hU
  have HS4 : Hid (Sees W4 p2 m2 xs bk) := sees_one HS2.out H3r.out hU
  have H4t := shK hU H3t (by omega)
  have H4r : Hid (Blk W4 (w.heap.size + 1) #[.slice p2 m2 c2] 29) := hU.blk
  have H4n := shK hU H3n (by omega)
  have H4B := shV hU H3B (by omega)
  have hsW4 : W4.heap.size = W3.heap.size := hU.size
  clear hU H3t H3r H3n H3B
  have Rr0 : Hid (W4.cell? ⟨w.heap.size + 1, 0, none⟩ = some (.slice p2 m2 c2)) := H4r.out.cell 0
  go_wp2_with fail
  exact bodyPost_ret (v := .tuple #[.agg #[.slice p2 m2 c2], .int .i64 f2]) (by simp [results, Tryz.results9, Rr0.out, go_sem]) rfl ⟨p2, m2, c2, xs, bk, f2, rfl, HV.out, HS4.out, hm2, H4B.out⟩
 ·have d0 : (f != 0) = true := by simpa using h0
  have HV : Hid (LoadIs t c [] f) := ⟨l, f, HKI.out, .inl ⟨h0, rfl, rfl⟩⟩
  clear h0 HEC HKI
  go_wp2_with (first
   | (refine wp_letAll rfl 29 _ _ rfl _ rfl _ rfl (by kernel_rfl) (by simp [Value.oneCell']) _ 29 H1r.out rfl ?_)
   | (refine zqw rfl rfl rfl H1t zqu24 ?_)
   | (refine zqw rfl rfl rfl H1r zqu29 ?_)
   | fail)
  intro W3 hU
  have H2t := shK hU H1t (by omega)
  have H2r : Hid (Blk W3 (w.heap.size + 1) #[.slice none 0 0] 29) := hU.blk
  have H2B := shV hU H1B (by omega)
  have hsW3 : W3.heap.size = w1.heap.size := hU.size
  clear hU H1t H1r H1B
  have Rr0 : Hid (W3.cell? ⟨w.heap.size + 1, 0, none⟩ = some (.slice none 0 0)) := H2r.out.cell 0
  go_wp2_with fail
  exact bodyPost_ret (v := .tuple #[.agg #[.slice none 0 0], .int .i64 f]) (by simp [results, Tryz.results9, Rr0.out, go_sem]) rfl ⟨none, 0, 0, [], [], f, rfl, HV.out, book.sees_nil _, Nat.zero_le _, H2B.out⟩
end vnd
namespace book
open Go.RowKit
set_option maxRecDepth 100000
theorem states_small {t : acc.Tm} {l : List Ev} {k : Nat} {st : Nat → List Cm} (h0 : st 0 = []) (h : ∀ i, i < k → StepIs t (st i) (l.getD i ev0) (st (i + 1)) 0) : ∀ i, i ≤ k → Small (st i) i
 | 0, _ => by rw [h0]; exact Small.zero
 | i + 1, hk => step_small (h i (by omega)) (states_small h0 h i (by omega))
theorem book_small {t : acc.Tm} {l : List Ev} {bk : List Cm} {at_ f : Int} (h : BookIs t l bk at_ f) : ∀ c ∈ bk, c.so.length ≤ 1000000 := by
 rcases h with ⟨_, _, rfl, _⟩ | ⟨_, _, rfl, _⟩ | ⟨_, q, k, st, s0, s1, s2⟩
 ·intro c hc; cases hc
 ·intro c hc; cases hc
 ·rcases s2 with ⟨e, rfl, _⟩ | ⟨_, _, _, rfl, _⟩
  ·intro c hc
   have := ((states_small s0 s1 k (Nat.le_refl _)).2 c hc).1
   omega
  ·intro c hc; cases hc
end book
namespace vnd
open disk (RepIs RepPost Lr Recs Sli sl0)
open book (Ev ev0 EMay evL evOf DecIs Cm cm0 So so0 BookIs BookPost Sees ECame RowE FirstAt NoneAt Tells DecPost)
open acc (Ac Tm Bi SellIs GrantIs RekeyIs OweIs)
open cell (Wr RowU)
open token (Tok)
open Go.RowKit
set_option maxRecDepth 100000
theorem load_small {t : Tm} {c : List Int} {bk : List Cm} {f : Int} (h : LoadIs t c bk f) : ∀ x ∈ bk, x.so.length ≤ 1000000 := by
 obtain ⟨l, e, _, ⟨_, rfl, _⟩ | ⟨_, a, q⟩⟩ := h
 ·intro x hx; cases hx
 ·exact book.book_small q
end vnd
namespace cell
open Go.RowKit
set_option maxRecDepth 100000
def GaveU (w : World) (zs : List Int) (e : Ending) (w' : World) : Prop := ∃ v, e = .returned v ∧ Ws w' w.heap.size v zs ∧ Below w.heap.size w w'
theorem GaveU.mk {w w' : World} {zs : List Int} {v : Value} (h1 : Ws w' w.heap.size v zs) (h2 : Below w.heap.size w w') : GaveU w zs (.returned v) w' := ⟨v, rfl, h1, h2⟩
end cell
namespace cell
open Go.RowKit
set_option maxRecDepth 100000
set_option maxHeartbeats 400000 in
theorem words_any (a : Option Addr) (len cap : Nat) (zs : List Int) (w : World) (hr : RowU w a len zs) (hn : a = none → cap = 0) (hl : len * 4 ≤ 140737488351232) :
  Calls Tryz.prog 6 #[.slice a len cap] w fun e w' => GaveU w zs e w' := by
 obtain ⟨i0, hi, hz0, hz1, hz2⟩ := info_parts info_u32
 obtain ⟨hz, hr⟩ := hr
 cases a with
 | none =>
  have hc := hn rfl
  have h0 : len = 0 := by rcases hr with h | ⟨b, off, h, _⟩; exact h; cases h
  subst hc h0
  obtain rfl : zs = [] := List.eq_nil_of_length_eq_zero hz
  have happ : ∀ w : World, (Builtin.append_ #[25, 25] 25 #[.slice none 0 0, .slice none 0 0]).run Tryz.prog w = .ok (.slice none 0 0) w := fun w => by kernel_rfl
  go_enter Tryz.func6, Tryz.ntmps6
  go_wp2
  go_ret
  exact GaveU.mk (Ws.zero _ _) (Below.refl _ _)
 | some x =>
  go_enter Tryz.func6, Tryz.ntmps6
  go_wp2_with (first
   | (at_builtin; refine wpList_append_own _ rfl _ _ 25 rfl w.heap.size 64 i0 (.int .u32 0) 1 4 Tryz.underlying25 hi hz0 hz1 hz2 rfl (by decide) _ _ _ rfl (World.ownsRow_nil _ _ _ _) x len cap (zs.map (.int .u32)) rfl ?c0 ?c1 ?c2 ?c3 ?c4 ?c5 ?_)
   | go_in)
  case c0 => simp [hz]
  case c5 => exact Nat.le_refl _
  case c1 =>
   intro j u hu
   rcases hr with h | ⟨b, off, h, hc⟩
   ·rw [List.getElem?_eq_none (by simp; omega)] at hu; cases hu
   ·obtain rfl := Option.some.inj h
    by_cases hj : j < zs.length
    ·simp [List.getElem?_eq_getElem hj] at hu
     subst hu
     have := hc j (by omega)
     simpa [Addr.add_lit, List.getD, List.getElem?_eq_getElem hj] using this
    ·rw [List.getElem?_eq_none (by simp; omega)] at hu; cases hu
  case c2 => intro u hu; obtain ⟨z, _, rfl⟩ := List.mem_map.1 hu; rfl
  case c3 => unfold maxLen; omega
  case c4 => omega
  intro v' w' hown hg _
  have HW : Hid (Ws w' w.heap.size v' zs) := by show w'.ownsRow _ _ _ _ _ _; rw [hz]; simpa using hown
  have HG : Hid (Below w.heap.size w w') := (Below.refl _ _).grown hg (Nat.le_refl _) (fun k hk => by simp [Value.ownBlock] at hk)
  clear hown hg
  go_wp2
  go_ret
  exact GaveU.mk HW.out HG.out
end cell
namespace cell
open Go.RowKit
set_option maxRecDepth 100000
set_option maxHeartbeats 1000000 in
theorem words_law (a b : Option Addr) (n c1 c2 : Nat) (zs : List Int) (w : World) (h1 : RowU w a n zs) (h2 : RowU w b n zs) (hn : n ≤ maxLen) :
  Calls Tryz.prog 11 #[.slice a n c1, .slice b n c2] w fun e w' => e = .returned (.bool true) ∧ Below w.heap.size w w' := by
 have hne : ((n : Int) != (n : Int)) = false := by simp
 unfold maxLen at hn
 go_enter Tryz.func11, Tryz.ntmps11
 go_wp2_with fail
 go_loopw [5] (fun i wr => ∃ k : Nat, k ≤ n ∧ i = .int .i64 k ∧ Below w.heap.size w wr) (fun i _ => n - (intOf i).toNat)
 case atStart => exact ⟨0, Nat.zero_le _, rfl, Below.refl _ _⟩
 case round =>
  obtain ⟨k, hk, rfl, hb⟩ := hrel
  by_cases hlt : k < n
  ·obtain ⟨b1, o1, rfl, l1, hc1⟩ := h1.at (by omega)
   obtain ⟨b2, o2, rfl, l2, hc2⟩ := h2.at (by omega)
   have f1 : wr.cell? ⟨b1, o1 + k, none⟩ = some (.int .u32 (zs.getD k 0)) := (hb.cell (p := ⟨b1, o1 + k, none⟩) l1).trans (hc1 k hlt)
   have f2 : wr.cell? ⟨b2, o2 + k, none⟩ = some (.int .u32 (zs.getD k 0)) := (hb.cell (p := ⟨b2, o2 + k, none⟩) l2).trans (hc2 k hlt)
   clear hc1 hc2 h1 h2 l1 l2
   generalize zs.getD k 0 = z at f1 f2
   have hz : (z != z) = false := by simp
   go_wp2_with fail
   go_region
   all_goals go_wp2_with fail
   go_roundw
   case rel => exact ⟨k + 1, by omega, by go_num, hb.drew⟩
   case measure => simp [intOf]; omega
  ·go_wp2_with fail
   go_ret
   exact ⟨rfl, hb⟩
end cell
namespace tar
open Go.RowKit
set_option maxRecDepth 100000
theorem stepT : PairT Tryz.prog 136 22 := ⟨by kernel_rfl, Tryz.underlying22⟩
set_option maxHeartbeats 400000 in
theorem steps_any (a : Option Addr) (len cap : Nat) (zs : List Du) (w : World) (h : Came w a len cap zs) :
  Calls Tryz.prog 18 #[.slice a len cap] w fun e w' => GaveD 136 w zs e w' := by
 obtain ⟨hr, hn, -, hl, -⟩ := h
 cases a with
 | none =>
  have hc := hn rfl
  have h0 : len = 0 := by rcases hr.2 with h | ⟨b, off, h, _⟩; exact h; cases h
  subst hc h0
  obtain rfl : zs = [] := List.eq_nil_of_length_eq_zero hr.1
  have happ : ∀ w : World, (Builtin.append_ #[22, 22] 22 #[.slice none 0 0, .slice none 0 0]).run Tryz.prog w = .ok (.slice none 0 0) w := fun w => by kernel_rfl
  go_enter Tryz.func18, Tryz.ntmps18
  go_wp2
  go_ret
  exact GaveD.mk (Ld.zero _ _ _) (Below.refl _ _)
 | some x =>
  go_enter Tryz.func18, Tryz.ntmps18
  go_wp2_with (first
   | (at_builtin; refine wp_pairs stepT rfl _ _ rfl w.heap.size x len cap zs rfl rfl hr hl (Nat.le_refl _) ?_)
   | go_in)
  intro v' w' hown hg
  have HW : Hid (Ld 136 w' w.heap.size v' zs) := hown
  have HG : Hid (Below w.heap.size w w') := (Below.refl _ _).grown hg (Nat.le_refl _) (fun k hk => by cases hk)
  clear hown hg
  go_wp2
  go_ret
  exact GaveD.mk HW.out HG.out
end tar
namespace acc
open tar (Du du0 Came RowD Ld PairT)
open Go.RowKit
set_option maxRecDepth 100000
set_option maxHeartbeats 4000000 in
theorem terms_any (x : Tm) (p : Option Addr) (len cap : Nat) (w : World) (h : TCame w x p len cap) : Calls Tryz.prog 8 #[x.v p len cap] w fun e w' => ∃ p' cap', e = .returned (x.v p' len cap') ∧ deb.Fresh w' w.heap.size p' len cap' x.ts ∧ Below w.heap.size w w' := by
 have hlen := h.ts.row.1
 have HCW : Hid (TCame w x p len cap) := h
 unfold Tm.v
 obtain ⟨W0, HWW, H0d, H0r, H0B, hs0⟩ := sh2 w #[.slice p len cap, .int .i64 x.ff, .int .i64 x.fb, .int .i64 x.db, .int .i64 x.al] 24 #[.slice none 0 0, .int .i64 0, .int .i64 0, .int .i64 0, .int .i64 0] 24
 have H0C : Hid (Came W0 p len cap x.ts) := h.ts.below H0B.out
 go_enter Tryz.func8, Tryz.ntmps8
 go_upto_region 1 with fail
 rw [HWW.out]
 clear HWW
 have HDB : Hid (Calls Tryz.prog 18 #[.slice p len cap] W0 fun e w' => tar.GaveD 136 W0 x.ts e w') := tar.steps_any p len cap x.ts W0 H0C.out
 clear h
 have qd0 : W0.cell? ⟨w.heap.size, 0, none⟩ = some (.slice p len cap) := H0d.out.cell 0
 go_wp2_with fail
 refine HDB.out.mono ?_
 rintro e w2 ⟨v2, rfl, hl2, hb2⟩
 have H1d := shN H0d hb2
 have H1r := shN H0r hb2
 have H1C : Hid (Came w2 p len cap x.ts) := H0C.out.below hb2
 have H1B := shB H0B hb2
 have hsw2 : W0.heap.size ≤ w2.heap.size := hb2.size
 clear hb2 H0d H0r H0C H0B
 have HNW := HCW.out.ts
 obtain ⟨p2, c2, hv2, hc2⟩ := hl2.came (by rw [hlen]; exact HNW.bytes) HNW.wf
 subst hv2
 have hn2 := deb.ld_new hl2
 rw [hlen] at hc2 hn2 ⊢
 have H2F : Hid (deb.Fresh w2 W0.heap.size p2 len c2 x.ts) := ⟨hc2, hn2⟩
 have HUPF : Hid (0 < len → ∀ y, p2 = some y → y.block < w2.heap.size) := came_lt H2F.out.came
 clear hl2 hc2 hn2 HNW HDB qd0
 go_wp2_with (first
  | (refine wp_letS rfl 22 _ _ rfl (w.heap.size) 0 rfl p2 len c2 rfl (by kernel_rfl) #[.slice p len cap, .int .i64 x.ff, .int .i64 x.fb, .int .i64 x.db, .int .i64 x.al] 24 H1d.out (by simp) ?_)
  | (refine zqw rfl rfl rfl H1d zqu24 ?_)
  | (refine zqw rfl rfl rfl H1r zqu24 ?_)
  | fail)
 intro W3 hU
 have H3d : Hid (Blk W3 (w.heap.size) #[.slice p2 len c2, .int .i64 x.ff, .int .i64 x.fb, .int .i64 x.db, .int .i64 x.al] 24) := hU.blk
 have H3r := shK hU H1r (by omega)
 have H3F : Hid (deb.Fresh W3 W0.heap.size p2 len c2 x.ts) := fresh_updN H2F.out hU (fun hn y hy => by have f1 := H2F.out.new hn y hy; have f2 := HUPF.out hn y hy; omega)
 have H3B := shV hU H1B (by omega)
 have hsW3 : W3.heap.size = w2.heap.size := hU.size
 clear hU H1d H1r H2F H1B
 go_wp2_with (first
  | (refine wp_letAll rfl 24 _ _ rfl _ rfl _ rfl (by kernel_rfl) (by simp [Value.oneCell']) _ 24 H3r.out rfl ?_)
  | (refine zqw rfl rfl rfl H3d zqu24 ?_)
  | (refine zqw rfl rfl rfl H3r zqu24 ?_)
  | fail)
 intro W4 hU
 have H4d := shK hU H3d (by omega)
 have H4r : Hid (Blk W4 (w.heap.size + 1) #[.slice p2 len c2, .int .i64 x.ff, .int .i64 x.fb, .int .i64 x.db, .int .i64 x.al] 24) := hU.blk
 have H4F : Hid (deb.Fresh W4 W0.heap.size p2 len c2 x.ts) := fresh_updN H3F.out hU (fun hn y hy => by have f1 := H3F.out.new hn y hy; have f2 := HUPF.out hn y hy; omega)
 have H4B := shV hU H3B (by omega)
 have hsW4 : W4.heap.size = W3.heap.size := hU.size
 clear hU H3d H3r H3F H3B
 obtain ⟨R0, R1, R2, R3, R4⟩ := shc5 H4r
 go_wp2_with fail
 exact bodyPost_ret (v := .agg #[.slice p2 len c2, .int .i64 x.ff, .int .i64 x.fb, .int .i64 x.db, .int .i64 x.al]) (by simp [results, Tryz.results8, R0.out, R1.out, R2.out, R3.out, R4.out, go_sem]) rfl ⟨p2, c2, rfl, H4F.out.low (by omega), H4B.out⟩
end acc
namespace book
open Go.RowKit
set_option maxRecDepth 100000
theorem run_neOp {P : Program} {o : Oper} {a : Act} {w : World} (ty rt : TypeId) (x y : Operand) (ho : o.op = .binOp .neq ty x y rt) (ca cb : Array Value) (hx : a.eval x = .agg ca) (hy : a.eval y = .agg cb) (hg : P.eqGuardType P.depth ty = false) (b : Bool)
  (hr : (Op.equalIn 10000 ty (.agg ca) (.agg cb)).run P w = .ok b w) : (execOp a.eval o).run P w = .ok (.value (.bool (!b))) w := by
 have hr' : (Op.equal ty (.agg ca) (.agg cb)).run P w = .ok b w := hr
 have hp : ∀ w' : World, (program : Sem Program).run P w' = .ok P w' := fun _ => rfl
 unfold execOp
 simp only [ho, hx, hy]
 simp [eqGuard, hg, binOp, hr', hp, Sem.run_bind]
end book
namespace book
open Go.RowKit
set_option maxRecDepth 100000
theorem eqSo_f0 (x0 x1 x2 x3 x4 : Int) (w : World) : (part 3 #[.int .i64 x0, .int .i64 x1, .int .i64 x2, .int .i64 x3, .int .i64 x4] 0).run Tryz.prog w = .ok (.int .i64 x0) w := by kernel_rfl
theorem eqSo_f1 (x0 x1 x2 x3 x4 : Int) (w : World) : (part 3 #[.int .i64 x0, .int .i64 x1, .int .i64 x2, .int .i64 x3, .int .i64 x4] 1).run Tryz.prog w = .ok (.int .i64 x1) w := by kernel_rfl
theorem eqSo_f2 (x0 x1 x2 x3 x4 : Int) (w : World) : (part 3 #[.int .i64 x0, .int .i64 x1, .int .i64 x2, .int .i64 x3, .int .i64 x4] 2).run Tryz.prog w = .ok (.int .i64 x2) w := by kernel_rfl
theorem eqSo_f3 (x0 x1 x2 x3 x4 : Int) (w : World) : (part 3 #[.int .i64 x0, .int .i64 x1, .int .i64 x2, .int .i64 x3, .int .i64 x4] 3).run Tryz.prog w = .ok (.int .i64 x3) w := by kernel_rfl
theorem eqSo_f4 (x0 x1 x2 x3 x4 : Int) (w : World) : (part 3 #[.int .i64 x0, .int .i64 x1, .int .i64 x2, .int .i64 x3, .int .i64 x4] 4).run Tryz.prog w = .ok (.int .i64 x4) w := by kernel_rfl
theorem eqSoN (x0 x1 x2 x3 x4 : Int) (w : World) : (Op.equalIn 10000 90 (.agg #[.int .i64 x0, .int .i64 x1, .int .i64 x2, .int .i64 x3, .int .i64 x4]) (.agg #[.int .i64 x0, .int .i64 x1, .int .i64 x2, .int .i64 x3, .int .i64 x4])).run Tryz.prog w = .ok true w := by
 rw [show (10000 : Nat) = 9999 + 1 from rfl, run_equalIn_agg w 9999 90 _ _ (by kernel_rfl) (by kernel_rfl)]
 simp only [Program.fieldsOf, Tryz.underlying90, Op.eqFields, Sem.run_bind, Sem.run_ite]
 simp [eqSo_f0, eqSo_f1, eqSo_f2, eqSo_f3, eqSo_f4, show (9999 : Nat) = 9998 + 1 from rfl, eqI]
theorem eqRSo (r : So) : ∀ w : World, (Op.equalIn 10000 90 (.agg #[.int .i64 r.id, .int .i64 r.cl, .int .i64 r.am, .int .i64 r.tg, .int .i64 r.rv]) (.agg #[.int .i64 r.id, .int .i64 r.cl, .int .i64 r.am, .int .i64 r.tg, .int .i64 r.rv])).run Tryz.prog w = .ok true w := fun w => eqSoN _ _ _ _ _ w
set_option maxHeartbeats 4000000 in
theorem solds_law (a b : Option Addr) (n c1 c2 : Nat) (zs : List So) (w : World) (h1 : RowS w a n zs) (h2 : RowS w b n zs) (hn : n ≤ 4611686018427387903) :
  Calls Tryz.prog 22 #[.slice a n c1, .slice b n c2] w fun e w' => e = .returned (.bool true) ∧ Below w.heap.size w w' := by
 have hne : ((n : Int) != (n : Int)) = false := by simp
 have H1 : Hid (RowS w a n zs) := h1
 have H2 : Hid (RowS w b n zs) := h2
 clear h1 h2
 go_enter Tryz.func22, Tryz.ntmps22
 go_wp2_with fail
 go_loopw [5] (fun i wr => ∃ k : Nat, k ≤ n ∧ i = .int .i64 (k : Int) ∧ Below w.heap.size w wr) (fun i _ => n - (intOf i).toNat)
 case atStart => exact ⟨0, Nat.zero_le _, rfl, Below.refl _ _⟩
 case round =>
  obtain ⟨k, hk, rfl, hbl⟩ := hrel
  have HBL : Hid (Below w.heap.size w wr) := hbl
  clear hbl
  by_cases hkn : k < n
  ·have ek : decide ((k : Int) < (n : Int)) = true := by simp; omega
   obtain ⟨b1, o1, ea, l1, hc1⟩ := H1.out.2.resolve_left (by omega)
   obtain ⟨b2, o2, eb, l2, hc2⟩ := H2.out.2.resolve_left (by omega)
   subst ea
   subst eb
   have HC0 : Hid (∀ u, Below w.heap.size w u → u.cell? ⟨b1, o1 + k * 5, none⟩ = some (.int .i64 (zs.getD k so0).id)) := fun u hu => (hu.cell (p := ⟨b1, o1 + k * 5 + 0, none⟩) l1).trans (hc1 k 0 hkn (by decide))
   have HC1 : Hid (∀ u, Below w.heap.size w u → u.cell? ⟨b1, o1 + k * 5 + 1, none⟩ = some (.int .i64 (zs.getD k so0).cl)) := fun u hu => (hu.cell (p := ⟨b1, o1 + k * 5 + 1, none⟩) l1).trans (hc1 k 1 hkn (by decide))
   have HC2 : Hid (∀ u, Below w.heap.size w u → u.cell? ⟨b1, o1 + k * 5 + 2, none⟩ = some (.int .i64 (zs.getD k so0).am)) := fun u hu => (hu.cell (p := ⟨b1, o1 + k * 5 + 2, none⟩) l1).trans (hc1 k 2 hkn (by decide))
   have HC3 : Hid (∀ u, Below w.heap.size w u → u.cell? ⟨b1, o1 + k * 5 + 3, none⟩ = some (.int .i64 (zs.getD k so0).tg)) := fun u hu => (hu.cell (p := ⟨b1, o1 + k * 5 + 3, none⟩) l1).trans (hc1 k 3 hkn (by decide))
   have HC4 : Hid (∀ u, Below w.heap.size w u → u.cell? ⟨b1, o1 + k * 5 + 4, none⟩ = some (.int .i64 (zs.getD k so0).rv)) := fun u hu => (hu.cell (p := ⟨b1, o1 + k * 5 + 4, none⟩) l1).trans (hc1 k 4 hkn (by decide))
   have HD0 : Hid (∀ u, Below w.heap.size w u → u.cell? ⟨b2, o2 + k * 5, none⟩ = some (.int .i64 (zs.getD k so0).id)) := fun u hu => (hu.cell (p := ⟨b2, o2 + k * 5 + 0, none⟩) l2).trans (hc2 k 0 hkn (by decide))
   have HD1 : Hid (∀ u, Below w.heap.size w u → u.cell? ⟨b2, o2 + k * 5 + 1, none⟩ = some (.int .i64 (zs.getD k so0).cl)) := fun u hu => (hu.cell (p := ⟨b2, o2 + k * 5 + 1, none⟩) l2).trans (hc2 k 1 hkn (by decide))
   have HD2 : Hid (∀ u, Below w.heap.size w u → u.cell? ⟨b2, o2 + k * 5 + 2, none⟩ = some (.int .i64 (zs.getD k so0).am)) := fun u hu => (hu.cell (p := ⟨b2, o2 + k * 5 + 2, none⟩) l2).trans (hc2 k 2 hkn (by decide))
   have HD3 : Hid (∀ u, Below w.heap.size w u → u.cell? ⟨b2, o2 + k * 5 + 3, none⟩ = some (.int .i64 (zs.getD k so0).tg)) := fun u hu => (hu.cell (p := ⟨b2, o2 + k * 5 + 3, none⟩) l2).trans (hc2 k 3 hkn (by decide))
   have HD4 : Hid (∀ u, Below w.heap.size w u → u.cell? ⟨b2, o2 + k * 5 + 4, none⟩ = some (.int .i64 (zs.getD k so0).rv)) := fun u hu => (hu.cell (p := ⟨b2, o2 + k * 5 + 4, none⟩) l2).trans (hc2 k 4 hkn (by decide))
   have hq := eqRSo (zs.getD k so0)
   clear hc1 hc2 l1 l2
   generalize zs.getD k so0 = r at *
   go_wp2_with fail
   refine wp_region_held_drew (S := fun v => Below w.heap.size w v) (by kernel_rfl) HBL.out.drew (fun hHeld => ?_)
   refine zqt 0 17 (.slice (some ⟨b1, o1, none⟩) n c1) rfl rfl (by kernel_rfl) (fun _ _ _ h => h) (Or.inl ⟨by rfl, fun v hv => by clear hv; go_simp⟩) hHeld ?_
   simp only [Act.put, zqa, zqb, zqc]
   refine zqt 1 18 (.int .i64 (k : Int)) rfl rfl (by kernel_rfl) (fun _ _ _ h => h) (Or.inl ⟨by rfl, fun v hv => by clear hv; go_simp⟩) hHeld ?_
   simp only [Act.put, zqa, zqb, zqc]
   refine zqt 2 19 (.pointer (some ⟨b1, o1 + k * 5, none⟩)) rfl rfl (by kernel_rfl) (fun _ _ _ h => h) (Or.inl ⟨by rfl, fun v hv => by clear hv; go_simp⟩) hHeld ?_
   simp only [Act.put, zqa, zqb, zqc]
   refine zqt 3 20 (.agg #[.int .i64 r.id, .int .i64 r.cl, .int .i64 r.am, .int .i64 r.tg, .int .i64 r.rv]) rfl rfl (by kernel_rfl) (fun _ _ _ h => h) (Or.inl ⟨by rfl, fun v hv => by have q0 := HC0.out v hv; have q1 := HC1.out v hv; have q2 := HC2.out v hv; have q3 := HC3.out v hv; have q4 := HC4.out v hv; clear hv; go_simp⟩) hHeld ?_
   simp only [Act.put, zqa, zqb, zqc]
   refine zqt 4 21 (.slice (some ⟨b2, o2, none⟩) n c2) rfl rfl (by kernel_rfl) (fun _ _ _ h => h) (Or.inl ⟨by rfl, fun v hv => by clear hv; go_simp⟩) hHeld ?_
   simp only [Act.put, zqa, zqb, zqc]
   refine zqt 5 22 (.int .i64 (k : Int)) rfl rfl (by kernel_rfl) (fun _ _ _ h => h) (Or.inl ⟨by rfl, fun v hv => by clear hv; go_simp⟩) hHeld ?_
   simp only [Act.put, zqa, zqb, zqc]
   refine zqt 6 23 (.pointer (some ⟨b2, o2 + k * 5, none⟩)) rfl rfl (by kernel_rfl) (fun _ _ _ h => h) (Or.inl ⟨by rfl, fun v hv => by clear hv; go_simp⟩) hHeld ?_
   simp only [Act.put, zqa, zqb, zqc]
   refine zqt 7 24 (.agg #[.int .i64 r.id, .int .i64 r.cl, .int .i64 r.am, .int .i64 r.tg, .int .i64 r.rv]) rfl rfl (by kernel_rfl) (fun _ _ _ h => h) (Or.inl ⟨by rfl, fun v hv => by have q0 := HD0.out v hv; have q1 := HD1.out v hv; have q2 := HD2.out v hv; have q3 := HD3.out v hv; have q4 := HD4.out v hv; clear hv; go_simp⟩) hHeld ?_
   simp only [Act.put, zqa, zqb, zqc]
   refine zqt 8 25 (.bool false) rfl rfl (by kernel_rfl) (fun _ _ _ h => h) (Or.inl ⟨by rfl, fun v hv => run_neOp 90 _ _ _ rfl #[.int .i64 r.id, .int .i64 r.cl, .int .i64 r.am, .int .i64 r.tg, .int .i64 r.rv] #[.int .i64 r.id, .int .i64 r.cl, .int .i64 r.am, .int .i64 r.tg, .int .i64 r.rv] rfl rfl (by kernel_rfl) true (hq _)⟩) hHeld ?_
   simp only [Act.put, zqa, zqb, zqc]
   refine wpAnyH_done (by kernel_rfl) ?_ _
   clear hHeld
   have HB2 : Hid (Below w.heap.size w wr.drew) := HBL.out.drew
   go_wp2_with fail
   go_roundw
   case rel => exact ⟨k + 1, by omega, by go_num, HB2.out⟩
   case measure => simp [intOf]; omega
  ·obtain rfl : k = n := by omega
   go_wp2_with fail
   go_ret
   exact ⟨rfl, HBL.out⟩
end book
namespace deb
open tar (Du du0 Came RowD Ld PairT GaveD wp_pairs)
open Go.RowKit
set_option maxRecDepth 100000
theorem seI (d : Nat) (a b : Int) (w : World) : (Op.equalIn (d + 1) 3 (.int .i64 a) (.int .i64 b)).run Tryz.prog w = .ok (a == b) w := run_equalIn_int w d _ _ _ a b Tryz.underlying3
theorem sf0 (s c : Int) (w : World) : (part 3 #[.int .i64 s, .int .i64 c] 0).run Tryz.prog w = .ok (.int .i64 s) w := by kernel_rfl
theorem sf1 (s c : Int) (w : World) : (part 3 #[.int .i64 s, .int .i64 c] 1).run Tryz.prog w = .ok (.int .i64 c) w := by kernel_rfl
theorem eqDebt (s t b c : Int) (w : World) :
  (Op.equalIn 10000 43 (.agg #[.int .i64 s, .int .i64 b]) (.agg #[.int .i64 t, .int .i64 c])).run Tryz.prog w = .ok (s == t && b == c) w := by
 rw [show (10000 : Nat) = 9999 + 1 from rfl, run_equalIn_agg w 9999 43 _ _ (by kernel_rfl) (by kernel_rfl)]
 simp only [Program.fieldsOf, Tryz.underlying43, Op.eqFields, Sem.run_bind, Sem.run_ite]
 by_cases h1 : (s == t) = true <;> by_cases h2 : (b == c) = true <;> simp [sf0, sf1, show (9999 : Nat) = 9998 + 1 from rfl, seI, h1, h2]
end deb
namespace deb
open tar (Du du0 Came RowD Ld PairT GaveD wp_pairs)
open Go.RowKit
set_option maxRecDepth 100000
set_option maxHeartbeats 1000000 in
theorem same_debts (a b : Option Addr) (n c1 c2 : Nat) (zs : List Du) (w : World) (h1 : RowD w a n zs) (h2 : RowD w b n zs) (hn : n ≤ maxLen) :
  Calls Tryz.prog 38 #[.slice a n c1, .slice b n c2] w fun e w' => e = .returned (.bool true) ∧ Below w.heap.size w w' := by
 have hne : ((n : Int) != (n : Int)) = false := by simp
 unfold maxLen at hn
 go_enter Tryz.func38, Tryz.ntmps38
 go_wp2_with fail
 go_loopw [5] (fun i wr => ∃ k : Nat, k ≤ n ∧ i = .int .i64 k ∧ Below w.heap.size w wr) (fun i _ => n - (intOf i).toNat)
 case atStart => exact ⟨0, Nat.zero_le _, rfl, Below.refl _ _⟩
 case round =>
  obtain ⟨k, hk, rfl, hb⟩ := hrel
  by_cases hlt : k < n
  ·obtain ⟨b1, o1, rfl, l1, hc1⟩ := h1.at (by omega)
   obtain ⟨b2, o2, rfl, l2, hc2⟩ := h2.at (by omega)
   have f1 : wr.cell? ⟨b1, o1 + k * 2, none⟩ = some (.int .i64 (zs.getD k du0).a) := (hb.cell (p := ⟨b1, o1 + k * 2, none⟩) l1).trans (hc1 k hlt).1
   have f2 : wr.cell? ⟨b1, o1 + k * 2 + 1, none⟩ = some (.int .i64 (zs.getD k du0).b) := (hb.cell (p := ⟨b1, o1 + k * 2 + 1, none⟩) l1).trans (hc1 k hlt).2
   have f3 : wr.cell? ⟨b2, o2 + k * 2, none⟩ = some (.int .i64 (zs.getD k du0).a) := (hb.cell (p := ⟨b2, o2 + k * 2, none⟩) l2).trans (hc2 k hlt).1
   have f4 : wr.cell? ⟨b2, o2 + k * 2 + 1, none⟩ = some (.int .i64 (zs.getD k du0).b) := (hb.cell (p := ⟨b2, o2 + k * 2 + 1, none⟩) l2).trans (hc2 k hlt).2
   have hq : ∀ wz : World, (Op.equalIn 10000 43 (.agg #[.int .i64 (zs.getD k du0).a, .int .i64 (zs.getD k du0).b]) (.agg #[.int .i64 (zs.getD k du0).a, .int .i64 (zs.getD k du0).b])).run Tryz.prog wz = .ok true wz := fun wz => by rw [eqDebt]; simp
   have HB : Hid (Below w.heap.size w wr) := hb
   clear hc1 hc2 h1 h2 l1 l2 hb
   generalize (zs.getD k du0).a = p at *
   generalize (zs.getD k du0).b = d at *
   go_wp2_with fail
   go_region
   all_goals go_wp2_with fail
   go_roundw
   case rel => exact ⟨k + 1, by omega, by go_num, HB.out.drew⟩
   case measure => simp [intOf]; omega
  ·go_wp2_with fail
   go_ret
   exact ⟨rfl, hb⟩
end deb
namespace acc
open tar (Du du0 Came RowD Ld PairT)
open Go.RowKit
set_option maxRecDepth 100000
set_option maxHeartbeats 4000000 in
theorem same_acc (x : Ac) (p p2 : Option Addr) (len cap cap2 : Nat) (w : World) (h : Came w p len cap x.ds) (h2 : Came w p2 len cap2 x.ds) : Calls Tryz.prog 21 #[x.v p len cap, x.v p2 len cap2] w fun e w' => e = .returned (.bool true) ∧ Below w.heap.size w w' := by
 unfold Ac.v Ac.cs
 obtain ⟨W0, HWW, H0d, H0e, H0B, hs0⟩ := sh2 w #[.int .i64 x.me, .int .i64 x.rv, .int .i64 x.nx, .int .i64 x.mo, .int .i64 x.bo, .int .i64 x.fr, .slice p len cap] 59 #[.int .i64 x.me, .int .i64 x.rv, .int .i64 x.nx, .int .i64 x.mo, .int .i64 x.bo, .int .i64 x.fr, .slice p2 len cap2] 59
 have H0C : Hid (Came W0 p len cap x.ds) := h.below H0B.out
 have H0D : Hid (Came W0 p2 len cap2 x.ds) := h2.below H0B.out
 go_enter Tryz.func21, Tryz.ntmps21
 go_upto_region 1 with fail
 rw [HWW.out]
 clear HWW
 have HSD : Hid (Calls Tryz.prog 38 #[.slice p len cap, .slice p2 len cap2] W0 fun e w' => e = .returned (.bool true) ∧ Below W0.heap.size W0 w') := deb.same_debts p p2 len cap cap2 x.ds W0 H0C.out.row H0D.out.row H0C.out.most
 clear h h2 H0C H0D
 have n0 : (x.me != x.me) = false := by simp
 have n1 : (x.rv != x.rv) = false := by simp
 have n2 : (x.nx != x.nx) = false := by simp
 have n3 : (x.mo != x.mo) = false := by simp
 have n4 : (x.bo != x.bo) = false := by simp
 have n5 : (x.fr != x.fr) = false := by simp
 obtain ⟨qd0, qd1, qd2, qd3, qd4, qd5, qd6⟩ := scl7 H0d
 obtain ⟨qe0, qe1, qe2, qe3, qe4, qe5, qe6⟩ := scl7 H0e
 clear H0d H0e
 go_wp2_with fail
 refine HSD.out.mono ?_
 rintro e w2 ⟨rfl, hb2⟩
 have H2B := shB H0B hb2
 clear hb2 HSD
 go_wp2_with fail
 go_ret
 exact ⟨rfl, H2B.out⟩
end acc
end Go.Proofs.YtomibnggmhjdfaaGreat
