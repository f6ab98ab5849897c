import Derived.Test.YtomibnggmhjdfaaGreatVVRrs22
set_option linter.unusedVariables false
set_option linter.unusedSimpArgs false
namespace Go.Proofs.YtomibnggmhjdfaaGreat
namespace vnd
open disk (RepIs AppIs RepPost Lr Recs Sli sl0)
open book (Ev ev0 EMay evL evOf EncIs DecIs Cm cm0 So so0 BookIs BookPost Sees ECame RowE FirstAt NoneAt Tells DecPost)
open acc (Ac Tm Bi SellIs GrantIs RekeyIs OweIs)
open cell (Wr RowU)
open token (Tok)
open Go.RowKit
set_option maxRecDepth 100000
set_option maxHeartbeats 2000000 in
theorem rloaded (t : Tm) (pt : Option Addr) (lt ct : Nat) (a : Option Addr) (n cap : Nat) (c : List Int) (w : World) (ht : tar.Came w pt lt ct t.ts) (h : RowU w a n c) (hw : ∀ x ∈ c, 0 ≤ x ∧ x < 4294967296) : Calls Tryz.prog 9 #[.agg #[.slice pt lt ct, .int .i64 t.ff, .int .i64 t.fb, .int .i64 t.db, .int .i64 t.al], .slice a n cap] w fun e w' => LoadPost w t c e w' := by
 have HC : Hid (∀ W, Below w.heap.size w W → RowU W a n c) := fun W hW => h.below hW
 have HT : Hid (∀ W, Below w.heap.size w W → tar.Came W pt lt ct t.ts) := fun W hW => ht.below hW
 have HW : Hid (∀ x ∈ c, 0 ≤ x ∧ x < 4294967296) := hw
 clear h ht hw
 obtain ⟨W0, HWW, H0t, H0r, H0B, hs0⟩ := sh2 w #[.slice pt lt ct, .int .i64 t.ff, .int .i64 t.fb, .int .i64 t.db, .int .i64 t.al] 24 #[.slice none 0 0] 29
 go_enter Tryz.func9, Tryz.ntmps9
 go_upto_region 1 with fail
 rw [HWW.out]
 clear HWW
 have HKP : Hid (Calls Tryz.prog 19 #[.slice a n cap] W0 fun e w' => KeptPost W0 c e w') := rkept a n cap c W0 (HC.out _ H0B.out) HW.out
 go_wp2_with (first
  | (refine zqw rfl rfl rfl H0t zqu24 ?_)
  | (refine zqw rfl rfl rfl H0r zqu29 ?_)
  | fail)
 refine HKP.out.mono ?_
 rintro e w1 ⟨p, m, cp, l, f, rfl, hk, hec, hm, hb1⟩
 have H1t := shN H0t hb1
 have H1r := shN H0r hb1
 have H1B := shB H0B hb1
 have hsw1 : W0.heap.size ≤ w1.heap.size := hb1.size
 clear hb1 H0t H0r H0B
 have HKI : Hid (KeptIs c l f) := hk
 have HEC : Hid (ECame w1 p m cp l) := hec
 clear hk hec HKP
 by_cases h0 : f = 0
 ·subst h0
  have HBO : Hid (Calls Tryz.prog 20 #[.agg #[.slice pt lt ct, .int .i64 t.ff, .int .i64 t.fb, .int .i64 t.db, .int .i64 t.al], .slice p m cp] w1 fun e w' => BookPost w1 t l e w') := book.rbook t pt lt ct p m cp l w1 (HT.out _ H1B.out).row (HT.out _ H1B.out).most HEC.out.row (by omega)
  go_wp2_with (first
   | (refine zqw rfl rfl rfl H1t zqu24 ?_)
   | (refine zqw rfl rfl rfl H1r zqu29 ?_)
   | fail)
  refine HBO.out.mono ?_
  rintro e w2 ⟨p2, m2, c2, xs, bk, at_, f2, rfl, hbi, hse, hm2, hb2⟩
  have H2t := shN H1t hb2
  have H2r := shN H1r hb2
  have H2B := shB H1B hb2
  have hsw2 : w1.heap.size ≤ w2.heap.size := hb2.size
  clear hb2 H1t H1r H1B
  have HV : Hid (LoadIs t c bk f2) := ⟨l, 0, HKI.out, .inr ⟨rfl, at_, hbi⟩⟩
  obtain ⟨W3, HWW, H3n, HBB, hsW3⟩ := sh1 w2 #[.slice p2 m2 c2] 29
  have HS2 : Hid (Sees W3 p2 m2 xs bk) := hse.below HBB.out
  clear hbi hse HBO HEC HKI
  have H3t := shN H2t HBB.out
  have H3r := shN H2r HBB.out
  have H3B := shB H2B HBB.out
  go_upto_region 5 with fail
  clear H2t H2r H2B
  rw [HWW.out]
  clear HWW HBB
  go_wp2_with (first
   | (refine zql rfl rfl rfl rfl zqu29 (by simp [Value.oneCell']) H3r rfl ?_)
   | (refine zqw rfl rfl rfl H3t zqu24 ?_)
   | (refine zqw rfl rfl rfl H3r zqu29 ?_)
   | (refine zqw rfl rfl rfl H3n zqu29 ?_)
   | fail)
  intro W4 hU
  have HS4 : Hid (Sees W4 p2 m2 xs bk) := sees_one HS2.out H3r.out hU
  have H4t := shK hU H3t (by omega)
  have H4r : Hid (Blk W4 (w.heap.size + 1) #[.slice p2 m2 c2] 29) := hU.blk
  have H4n := shK hU H3n (by omega)
  have H4B := shV hU H3B (by omega)
  have hsW4 : W4.heap.size = W3.heap.size := hU.size
  clear hU H3t H3r H3n H3B
  have Rr0 : Hid (W4.cell? ⟨w.heap.size + 1, 0, none⟩ = some (.slice p2 m2 c2)) := H4r.out.cell 0
  go_wp2_with fail
  exact bodyPost_ret (v := .tuple #[.agg #[.slice p2 m2 c2], .int .i64 f2]) (by simp [results, Tryz.results9, Rr0.out, go_sem]) rfl ⟨p2, m2, c2, xs, bk, f2, rfl, HV.out, HS4.out, hm2, H4B.out⟩
 ·have d0 : (f != 0) = true := by simpa using h0
  have HV : Hid (LoadIs t c [] f) := ⟨l, f, HKI.out, .inl ⟨h0, rfl, rfl⟩⟩
  clear h0 HEC HKI
  go_wp2_with (first
   | (refine zql rfl rfl rfl rfl zqu29 (by simp [Value.oneCell']) H1r rfl ?_)
   | (refine zqw rfl rfl rfl H1t zqu24 ?_)
   | (refine zqw rfl rfl rfl H1r zqu29 ?_)
   | fail)
  intro W3 hU
  have H2t := shK hU H1t (by omega)
  have H2r : Hid (Blk W3 (w.heap.size + 1) #[.slice none 0 0] 29) := hU.blk
  have H2B := shV hU H1B (by omega)
  have hsW3 : W3.heap.size = w1.heap.size := hU.size
  clear hU H1t H1r H1B
  have Rr0 : Hid (W3.cell? ⟨w.heap.size + 1, 0, none⟩ = some (.slice none 0 0)) := H2r.out.cell 0
  go_wp2_with fail
  exact bodyPost_ret (v := .tuple #[.agg #[.slice none 0 0], .int .i64 f]) (by simp [results, Tryz.results9, Rr0.out, go_sem]) rfl ⟨none, 0, 0, [], [], f, rfl, HV.out, book.sees_nil _, Nat.zero_le _, H2B.out⟩
end vnd
namespace disk
open Go.RowKit cell
set_option maxRecDepth 100000
def AppPost (w : World) (c r : List Int) (e : Ending) (w' : World) : Prop :=
 ∃ V ls f, e = .returned (.tuple #[V, .int .i64 f]) ∧ Lw w' w.heap.size V ls ∧ AppIs c r ls f ∧ Below w.heap.size w w'
theorem put_next (p k : Nat) (r : List Int) : putW p r k ++ [⟨(p : Int) + (k : Int) + 1, r.getD k 0⟩] = putW p r (k + 1) := by
 rw [putW, show ((p + k + 1 : Nat) : Int) = (p : Int) + (k : Int) + 1 by omega]
theorem app_yes {c : List Int} {p : Nat} {r : List Int} (h : p + r.length + 1 < c.length) : putW p r r.length ++ [⟨(p : Int) + (r.length : Int) + 1, 0⟩] ++ [⟨(p : Int), (r.length : Int)⟩] = appW c p r := by
 unfold appW zeroW
 rw [if_pos h, List.append_assoc, show ((p + r.length + 1 : Nat) : Int) = (p : Int) + (r.length : Int) + 1 by omega]
theorem app_no {c : List Int} {p : Nat} {r : List Int} (h : ¬ p + r.length + 1 < c.length) : putW p r r.length ++ [⟨(p : Int), (r.length : Int)⟩] = appW c p r := by
 unfold appW zeroW
 rw [if_neg h, List.nil_append]
set_option maxHeartbeats 4000000 in
theorem appended (a : Option Addr) (n cap : Nat) (c : List Int) (a2 : Option Addr) (m cap2 : Nat) (r : List Int) (w : World) (h : RowU w a n c) (hw : ∀ x ∈ c, 0 ≤ x ∧ x < 4294967296) (h2 : RowU w a2 m r) :
  Calls Tryz.prog 43 #[.slice a n cap, .slice a2 m cap2] w fun e w' => AppPost w c r e w' := by
 have hcl := h.1
 have hrl := h2.1
 by_cases hmay : 1 ≤ m ∧ m ≤ 64
 ·have HM : Hid (∀ W, Calls Tryz.prog 25 #[.int .i64 (m : Int), .int .i64 1, .int .i64 64] W fun e w' => e = .returned (.bool true) ∧ w' = W) := fun W => in_yes _ _ _ W (by omega) (by omega)
  have HRP : Hid (Calls Tryz.prog 32 #[.slice a n cap] w fun e w' => RepPost w c e w') := replayed a n cap c w h hw
  obtain ⟨b, o, rfl, lb, hc⟩ := h2.at (by omega)
  have HCL : Hid (∀ W, Below w.heap.size w W → ∀ j, j < m → W.cell? ⟨b, o + j, none⟩ = some (.int .u32 (r.getD j 0))) := fun W hB j hj => (hB.cell (p := ⟨b, o + j, none⟩) lb).trans (hc j hj)
  have HMY : Hid (RMay r) := ⟨by omega, by omega⟩
  have HN : Hid (c.length = n ∧ r.length = m) := ⟨hcl, hrl⟩
  obtain ⟨hm1, hm2⟩ := hmay
  clear h hw hc lb hcl hrl h2
  go_enter Tryz.func43, Tryz.ntmps43
  go_wp2_with fail
  refine (HM.out _).mono ?_
  rintro e w1 ⟨rfl, hq⟩
  subst w1
  clear HM
  go_wp2_with fail
  refine HRP.out.mono ?_
  rintro e w1 ⟨V0, sl, out, x, f, rfl, -, -, hri, hb1⟩
  have HB1 : Hid (Below w.heap.size w w1) := hb1
  clear hb1 HRP
  by_cases hf : f = 0
  ·obtain ⟨hmy, hl0, hx⟩ : May c ∧ lenAt c (repD c).2 = 0 ∧ x = ((repD c).2 : Int) := by
    rcases hri with ⟨_, _, _, e⟩ | ⟨_, _, _, _, e⟩ | ⟨q1, q2, _, q4, _⟩
    ·rw [hf] at e; exact absurd e (by decide)
    ·rw [hf] at e; exact absurd e (by decide)
    ·exact ⟨q1, q2, q4⟩
   have HPB : Hid ((repD c).2 ≤ n) := by show _ ≤ _; rw [← HN.out.1]; exact rep_bound c
   have HFU : Hid (n ≤ (repD c).2 + m → AppIs c r [] 16) := fun hh => .inr (.inr (.inr (.inl ⟨HMY.out, hmy, hl0, by rw [HN.out.1, HN.out.2]; exact hh, rfl, rfl⟩)))
   have HOK : Hid ((repD c).2 + m < n → AppIs c r (appW c (repD c).2 r) 0) := fun hh => .inr (.inr (.inr (.inr ⟨HMY.out, hmy, hl0, by rw [HN.out.1, HN.out.2]; exact hh, rfl, rfl⟩)))
   have hn2 : n ≤ 2048 := by have := hmy.2; rw [HN.out.1] at this; exact this
   subst hf
   subst hx
   clear hri hmy hl0 HMY
   generalize (repD c).2 = p at *
   have hpn := HPB.out
   clear HPB
   by_cases hfu : (n : Int) ≤ (p : Int) + (m : Int)
   ·have HA : Hid (AppIs c r [] 16) := HFU.out (by omega)
    clear HFU HOK
    go_wp2_with fail
    go_ret2
    exact ⟨.slice none 0 0, [], 16, rfl, Lw.zero _ _, HA.out, HB1.out⟩
   ·have HA : Hid (AppIs c r (appW c p r) 0) := HOK.out (by omega)
    clear HFU HOK
    go_wp2_with fail
    go_loopw [10, 11] (fun v10 v11 wr => ∃ (k : Nat) (V : Value), k ≤ m ∧ V = v10 ∧ v11 = .int .i64 (k : Int) ∧ Lw wr w.heap.size V (putW p r k) ∧ Below w.heap.size w wr) (fun _ v11 _ => m - (intOf v11).toNat)
    case atStart => exact ⟨0, _, Nat.zero_le _, rfl, rfl, Lw.zero _ _, HB1.out⟩
    case round =>
     obtain ⟨k, V, hk, hV, rfl, hlw, hbl⟩ := hrel
     subst hV
     have HLW : Hid (Lw wr w.heap.size V (putW p r k)) := hlw
     have HBL : Hid (Below w.heap.size w wr) := hbl
     have hs6 : (putW p r k).length ≤ 1000000 := by rw [put_len]; omega
     have HUA : Hid (∀ o, Lw (wr.alloc o) w.heap.size V (putW p r k)) := fun o => hlw.alloc o
     have HBA : Hid (∀ o, Below w.heap.size w (wr.alloc o)) := fun o => hbl.alloc hbl.size o
     have HSA : Hid (∀ o, w.heap.size ≤ (wr.alloc o).heap.size) := fun o => (hbl.alloc hbl.size o).size
     clear hlw hbl HB1
     by_cases hkm : k < m
     ·have k2 := HCL.out wr HBL.out k hkm
      have HPN : Hid (putW p r k ++ [⟨(p : Int) + (k : Int) + 1, r.getD k 0⟩] = putW p r (k + 1)) := put_next p k r
      generalize r.getD k 0 = u at *
      go_wp2_with (first | (refine wp_write rfl _ _ rfl w.heap.size wr.heap.size V (putW p r k) ⟨(p : Int) + (k : Int) + 1, u⟩ rfl rfl (HUA.out _) ⟨(Blk.new wr _ _).cell 0, (Blk.new wr _ _).cell 1⟩ hs6 (HSA.out _) ?_; intro v3 w3 h3 hg3; have HB3 : Hid (Below w.heap.size w w3) := own_bel (HUA.out _) hg3 (HBA.out _) (Nat.le_refl _) (HSA.out _); have H3 : Hid (Lw w3 w.heap.size v3 (putW p r (k + 1))) := (by rw [← HPN.out]; exact h3); clear h3 hg3) | fail)
      go_roundw
      case rel => exact ⟨k + 1, v3, by omega, rfl, by go_num, H3.out, HB3.out⟩
      case measure => simp [intOf]; omega
     ·obtain rfl : k = m := by omega
      by_cases hz : (p : Int) + (k : Int) + 1 < (n : Int)
      ·have HQ : Hid (putW p r k ++ [⟨(p : Int) + (k : Int) + 1, 0⟩] ++ [⟨(p : Int), (k : Int)⟩] = appW c p r) := by
        have q := app_yes (c := c) (p := p) (r := r) (by rw [HN.out.1, HN.out.2]; omega)
        rw [HN.out.2] at q
        exact q
       have hs7 : (putW p r k ++ [(⟨(p : Int) + (k : Int) + 1, 0⟩ : Wr)]).length ≤ 1000000 := by rw [List.length_append, put_len]; simp; omega
       go_wp2_with (first | (refine wp_write rfl _ _ rfl w.heap.size wr.heap.size V (putW p r k) ⟨(p : Int) + (k : Int) + 1, 0⟩ rfl rfl (HUA.out _) ⟨(Blk.new wr _ _).cell 0, (Blk.new wr _ _).cell 1⟩ hs6 (HSA.out _) ?_; intro v3 w3 h3 hg3; have hb3 := own_bel (HUA.out _) hg3 (HBA.out _) (Nat.le_refl _) (HSA.out _); have HU3 : Hid (∀ o, Lw (w3.alloc o) w.heap.size v3 (putW p r k ++ [(⟨(p : Int) + (k : Int) + 1, 0⟩ : Wr)])) := (fun o => h3.alloc o); have HB3 : Hid (∀ o, Below w.heap.size w (w3.alloc o)) := (fun o => hb3.alloc hb3.size o); have HS3 : Hid (∀ o, w.heap.size ≤ (w3.alloc o).heap.size) := (fun o => (hb3.alloc hb3.size o).size); clear h3 hg3 hb3 HUA HBA HSA HLW HBL) | (refine wp_write rfl _ _ rfl w.heap.size w3.heap.size v3 (putW p r k ++ [(⟨(p : Int) + (k : Int) + 1, 0⟩ : Wr)]) ⟨(p : Int), (k : Int)⟩ rfl rfl (HU3.out _) ⟨(Blk.new w3 _ _).cell 0, (Blk.new w3 _ _).cell 1⟩ hs7 (HS3.out _) ?_; intro v4 w4 h4 hg4; have HB4 : Hid (Below w.heap.size w w4) := own_bel (HU3.out _) hg4 (HB3.out _) (Nat.le_refl _) (HS3.out _); have H4 : Hid (Lw w4 w.heap.size v4 (appW c p r)) := (by rw [← HQ.out]; exact h4); clear h4 hg4) | fail)
       go_ret2
       exact ⟨v4, _, 0, rfl, H4.out, HA.out, HB4.out⟩
      ·have HQ : Hid (putW p r k ++ [⟨(p : Int), (k : Int)⟩] = appW c p r) := by
        have q := app_no (c := c) (p := p) (r := r) (by rw [HN.out.1, HN.out.2]; omega)
        rw [HN.out.2] at q
        exact q
       go_wp2_with (first | (refine wp_write rfl _ _ rfl w.heap.size wr.heap.size V (putW p r k) ⟨(p : Int), (k : Int)⟩ rfl rfl (HUA.out _) ⟨(Blk.new wr _ _).cell 0, (Blk.new wr _ _).cell 1⟩ hs6 (HSA.out _) ?_; intro v4 w4 h4 hg4; have HB4 : Hid (Below w.heap.size w w4) := own_bel (HUA.out _) hg4 (HBA.out _) (Nat.le_refl _) (HSA.out _); have H4 : Hid (Lw w4 w.heap.size v4 (appW c p r)) := (by rw [← HQ.out]; exact h4); clear h4 hg4) | fail)
       go_ret2
       exact ⟨v4, _, 0, rfl, H4.out, HA.out, HB4.out⟩
  ·have HA : Hid (AppIs c r [] f) := by
    rcases hri with ⟨q1, _, _, rfl⟩ | ⟨q1, q2, _, _, rfl⟩ | ⟨_, _, _, _, e⟩
    ·exact .inr (.inl ⟨HMY.out, q1, rfl, rfl⟩)
    ·exact .inr (.inr (.inl ⟨HMY.out, q1, q2, rfl, rfl⟩))
    ·exact absurd e hf
   have hne : (f != 0) = true := by simpa using hf
   clear hri hf
   go_wp2_with fail
   go_ret2
   exact ⟨.slice none 0 0, [], f, rfl, Lw.zero _ _, HA.out, HB1.out⟩
 ·have HM : Hid (∀ W, Calls Tryz.prog 25 #[.int .i64 (m : Int), .int .i64 1, .int .i64 64] W fun e w' => e = .returned (.bool false) ∧ w' = W) := fun W => in_no _ _ _ W (by omega)
  have HA : Hid (AppIs c r [] 1) := .inl ⟨fun h => hmay ⟨by rw [← hrl]; exact h.1, by rw [← hrl]; exact h.2⟩, rfl, rfl⟩
  clear h hw h2 hcl hrl hmay
  go_enter Tryz.func43, Tryz.ntmps43
  go_wp2_with fail
  refine (HM.out _).mono ?_
  rintro e w1 ⟨rfl, hq⟩
  subst w1
  go_wp2_with fail
  go_ret2
  exact ⟨.slice none 0 0, [], 1, rfl, Lw.zero _ _, HA.out, Below.refl _ _⟩
end disk
namespace book
open Go.RowKit
set_option maxRecDepth 100000
theorem ws_low {w : World} {base base' : Nat} {v : Value} {l : List Int} (h : cell.Ws w base v l) (hb : base' ≤ base) : cell.Ws w base' v l := by
 refine ⟨h.1, ?_⟩
 rcases h.2 with hn | ⟨g, cap, cur, hv, hg, rest⟩
 ·exact .inl hn
 ·exact .inr ⟨g, cap, cur, hv, Nat.le_trans hb hg, rest⟩
def EncPost (w : World) (v : Ev) (e : Ending) (w' : World) : Prop := ∃ V ws f, e = .returned (.tuple #[V, .int .i64 f]) ∧ EncIs v ws f ∧ cell.Ws w' w.heap.size V ws ∧ Below w.heap.size w w'
theorem evL_step (v : Ev) (k : Nat) (hk : k < 13) : (evL v).take k ++ [(evL v).getD k 0] = (evL v).take (k + 1) := by
 have hl : k < (evL v).length := by rw [evL_len]; exact hk
 rw [List.take_succ_eq_append_getElem hl]
 simp [List.getD, List.getElem?_eq_getElem hl]
set_option maxHeartbeats 4000000 in
theorem rencoded (v : Ev) (w : World) : Calls Tryz.prog 42 #[v.v] w fun e w' => EncPost w v e w' := by
 have HMY : Hid (∀ W, Calls Tryz.prog 35 #[.agg #[.int .i64 v.kd, .int .i64 v.me, .int .i64 v.mo, .int .i64 v.id, .int .i64 v.te, .int .i64 v.de, .int .i64 v.fe, .int .i64 v.pr, .int .i64 v.ch, .int .i64 v.un, .int .i64 v.tg, .int .i64 v.ow, .int .i64 v.bp]] W fun e w' => MayPost W v e w') := fun W => rmay v W
 have HX0 : Hid (Blk (w.alloc (.cells #[.int .i64 v.kd, .int .i64 v.me, .int .i64 v.mo, .int .i64 v.id, .int .i64 v.te, .int .i64 v.de, .int .i64 v.fe, .int .i64 v.pr, .int .i64 v.ch, .int .i64 v.un, .int .i64 v.tg, .int .i64 v.ow, .int .i64 v.bp] 71)) w.heap.size #[.int .i64 v.kd, .int .i64 v.me, .int .i64 v.mo, .int .i64 v.id, .int .i64 v.te, .int .i64 v.de, .int .i64 v.fe, .int .i64 v.pr, .int .i64 v.ch, .int .i64 v.un, .int .i64 v.tg, .int .i64 v.ow, .int .i64 v.bp] 71) := Blk.new w _ _
 have HB0 : Hid (Below w.heap.size w (w.alloc (.cells #[.int .i64 v.kd, .int .i64 v.me, .int .i64 v.mo, .int .i64 v.id, .int .i64 v.te, .int .i64 v.de, .int .i64 v.fe, .int .i64 v.pr, .int .i64 v.ch, .int .i64 v.un, .int .i64 v.tg, .int .i64 v.ow, .int .i64 v.bp] 71))) := (Below.refl _ _).alloc (Nat.le_refl _) _
 have kkd : (w.alloc (.cells #[.int .i64 v.kd, .int .i64 v.me, .int .i64 v.mo, .int .i64 v.id, .int .i64 v.te, .int .i64 v.de, .int .i64 v.fe, .int .i64 v.pr, .int .i64 v.ch, .int .i64 v.un, .int .i64 v.tg, .int .i64 v.ow, .int .i64 v.bp] 71)).cell? ⟨w.heap.size, 0, none⟩ = some (.int .i64 v.kd) := (Blk.new w _ _).cell 0
 have kme : (w.alloc (.cells #[.int .i64 v.kd, .int .i64 v.me, .int .i64 v.mo, .int .i64 v.id, .int .i64 v.te, .int .i64 v.de, .int .i64 v.fe, .int .i64 v.pr, .int .i64 v.ch, .int .i64 v.un, .int .i64 v.tg, .int .i64 v.ow, .int .i64 v.bp] 71)).cell? ⟨w.heap.size, 1, none⟩ = some (.int .i64 v.me) := (Blk.new w _ _).cell 1
 have kmo : (w.alloc (.cells #[.int .i64 v.kd, .int .i64 v.me, .int .i64 v.mo, .int .i64 v.id, .int .i64 v.te, .int .i64 v.de, .int .i64 v.fe, .int .i64 v.pr, .int .i64 v.ch, .int .i64 v.un, .int .i64 v.tg, .int .i64 v.ow, .int .i64 v.bp] 71)).cell? ⟨w.heap.size, 2, none⟩ = some (.int .i64 v.mo) := (Blk.new w _ _).cell 2
 have kid : (w.alloc (.cells #[.int .i64 v.kd, .int .i64 v.me, .int .i64 v.mo, .int .i64 v.id, .int .i64 v.te, .int .i64 v.de, .int .i64 v.fe, .int .i64 v.pr, .int .i64 v.ch, .int .i64 v.un, .int .i64 v.tg, .int .i64 v.ow, .int .i64 v.bp] 71)).cell? ⟨w.heap.size, 3, none⟩ = some (.int .i64 v.id) := (Blk.new w _ _).cell 3
 have kte : (w.alloc (.cells #[.int .i64 v.kd, .int .i64 v.me, .int .i64 v.mo, .int .i64 v.id, .int .i64 v.te, .int .i64 v.de, .int .i64 v.fe, .int .i64 v.pr, .int .i64 v.ch, .int .i64 v.un, .int .i64 v.tg, .int .i64 v.ow, .int .i64 v.bp] 71)).cell? ⟨w.heap.size, 4, none⟩ = some (.int .i64 v.te) := (Blk.new w _ _).cell 4
 have kde : (w.alloc (.cells #[.int .i64 v.kd, .int .i64 v.me, .int .i64 v.mo, .int .i64 v.id, .int .i64 v.te, .int .i64 v.de, .int .i64 v.fe, .int .i64 v.pr, .int .i64 v.ch, .int .i64 v.un, .int .i64 v.tg, .int .i64 v.ow, .int .i64 v.bp] 71)).cell? ⟨w.heap.size, 5, none⟩ = some (.int .i64 v.de) := (Blk.new w _ _).cell 5
 have kfe : (w.alloc (.cells #[.int .i64 v.kd, .int .i64 v.me, .int .i64 v.mo, .int .i64 v.id, .int .i64 v.te, .int .i64 v.de, .int .i64 v.fe, .int .i64 v.pr, .int .i64 v.ch, .int .i64 v.un, .int .i64 v.tg, .int .i64 v.ow, .int .i64 v.bp] 71)).cell? ⟨w.heap.size, 6, none⟩ = some (.int .i64 v.fe) := (Blk.new w _ _).cell 6
 have kpr : (w.alloc (.cells #[.int .i64 v.kd, .int .i64 v.me, .int .i64 v.mo, .int .i64 v.id, .int .i64 v.te, .int .i64 v.de, .int .i64 v.fe, .int .i64 v.pr, .int .i64 v.ch, .int .i64 v.un, .int .i64 v.tg, .int .i64 v.ow, .int .i64 v.bp] 71)).cell? ⟨w.heap.size, 7, none⟩ = some (.int .i64 v.pr) := (Blk.new w _ _).cell 7
 have kch : (w.alloc (.cells #[.int .i64 v.kd, .int .i64 v.me, .int .i64 v.mo, .int .i64 v.id, .int .i64 v.te, .int .i64 v.de, .int .i64 v.fe, .int .i64 v.pr, .int .i64 v.ch, .int .i64 v.un, .int .i64 v.tg, .int .i64 v.ow, .int .i64 v.bp] 71)).cell? ⟨w.heap.size, 8, none⟩ = some (.int .i64 v.ch) := (Blk.new w _ _).cell 8
 have kun : (w.alloc (.cells #[.int .i64 v.kd, .int .i64 v.me, .int .i64 v.mo, .int .i64 v.id, .int .i64 v.te, .int .i64 v.de, .int .i64 v.fe, .int .i64 v.pr, .int .i64 v.ch, .int .i64 v.un, .int .i64 v.tg, .int .i64 v.ow, .int .i64 v.bp] 71)).cell? ⟨w.heap.size, 9, none⟩ = some (.int .i64 v.un) := (Blk.new w _ _).cell 9
 have ktg : (w.alloc (.cells #[.int .i64 v.kd, .int .i64 v.me, .int .i64 v.mo, .int .i64 v.id, .int .i64 v.te, .int .i64 v.de, .int .i64 v.fe, .int .i64 v.pr, .int .i64 v.ch, .int .i64 v.un, .int .i64 v.tg, .int .i64 v.ow, .int .i64 v.bp] 71)).cell? ⟨w.heap.size, 10, none⟩ = some (.int .i64 v.tg) := (Blk.new w _ _).cell 10
 have kow : (w.alloc (.cells #[.int .i64 v.kd, .int .i64 v.me, .int .i64 v.mo, .int .i64 v.id, .int .i64 v.te, .int .i64 v.de, .int .i64 v.fe, .int .i64 v.pr, .int .i64 v.ch, .int .i64 v.un, .int .i64 v.tg, .int .i64 v.ow, .int .i64 v.bp] 71)).cell? ⟨w.heap.size, 11, none⟩ = some (.int .i64 v.ow) := (Blk.new w _ _).cell 11
 have kbp : (w.alloc (.cells #[.int .i64 v.kd, .int .i64 v.me, .int .i64 v.mo, .int .i64 v.id, .int .i64 v.te, .int .i64 v.de, .int .i64 v.fe, .int .i64 v.pr, .int .i64 v.ch, .int .i64 v.un, .int .i64 v.tg, .int .i64 v.ow, .int .i64 v.bp] 71)).cell? ⟨w.heap.size, 12, none⟩ = some (.int .i64 v.bp) := (Blk.new w _ _).cell 12
 unfold Ev.v
 go_enter Tryz.func42, Tryz.ntmps42
 go_wp2_with fail
 refine (HMY.out _).mono ?_
 rintro e w1 ⟨B, rfl, hB, hb1⟩
 have HV1 := shN HX0 hb1
 have HB1 := shB HB0 hb1
 clear hb1 HX0 HB0 HMY kkd kme kmo kid kte kde kfe kpr kch kun ktg kow kbp
 cases B with
 | false =>
  have HE : Hid (EncIs v [] 5) := .inr ⟨fun h => absurd (hB.2 h) (by decide), rfl, rfl⟩
  clear hB
  go_wp2_with fail
  go_ret2
  exact ⟨_, [], 5, rfl, HE.out, cell.Ws.zero _ _, HB1.out⟩
 | true =>
  have hm : EMay v := hB.1 rfl
  have HM : Hid (EMay v) := hm
  have HWD : Hid (∀ x ∈ evL v, 0 ≤ x ∧ x < 4294967296) := may_word hm
  clear hB hm
  have ckd : w1.cell? ⟨w.heap.size, 0, none⟩ = some (.int .i64 v.kd) := HV1.out.cell 0
  have cme : w1.cell? ⟨w.heap.size, 1, none⟩ = some (.int .i64 v.me) := HV1.out.cell 1
  have cmo : w1.cell? ⟨w.heap.size, 2, none⟩ = some (.int .i64 v.mo) := HV1.out.cell 2
  have cid : w1.cell? ⟨w.heap.size, 3, none⟩ = some (.int .i64 v.id) := HV1.out.cell 3
  have cte : w1.cell? ⟨w.heap.size, 4, none⟩ = some (.int .i64 v.te) := HV1.out.cell 4
  have cde : w1.cell? ⟨w.heap.size, 5, none⟩ = some (.int .i64 v.de) := HV1.out.cell 5
  have cfe : w1.cell? ⟨w.heap.size, 6, none⟩ = some (.int .i64 v.fe) := HV1.out.cell 6
  have cpr : w1.cell? ⟨w.heap.size, 7, none⟩ = some (.int .i64 v.pr) := HV1.out.cell 7
  have cch : w1.cell? ⟨w.heap.size, 8, none⟩ = some (.int .i64 v.ch) := HV1.out.cell 8
  have cun : w1.cell? ⟨w.heap.size, 9, none⟩ = some (.int .i64 v.un) := HV1.out.cell 9
  have ctg : w1.cell? ⟨w.heap.size, 10, none⟩ = some (.int .i64 v.tg) := HV1.out.cell 10
  have cow : w1.cell? ⟨w.heap.size, 11, none⟩ = some (.int .i64 v.ow) := HV1.out.cell 11
  have cbp : w1.cell? ⟨w.heap.size, 12, none⟩ = some (.int .i64 v.bp) := HV1.out.cell 12
  obtain ⟨W2, HWW, HBB, HBB, -⟩ := sh1 w1 #[.int .i64 v.id, .int .i64 v.te, .int .i64 v.de, .int .i64 v.fe, .int .i64 v.pr, .int .i64 v.ch, .int .i64 v.un] 69
  have HV2 := shN HV1 HBB.out
  have HB2 := shB HB1 HBB.out
  go_upto_region 4 with fail
  rw [HWW.out]
  clear HWW HBB
  generalize w1.heap.size = gb at *
  clear HV1 HB1 ckd cme cmo cid cte cde cfe cpr cch cun ctg cow cbp
  have ckd : W2.cell? ⟨w.heap.size, 0, none⟩ = some (.int .i64 v.kd) := HV2.out.cell 0
  have cme : W2.cell? ⟨w.heap.size, 1, none⟩ = some (.int .i64 v.me) := HV2.out.cell 1
  have cmo : W2.cell? ⟨w.heap.size, 2, none⟩ = some (.int .i64 v.mo) := HV2.out.cell 2
  have ctg : W2.cell? ⟨w.heap.size, 10, none⟩ = some (.int .i64 v.tg) := HV2.out.cell 10
  have cow : W2.cell? ⟨w.heap.size, 11, none⟩ = some (.int .i64 v.ow) := HV2.out.cell 11
  have cbp : W2.cell? ⟨w.heap.size, 12, none⟩ = some (.int .i64 v.bp) := HV2.out.cell 12
  have bid : W2.cell? ⟨gb, 0, none⟩ = some (.int .i64 v.id) := HBB.out.cell 0
  have bte : W2.cell? ⟨gb, 1, none⟩ = some (.int .i64 v.te) := HBB.out.cell 1
  have bde : W2.cell? ⟨gb, 2, none⟩ = some (.int .i64 v.de) := HBB.out.cell 2
  have bfe : W2.cell? ⟨gb, 3, none⟩ = some (.int .i64 v.fe) := HBB.out.cell 3
  have bpr : W2.cell? ⟨gb, 4, none⟩ = some (.int .i64 v.pr) := HBB.out.cell 4
  have bch : W2.cell? ⟨gb, 5, none⟩ = some (.int .i64 v.ch) := HBB.out.cell 5
  have bun : W2.cell? ⟨gb, 6, none⟩ = some (.int .i64 v.un) := HBB.out.cell 6
  obtain ⟨W3, HWW, HL3, HBB, -⟩ := sh1 W2 #[.int .i64 v.kd, .int .i64 v.me, .int .i64 v.mo, .int .i64 v.id, .int .i64 v.te, .int .i64 v.de, .int .i64 v.fe, .int .i64 v.pr, .int .i64 v.ch, .int .i64 v.un, .int .i64 v.tg, .int .i64 v.ow, .int .i64 v.bp] 3
  have HB3 := shB HB2 HBB.out
  go_upto_region 7 with fail
  rw [HWW.out]
  clear HWW HBB
  generalize W2.heap.size = gl at *
  clear HV2 HBB HB2 ckd cme cmo ctg cow cbp bid bte bde bfe bpr bch bun
  have HGL : Hid (∀ k, k < 13 → (#[.int .i64 v.kd, .int .i64 v.me, .int .i64 v.mo, .int .i64 v.id, .int .i64 v.te, .int .i64 v.de, .int .i64 v.fe, .int .i64 v.pr, .int .i64 v.ch, .int .i64 v.un, .int .i64 v.tg, .int .i64 v.ow, .int .i64 v.bp] : Array Value)[k]? = some (.int .i64 ((evL v).getD k 0))) := fun k hk => by
   match k, hk with
   | 0, _ => rfl
   | 1, _ => rfl
   | 2, _ => rfl
   | 3, _ => rfl
   | 4, _ => rfl
   | 5, _ => rfl
   | 6, _ => rfl
   | 7, _ => rfl
   | 8, _ => rfl
   | 9, _ => rfl
   | 10, _ => rfl
   | 11, _ => rfl
   | 12, _ => rfl
  go_loopw [6, 7] (fun u i wr => ∃ (k : Nat) (V : Value), V = u ∧ k ≤ 13 ∧ i = .int .i64 (k : Int) ∧ cell.Ws wr W3.heap.size V ((evL v).take k) ∧ Below W3.heap.size W3 wr) (fun _ i _ => 13 - (intOf i).toNat)
  case atStart => exact ⟨0, _, rfl, Nat.zero_le _, rfl, cell.Ws.zero _ _, Below.refl _ _⟩
  case round =>
   obtain ⟨k, V, hV, hk, rfl, hown, hb⟩ := hrel
   subst hV
   have HO : Hid (cell.Ws wr W3.heap.size V ((evL v).take k)) := hown
   have HB : Hid (Below W3.heap.size W3 wr) := hb
   have HLT : Hid (gl < W3.heap.size) := HL3.out.lt
   by_cases hlt : k < 13
   ·have hdl : decide ((k : Int) < 13) = true := by simp; omega
    have hcell : wr.cell? ⟨gl, k, none⟩ = some (.int .i64 ((evL v).getD k 0)) := ((HL3.out.next hb).cell k).trans (HGL.out k hlt)
    have HD : Hid ((evL v).take k ++ [(evL v).getD k 0] = (evL v).take (k + 1)) := evL_step v k hlt
    have hz := HWD.out ((evL v).getD k 0) (by
     have hl : k < (evL v).length := by rw [evL_len]; exact hlt
     rw [List.getD_eq_getElem?_getD, List.getElem?_eq_getElem hl]; exact List.getElem_mem hl)
    obtain ⟨hz0, hz1⟩ := hz
    have HLN : Hid (((evL v).take k).length ≤ 1000000) := by show _ ≤ _; rw [List.length_take, evL_len]; omega
    clear hown hb
    generalize (evL v).getD k 0 = z at *
    generalize (evL v).take k = fs at *
    have HG : Hid ((wr.alloc (.cells #[.int .u32 z] 64)).cell? ⟨wr.heap.size, 0, none⟩ = some (.int .u32 z)) := (Blk.new wr _ _).cell 0
    have HOA : Hid (cell.Ws (wr.alloc (.cells #[.int .u32 z] 64)) W3.heap.size V fs) := HO.out.alloc _
    have HSZ : Hid (W3.heap.size ≤ (wr.alloc (.cells #[.int .u32 z] 64)).heap.size) := cell.alloc_le HB.out.size _
    have hwz : IntKind.u32.wrap z = z := by rw [IntKind.wrap_u32]; omega
    go_wp2_with (first
     | (at_builtin; refine cell.wp_word rfl _ _ rfl W3.heap.size wr.heap.size _ fs z rfl rfl HOA.out HG.out HLN.out HSZ.out ?_)
     | fail)
    intro v' w4 hL4 hg4
    have HL4 : Hid (cell.Ws w4 W3.heap.size v' ((evL v).take (k + 1))) := by have := HD.out; rw [this] at hL4; exact hL4
    have HB4 : Hid (Below W3.heap.size W3 w4) := cell.own_bel HOA.out hg4 (HB.out.alloc HB.out.size _) (Nat.le_refl _) HSZ.out
    clear hL4 hg4 HOA HO HB HG HSZ HD
    go_wp2_with fail
    go_roundw
    case rel => exact ⟨k + 1, _, rfl, by omega, by go_num, HL4.out, HB4.out⟩
    case measure => simp [intOf]; omega
   ·obtain rfl : k = 13 := by omega
    have HE : Hid (EncIs v (evL v) 0) := .inl ⟨HM.out, rfl, rfl⟩
    have HWS : Hid (cell.Ws wr W3.heap.size V (evL v)) := by have := HO.out; rw [List.take_of_length_le (by rw [evL_len]; exact Nat.le_refl _)] at this; exact this
    have HB9 : Hid (Below w.heap.size w wr) := HB3.out.trans (HB.out.mono HB3.out.size)
    have hdl : decide ((13 : Int) < 13) = false := by decide
    clear hown hb HO
    go_wp2_with fail
    go_ret2
    exact ⟨V, evL v, 0, rfl, HE.out, ws_low HWS.out HB3.out.size, HB9.out⟩
end book
namespace vnd
open disk (RepIs AppIs RepPost AppPost Lr Recs Sli sl0)
open book (Ev ev0 EMay evL evOf EncIs DecIs Cm cm0 So so0 BookIs BookPost Sees ECame RowE FirstAt NoneAt Tells EncPost DecPost)
open acc (Ac Tm Bi SellIs GrantIs RekeyIs OweIs)
open cell (Wr RowU RowW Lw Ws)
open token (Tok)
open Go.RowKit
set_option maxRecDepth 100000
def WrPost (w : World) (R : List Wr → Int → Prop) (e : Ending) (w' : World) : Prop := ∃ V ls f, e = .returned (.tuple #[V, .int .i64 f]) ∧ R ls f ∧ Lw w' w.heap.size V ls ∧ Below w.heap.size w w'
theorem lw_low {w : World} {base base' : Nat} {v : Value} {l : List Wr} (h : Lw w base v l) (hb : base' ≤ base) : Lw w base' v l := by
 refine ⟨h.1, ?_⟩
 rcases h.2 with hn | ⟨g, cap, cur, hv, hg, rest⟩
 ·exact .inl hn
 ·exact .inr ⟨g, cap, cur, hv, Nat.le_trans hb hg, rest⟩
set_option maxHeartbeats 2000000 in
theorem rkeeps (a : Option Addr) (n cap : Nat) (c : List Int) (v : Ev) (w : World) (h : RowU w a n c) (hw : ∀ x ∈ c, 0 ≤ x ∧ x < 4294967296) : Calls Tryz.prog 27 #[.slice a n cap, .agg #[.int .i64 v.kd, .int .i64 v.me, .int .i64 v.mo, .int .i64 v.id, .int .i64 v.te, .int .i64 v.de, .int .i64 v.fe, .int .i64 v.pr, .int .i64 v.ch, .int .i64 v.un, .int .i64 v.tg, .int .i64 v.ow, .int .i64 v.bp]] w fun e w' => WrPost w (KeepIs c v) e w' := by
 have HC : Hid (∀ W, Below w.heap.size w W → RowU W a n c) := fun W hW => h.below hW
 have HW : Hid (∀ x ∈ c, 0 ≤ x ∧ x < 4294967296) := hw
 clear h hw
 obtain ⟨W0, HWW, H0v, H0B, hs0⟩ := sh1 w #[.int .i64 v.kd, .int .i64 v.me, .int .i64 v.mo, .int .i64 v.id, .int .i64 v.te, .int .i64 v.de, .int .i64 v.fe, .int .i64 v.pr, .int .i64 v.ch, .int .i64 v.un, .int .i64 v.tg, .int .i64 v.ow, .int .i64 v.bp] 71
 go_enter Tryz.func27, Tryz.ntmps27
 go_upto_region 1 with fail
 rw [HWW.out]
 clear HWW
 have HKP : Hid (Calls Tryz.prog 19 #[.slice a n cap] W0 fun e w' => KeptPost W0 c e w') := rkept a n cap c W0 (HC.out _ H0B.out) HW.out
 go_wp2_with (first
  | (refine zqw rfl rfl rfl H0v zqu71 ?_)
  | fail)
 refine HKP.out.mono ?_
 rintro e w1 ⟨p, m, cp, l, f, rfl, hk, hec, hm, hb1⟩
 have H1v := shN H0v hb1
 have H1B := shB H0B hb1
 have hsw1 : W0.heap.size ≤ w1.heap.size := hb1.size
 clear hb1 H0v H0B
 have HKI : Hid (KeptIs c l f) := hk
 have HLN : Hid (l.length = m) := hec.row.1
 clear hk hec HKP
 by_cases h1 : m < 120
 ·have d1 : decide (120 ≤ (m : Int)) = false := decide_eq_false (by omega)
  have d1n : decide (120 ≤ m) = false := decide_eq_false (by omega)
  have HEN : Hid (Calls Tryz.prog 42 #[.agg #[.int .i64 v.kd, .int .i64 v.me, .int .i64 v.mo, .int .i64 v.id, .int .i64 v.te, .int .i64 v.de, .int .i64 v.fe, .int .i64 v.pr, .int .i64 v.ch, .int .i64 v.un, .int .i64 v.tg, .int .i64 v.ow, .int .i64 v.bp]] w1 fun e w' => EncPost w1 v e w') := book.rencoded v w1
  go_wp2_with (first
   | (refine zqw rfl rfl rfl H1v zqu71 ?_)
   | fail)
  refine HEN.out.mono ?_
  rintro e w2 ⟨V, ws, g, rfl, hen, hws, hb2⟩
  have H2v := shN H1v hb2
  have H2B := shB H1B hb2
  have hsw2 : w1.heap.size ≤ w2.heap.size := hb2.size
  clear hb2 H1v H1B
  have HEI : Hid (EncIs v ws g) := hen
  clear hen HEN
  by_cases h2 : g = 0
  ·subst h2
   obtain ⟨pw, cw, rfl, hrw⟩ := hws.row
   have HAP : Hid (Calls Tryz.prog 43 #[.slice a n cap, .slice pw ws.length cw] w2 fun e w' => AppPost w2 c ws e w') := disk.appended a n cap c pw ws.length cw ws w2 (HC.out _ H2B.out) HW.out hrw.1
   clear hrw hws
   go_wp2_with (first
    | (refine zqw rfl rfl rfl H2v zqu71 ?_)
    | fail)
   refine HAP.out.mono ?_
   rintro e w3 ⟨V3, ls, f3, rfl, hlw, hap, hb3⟩
   have H3v := shN H2v hb3
   have H3B := shB H2B hb3
   have hsw3 : w2.heap.size ≤ w3.heap.size := hb3.size
   clear hb3 H2v H2B
   have HV : Hid (KeepIs c v ls f3) := ⟨l, f, HKI.out, .inr ⟨by rw [HLN.out]; exact h1, ws, 0, HEI.out, .inr ⟨rfl, hap⟩⟩⟩
   have HL : Hid (Lw w3 w.heap.size V3 ls) := lw_low hlw (by omega)
   clear hlw hap HAP
   go_wp2_with fail
   go_ret2
   exact ⟨V3, ls, f3, rfl, HV.out, HL.out, H3B.out⟩
  ·have d2 : (g != 0) = true := by simpa using h2
   have HV : Hid (KeepIs c v [] g) := ⟨l, f, HKI.out, .inr ⟨by rw [HLN.out]; exact h1, ws, g, HEI.out, .inl ⟨h2, rfl, rfl⟩⟩⟩
   clear h2
   go_wp2_with fail
   go_ret2
   exact ⟨_, [], g, rfl, HV.out, cell.Lw.zero _ _, H2B.out⟩
 ·have d1 : decide (120 ≤ (m : Int)) = true := decide_eq_true (by omega)
  have d1n : decide (120 ≤ m) = true := decide_eq_true (by omega)
  have HV : Hid (KeepIs c v [] 16) := ⟨l, f, HKI.out, .inl ⟨by rw [HLN.out]; exact h1, rfl, rfl⟩⟩
  clear h1
  go_wp2_with fail
  go_ret2
  exact ⟨_, [], 16, rfl, HV.out, cell.Lw.zero _ _, H1B.out⟩
theorem found_first {xs : List book.Cu} {bk : List Cm} {me x : Int} (hl : xs.length = bk.length) (hn : ∀ i, i < xs.length → book.Nums (xs.getD i book.cu0) (bk.getD i cm0).a) (h : book.FoundIs xs me x) : (x = -1 ∧ NoneAt bk me) ∨ (∃ k : Nat, x = (k : Int) ∧ FirstAt bk me k ∧ k < xs.length) := by
 rcases h with ⟨k, h1, h2, h3, h4⟩ | ⟨h1, h2⟩
 ·refine .inr ⟨k, h4, ⟨by rw [← hl]; exact h1, by rw [← (hn k h1).1]; exact h2, fun j hj => by rw [← (hn j (by omega)).1]; exact h3 j hj⟩, h1⟩
 ·exact .inl ⟨h2, fun j hj => by rw [← (hn j (by rw [hl]; exact hj)).1]; exact h1 j (by rw [hl]; exact hj)⟩
end vnd
end Go.Proofs.YtomibnggmhjdfaaGreat
