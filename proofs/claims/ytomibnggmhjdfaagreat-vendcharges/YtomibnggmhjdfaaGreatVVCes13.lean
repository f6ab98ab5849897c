import Derived.Test.YtomibnggmhjdfaaGreatVVCes5
import Derived.Test.YtomibnggmhjdfaaGreatVVCes6
set_option linter.unusedVariables false
set_option linter.unusedSimpArgs false
namespace Go.Proofs.YtomibnggmhjdfaaGreat
namespace deb
open tar (Du du0 Came RowD Ld ErrPost TwoPost PairT GaveD)
open Go.RowKit
set_option maxRecDepth 100000
set_option maxHeartbeats 4000000 in
theorem raged (x b : Int) (m : Nat) (w : World) (hx : 0 ≤ x ∧ x ≤ 1000000000) (hb : 0 ≤ b ∧ b ≤ 10000) (hm : m ≤ 2400) : Calls Tryz.prog 105 #[.agg #[.int .i64 x, .int .i64 b], .int .i64 (m : Int)] w fun e w' => e = .returned (.agg #[.int .i64 (growN b m x), .int .i64 b]) ∧ Below w.heap.size w w' := by
 obtain ⟨hx0, hx1⟩ := hx
 obtain ⟨hb0, hb1⟩ := hb
 have H0d : Hid (Blk ((w.alloc (.cells #[.int .i64 x, .int .i64 b] 43)).alloc (.cells #[.int .i64 0, .int .i64 0] 43)) (w.heap.size) #[.int .i64 x, .int .i64 b] 43) := (Blk.new w _ _).alloc _
 have H0r : Hid (Blk ((w.alloc (.cells #[.int .i64 x, .int .i64 b] 43)).alloc (.cells #[.int .i64 0, .int .i64 0] 43)) (w.heap.size + 1) #[.int .i64 0, .int .i64 0] 43) := Blk.new1 w _ _ _
 have H0B : Hid (Below w.heap.size w ((w.alloc (.cells #[.int .i64 x, .int .i64 b] 43)).alloc (.cells #[.int .i64 0, .int .i64 0] 43))) := ((Below.refl w.heap.size w).alloc (by simp) _).alloc (by simp) _
 go_enter Tryz.func105, Tryz.ntmps105
 go_wp2_with fail
 go_loopw [5] (fun z wr => ∃ k : Nat, k ≤ m ∧ z = .int .i64 (k : Int) ∧ Blk wr w.heap.size #[.int .i64 (growN b k x), .int .i64 b] 43 ∧ Blk wr (w.heap.size + 1) #[.int .i64 0, .int .i64 0] 43 ∧ Below w.heap.size w wr) (fun z _ => m - (intOf z).toNat)
 case atStart => exact ⟨0, Nat.zero_le _, rfl, H0d.out, H0r.out, H0B.out⟩
 case round =>
  obtain ⟨k, hk, rfl, h1, h2, h3⟩ := hrel
  have H1 : Hid (Blk wr w.heap.size #[.int .i64 (growN b k x), .int .i64 b] 43) := h1
  have H2 : Hid (Blk wr (w.heap.size + 1) #[.int .i64 0, .int .i64 0] 43) := h2
  have H3 : Hid (Below w.heap.size w wr) := h3
  clear h1 h2 h3 H0d H0r H0B
  have hg := growN_bd hb0 hb1 hx0 hx1 k
  by_cases hlt : k < m
  ·have hdl : decide ((k : Int) < (m : Int)) = true := by simp; omega
   have HG : Hid (growN b (k + 1) x = grow b (growN b k x)) := rfl
   have g0 : 0 ≤ growN b k x := by omega
   have g1 := hg.2
   generalize growN b k x = u at *
   have hpr := prod_le u b 1000000000 10000 g0 g1 hb0 hb1
   have hwp : IntKind.i64.wrap (u * b) = u * b := by rw [IntKind.wrap_i64]; omega
   have hq : Int.tdiv (u * b) 10000 = u * b / 10000 := Int.tdiv_eq_ediv_of_nonneg hpr.1
   have hy0 : 0 ≤ u * b / 10000 := by omega
   have hy1 : u * b / 10000 ≤ 1000000000 := by omega
   have HGE : Hid (grow b u = min 1000000000 (u + u * b / 10000)) := rfl
   generalize u * b / 10000 = y at *
   have c0 : wr.cell? ⟨w.heap.size, 0, none⟩ = some (.int .i64 u) := H1.out.cell 0
   have c1 : wr.cell? ⟨w.heap.size, 1, none⟩ = some (.int .i64 b) := H1.out.cell 1
   clear hg hpr
   go_wp2_with (first | (refine wp_let1 rfl 3 _ _ rfl (w.heap.size) 0 rfl .i64 (u + y) rfl (by kernel_rfl) #[.int .i64 u, .int .i64 b] 43 H1.out (by simp) ?_) | fail)
   intro W1 hU
   have HU1 : Hid (Blk W1 w.heap.size #[.int .i64 (u + y), .int .i64 b] 43) := hU.blk
   have HU2 := shK hU H2 (by omega)
   have HU3 := shV hU H3 (by omega)
   have d0 : W1.cell? ⟨w.heap.size, 0, none⟩ = some (.int .i64 (u + y)) := HU1.out.cell 0
   clear hU c0 c1 H1 H2 H3
   by_cases hgt : 1000000000 < u + y
   ·have hdg : decide (1000000000 < u + y) = true := decide_eq_true hgt
    have HGV : Hid (growN b (k + 1) x = 1000000000) := by show _ = _; rw [HG.out, HGE.out]; omega
    go_wp2_with (first | (refine wp_let1 rfl 3 _ _ rfl (w.heap.size) 0 rfl .i64 1000000000 rfl (by kernel_rfl) #[.int .i64 (u + y), .int .i64 b] 43 HU1.out (by simp) ?_) | fail)
    intro W2 hV
    have HV1 : Hid (Blk W2 w.heap.size #[.int .i64 1000000000, .int .i64 b] 43) := hV.blk
    have HV2 := shK hV HU2 (by omega)
    have HV3 := shV hV HU3 (by omega)
    clear hV d0 HU1 HU2 HU3 hgt
    go_wp2_with fail
    go_roundw
    case rel => exact ⟨k + 1, by omega, by go_num, by rw [HGV.out]; exact HV1.out, HV2.out, HV3.out⟩
    case measure => simp [intOf]; omega
   ·have hdg : decide (1000000000 < u + y) = false := decide_eq_false hgt
    have HGV : Hid (growN b (k + 1) x = u + y) := by show _ = _; rw [HG.out, HGE.out]; omega
    clear hgt
    go_wp2_with fail
    go_roundw
    case rel => exact ⟨k + 1, by omega, by go_num, by rw [HGV.out]; exact HU1.out, HU2.out, HU3.out⟩
    case measure => simp [intOf]; omega
  ·obtain rfl : k = m := by omega
   have hdl : decide ((k : Int) < (k : Int)) = false := by simp
   generalize hgg : growN b k x = u at *
   have HGG : Hid (growN b k x = u) := hgg
   clear hgg hg
   go_wp2_with (first
    | (refine zqw rfl rfl rfl H1 zqu43 ?_)
    | (refine zql rfl rfl rfl rfl zqu43 (by simp [Value.oneCell']) H2 rfl ?_)
    | fail)
   intro WF hU
   have H9r : Hid (Blk WF (w.heap.size + 1) #[.int .i64 u, .int .i64 b] 43) := hU.blk
   have H9B := shV hU H3 (by omega)
   clear hU H1 H2 H3
   have Rr0 : Hid (WF.cell? ⟨w.heap.size + 1, 0, none⟩ = some (.int .i64 u)) := H9r.out.cell 0
   have Rr1 : Hid (WF.cell? ⟨w.heap.size + 1, 1, none⟩ = some (.int .i64 b)) := H9r.out.cell 1
   go_wp2_with fail
   exact bodyPost_ret (v := .agg #[.int .i64 u, .int .i64 b]) (by simp [results, Tryz.results105, Rr0.out, Rr1.out, go_sem]) rfl ⟨by rw [HGG.out], H9B.out⟩
set_option maxHeartbeats 4000000 in
theorem rages (a : Option Addr) (len cap : Nat) (ls : List Du) (mo : Int) (w : World) (hr : RowD w a len ls) (hl : len ≤ maxLen) : Calls Tryz.prog 93 #[.slice a len cap, .int .i64 mo] w fun e w' => AgePost w ls mo e w' := by
 have HFA : Hid (Calls Tryz.prog 70 #[.slice a len cap] w fun e w' => ∃ f, e = .returned (.int .i64 f) ∧ FaultIs ls f ∧ w' = w) := rfault a len cap ls w hr hl
 have HIM : Hid (∀ W, Calls Tryz.prog 25 #[.int .i64 mo, .int .i64 0, .int .i64 2400] W fun e w' => e = .returned (.bool (decide (0 ≤ mo ∧ mo ≤ 2400))) ∧ w' = W) := fun W => cal.cin mo 0 2400 W
 have hlen := hr.1
 go_enter Tryz.func93, Tryz.ntmps93
 go_wp2_with fail
 refine HFA.out.mono ?_
 rintro e w1 ⟨f, rfl, hf, hw1⟩
 subst hw1
 have HF : Hid (FaultIs ls f) := hf
 by_cases h0 : f = 0
 ·subst h0
  have hm := hf.ok.1 rfl
  have HM : Hid (Mays ls) := hm
  have HLEN : Hid (ls.length = len) := hlen
  have hl8 : len ≤ 8 := by have := hm.1; omega
  have HROW : Hid (RowD w1 a len ls) := hr
  clear hf hm hr hl HFA hlen HF
  by_cases hmm : 0 ≤ mo ∧ mo ≤ 2400
  ·rw [decide_eq_true hmm] at HIM
   have HMO : Hid (0 ≤ mo ∧ mo ≤ 2400) := hmm
   obtain ⟨m, rfl⟩ := Int.eq_ofNat_of_zero_le hmm.1
   have hm2 : m ≤ 2400 := by omega
   have HMT : Hid ((m : Int).toNat = m) := by show _ = _; omega
   clear hmm
   go_wp2_with fail
   refine (HIM.out _).mono ?_
   rintro e w2 ⟨rfl, hw2⟩
   subst hw2
   clear HIM
   go_wp2_with fail
   go_loopw [7, 8] (fun u z wr => ∃ (k : Nat) (V : Value), k ≤ len ∧ z = .int .i64 (k : Int) ∧ V = u ∧ Ld 43 wr w2.heap.size V (ageAll (ls.take k) m) ∧ Below w2.heap.size w2 wr) (fun _ z _ => len - (intOf z).toNat)
   case atStart => exact ⟨0, _, Nat.zero_le _, rfl, rfl, tar.Ld.zero _ _ _, Below.refl _ _⟩
   case round =>
    obtain ⟨k, V, hk, rfl, hV, hu, hb⟩ := hrel
    subst hV
    have HBW0 : Hid (Below w2.heap.size w2 wr) := hb
    have HU0 : Hid (Ld 43 wr w2.heap.size V (ageAll (ls.take k) m)) := hu
    by_cases hlt : k < len
    ·have hdl : decide ((k : Int) < (len : Int)) = true := by simp; omega
     have hkl : k < ls.length := by rw [HLEN.out]; exact hlt
     obtain ⟨b, off, rfl, hbl, hc⟩ := HROW.out.at (by omega)
     have c0 : wr.cell? ⟨b, off + k * 2, none⟩ = some (.int .i64 (ls.getD k du0).a) := (hb.cell (p := ⟨b, off + k * 2, none⟩) hbl).trans (hc k hlt).1
     have c1 : wr.cell? ⟨b, off + k * 2 + 1, none⟩ = some (.int .i64 (ls.getD k du0).b) := (hb.cell (p := ⟨b, off + k * 2 + 1, none⟩) hbl).trans (hc k hlt).2
     have ho := HM.out.2 k hkl
     have HAG : Hid (∀ W, Calls Tryz.prog 105 #[.agg #[.int .i64 (ls.getD k du0).a, .int .i64 (ls.getD k du0).b], .int .i64 (m : Int)] W fun e w' => e = .returned (.agg #[.int .i64 (growN (ls.getD k du0).b m (ls.getD k du0).a), .int .i64 (ls.getD k du0).b]) ∧ Below W.heap.size W w') := fun W => raged _ _ m W ho.1 ho.2 hm2
     have HZ2 : Hid (ageAll (ls.take (k + 1)) m = ageAll (ls.take k) m ++ [⟨growN (ls.getD k du0).b m (ls.getD k du0).a, (ls.getD k du0).b⟩]) := ageAll_take ls m k hkl
     have hzl : (ageAll (ls.take k) m).length ≤ 1000000 := by rw [ageAll_len, List.length_take]; omega
     clear hc hb hu ho hkl
     generalize ageAll (ls.take k) m = Z at *
     generalize growN (ls.getD k du0).b m (ls.getD k du0).a = gx at *
     generalize (ls.getD k du0).a = x at *
     generalize (ls.getD k du0).b = y at *
     go_wp2_with fail
     refine (HAG.out _).mono ?_
     rintro e w4 ⟨rfl, hb4⟩
     have HBW4 := shB HBW0 hb4
     have HU4 : Hid (Ld 43 w4 w2.heap.size V Z) := HU0.out.next hb4
     have HBW : Hid (Below w2.heap.size w2 (w4.alloc (.cells #[.int .i64 gx, .int .i64 y] 43))) := HBW4.out.alloc HBW4.out.size _
     have HU : Hid (Ld 43 (w4.alloc (.cells #[.int .i64 gx, .int .i64 y] 43)) w2.heap.size V Z) := HU4.out.alloc _
     clear hb4 c0 c1 HAG HBW0 HU0
     have HBA : Hid (Below w2.heap.size w2 ((w4.alloc (.cells #[.int .i64 gx, .int .i64 y] 43)).alloc (.cells #[.int .i64 gx, .int .i64 y] 43))) := HBW.out.alloc HBW.out.size _
     have HZA : Hid (Ld 43 ((w4.alloc (.cells #[.int .i64 gx, .int .i64 y] 43)).alloc (.cells #[.int .i64 gx, .int .i64 y] 43)) w2.heap.size V Z) := HU.out.alloc _
     have HCA : Hid (((w4.alloc (.cells #[.int .i64 gx, .int .i64 y] 43)).alloc (.cells #[.int .i64 gx, .int .i64 y] 43)).cell? ⟨w4.heap.size + 1, 0, none⟩ = some (.int .i64 gx) ∧ ((w4.alloc (.cells #[.int .i64 gx, .int .i64 y] 43)).alloc (.cells #[.int .i64 gx, .int .i64 y] 43)).cell? ⟨w4.heap.size + 1, 1, none⟩ = some (.int .i64 y)) := ⟨(Blk.new1 w4 _ _ _).cell 0, (Blk.new1 w4 _ _ _).cell 1⟩
     go_wp2_with (first
      | (at_builtin; refine tar.wp_pair debtT rfl _ _ rfl w2.heap.size (w4.heap.size + 1) V Z ⟨gx, y⟩ rfl rfl HZA.out HCA.out hzl HBA.out.size ?_)
      | fail)
     intro v3 w3 h3 hg3
     have HB3 : Hid (Below w2.heap.size w2 w3) := tar.own_bel HZA.out hg3 HBA.out (Nat.le_refl _) HBA.out.size
     have H3 : Hid (Ld 43 w3 w2.heap.size v3 (Z ++ [⟨gx, y⟩])) := h3
     clear h3 hg3 HZA HCA HBA HU HBW HBW4 HU4
     go_wp2_with fail
     go_roundw
     case rel => exact ⟨k + 1, v3, by omega, by go_num, by first | rfl | trivial, by rw [HZ2.out]; exact H3.out, HB3.out⟩
     case measure => simp [intOf]; omega
    ·obtain rfl : k = len := by omega
     have hdl : decide ((k : Int) < (k : Int)) = false := by simp
     have htk : ls.take k = ls := List.take_of_length_le (by rw [HLEN.out]; exact Nat.le_refl _)
     rw [htk] at hu
     obtain ⟨a3, cap3, hv3, hcm⟩ := ld_fresh hu (ageAll_mays HM.out m)
     subst hv3
     have HCM : Hid (Fresh wr w2.heap.size a3 (ageAll ls m).length cap3 (ageAll ls m)) := hcm
     have HAI : Hid (AgeIs ls (m : Int) (ageAll ls m) 0) := .inr (.inr ⟨HM.out, HMO.out, rfl, by rw [HMT.out]⟩)
     clear hb hu hcm htk HU0
     generalize (ageAll ls m).length = len3 at *
     generalize ageAll ls m = Z at *
     go_wp2_with fail
     go_ret2
     exact ⟨a3, len3, cap3, Z, 0, rfl, HAI.out, HCM.out, HBW0.out⟩
  ·rw [decide_eq_false hmm] at HIM
   have HMO : Hid (¬ (0 ≤ mo ∧ mo ≤ 2400)) := hmm
   clear hmm
   go_wp2_with fail
   refine (HIM.out _).mono ?_
   rintro e w2 ⟨rfl, hw2⟩
   subst hw2
   go_wp2_with fail
   go_ret2
   exact ⟨none, 0, 0, [], 2, rfl, .inr (.inl ⟨HM.out, HMO.out, rfl, rfl⟩), fresh_nil _ _, Below.refl _ _⟩
 ·have hne : (f != 0) = true := by simpa using h0
  have HN : Hid (¬ Mays ls) := fun h => h0 (hf.ok.2 h)
  clear hf h0 hr hl HFA HIM
  go_wp2_with fail
  go_ret2
  exact ⟨none, 0, 0, [], f, rfl, .inl ⟨HN.out, HF.out, rfl⟩, fresh_nil _ _, Below.refl _ _⟩
end deb
namespace acc
open tar (Du du0 Came RowD Ld PairT)
open Go.RowKit
set_option maxRecDepth 100000
structure Chg (w W : World) (g : Nat) : Prop where
 os : W.os = w.os
 tape : W.tape = w.tape
 output : W.output = w.output
 size : w.heap.size ≤ W.heap.size
 oth : ∀ k, k < w.heap.size → k ≠ g → W.heap[k]? = w.heap[k]?
theorem Chg.refl (w : World) (g : Nat) : Chg w w g := ⟨rfl, rfl, rfl, Nat.le_refl _, fun _ _ _ => rfl⟩
theorem Chg.trans {w W V : World} {g : Nat} (h : Chg w W g) (h' : Chg W V g) : Chg w V g :=
 ⟨h'.os.trans h.os, h'.tape.trans h.tape, h'.output.trans h.output, Nat.le_trans h.size h'.size, fun k hk hne => (h'.oth k (Nat.lt_of_lt_of_le hk h.size) hne).trans (h.oth k hk hne)⟩
theorem Chg.of {w W : World} {g : Nat} (hb : Below w.heap.size w W) : Chg w W g := ⟨hb.os, hb.tape, hb.output, hb.size, fun k hk _ => hb.block k hk⟩
theorem Chg.upd {w W : World} {g : Nat} {cs : Array Value} {t : TypeId} (hu : Upd w W g cs t) : Chg w W g := by
 have h := hu.bel 0 w (Nat.zero_le _) (Below.refl _ _)
 exact ⟨h.os, h.tape, h.output, h.size, fun k _ hne => hu.oth k hne⟩
theorem Chg.keep {w W : World} {g G : Nat} {cs : Array Value} {t : TypeId} (h : Chg w W g) (hb : Blk w G cs t) (hne : G ≠ g) : Blk W G cs t := by
 have hl := hb.lt
 unfold Blk at *
 rw [h.oth G hl hne]; exact hb
theorem Chg.bel {w W : World} {g : Nat} (h : Chg w W g) (hl : g ≤ w.heap.size) : Below g w W :=
 ⟨h.os, h.tape, h.output, h.size, fun k hk => h.oth k (by omega) (by omega)⟩
def Far (p : Option Addr) (len g : Nat) : Prop := 0 < len → ∀ y, p = some y → y.block ≠ g
theorem row_chg {w W : World} {g : Nat} {p : Option Addr} {len : Nat} {l : List Du} (h : RowD w p len l) (hc : Chg w W g) (hf : Far p len g) : RowD W p len l := by
 refine ⟨h.1, ?_⟩
 rcases Nat.eq_zero_or_pos len with h0 | h0
 ·exact .inl h0
 ·obtain ⟨b, off, rfl, hb, hcs⟩ := h.at h0
  have hne : b ≠ g := hf h0 _ rfl
  refine .inr ⟨b, off, rfl, fun i hi => ?_⟩
  have e : ∀ o, W.cell? ⟨b, o, none⟩ = w.cell? ⟨b, o, none⟩ := fun o => by simp only [World.cell?, hc.oth b hb hne]
  rw [e, e]; exact hcs i hi
theorem came_chg {w W : World} {g : Nat} {p : Option Addr} {len cap : Nat} {l : List Du} (h : Came w p len cap l) (hc : Chg w W g) (hf : Far p len g) : Came W p len cap l := ⟨row_chg h.row hc hf, h.nil, h.room, h.bytes, h.wf⟩
theorem fresh_far {w : World} {g : Nat} {p : Option Addr} {len cap : Nat} {l : List Du} (h : deb.Fresh w (g + 1) p len cap l) : Far p len g := fun hn y hy => by have := h.new hn y hy; omega
theorem fresh_chg {w W : World} {g : Nat} {p : Option Addr} {len cap : Nat} {l : List Du} (h : deb.Fresh w (g + 1) p len cap l) (hc : Chg w W g) : deb.Fresh W (g + 1) p len cap l := ⟨came_chg h.came hc (fresh_far h), h.new⟩
def wcs (x : Ac) (b : Bi) (p : Option Addr) (len cap : Nat) : Array Value := #[.int .i64 x.me, .int .i64 x.rv, .int .i64 x.nx, .int .i64 x.mo, .int .i64 x.bo, .int .i64 x.fr, .slice p len cap, .int .i64 b.id, .int .i64 b.te, .int .i64 b.de, .int .i64 b.fe, .int .i64 b.pr, .int .i64 b.ch, .int .i64 b.un]
def WPost (w : World) (g : Nat) (R : Ac → Bi → Int → Prop) (e : Ending) (w' : World) : Prop := ∃ y b q n c f, e = .returned (.int .i64 f) ∧ R y b f ∧ Blk w' g (wcs y b q n c) 121 ∧ deb.Fresh w' (g + 1) q n c y.ds ∧ Below g w w'
def DPost (w : World) (g : Nat) (R : Ac → Bi → Int → Prop) (e : Ending) (w' : World) : Prop := ∃ y b q n c f, e = .returned (.int .i64 f) ∧ R y b f ∧ Blk w' g (wcs y b q n c) 121 ∧ deb.Fresh w' (g + 1) q n c y.ds ∧ Chg w w' g
theorem DPost.w {w w' : World} {g : Nat} {R : Ac → Bi → Int → Prop} {e : Ending} (h : DPost w g R e w') (hl : g ≤ w.heap.size) : WPost w g R e w' := by
 obtain ⟨y, b, q, n, c, f, h1, h2, h3, h4, h5⟩ := h
 exact ⟨y, b, q, n, c, f, h1, h2, h3, h4, h5.bel hl⟩
def Or0 (Is : Ac → Bi → Int → Prop) (y : Ac) (b : Bi) (f : Int) : Prop := (f ≠ 0 ∧ Is ac0 bi0 f) ∨ (f = 0 ∧ Is y b 0)
theorem blk_new4 (w : World) (o p q r : Obj) (cs : Array Value) (t : TypeId) : Blk (((((w.alloc o).alloc p).alloc q).alloc r).alloc (.cells cs t)) (w.heap.size + 1 + 1 + 1 + 1) cs t := by
 have h := Blk.new ((((w.alloc o).alloc p).alloc q).alloc r) cs t
 rwa [show ((((w.alloc o).alloc p).alloc q).alloc r).heap.size = w.heap.size + 1 + 1 + 1 + 1 by simp] at h
theorem blk_new5 (w : World) (o p q r s : Obj) (cs : Array Value) (t : TypeId) : Blk ((((((w.alloc o).alloc p).alloc q).alloc r).alloc s).alloc (.cells cs t)) (w.heap.size + 1 + 1 + 1 + 1 + 1) cs t := by
 have h := Blk.new (((((w.alloc o).alloc p).alloc q).alloc r).alloc s) cs t
 rwa [show (((((w.alloc o).alloc p).alloc q).alloc r).alloc s).heap.size = w.heap.size + 1 + 1 + 1 + 1 + 1 by simp] at h
theorem wp_letOp1 {P : Program} {o : Oper} {a : Act} {w : World} {K : Act → World → Prop} {Q : Exit → Act → World → Prop} (ty : TypeId) (x y : Operand) (ho : o.op = .store ty x y)
  (g off : Nat) (hx : a.eval x = .pointer (some ⟨g, off, none⟩)) (v : Value) (hy : a.eval y = v) (hv : v.cells = #[v]) (hi : (P.info? ty).map (·.size) = some 1) (h1 : v.oneCell' = true)
  (cs : Array Value) (t : TypeId) (hB : Blk w g cs t) (hin : off < cs.size) (hd : o.dst = none)
  (h : ∀ W, Upd w W g (cs.setIfInBounds off v) t → K a W) : o.wp P a w K Q := by
 have hs := run_storeVar_let (P := P) (w := w) (g := g) (off := off) (ty := ty) (t := t) (v := v) (cells := #[v]) (cs := cs) hv (by simpa using hi) (by simpa using h1) hB (by simp; omega)
 have hu := upd_cells g t [v] off w cs hB
 unfold Oper.wp execOp
 simp only [ho, hx, hy, Instr.storeAt, Instr.sureAddr, Sem.run_bind, Sem.run_pure, Result.andThen_ok, hs]
 have := h _ hu
 have e : a.put o.dst undef = a := by rw [hd]; rfl
 rw [← e] at this
 exact this
end acc
namespace tar
theorem ov_before {l : List Du} (h : Right l) (x y z : Int) (k j : Nat) (hk : k < l.length) (hj : j < k) (hy : low l k ≤ y) (hz : low l k ≤ z) : ov (low l j) (l.getD j du0).a x z = ov (low l j) (l.getD j du0).a x y := by
 have h1 := low_mono h (j + 1) k (by omega) (by omega)
 rw [low_next] at h1
 unfold ov
 omega
theorem costK_before {l : List Du} (h : Right l) (x y z : Int) (k j : Nat) (hk : k < l.length) (hj : j ≤ k) (hy : low l k ≤ y) (hz : low l k ≤ z) : costK l x z j = costK l x y j := by
 induction j with
 | zero => rfl
 | succ j ih => rw [costK_next, costK_next, ih (by omega), ov_before h x y z k j hk (by omega) hy hz]
theorem costK_behind {l : List Du} (h : Right l) (x z : Int) (k j : Nat) (hkj : k ≤ j) (hj : j ≤ l.length) (hz : z ≤ low l k) : costK l x z j = costK l x z k := by
 induction j with
 | zero => have : k = 0 := by omega
           subst this; rfl
 | succ j ih =>
  by_cases e : k = j + 1
  ·subst e; rfl
  ·have h1 := ih (by omega) (by omega)
   have h2 := low_mono h k j (by omega) (by omega)
   rw [costK_next, h1, show ov (low l j) (l.getD j du0).a x z = 0 by unfold ov; omega]
   omega
theorem cost_part {l : List Du} (h : Right l) (x y : Int) (hx : 0 ≤ x) (hxy : x ≤ y) (k : Nat) (hk : k < l.length) (q : Int) (hq : 0 ≤ q) (hq2 : q ≤ ov (low l k) (l.getD k du0).a x y) (hp : 0 < ov (low l k) (l.getD k du0).a x y) :
  cost l x (x + (manyK l x y k + q)) = costK l x y k + q * (l.getD k du0).b := by
 have h1 := many_eq h x y hx hxy k (by omega)
 have h2 := h.rise k hk
 have h3 := h.low_pos k (by omega)
 have hlo : low l k ≤ y := by unfold ov at hp; omega
 have hz : low l k ≤ x + (manyK l x y k + q) := by rw [h1]; omega
 have hz2 : x + (manyK l x y k + q) ≤ low l (k + 1) := by rw [h1, low_next]; unfold ov at hq2 hp; omega
 unfold cost
 rw [costK_behind h x _ (k + 1) l.length (by omega) (Nat.le_refl _) hz2, costK_next, costK_before h x y _ k k hk (Nat.le_refl _) hlo hz]
 rw [show ov (low l k) (l.getD k du0).a x (x + (manyK l x y k + q)) = q by rw [h1]; unfold ov at hq2 hp ⊢; omega]
theorem bill_at (l : List Du) (x y : Int) (n : Nat) (p : List Tr) (t : Tr) (h : p ++ [t] <+: billK l x y n) : ∃ k, k < n ∧ p = billK l x y k ∧ 0 < ov (low l k) (l.getD k du0).a x y ∧ t = ⟨ov (low l k) (l.getD k du0).a x y, (l.getD k du0).b, ov (low l k) (l.getD k du0).a x y * (l.getD k du0).b⟩ := by
 induction n with
 | zero =>
  have := h.length_le
  simp [billK] at this
 | succ n ih =>
  by_cases hp : 0 < ov (low l n) (l.getD n du0).a x y
  ·rw [billK_yes l x y n hp] at h
   rcases List.prefix_concat_iff.1 h with h | h
   ·obtain ⟨h1, h2⟩ := List.append_inj' h rfl
    exact ⟨n, by omega, h1, hp, by simpa using h2⟩
   ·obtain ⟨k, a, b⟩ := ih h
    exact ⟨k, by omega, b⟩
  ·rw [billK_no l x y n hp] at h
   obtain ⟨k, a, b⟩ := ih h
   exact ⟨k, by omega, b⟩
theorem top_bd {x : Int} (hx : 0 ≤ x ∧ x ≤ 10000000) : 0 ≤ Top x ∧ x + Top x ≤ 10000000 := by unfold Top; omega
theorem most_all {l : List Du} (h : Right l) (x m : Int) (hx : 0 ≤ x ∧ x ≤ 10000000) (hm : sumC (billK l x (x + Top x) l.length) ≤ m) : MostOf l x m (sumA (billK l x (x + Top x) l.length)) ∧ sumC (billK l x (x + Top x) l.length) = cost l x (x + sumA (billK l x (x + Top x) l.length)) := by
 have ht := top_bd hx
 have h1 := bill_sums l x (x + Top x) l.length
 have h2 := many_all h x (x + Top x) hx.1 (by omega) ht.2
 have e : sumA (billK l x (x + Top x) l.length) = Top x := by rw [h1.1, h2]; omega
 have e2 : sumC (billK l x (x + Top x) l.length) = cost l x (x + Top x) := h1.2
 rw [e, e2]
 rw [e2] at hm
 exact ⟨⟨⟨ht.1, Int.le_refl _⟩, hm, .inl rfl⟩, rfl⟩
theorem most_cut {l : List Du} (h : Right l) (x m q : Int) (hx : 0 ≤ x ∧ x ≤ 10000000) (p : List Tr) (t : Tr) (hpre : p ++ [t] <+: billK l x (x + Top x) l.length) (hq0 : 0 ≤ q) (hq : q < t.a) (h1 : sumC p + q * t.b ≤ m) (h2 : m < sumC p + (q + 1) * t.b) :
  MostOf l x m (sumA p + q) ∧ sumC p + q * t.b = cost l x (x + (sumA p + q)) := by
 have ht := top_bd hx
 obtain ⟨k, hk, rfl, hp, rfl⟩ := bill_at l x (x + Top x) l.length p t hpre
 have hs := bill_sums l x (x + Top x) k
 rw [hs.1, hs.2]
 rw [hs.2] at h1 h2
 dsimp only at hq h1 h2 ⊢
 have e1 := cost_part h x (x + Top x) hx.1 (by omega) k hk q hq0 (by omega) hp
 have e2 := cost_part h x (x + Top x) hx.1 (by omega) k hk (q + 1) (by omega) (by omega) hp
 have hb := many_bd h x (x + Top x) hx.1 (by omega) k (by omega)
 have hb2 := many_bd h x (x + Top x) hx.1 (by omega) (k + 1) (by omega)
 rw [many_next] at hb2
 rw [e1]
 refine ⟨⟨⟨by omega, by omega⟩, by rw [e1]; exact h1, .inr ?_⟩, rfl⟩
 rw [show manyK l x (x + Top x) k + q + 1 = manyK l x (x + Top x) k + (q + 1) by omega, e2]
 exact h2
theorem sums_bd (l : List Tr) (h : ∀ t ∈ l, LineOk t) : (0 ≤ sumA l ∧ sumA l ≤ (l.length : Int) * 10000000) ∧ 0 ≤ sumC l := by
 induction l with
 | nil => exact ⟨⟨Int.le_refl _, Int.le_refl _⟩, Int.le_refl _⟩
 | cons t l ih =>
  have h1 := ih fun x hx => h x (List.mem_cons_of_mem _ hx)
  obtain ⟨a1, a2, a3, a4, a5⟩ := h t List.mem_cons_self
  have h2 := prod_bd (show 0 ≤ t.a by omega) a2 a3 a4
  rw [← a5] at h2
  have e : ((t :: l).length : Int) = (l.length : Int) + 1 := by simp
  rw [e, Int.add_mul]
  exact ⟨⟨by show 0 ≤ t.a + sumA l; omega, by show t.a + sumA l ≤ _; omega⟩, by show 0 ≤ t.c + sumC l; omega⟩
theorem quo_bd {d p q : Int} (hd : 0 ≤ d) (hp : 1 ≤ p) (hq : d / p = q) : 0 ≤ q ∧ q * p ≤ d ∧ d < (q + 1) * p ∧ q ≤ d := by
 subst hq
 have h1 := Int.ediv_nonneg hd (show 0 ≤ p by omega)
 have h2 := Int.mul_ediv_self_le (x := d) (k := p) (by omega)
 have h3 := Int.lt_mul_ediv_self_add (x := d) (k := p) (by omega)
 have h4 : d / p ≤ d := Int.ediv_le_self _ hd
 rw [Int.mul_comm] at h2 h3
 exact ⟨h1, h2, by rw [Int.add_mul]; omega, h4⟩
theorem snoc_one {p : List Ln} {t : Ln} : lns (p ++ [t]) = lns p ++ [t.1] := by rw [lns_app]; rfl
theorem sums_one (p : List Ln) (t : Ln) : sumA (lns (p ++ [t])) = sumA (lns p) + t.1.a ∧ sumC (lns (p ++ [t])) = sumC (lns p) + t.1.c := by
 rw [snoc_one, sumA_app, sumC_app]
 exact ⟨by show _ + (t.1.a + 0) = _; omega, by show _ + (t.1.c + 0) = _; omega⟩
end tar
end Go.Proofs.YtomibnggmhjdfaaGreat
