import Derived.Test.YtomibnggmhjdfaaGreatVVCes5
import Derived.Test.YtomibnggmhjdfaaGreatVVCes6
set_option linter.unusedVariables false
set_option linter.unusedSimpArgs false
namespace Go.Proofs.YtomibnggmhjdfaaGreat
namespace token
open Go.RowKit
structure Tok where
 c : Nat
 i : Nat
 a : Nat
 t : Nat
def Tok.v (k : Tok) : Value := .agg #[.int .i64 (k.c : Int), .int .i64 (k.i : Int), .int .i64 (k.a : Int), .int .i64 (k.t : Int)]
end token
namespace acc
open tar (Du du0 Came RowD Ld PairT)
open Go.RowKit
set_option maxRecDepth 100000
set_option maxHeartbeats 4000000 in
theorem rcopyL (x : Ac) (p : Option Addr) (len cap : Nat) (w : World) (h : RowD w p len x.ds) (hm : deb.Mays x.ds) : Calls Tryz.prog 48 #[.agg #[.int .i64 x.me, .int .i64 x.rv, .int .i64 x.nx, .int .i64 x.mo, .int .i64 x.bo, .int .i64 x.fr, .slice p len cap]] w fun e w' => ∃ p' cap', e = .returned (Ac.v x p' len cap') ∧ deb.Fresh w' w.heap.size p' len cap' x.ds ∧ Ld 43 w' w.heap.size (.slice p' len cap') x.ds ∧ Below w.heap.size w w' := by
 have hlen := h.1
 have hl8 : len ≤ 8 := by have := hm.1; omega
 obtain ⟨W2, HWW, H0d, H0r, H0B, hs1⟩ := sh2 w #[.int .i64 x.me, .int .i64 x.rv, .int .i64 x.nx, .int .i64 x.mo, .int .i64 x.bo, .int .i64 x.fr, .slice p len cap] 59 #[.int .i64 0, .int .i64 0, .int .i64 0, .int .i64 0, .int .i64 0, .int .i64 0, .slice none 0 0] 59
 have HROW : Hid (RowD W2 p len x.ds) := h.below H0B.out
 have HM : Hid (deb.Mays x.ds) := hm
 have HLEN : Hid (x.ds.length = len) := hlen
 clear h hm hlen
 go_enter Tryz.func48, Tryz.ntmps48
 go_upto_region 1 with fail
 rw [HWW.out]
 clear HWW
 go_wp2_with fail
 go_loopw [3, 4] (fun u z wr => ∃ (k : Nat) (V : Value), k ≤ len ∧ z = .int .i64 (k : Int) ∧ V = u ∧ Ld 43 wr W2.heap.size V (x.ds.take k) ∧ Below W2.heap.size W2 wr) (fun _ z _ => len - (intOf z).toNat)
 case atStart => exact ⟨0, _, Nat.zero_le _, rfl, rfl, tar.Ld.zero _ _ _, Below.refl _ _⟩
 case round =>
  obtain ⟨k, V, hk, rfl, hV, hu, hb⟩ := hrel
  subst hV
  have HBW : Hid (Below W2.heap.size W2 wr) := hb
  have HU : Hid (Ld 43 wr W2.heap.size V (x.ds.take k)) := hu
  have HKd : Hid (Blk wr w.heap.size #[.int .i64 x.me, .int .i64 x.rv, .int .i64 x.nx, .int .i64 x.mo, .int .i64 x.bo, .int .i64 x.fr, .slice p len cap] 59) := H0d.out.below hb (by omega)
  have HKr : Hid (Blk wr (w.heap.size + 1) #[.int .i64 0, .int .i64 0, .int .i64 0, .int .i64 0, .int .i64 0, .int .i64 0, .slice none 0 0] 59) := H0r.out.below hb (by omega)
  have c6 : wr.cell? ⟨w.heap.size, 6, none⟩ = some (.slice p len cap) := HKd.out.cell 6
  by_cases hlt : k < len
  ·have hdl : decide ((k : Int) < (len : Int)) = true := by simp; omega
   have hkl : k < x.ds.length := by rw [HLEN.out]; exact hlt
   obtain ⟨b, off, rfl, hbl, hc⟩ := HROW.out.at (by omega)
   have c0 : wr.cell? ⟨b, off + k * 2, none⟩ = some (.int .i64 (x.ds.getD k du0).a) := (hb.cell (p := ⟨b, off + k * 2, none⟩) hbl).trans (hc k hlt).1
   have c1 : wr.cell? ⟨b, off + k * 2 + 1, none⟩ = some (.int .i64 (x.ds.getD k du0).b) := (hb.cell (p := ⟨b, off + k * 2 + 1, none⟩) hbl).trans (hc k hlt).2
   have HTK : Hid (x.ds.take (k + 1) = x.ds.take k ++ [⟨(x.ds.getD k du0).a, (x.ds.getD k du0).b⟩]) := tar.take_one x.ds k hkl
   have hzl : (x.ds.take k).length ≤ 1000000 := by rw [List.length_take]; omega
   clear hc hb hu hkl
   generalize x.ds.take k = Z at *
   generalize (x.ds.getD k du0).a = da at *
   generalize (x.ds.getD k du0).b = db at *
   have HBA : Hid (Below W2.heap.size W2 (wr.alloc (.cells #[.int .i64 da, .int .i64 db] 43))) := HBW.out.alloc HBW.out.size _
   have HZA : Hid (Ld 43 (wr.alloc (.cells #[.int .i64 da, .int .i64 db] 43)) W2.heap.size V Z) := HU.out.alloc _
   have HCA : Hid ((wr.alloc (.cells #[.int .i64 da, .int .i64 db] 43)).cell? ⟨wr.heap.size, 0, none⟩ = some (.int .i64 da) ∧ (wr.alloc (.cells #[.int .i64 da, .int .i64 db] 43)).cell? ⟨wr.heap.size, 1, none⟩ = some (.int .i64 db)) := ⟨(Blk.new wr _ _).cell 0, (Blk.new wr _ _).cell 1⟩
   clear HKd HKr
   go_wp2_with (first
    | (at_builtin; refine tar.wp_pair deb.debtT rfl _ _ rfl W2.heap.size wr.heap.size V Z ⟨da, db⟩ rfl rfl HZA.out HCA.out hzl HBA.out.size ?_)
    | fail)
   intro v3 w3 h3 hg3
   have HB3 : Hid (Below W2.heap.size W2 w3) := tar.own_bel HZA.out hg3 HBA.out (Nat.le_refl _) HBA.out.size
   have H3 : Hid (Ld 43 w3 W2.heap.size v3 (Z ++ [⟨da, db⟩])) := h3
   clear h3 hg3 HZA HCA HBA HU c0 c1 c6
   go_wp2_with fail
   go_roundw
   case rel => exact ⟨k + 1, v3, by omega, by go_num, by first | rfl | trivial, by rw [HTK.out]; exact H3.out, HB3.out⟩
   case measure => simp [intOf]; omega
  ·obtain rfl : len = k := by omega
   have hdl : decide ((len : Int) < (len : Int)) = false := by simp
   have htk : x.ds.take len = x.ds := List.take_of_length_le (by rw [HLEN.out]; exact Nat.le_refl _)
   rw [htk] at hu
   obtain ⟨p3, cap3, hv3, hcm⟩ := deb.ld_fresh hu HM.out
   subst hv3
   rw [HLEN.out] at hcm ⊢
   have HCM : Hid (deb.Fresh wr W2.heap.size p3 len cap3 x.ds) := hcm
   have HLD : Hid (Ld 43 wr W2.heap.size (.slice p3 len cap3) x.ds) := by have hu2 := hu; rw [HLEN.out] at hu2; exact hu2
   have HBF : Hid (Below w.heap.size w wr) := H0B.out.trans (hb.mono (by omega))
   clear hb hu hcm htk HU HBW
   go_wp2_with (first
    | (refine wp_letS rfl 57 _ _ rfl (w.heap.size) 6 rfl p3 len cap3 rfl (by kernel_rfl) #[.int .i64 x.me, .int .i64 x.rv, .int .i64 x.nx, .int .i64 x.mo, .int .i64 x.bo, .int .i64 x.fr, .slice p len cap] 59 HKd.out (by simp) ?_)
    | fail)
   intro W3 hU
   have H3d : Hid (Blk W3 w.heap.size #[.int .i64 x.me, .int .i64 x.rv, .int .i64 x.nx, .int .i64 x.mo, .int .i64 x.bo, .int .i64 x.fr, .slice p3 len cap3] 59) := hU.blk
   have H3r := shK hU HKr (by omega)
   have H3B := shV hU HBF (by omega)
   have H3C : Hid (deb.Fresh W3 W2.heap.size p3 len cap3 x.ds) := fresh_upd HCM.out hU (by omega)
   have H3L : Hid (Ld 43 W3 W2.heap.size (.slice p3 len cap3) x.ds) := ld_upd HLD.out hU (by omega)
   clear hU c6 HKd HKr HBF HCM HLD
   go_wp2_with (first
    | (refine zqw rfl rfl rfl H3d zqu59 ?_)
    | (refine zql rfl rfl rfl rfl zqu59 (by simp [Value.oneCell']) H3r rfl ?_)
    | fail)
   intro WF hU
   have H9r : Hid (Blk WF (w.heap.size + 1) #[.int .i64 x.me, .int .i64 x.rv, .int .i64 x.nx, .int .i64 x.mo, .int .i64 x.bo, .int .i64 x.fr, .slice p3 len cap3] 59) := hU.blk
   have H9B := shV hU H3B (by omega)
   have H9C : Hid (deb.Fresh WF w.heap.size p3 len cap3 x.ds) := (fresh_upd H3C.out hU (by omega)).low (by omega)
   have H9L : Hid (Ld 43 WF w.heap.size (.slice p3 len cap3) x.ds) := (ld_upd H3L.out hU (by omega)).low (by omega)
   clear hU H3d H3r H3B H3C H3L
   obtain ⟨Rr0, Rr1, Rr2, Rr3, Rr4, Rr5, Rr6⟩ := shc7 H9r
   go_wp2_with fail
   exact bodyPost_ret (v := .agg #[.int .i64 x.me, .int .i64 x.rv, .int .i64 x.nx, .int .i64 x.mo, .int .i64 x.bo, .int .i64 x.fr, .slice p3 len cap3]) (by simp [results, Tryz.results48, Rr0.out, Rr1.out, Rr2.out, Rr3.out, Rr4.out, Rr5.out, Rr6.out, go_sem]) rfl ⟨p3, cap3, rfl, H9C.out, H9L.out, H9B.out⟩
theorem rcopy (x : Ac) (p : Option Addr) (len cap : Nat) (w : World) (h : RowD w p len x.ds) (hm : deb.Mays x.ds) : Calls Tryz.prog 48 #[.agg #[.int .i64 x.me, .int .i64 x.rv, .int .i64 x.nx, .int .i64 x.mo, .int .i64 x.bo, .int .i64 x.fr, .slice p len cap]] w fun e w' => ∃ p' cap', e = .returned (Ac.v x p' len cap') ∧ deb.Fresh w' w.heap.size p' len cap' x.ds ∧ Below w.heap.size w w' :=
 (rcopyL x p len cap w h hm).mono fun e w' hh => by
  obtain ⟨p', cap', he, hf, _, hb⟩ := hh
  exact ⟨p', cap', he, hf, hb⟩
set_option maxHeartbeats 2000000 in
theorem amay0 (x : Ac) (p : Option Addr) (len cap : Nat) (w : World) (h : RowD w p len x.ds) (hl : len ≤ maxLen) (hd : ¬ deb.Mays x.ds) : Calls Tryz.prog 47 #[.agg #[.int .i64 x.me, .int .i64 x.rv, .int .i64 x.nx, .int .i64 x.mo, .int .i64 x.bo, .int .i64 x.fr, .slice p len cap]] w fun e w' => e = .returned (.bool false) ∧ Below w.heap.size w w' := by
 obtain ⟨WW, HWW, HBK, HBA, -⟩ := sh1 w #[.int .i64 x.me, .int .i64 x.rv, .int .i64 x.nx, .int .i64 x.mo, .int .i64 x.bo, .int .i64 x.fr, .slice p len cap] 59
 have HRA : Hid (RowD WW p len x.ds) := h.below HBA.out
 obtain ⟨c0, c1, c2, c3, c4, c5, c6⟩ := scl7 HBK
 have HFA : Hid (Calls Tryz.prog 70 #[.slice p len cap] WW fun e w' => ∃ f, e = .returned (.int .i64 f) ∧ deb.FaultIs x.ds f ∧ w' = WW) := deb.rfault p len cap x.ds _ HRA.out hl
 have HD : Hid (¬ deb.Mays x.ds) := hd
 clear h hl hd HRA HBK
 go_enter Tryz.func47, Tryz.ntmps47
 go_upto_region 1 with fail
 rw [HWW.out]
 clear HWW
 go_wp2_with fail
 refine HFA.out.mono ?_
 rintro e w1 ⟨f, rfl, hf, hw1⟩
 subst hw1
 have hne : (f != 0) = true := by simpa using fun e => HD.out (hf.ok.1 e)
 clear hf HFA
 go_wp2_with fail
 all_goals first
  | (rename_i q1 q2; exact absurd q1 (by simp [undef]))
  | (go_ret; exact ⟨rfl, HBA.out⟩)
set_option maxHeartbeats 2000000 in
theorem amay1 (x : Ac) (p : Option Addr) (len cap : Nat) (w : World) (h : RowD w p len x.ds) (hl : len ≤ maxLen) (hd : deb.Mays x.ds) (h1 : ¬ (0 ≤ x.me ∧ x.me ≤ 49)) : Calls Tryz.prog 47 #[.agg #[.int .i64 x.me, .int .i64 x.rv, .int .i64 x.nx, .int .i64 x.mo, .int .i64 x.bo, .int .i64 x.fr, .slice p len cap]] w fun e w' => e = .returned (.bool false) ∧ Below w.heap.size w w' := by
 obtain ⟨WW, HWW, HBK, HBA, -⟩ := sh1 w #[.int .i64 x.me, .int .i64 x.rv, .int .i64 x.nx, .int .i64 x.mo, .int .i64 x.bo, .int .i64 x.fr, .slice p len cap] 59
 have HRA : Hid (RowD WW p len x.ds) := h.below HBA.out
 obtain ⟨c0, c1, c2, c3, c4, c5, c6⟩ := scl7 HBK
 have HFA : Hid (Calls Tryz.prog 70 #[.slice p len cap] WW fun e w' => ∃ f, e = .returned (.int .i64 f) ∧ deb.FaultIs x.ds f ∧ w' = WW) := deb.rfault p len cap x.ds _ HRA.out hl
 have HI1 : Hid (∀ W, Calls Tryz.prog 25 #[.int .i64 x.me, .int .i64 0, .int .i64 49] W fun e w' => e = .returned (.bool (decide (0 ≤ x.me ∧ x.me ≤ 49))) ∧ w' = W) := fun W => cal.cin x.me 0 49 W
 rw [decide_eq_false h1] at HI1
 have HD : Hid (deb.Mays x.ds) := hd
 clear h hl hd HRA HBK h1
 go_enter Tryz.func47, Tryz.ntmps47
 go_upto_region 1 with fail
 rw [HWW.out]
 clear HWW
 go_wp2_with fail
 refine HFA.out.mono ?_
 rintro e w1 ⟨f, rfl, hf, hw1⟩
 subst hw1
 obtain rfl : f = 0 := hf.ok.2 HD.out
 clear hf HFA
 go_wp2_with fail
 refine (HI1.out _).mono ?_
 rintro e w2 ⟨rfl, hw2⟩
 subst hw2
 go_wp2_with fail
 all_goals first
  | (rename_i q1 q2; exact absurd q1 (by simp [undef]))
  | (go_ret; exact ⟨rfl, HBA.out⟩)
set_option maxHeartbeats 2000000 in
theorem amay2 (x : Ac) (p : Option Addr) (len cap : Nat) (w : World) (h : RowD w p len x.ds) (hl : len ≤ maxLen) (hd : deb.Mays x.ds) (h1 : 0 ≤ x.me ∧ x.me ≤ 49) (h2 : ¬ (0 ≤ x.rv ∧ x.rv ≤ 15)) : Calls Tryz.prog 47 #[.agg #[.int .i64 x.me, .int .i64 x.rv, .int .i64 x.nx, .int .i64 x.mo, .int .i64 x.bo, .int .i64 x.fr, .slice p len cap]] w fun e w' => e = .returned (.bool false) ∧ Below w.heap.size w w' := by
 obtain ⟨WW, HWW, HBK, HBA, -⟩ := sh1 w #[.int .i64 x.me, .int .i64 x.rv, .int .i64 x.nx, .int .i64 x.mo, .int .i64 x.bo, .int .i64 x.fr, .slice p len cap] 59
 have HRA : Hid (RowD WW p len x.ds) := h.below HBA.out
 obtain ⟨c0, c1, c2, c3, c4, c5, c6⟩ := scl7 HBK
 have HFA : Hid (Calls Tryz.prog 70 #[.slice p len cap] WW fun e w' => ∃ f, e = .returned (.int .i64 f) ∧ deb.FaultIs x.ds f ∧ w' = WW) := deb.rfault p len cap x.ds _ HRA.out hl
 have HI1 : Hid (∀ W, Calls Tryz.prog 25 #[.int .i64 x.me, .int .i64 0, .int .i64 49] W fun e w' => e = .returned (.bool (decide (0 ≤ x.me ∧ x.me ≤ 49))) ∧ w' = W) := fun W => cal.cin x.me 0 49 W
 rw [decide_eq_true h1] at HI1
 have HI2 : Hid (∀ W, Calls Tryz.prog 25 #[.int .i64 x.rv, .int .i64 0, .int .i64 15] W fun e w' => e = .returned (.bool (decide (0 ≤ x.rv ∧ x.rv ≤ 15))) ∧ w' = W) := fun W => cal.cin x.rv 0 15 W
 rw [decide_eq_false h2] at HI2
 have HD : Hid (deb.Mays x.ds) := hd
 clear h hl hd HRA HBK h1 h2
 go_enter Tryz.func47, Tryz.ntmps47
 go_upto_region 1 with fail
 rw [HWW.out]
 clear HWW
 go_wp2_with fail
 refine HFA.out.mono ?_
 rintro e w1 ⟨f, rfl, hf, hw1⟩
 subst hw1
 obtain rfl : f = 0 := hf.ok.2 HD.out
 clear hf HFA
 go_wp2_with fail
 refine (HI1.out _).mono ?_
 rintro e w2 ⟨rfl, hw2⟩
 subst hw2
 go_wp2_with fail
 refine (HI2.out _).mono ?_
 rintro e w2 ⟨rfl, hw2⟩
 subst hw2
 go_wp2_with fail
 all_goals first
  | (rename_i q1 q2; exact absurd q1 (by simp [undef]))
  | (go_ret; exact ⟨rfl, HBA.out⟩)
set_option maxHeartbeats 2000000 in
theorem amay3 (x : Ac) (p : Option Addr) (len cap : Nat) (w : World) (h : RowD w p len x.ds) (hl : len ≤ maxLen) (hd : deb.Mays x.ds) (h1 : 0 ≤ x.me ∧ x.me ≤ 49) (h2 : 0 ≤ x.rv ∧ x.rv ≤ 15) (h3 : ¬ (1 ≤ x.nx ∧ x.nx ≤ 1048576)) : Calls Tryz.prog 47 #[.agg #[.int .i64 x.me, .int .i64 x.rv, .int .i64 x.nx, .int .i64 x.mo, .int .i64 x.bo, .int .i64 x.fr, .slice p len cap]] w fun e w' => e = .returned (.bool false) ∧ Below w.heap.size w w' := by
 obtain ⟨WW, HWW, HBK, HBA, -⟩ := sh1 w #[.int .i64 x.me, .int .i64 x.rv, .int .i64 x.nx, .int .i64 x.mo, .int .i64 x.bo, .int .i64 x.fr, .slice p len cap] 59
 have HRA : Hid (RowD WW p len x.ds) := h.below HBA.out
 obtain ⟨c0, c1, c2, c3, c4, c5, c6⟩ := scl7 HBK
 have HFA : Hid (Calls Tryz.prog 70 #[.slice p len cap] WW fun e w' => ∃ f, e = .returned (.int .i64 f) ∧ deb.FaultIs x.ds f ∧ w' = WW) := deb.rfault p len cap x.ds _ HRA.out hl
 have HI1 : Hid (∀ W, Calls Tryz.prog 25 #[.int .i64 x.me, .int .i64 0, .int .i64 49] W fun e w' => e = .returned (.bool (decide (0 ≤ x.me ∧ x.me ≤ 49))) ∧ w' = W) := fun W => cal.cin x.me 0 49 W
 rw [decide_eq_true h1] at HI1
 have HI2 : Hid (∀ W, Calls Tryz.prog 25 #[.int .i64 x.rv, .int .i64 0, .int .i64 15] W fun e w' => e = .returned (.bool (decide (0 ≤ x.rv ∧ x.rv ≤ 15))) ∧ w' = W) := fun W => cal.cin x.rv 0 15 W
 rw [decide_eq_true h2] at HI2
 have HI3 : Hid (∀ W, Calls Tryz.prog 25 #[.int .i64 x.nx, .int .i64 1, .int .i64 1048576] W fun e w' => e = .returned (.bool (decide (1 ≤ x.nx ∧ x.nx ≤ 1048576))) ∧ w' = W) := fun W => cal.cin x.nx 1 1048576 W
 rw [decide_eq_false h3] at HI3
 have HD : Hid (deb.Mays x.ds) := hd
 clear h hl hd HRA HBK h1 h2 h3
 go_enter Tryz.func47, Tryz.ntmps47
 go_upto_region 1 with fail
 rw [HWW.out]
 clear HWW
 go_wp2_with fail
 refine HFA.out.mono ?_
 rintro e w1 ⟨f, rfl, hf, hw1⟩
 subst hw1
 obtain rfl : f = 0 := hf.ok.2 HD.out
 clear hf HFA
 go_wp2_with fail
 refine (HI1.out _).mono ?_
 rintro e w2 ⟨rfl, hw2⟩
 subst hw2
 go_wp2_with fail
 refine (HI2.out _).mono ?_
 rintro e w2 ⟨rfl, hw2⟩
 subst hw2
 go_wp2_with fail
 refine (HI3.out _).mono ?_
 rintro e w2 ⟨rfl, hw2⟩
 subst hw2
 go_wp2_with fail
 all_goals first
  | (rename_i q1 q2; exact absurd q1 (by simp [undef]))
  | (go_ret; exact ⟨rfl, HBA.out⟩)
set_option maxHeartbeats 2000000 in
theorem amay4 (x : Ac) (p : Option Addr) (len cap : Nat) (w : World) (h : RowD w p len x.ds) (hl : len ≤ maxLen) (hd : deb.Mays x.ds) (h1 : 0 ≤ x.me ∧ x.me ≤ 49) (h2 : 0 ≤ x.rv ∧ x.rv ≤ 15) (h3 : 1 ≤ x.nx ∧ x.nx ≤ 1048576) (h4 : ¬ (0 ≤ x.mo ∧ x.mo ≤ 2399)) : Calls Tryz.prog 47 #[.agg #[.int .i64 x.me, .int .i64 x.rv, .int .i64 x.nx, .int .i64 x.mo, .int .i64 x.bo, .int .i64 x.fr, .slice p len cap]] w fun e w' => e = .returned (.bool false) ∧ Below w.heap.size w w' := by
 obtain ⟨WW, HWW, HBK, HBA, -⟩ := sh1 w #[.int .i64 x.me, .int .i64 x.rv, .int .i64 x.nx, .int .i64 x.mo, .int .i64 x.bo, .int .i64 x.fr, .slice p len cap] 59
 have HRA : Hid (RowD WW p len x.ds) := h.below HBA.out
 obtain ⟨c0, c1, c2, c3, c4, c5, c6⟩ := scl7 HBK
 have HFA : Hid (Calls Tryz.prog 70 #[.slice p len cap] WW fun e w' => ∃ f, e = .returned (.int .i64 f) ∧ deb.FaultIs x.ds f ∧ w' = WW) := deb.rfault p len cap x.ds _ HRA.out hl
 have HI1 : Hid (∀ W, Calls Tryz.prog 25 #[.int .i64 x.me, .int .i64 0, .int .i64 49] W fun e w' => e = .returned (.bool (decide (0 ≤ x.me ∧ x.me ≤ 49))) ∧ w' = W) := fun W => cal.cin x.me 0 49 W
 rw [decide_eq_true h1] at HI1
 have HI2 : Hid (∀ W, Calls Tryz.prog 25 #[.int .i64 x.rv, .int .i64 0, .int .i64 15] W fun e w' => e = .returned (.bool (decide (0 ≤ x.rv ∧ x.rv ≤ 15))) ∧ w' = W) := fun W => cal.cin x.rv 0 15 W
 rw [decide_eq_true h2] at HI2
 have HI3 : Hid (∀ W, Calls Tryz.prog 25 #[.int .i64 x.nx, .int .i64 1, .int .i64 1048576] W fun e w' => e = .returned (.bool (decide (1 ≤ x.nx ∧ x.nx ≤ 1048576))) ∧ w' = W) := fun W => cal.cin x.nx 1 1048576 W
 rw [decide_eq_true h3] at HI3
 have HI4 : Hid (∀ W, Calls Tryz.prog 25 #[.int .i64 x.mo, .int .i64 0, .int .i64 2399] W fun e w' => e = .returned (.bool (decide (0 ≤ x.mo ∧ x.mo ≤ 2399))) ∧ w' = W) := fun W => cal.cin x.mo 0 2399 W
 rw [decide_eq_false h4] at HI4
 have HD : Hid (deb.Mays x.ds) := hd
 clear h hl hd HRA HBK h1 h2 h3 h4
 go_enter Tryz.func47, Tryz.ntmps47
 go_upto_region 1 with fail
 rw [HWW.out]
 clear HWW
 go_wp2_with fail
 refine HFA.out.mono ?_
 rintro e w1 ⟨f, rfl, hf, hw1⟩
 subst hw1
 obtain rfl : f = 0 := hf.ok.2 HD.out
 clear hf HFA
 go_wp2_with fail
 refine (HI1.out _).mono ?_
 rintro e w2 ⟨rfl, hw2⟩
 subst hw2
 go_wp2_with fail
 refine (HI2.out _).mono ?_
 rintro e w2 ⟨rfl, hw2⟩
 subst hw2
 go_wp2_with fail
 refine (HI3.out _).mono ?_
 rintro e w2 ⟨rfl, hw2⟩
 subst hw2
 go_wp2_with fail
 refine (HI4.out _).mono ?_
 rintro e w2 ⟨rfl, hw2⟩
 subst hw2
 go_wp2_with fail
 all_goals first
  | (rename_i q1 q2; exact absurd q1 (by simp [undef]))
  | (go_ret; exact ⟨rfl, HBA.out⟩)
set_option maxHeartbeats 2000000 in
theorem amay5 (x : Ac) (p : Option Addr) (len cap : Nat) (w : World) (h : RowD w p len x.ds) (hl : len ≤ maxLen) (hd : deb.Mays x.ds) (h1 : 0 ≤ x.me ∧ x.me ≤ 49) (h2 : 0 ≤ x.rv ∧ x.rv ≤ 15) (h3 : 1 ≤ x.nx ∧ x.nx ≤ 1048576) (h4 : 0 ≤ x.mo ∧ x.mo ≤ 2399) (h5 : ¬ (0 ≤ x.bo ∧ x.bo ≤ 10000000)) : Calls Tryz.prog 47 #[.agg #[.int .i64 x.me, .int .i64 x.rv, .int .i64 x.nx, .int .i64 x.mo, .int .i64 x.bo, .int .i64 x.fr, .slice p len cap]] w fun e w' => e = .returned (.bool false) ∧ Below w.heap.size w w' := by
 obtain ⟨WW, HWW, HBK, HBA, -⟩ := sh1 w #[.int .i64 x.me, .int .i64 x.rv, .int .i64 x.nx, .int .i64 x.mo, .int .i64 x.bo, .int .i64 x.fr, .slice p len cap] 59
 have HRA : Hid (RowD WW p len x.ds) := h.below HBA.out
 obtain ⟨c0, c1, c2, c3, c4, c5, c6⟩ := scl7 HBK
 have HFA : Hid (Calls Tryz.prog 70 #[.slice p len cap] WW fun e w' => ∃ f, e = .returned (.int .i64 f) ∧ deb.FaultIs x.ds f ∧ w' = WW) := deb.rfault p len cap x.ds _ HRA.out hl
 have HI1 : Hid (∀ W, Calls Tryz.prog 25 #[.int .i64 x.me, .int .i64 0, .int .i64 49] W fun e w' => e = .returned (.bool (decide (0 ≤ x.me ∧ x.me ≤ 49))) ∧ w' = W) := fun W => cal.cin x.me 0 49 W
 rw [decide_eq_true h1] at HI1
 have HI2 : Hid (∀ W, Calls Tryz.prog 25 #[.int .i64 x.rv, .int .i64 0, .int .i64 15] W fun e w' => e = .returned (.bool (decide (0 ≤ x.rv ∧ x.rv ≤ 15))) ∧ w' = W) := fun W => cal.cin x.rv 0 15 W
 rw [decide_eq_true h2] at HI2
 have HI3 : Hid (∀ W, Calls Tryz.prog 25 #[.int .i64 x.nx, .int .i64 1, .int .i64 1048576] W fun e w' => e = .returned (.bool (decide (1 ≤ x.nx ∧ x.nx ≤ 1048576))) ∧ w' = W) := fun W => cal.cin x.nx 1 1048576 W
 rw [decide_eq_true h3] at HI3
 have HI4 : Hid (∀ W, Calls Tryz.prog 25 #[.int .i64 x.mo, .int .i64 0, .int .i64 2399] W fun e w' => e = .returned (.bool (decide (0 ≤ x.mo ∧ x.mo ≤ 2399))) ∧ w' = W) := fun W => cal.cin x.mo 0 2399 W
 rw [decide_eq_true h4] at HI4
 have HI5 : Hid (∀ W, Calls Tryz.prog 25 #[.int .i64 x.bo, .int .i64 0, .int .i64 10000000] W fun e w' => e = .returned (.bool (decide (0 ≤ x.bo ∧ x.bo ≤ 10000000))) ∧ w' = W) := fun W => cal.cin x.bo 0 10000000 W
 rw [decide_eq_false h5] at HI5
 have HD : Hid (deb.Mays x.ds) := hd
 clear h hl hd HRA HBK h1 h2 h3 h4 h5
 go_enter Tryz.func47, Tryz.ntmps47
 go_upto_region 1 with fail
 rw [HWW.out]
 clear HWW
 go_wp2_with fail
 refine HFA.out.mono ?_
 rintro e w1 ⟨f, rfl, hf, hw1⟩
 subst hw1
 obtain rfl : f = 0 := hf.ok.2 HD.out
 clear hf HFA
 go_wp2_with fail
 refine (HI1.out _).mono ?_
 rintro e w2 ⟨rfl, hw2⟩
 subst hw2
 go_wp2_with fail
 refine (HI2.out _).mono ?_
 rintro e w2 ⟨rfl, hw2⟩
 subst hw2
 go_wp2_with fail
 refine (HI3.out _).mono ?_
 rintro e w2 ⟨rfl, hw2⟩
 subst hw2
 go_wp2_with fail
 refine (HI4.out _).mono ?_
 rintro e w2 ⟨rfl, hw2⟩
 subst hw2
 go_wp2_with fail
 refine (HI5.out _).mono ?_
 rintro e w2 ⟨rfl, hw2⟩
 subst hw2
 go_wp2_with fail
 all_goals first
  | (rename_i q1 q2; exact absurd q1 (by simp [undef]))
  | (go_ret; exact ⟨rfl, HBA.out⟩)
set_option maxHeartbeats 2000000 in
theorem amay6 (x : Ac) (p : Option Addr) (len cap : Nat) (w : World) (h : RowD w p len x.ds) (hl : len ≤ maxLen) (hd : deb.Mays x.ds) (h1 : 0 ≤ x.me ∧ x.me ≤ 49) (h2 : 0 ≤ x.rv ∧ x.rv ≤ 15) (h3 : 1 ≤ x.nx ∧ x.nx ≤ 1048576) (h4 : 0 ≤ x.mo ∧ x.mo ≤ 2399) (h5 : 0 ≤ x.bo ∧ x.bo ≤ 10000000) (h6 : ¬ (-1 ≤ x.fr ∧ x.fr ≤ x.mo)) : Calls Tryz.prog 47 #[.agg #[.int .i64 x.me, .int .i64 x.rv, .int .i64 x.nx, .int .i64 x.mo, .int .i64 x.bo, .int .i64 x.fr, .slice p len cap]] w fun e w' => e = .returned (.bool false) ∧ Below w.heap.size w w' := by
 obtain ⟨WW, HWW, HBK, HBA, -⟩ := sh1 w #[.int .i64 x.me, .int .i64 x.rv, .int .i64 x.nx, .int .i64 x.mo, .int .i64 x.bo, .int .i64 x.fr, .slice p len cap] 59
 have HRA : Hid (RowD WW p len x.ds) := h.below HBA.out
 obtain ⟨c0, c1, c2, c3, c4, c5, c6⟩ := scl7 HBK
 have HFA : Hid (Calls Tryz.prog 70 #[.slice p len cap] WW fun e w' => ∃ f, e = .returned (.int .i64 f) ∧ deb.FaultIs x.ds f ∧ w' = WW) := deb.rfault p len cap x.ds _ HRA.out hl
 have HI1 : Hid (∀ W, Calls Tryz.prog 25 #[.int .i64 x.me, .int .i64 0, .int .i64 49] W fun e w' => e = .returned (.bool (decide (0 ≤ x.me ∧ x.me ≤ 49))) ∧ w' = W) := fun W => cal.cin x.me 0 49 W
 rw [decide_eq_true h1] at HI1
 have HI2 : Hid (∀ W, Calls Tryz.prog 25 #[.int .i64 x.rv, .int .i64 0, .int .i64 15] W fun e w' => e = .returned (.bool (decide (0 ≤ x.rv ∧ x.rv ≤ 15))) ∧ w' = W) := fun W => cal.cin x.rv 0 15 W
 rw [decide_eq_true h2] at HI2
 have HI3 : Hid (∀ W, Calls Tryz.prog 25 #[.int .i64 x.nx, .int .i64 1, .int .i64 1048576] W fun e w' => e = .returned (.bool (decide (1 ≤ x.nx ∧ x.nx ≤ 1048576))) ∧ w' = W) := fun W => cal.cin x.nx 1 1048576 W
 rw [decide_eq_true h3] at HI3
 have HI4 : Hid (∀ W, Calls Tryz.prog 25 #[.int .i64 x.mo, .int .i64 0, .int .i64 2399] W fun e w' => e = .returned (.bool (decide (0 ≤ x.mo ∧ x.mo ≤ 2399))) ∧ w' = W) := fun W => cal.cin x.mo 0 2399 W
 rw [decide_eq_true h4] at HI4
 have HI5 : Hid (∀ W, Calls Tryz.prog 25 #[.int .i64 x.bo, .int .i64 0, .int .i64 10000000] W fun e w' => e = .returned (.bool (decide (0 ≤ x.bo ∧ x.bo ≤ 10000000))) ∧ w' = W) := fun W => cal.cin x.bo 0 10000000 W
 rw [decide_eq_true h5] at HI5
 have HI6 : Hid (∀ W, Calls Tryz.prog 25 #[.int .i64 x.fr, .int .i64 (-1), .int .i64 x.mo] W fun e w' => e = .returned (.bool (decide (-1 ≤ x.fr ∧ x.fr ≤ x.mo))) ∧ w' = W) := fun W => cal.cin x.fr (-1) x.mo W
 rw [decide_eq_false h6] at HI6
 have HD : Hid (deb.Mays x.ds) := hd
 clear h hl hd HRA HBK h1 h2 h3 h4 h5 h6
 go_enter Tryz.func47, Tryz.ntmps47
 go_upto_region 1 with fail
 rw [HWW.out]
 clear HWW
 go_wp2_with fail
 refine HFA.out.mono ?_
 rintro e w1 ⟨f, rfl, hf, hw1⟩
 subst hw1
 obtain rfl : f = 0 := hf.ok.2 HD.out
 clear hf HFA
 go_wp2_with fail
 refine (HI1.out _).mono ?_
 rintro e w2 ⟨rfl, hw2⟩
 subst hw2
 go_wp2_with fail
 refine (HI2.out _).mono ?_
 rintro e w2 ⟨rfl, hw2⟩
 subst hw2
 go_wp2_with fail
 refine (HI3.out _).mono ?_
 rintro e w2 ⟨rfl, hw2⟩
 subst hw2
 go_wp2_with fail
 refine (HI4.out _).mono ?_
 rintro e w2 ⟨rfl, hw2⟩
 subst hw2
 go_wp2_with fail
 refine (HI5.out _).mono ?_
 rintro e w2 ⟨rfl, hw2⟩
 subst hw2
 go_wp2_with fail
 refine (HI6.out _).mono ?_
 rintro e w2 ⟨rfl, hw2⟩
 subst hw2
 go_wp2_with fail
 all_goals first
  | (rename_i q1 q2; exact absurd q1 (by simp [undef]))
  | (go_ret; exact ⟨rfl, HBA.out⟩)
set_option maxHeartbeats 2000000 in
theorem amay7 (x : Ac) (p : Option Addr) (len cap : Nat) (w : World) (h : RowD w p len x.ds) (hl : len ≤ maxLen) (hd : deb.Mays x.ds) (h1 : 0 ≤ x.me ∧ x.me ≤ 49) (h2 : 0 ≤ x.rv ∧ x.rv ≤ 15) (h3 : 1 ≤ x.nx ∧ x.nx ≤ 1048576) (h4 : 0 ≤ x.mo ∧ x.mo ≤ 2399) (h5 : 0 ≤ x.bo ∧ x.bo ≤ 10000000) (h6 : (-1 ≤ x.fr ∧ x.fr ≤ x.mo)) : Calls Tryz.prog 47 #[.agg #[.int .i64 x.me, .int .i64 x.rv, .int .i64 x.nx, .int .i64 x.mo, .int .i64 x.bo, .int .i64 x.fr, .slice p len cap]] w fun e w' => e = .returned (.bool true) ∧ Below w.heap.size w w' := by
 obtain ⟨WW, HWW, HBK, HBA, -⟩ := sh1 w #[.int .i64 x.me, .int .i64 x.rv, .int .i64 x.nx, .int .i64 x.mo, .int .i64 x.bo, .int .i64 x.fr, .slice p len cap] 59
 have HRA : Hid (RowD WW p len x.ds) := h.below HBA.out
 obtain ⟨c0, c1, c2, c3, c4, c5, c6⟩ := scl7 HBK
 have HFA : Hid (Calls Tryz.prog 70 #[.slice p len cap] WW fun e w' => ∃ f, e = .returned (.int .i64 f) ∧ deb.FaultIs x.ds f ∧ w' = WW) := deb.rfault p len cap x.ds _ HRA.out hl
 have HI1 : Hid (∀ W, Calls Tryz.prog 25 #[.int .i64 x.me, .int .i64 0, .int .i64 49] W fun e w' => e = .returned (.bool (decide (0 ≤ x.me ∧ x.me ≤ 49))) ∧ w' = W) := fun W => cal.cin x.me 0 49 W
 rw [decide_eq_true h1] at HI1
 have HI2 : Hid (∀ W, Calls Tryz.prog 25 #[.int .i64 x.rv, .int .i64 0, .int .i64 15] W fun e w' => e = .returned (.bool (decide (0 ≤ x.rv ∧ x.rv ≤ 15))) ∧ w' = W) := fun W => cal.cin x.rv 0 15 W
 rw [decide_eq_true h2] at HI2
 have HI3 : Hid (∀ W, Calls Tryz.prog 25 #[.int .i64 x.nx, .int .i64 1, .int .i64 1048576] W fun e w' => e = .returned (.bool (decide (1 ≤ x.nx ∧ x.nx ≤ 1048576))) ∧ w' = W) := fun W => cal.cin x.nx 1 1048576 W
 rw [decide_eq_true h3] at HI3
 have HI4 : Hid (∀ W, Calls Tryz.prog 25 #[.int .i64 x.mo, .int .i64 0, .int .i64 2399] W fun e w' => e = .returned (.bool (decide (0 ≤ x.mo ∧ x.mo ≤ 2399))) ∧ w' = W) := fun W => cal.cin x.mo 0 2399 W
 rw [decide_eq_true h4] at HI4
 have HI5 : Hid (∀ W, Calls Tryz.prog 25 #[.int .i64 x.bo, .int .i64 0, .int .i64 10000000] W fun e w' => e = .returned (.bool (decide (0 ≤ x.bo ∧ x.bo ≤ 10000000))) ∧ w' = W) := fun W => cal.cin x.bo 0 10000000 W
 rw [decide_eq_true h5] at HI5
 have HI6 : Hid (∀ W, Calls Tryz.prog 25 #[.int .i64 x.fr, .int .i64 (-1), .int .i64 x.mo] W fun e w' => e = .returned (.bool (decide (-1 ≤ x.fr ∧ x.fr ≤ x.mo))) ∧ w' = W) := fun W => cal.cin x.fr (-1) x.mo W
 rw [decide_eq_true h6] at HI6
 have HD : Hid (deb.Mays x.ds) := hd
 clear h hl hd HRA HBK h1 h2 h3 h4 h5 h6
 go_enter Tryz.func47, Tryz.ntmps47
 go_upto_region 1 with fail
 rw [HWW.out]
 clear HWW
 go_wp2_with fail
 refine HFA.out.mono ?_
 rintro e w1 ⟨f, rfl, hf, hw1⟩
 subst hw1
 obtain rfl : f = 0 := hf.ok.2 HD.out
 clear hf HFA
 go_wp2_with fail
 refine (HI1.out _).mono ?_
 rintro e w2 ⟨rfl, hw2⟩
 subst hw2
 go_wp2_with fail
 refine (HI2.out _).mono ?_
 rintro e w2 ⟨rfl, hw2⟩
 subst hw2
 go_wp2_with fail
 refine (HI3.out _).mono ?_
 rintro e w2 ⟨rfl, hw2⟩
 subst hw2
 go_wp2_with fail
 refine (HI4.out _).mono ?_
 rintro e w2 ⟨rfl, hw2⟩
 subst hw2
 go_wp2_with fail
 refine (HI5.out _).mono ?_
 rintro e w2 ⟨rfl, hw2⟩
 subst hw2
 go_wp2_with fail
 refine (HI6.out _).mono ?_
 rintro e w2 ⟨rfl, hw2⟩
 subst hw2
 go_wp2_with fail
 all_goals first
  | (rename_i q1 q2; exact absurd q1 (by simp [undef]))
  | (go_ret; exact ⟨rfl, HBA.out⟩)
theorem ramay (x : Ac) (p : Option Addr) (len cap : Nat) (w : World) (h : RowD w p len x.ds) (hl : len ≤ maxLen) (hm : AMay x) : Calls Tryz.prog 47 #[.agg #[.int .i64 x.me, .int .i64 x.rv, .int .i64 x.nx, .int .i64 x.mo, .int .i64 x.bo, .int .i64 x.fr, .slice p len cap]] w fun e w' => e = .returned (.bool true) ∧ Below w.heap.size w w' := by
 obtain ⟨h1, h2, h3, h4, h5, h6, h7⟩ := hm
 exact amay7 x p len cap w h hl h1 h2 h3 h4 h5 h6 h7
theorem ranot (x : Ac) (p : Option Addr) (len cap : Nat) (w : World) (h : RowD w p len x.ds) (hl : len ≤ maxLen) (hm : ¬ AMay x) : Calls Tryz.prog 47 #[.agg #[.int .i64 x.me, .int .i64 x.rv, .int .i64 x.nx, .int .i64 x.mo, .int .i64 x.bo, .int .i64 x.fr, .slice p len cap]] w fun e w' => e = .returned (.bool false) ∧ Below w.heap.size w w' := by
 by_cases hd : deb.Mays x.ds
 ·by_cases h1 : 0 ≤ x.me ∧ x.me ≤ 49
  ·by_cases h2 : 0 ≤ x.rv ∧ x.rv ≤ 15
   ·by_cases h3 : 1 ≤ x.nx ∧ x.nx ≤ 1048576
    ·by_cases h4 : 0 ≤ x.mo ∧ x.mo ≤ 2399
     ·by_cases h5 : 0 ≤ x.bo ∧ x.bo ≤ 10000000
      ·by_cases h6 : -1 ≤ x.fr ∧ x.fr ≤ x.mo
       ·exact absurd ⟨hd, h1, h2, h3, h4, h5, h6⟩ hm
       ·exact amay6 x p len cap w h hl hd h1 h2 h3 h4 h5 h6
      ·exact amay5 x p len cap w h hl hd h1 h2 h3 h4 h5
     ·exact amay4 x p len cap w h hl hd h1 h2 h3 h4
    ·exact amay3 x p len cap w h hl hd h1 h2 h3
   ·exact amay2 x p len cap w h hl hd h1 h2
  ·exact amay1 x p len cap w h hl hd h1
 ·exact amay0 x p len cap w h hl hd
end acc
namespace tar
open Go.RowKit
theorem pwithin (lo hi n : Int) (w : World) : Calls Tryz.prog 89 #[.int .i64 lo, .int .i64 hi, .int .i64 n] w fun e w' => e = .returned (.bool (decide (lo ≤ n ∧ n ≤ hi))) ∧ w' = w := by
 by_cases h1 : lo ≤ n
 ·by_cases h2 : n ≤ hi
  ·have h3 : decide (lo ≤ n ∧ n ≤ hi) = true := by simp; omega
   rw [h3]; clear h3
   go_enter Tryz.func89, Tryz.ntmps89
   go_wp2
   go_ret
   exact ⟨rfl, rfl⟩
  ·have h3 : decide (lo ≤ n ∧ n ≤ hi) = false := by simp; omega
   have h4 : decide (n ≤ hi) = false := by simp; omega
   rw [h3]; clear h3 h2
   go_enter Tryz.func89, Tryz.ntmps89
   go_wp2
   go_ret
   exact ⟨rfl, rfl⟩
 ·have h3 : decide (lo ≤ n ∧ n ≤ hi) = false := by simp; omega
  have h4 : decide (lo ≤ n) = false := by simp; omega
  rw [h3]; clear h3 h1
  go_enter Tryz.func89, Tryz.ntmps89
  go_wp2
  go_ret
  exact ⟨rfl, rfl⟩
set_option maxRecDepth 100000
open Classical in
set_option maxHeartbeats 2000000 in
theorem kcheck : KtCheck := by
 intro w a n cap ls hcame
 have hr := hcame.row
 have hn := hcame.most
 clear hcame
 have hlen := hr.1
 have HIU : Hid (∀ x W, Calls Tryz.prog 89 #[.int .i64 1, .int .i64 10000000, .int .i64 x] W fun e w' => e = .returned (.bool (decide (1 ≤ x ∧ x ≤ 10000000))) ∧ w' = W) := fun x W => pwithin 1 10000000 x W
 have HIP : Hid (∀ x W, Calls Tryz.prog 89 #[.int .i64 1, .int .i64 100000, .int .i64 x] W fun e w' => e = .returned (.bool (decide (1 ≤ x ∧ x ≤ 100000))) ∧ w' = W) := fun x W => pwithin 1 100000 x W
 by_cases hs : 1 ≤ n ∧ n ≤ 8
 ·have HS : Hid (Sized ls) := by show 1 ≤ ls.length ∧ ls.length ≤ 8; rw [hlen]; exact hs
  obtain ⟨hs1, hs2⟩ := hs
  have hd0 : ((n : Int) == 0) = false := by simp; omega
  have hd8 : decide ((8 : Int) < (n : Int)) = false := by simp; omega
  obtain ⟨b, off, rfl, hbl, hc⟩ := hr.at hs1
  have HC : Hid (∀ i, i < n → w.cell? ⟨b, off + i * 2, none⟩ = some (.int .i64 (ls.getD i du0).a) ∧ w.cell? ⟨b, off + i * 2 + 1, none⟩ = some (.int .i64 (ls.getD i du0).b)) := hc
  have HLEN : Hid (ls.length = n) := hlen
  have HRS : Hid (∀ W, Below w.heap.size w W → Calls Tryz.prog 90 #[.slice (some ⟨b, off, none⟩) n cap] W fun e w' => e = .returned (.bool (decide (Rises ls))) ∧ Below W.heap.size W w') := fun W hW => prises b off n cap ls W hs1 hs2 hlen (Nat.lt_of_lt_of_le hbl hW.size) (fun i hi => ⟨(hW.cell (p := ⟨b, off + i * 2, none⟩) hbl).trans (hc i hi).1, (hW.cell (p := ⟨b, off + i * 2 + 1, none⟩) hbl).trans (hc i hi).2⟩)
  have hnm : n ≤ 9223372036854775807 := by omega
  clear hc hr hn hlen
  go_enter Tryz.func75, Tryz.ntmps75
  go_wp2_with fail
  go_loopw [15] (fun x wr => ∃ k : Nat, k ≤ n ∧ x = .int .i64 (k : Int) ∧ (∀ i, i < k → (1 ≤ (ls.getD i du0).a ∧ (ls.getD i du0).a ≤ 10000000) ∧ 1 ≤ (ls.getD i du0).b ∧ (ls.getD i du0).b ≤ 100000) ∧ Below w.heap.size w wr) (fun x _ => n - (intOf x).toNat)
  case atStart => exact ⟨0, Nat.zero_le _, rfl, fun i hi => absurd hi (Nat.not_lt_zero _), Below.refl _ _⟩
  case round =>
   obtain ⟨k, hk, rfl, hf, hb⟩ := hrel
   have HF : Hid (∀ i, i < k → (1 ≤ (ls.getD i du0).a ∧ (ls.getD i du0).a ≤ 10000000) ∧ 1 ≤ (ls.getD i du0).b ∧ (ls.getD i du0).b ≤ 100000) := hf
   have HB : Hid (Below w.heap.size w wr) := hb
   clear hf
   by_cases hlt : k < n
   ·have hdl : decide ((k : Int) < (n : Int)) = true := by simp; omega
    have c0 : wr.cell? ⟨b, off + k * 2, none⟩ = some (.int .i64 (ls.getD k du0).a) := (hb.cell (p := ⟨b, off + k * 2, none⟩) hbl).trans (HC.out k hlt).1
    have c1 : wr.cell? ⟨b, off + k * 2 + 1, none⟩ = some (.int .i64 (ls.getD k du0).b) := (hb.cell (p := ⟨b, off + k * 2 + 1, none⟩) hbl).trans (HC.out k hlt).2
    have HBA : Hid (∀ o, Below w.heap.size w (wr.alloc o)) := fun o => hb.alloc hb.size o
    clear hb
    have HU := HIU.out (ls.getD k du0).a
    have HP := HIP.out (ls.getD k du0).b
    by_cases hu : 1 ≤ (ls.getD k du0).a ∧ (ls.getD k du0).a ≤ 10000000
    ·rw [decide_eq_true hu] at HU
     by_cases hp : 1 ≤ (ls.getD k du0).b ∧ (ls.getD k du0).b ≤ 100000
     ·rw [decide_eq_true hp] at HP
      have HF2 : Hid (∀ i, i < k + 1 → (1 ≤ (ls.getD i du0).a ∧ (ls.getD i du0).a ≤ 10000000) ∧ 1 ≤ (ls.getD i du0).b ∧ (ls.getD i du0).b ≤ 100000) := fun i hi => by
       by_cases e : i = k
       ·subst e; exact ⟨hu, hp⟩
       ·exact HF.out i (by omega)
      have HU2 : Hid (∀ W, Calls Tryz.prog 89 #[.int .i64 1, .int .i64 10000000, .int .i64 (ls.getD k du0).a] W fun e w' => e = .returned (.bool true) ∧ w' = W) := HU
      have HP2 : Hid (∀ W, Calls Tryz.prog 89 #[.int .i64 1, .int .i64 100000, .int .i64 (ls.getD k du0).b] W fun e w' => e = .returned (.bool true) ∧ w' = W) := HP
      clear HU HP hu hp HF
      generalize (ls.getD k du0).a = x at *
      generalize (ls.getD k du0).b = y at *
      go_wp2_with fail
      refine (HU2.out _).mono ?_
      rintro e w2 ⟨rfl, hw2⟩
      subst w2
      go_wp2_with fail
      refine (HP2.out _).mono ?_
      rintro e w2 ⟨rfl, hw2⟩
      subst w2
      go_wp2_with fail
      go_roundw
      case rel => exact ⟨k + 1, by omega, by go_num, HF2.out, HBA.out _⟩
      case measure => simp [intOf]; omega
     ·rw [decide_eq_false hp] at HP
      have HN : Hid (¬ Fits ls) := fun h => hp (h k (by rw [HLEN.out]; exact hlt)).2
      have HU2 : Hid (∀ W, Calls Tryz.prog 89 #[.int .i64 1, .int .i64 10000000, .int .i64 (ls.getD k du0).a] W fun e w' => e = .returned (.bool true) ∧ w' = W) := HU
      have HP2 : Hid (∀ W, Calls Tryz.prog 89 #[.int .i64 1, .int .i64 100000, .int .i64 (ls.getD k du0).b] W fun e w' => e = .returned (.bool false) ∧ w' = W) := HP
      clear HU HP hu hp HF
      generalize (ls.getD k du0).a = x at *
      generalize (ls.getD k du0).b = y at *
      go_wp2_with fail
      refine (HU2.out _).mono ?_
      rintro e w2 ⟨rfl, hw2⟩
      subst w2
      go_wp2_with fail
      refine (HP2.out _).mono ?_
      rintro e w2 ⟨rfl, hw2⟩
      subst w2
      go_wp2_with fail
      go_ret
      exact ⟨_, rfl, .inr (.inl ⟨HS.out, HN.out, rfl⟩), HBA.out _⟩
    ·rw [decide_eq_false hu] at HU
     have HN : Hid (¬ Fits ls) := fun h => hu (h k (by rw [HLEN.out]; exact hlt)).1
     have HU2 : Hid (∀ W, Calls Tryz.prog 89 #[.int .i64 1, .int .i64 10000000, .int .i64 (ls.getD k du0).a] W fun e w' => e = .returned (.bool false) ∧ w' = W) := HU
     clear HU HP hu HF
     generalize (ls.getD k du0).a = x at *
     generalize (ls.getD k du0).b = y at *
     go_wp2_with fail
     refine (HU2.out _).mono ?_
     rintro e w2 ⟨rfl, hw2⟩
     subst w2
     go_wp2_with fail
     go_ret
     exact ⟨_, rfl, .inr (.inl ⟨HS.out, HN.out, rfl⟩), HBA.out _⟩
   ·obtain rfl : k = n := by omega
    have hdl : decide ((k : Int) < (k : Int)) = false := by simp
    have HFT : Hid (Fits ls) := fun i hi => HF.out i (by rw [HLEN.out] at hi; exact hi)
    have HR := HRS.out wr hb
    clear HF HIU HIP HRS hb
    have HE : Hid (Ends ls ↔ (ls.getD (k - 1) du0).a = 10000000) := by show Ends ls ↔ _; unfold Ends; rw [HLEN.out]
    have HC1 : Hid (∀ W, Below wr.heap.size wr W → W.cell? ⟨b, off + (k - 1) * 2, none⟩ = some (.int .i64 (ls.getD (k - 1) du0).a)) := fun W hW => ((HB.out.trans (hW.mono HB.out.size)).cell (p := ⟨b, off + (k - 1) * 2, none⟩) hbl).trans (HC.out (k - 1) (by omega)).1
    have hsub : ((k : Int) - 1) = ((k - 1 : Nat) : Int) := by omega
    have hjm : k - 1 < k := by omega
    by_cases hri : Rises ls
    ·rw [decide_eq_true hri] at HR
     have HR2 : Hid (Calls Tryz.prog 90 #[.slice (some ⟨b, off, none⟩) k cap] wr fun e w' => e = .returned (.bool true) ∧ Below wr.heap.size wr w') := HR
     have HRI : Hid (Rises ls) := hri
     clear HR hri
     go_wp2_with fail
     refine HR2.out.mono ?_
     rintro e w2 ⟨rfl, hw2⟩
     have c1 := HC1.out w2 hw2
     have HB2 := shB HB hw2
     clear hw2 HR2
     by_cases he : (ls.getD (k - 1) du0).a = 10000000
     ·have HRT : Hid (Right ls) := ⟨HS.out, HFT.out, HRI.out, HE.out.2 he⟩
      have hne : ((ls.getD (k - 1) du0).a != 10000000) = false := by rw [he]; rfl
      clear he HE HC1
      generalize (ls.getD (k - 1) du0).a = y at *
      generalize k - 1 = j1 at *
      go_wp2_with fail
      go_ret
      exact ⟨_, rfl, .inr (.inr (.inr ⟨HRT.out, rfl⟩)), HB2.out⟩
     ·have HN : Hid (¬ (Rises ls ∧ Ends ls)) := fun h => he (HE.out.1 h.2)
      have hne : ((ls.getD (k - 1) du0).a != 10000000) = true := by simpa using he
      clear he HE HC1
      generalize (ls.getD (k - 1) du0).a = y at *
      generalize k - 1 = j1 at *
      go_wp2_with fail
      go_ret
      exact ⟨_, rfl, .inr (.inr (.inl ⟨HS.out, HFT.out, HN.out, rfl⟩)), HB2.out⟩
    ·rw [decide_eq_false hri] at HR
     have HR2 : Hid (Calls Tryz.prog 90 #[.slice (some ⟨b, off, none⟩) k cap] wr fun e w' => e = .returned (.bool false) ∧ Below wr.heap.size wr w') := HR
     have HN : Hid (¬ (Rises ls ∧ Ends ls)) := fun h => hri h.1
     clear HR hri
     go_wp2_with fail
     refine HR2.out.mono ?_
     rintro e w2 ⟨rfl, hw2⟩
     have HB2 := shB HB hw2
     clear hw2 HR2 HE HC1
     generalize k - 1 = j1 at *
     go_wp2_with fail
     go_ret
     exact ⟨_, rfl, .inr (.inr (.inl ⟨HS.out, HFT.out, HN.out, rfl⟩)), HB2.out⟩
 ·have HS : Hid (¬ Sized ls) := by show ¬ (1 ≤ ls.length ∧ ls.length ≤ 8); rw [hlen]; exact hs
  have hnm : n ≤ 9223372036854775807 := by unfold maxLen at hn; omega
  clear hr hlen hn
  by_cases h0 : n = 0
  ·subst h0
   clear hs hnm
   go_enter Tryz.func75, Tryz.ntmps75
   go_wp2_with fail
   go_ret
   exact ⟨_, rfl, .inl ⟨HS.out, rfl⟩, Below.refl _ _⟩
  ·have hd0 : ((n : Int) == 0) = false := by simp; omega
   have hd8 : decide ((8 : Int) < (n : Int)) = true := by simp; omega
   clear hs h0
   go_enter Tryz.func75, Tryz.ntmps75
   go_wp2_with fail
   go_ret
   exact ⟨_, rfl, .inl ⟨HS.out, rfl⟩, Below.refl _ _⟩
end tar
namespace acc
open tar (Du)
open Go.RowKit
def KcSell : Prop := ∀ (W : World) (x : Ac) (p : Option Addr) (len cap : Nat) (t : Tm) (pt : Option Addr) (lt ct : Nat) (te m : Int), ACame W x p len cap → TCame W t pt lt ct → (Lit.int .i64 te).wf = true → (Lit.int .i64 m).wf = true → Calls Tryz.prog 102 #[x.v p len cap, t.v pt lt ct, .int .i64 te, .int .i64 m] W fun e w' => BPost W (SellIs x t te m) e w'
def KcOpen : Prop := ∀ (W : World) (m : Int), (Lit.int .i64 m).wf = true → Calls Tryz.prog 91 #[.int .i64 m] W fun e w' => APost W (OpenIs m) e w'
end acc
end Go.Proofs.YtomibnggmhjdfaaGreat
