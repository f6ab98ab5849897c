import Derived.Test.YtomibnggmhjdfaaGreatVVRrs9
set_option linter.unusedVariables false
set_option linter.unusedSimpArgs false
namespace Go.Proofs.YtomibnggmhjdfaaGreat
namespace tar
open Go.RowKit
set_option maxRecDepth 100000
set_option maxHeartbeats 2000000 in
theorem rfault (a : Option Addr) (n cap : Nat) (ls : List Du) (w : World) (hr : RowD w a n ls) (hn : n ≤ maxLen) : Calls Tryz.prog 56 #[.slice a n cap] w fun e w' => ErrPost w (FaultIs ls) e w' := by
 have hlen := hr.1
 have HIS : Hid (∀ W, Calls Tryz.prog 25 #[.int .i64 (n : Int), .int .i64 1, .int .i64 8] W fun e w' => e = .returned (.bool (decide (1 ≤ (n : Int) ∧ (n : Int) ≤ 8))) ∧ w' = W) := fun W => cal.cin n 1 8 W
 have HIU : Hid (∀ x W, Calls Tryz.prog 25 #[.int .i64 x, .int .i64 1, .int .i64 10000000] W fun e w' => e = .returned (.bool (decide (1 ≤ x ∧ x ≤ 10000000))) ∧ w' = W) := fun x W => cal.cin x 1 10000000 W
 have HIP : Hid (∀ x W, Calls Tryz.prog 25 #[.int .i64 x, .int .i64 1, .int .i64 100000] W fun e w' => e = .returned (.bool (decide (1 ≤ x ∧ x ≤ 100000))) ∧ w' = W) := fun x W => cal.cin x 1 100000 W
 by_cases hs : 1 ≤ n ∧ n ≤ 8
 ·have HS : Hid (Sized ls) := by show 1 ≤ ls.length ∧ ls.length ≤ 8; rw [hlen]; exact hs
  rw [decide_eq_true (show 1 ≤ (n : Int) ∧ (n : Int) ≤ 8 by omega)] at HIS
  obtain ⟨hs1, hs2⟩ := hs
  obtain ⟨b, off, rfl, hbl, hc⟩ := hr.at hs1
  have HC : Hid (∀ i, i < n → w.cell? ⟨b, off + i * 2, none⟩ = some (.int .i64 (ls.getD i du0).a) ∧ w.cell? ⟨b, off + i * 2 + 1, none⟩ = some (.int .i64 (ls.getD i du0).b)) := hc
  have HLEN : Hid (ls.length = n) := hlen
  have hnm : n ≤ 9223372036854775807 := by omega
  clear hc hr hn hlen
  go_enter Tryz.func56, Tryz.ntmps56
  go_wp2_with fail
  refine (HIS.out _).mono ?_
  rintro e w1 ⟨rfl, hw1⟩
  subst hw1
  go_wp2_with fail
  go_loopw [3] (fun x wr => ∃ k : Nat, k ≤ n ∧ x = .int .i64 (k : Int) ∧ (∀ i, i < k → (1 ≤ (ls.getD i du0).a ∧ (ls.getD i du0).a ≤ 10000000) ∧ 1 ≤ (ls.getD i du0).b ∧ (ls.getD i du0).b ≤ 100000) ∧ wr = w1) (fun x _ => n - (intOf x).toNat)
  case atStart => exact ⟨0, Nat.zero_le _, rfl, fun i hi => absurd hi (Nat.not_lt_zero _), rfl⟩
  case round =>
   obtain ⟨k, hk, rfl, hf, hwr⟩ := hrel
   have HF : Hid (∀ i, i < k → (1 ≤ (ls.getD i du0).a ∧ (ls.getD i du0).a ≤ 10000000) ∧ 1 ≤ (ls.getD i du0).b ∧ (ls.getD i du0).b ≤ 100000) := hf
   subst wr
   clear hf
   by_cases hlt : k < n
   ·have hdl : decide ((k : Int) < (n : Int)) = true := by simp; omega
    have c0 := (HC.out k hlt).1
    have c1 := (HC.out k hlt).2
    have HU := HIU.out (ls.getD k du0).a
    have HP := HIP.out (ls.getD k du0).b
    by_cases hu : 1 ≤ (ls.getD k du0).a ∧ (ls.getD k du0).a ≤ 10000000
    ·rw [decide_eq_true hu] at HU
     by_cases hp : 1 ≤ (ls.getD k du0).b ∧ (ls.getD k du0).b ≤ 100000
     ·rw [decide_eq_true hp] at HP
      have HF2 : Hid (∀ i, i < k + 1 → (1 ≤ (ls.getD i du0).a ∧ (ls.getD i du0).a ≤ 10000000) ∧ 1 ≤ (ls.getD i du0).b ∧ (ls.getD i du0).b ≤ 100000) := fun i hi => by
       by_cases e : i = k
       ·subst e; exact ⟨hu, hp⟩
       ·exact HF.out i (by omega)
      have HU2 : Hid (∀ W, Calls Tryz.prog 25 #[.int .i64 (ls.getD k du0).a, .int .i64 1, .int .i64 10000000] W fun e w' => e = .returned (.bool true) ∧ w' = W) := HU
      have HP2 : Hid (∀ W, Calls Tryz.prog 25 #[.int .i64 (ls.getD k du0).b, .int .i64 1, .int .i64 100000] W fun e w' => e = .returned (.bool true) ∧ w' = W) := HP
      clear HU HP hu hp HF
      generalize (ls.getD k du0).a = x at *
      generalize (ls.getD k du0).b = y at *
      go_wp2_with fail
      refine (HU2.out _).mono ?_
      rintro e w2 ⟨rfl, hw2⟩
      subst hw2
      go_wp2_with fail
      refine (HP2.out _).mono ?_
      rintro e w2 ⟨rfl, hw2⟩
      subst hw2
      go_wp2_with fail
      go_roundw
      case rel => exact ⟨k + 1, by omega, by go_num, HF2.out, by first | rfl | trivial⟩
      case measure => simp [intOf]; omega
     ·rw [decide_eq_false hp] at HP
      have HN : Hid (¬ Fits ls) := fun h => hp (h k (by rw [HLEN.out]; exact hlt)).2
      have HU2 : Hid (∀ W, Calls Tryz.prog 25 #[.int .i64 (ls.getD k du0).a, .int .i64 1, .int .i64 10000000] W fun e w' => e = .returned (.bool true) ∧ w' = W) := HU
      have HP2 : Hid (∀ W, Calls Tryz.prog 25 #[.int .i64 (ls.getD k du0).b, .int .i64 1, .int .i64 100000] W fun e w' => e = .returned (.bool false) ∧ w' = W) := HP
      clear HU HP hu hp HF
      generalize (ls.getD k du0).a = x at *
      generalize (ls.getD k du0).b = y at *
      go_wp2_with fail
      refine (HU2.out _).mono ?_
      rintro e w2 ⟨rfl, hw2⟩
      subst hw2
      go_wp2_with fail
      refine (HP2.out _).mono ?_
      rintro e w2 ⟨rfl, hw2⟩
      subst hw2
      go_wp2_with fail
      go_ret
      exact ⟨_, rfl, .inr (.inl ⟨HS.out, HN.out, rfl⟩), Below.refl _ _⟩
    ·rw [decide_eq_false hu] at HU
     have HN : Hid (¬ Fits ls) := fun h => hu (h k (by rw [HLEN.out]; exact hlt)).1
     have HU2 : Hid (∀ W, Calls Tryz.prog 25 #[.int .i64 (ls.getD k du0).a, .int .i64 1, .int .i64 10000000] W fun e w' => e = .returned (.bool false) ∧ w' = W) := HU
     clear HU HP hu HF
     generalize (ls.getD k du0).a = x at *
     generalize (ls.getD k du0).b = y at *
     go_wp2_with fail
     refine (HU2.out _).mono ?_
     rintro e w2 ⟨rfl, hw2⟩
     subst hw2
     go_wp2_with fail
     go_ret
     exact ⟨_, rfl, .inr (.inl ⟨HS.out, HN.out, rfl⟩), Below.refl _ _⟩
   ·obtain rfl : k = n := by omega
    have hdl : decide ((k : Int) < (k : Int)) = false := by simp
    have HFT : Hid (Fits ls) := fun i hi => HF.out i (by rw [HLEN.out] at hi; exact hi)
    clear HF HIU HIP HIS
    go_wp2_with fail
    go_loopw [4] (fun x wr2 => ∃ j : Nat, 1 ≤ j ∧ j ≤ k ∧ x = .int .i64 (j : Int) ∧ (∀ i, 1 ≤ i → i < j → (ls.getD (i - 1) du0).a < (ls.getD i du0).a) ∧ Below w1.heap.size w1 wr2) (fun x _ => k - (intOf x).toNat)
    case atStart => exact ⟨1, Nat.le_refl _, hs1, rfl, fun i h1 h2 => absurd h2 (by omega), Below.refl _ _⟩
    case round =>
     obtain ⟨j, hj1, hj, rfl, hf, hb⟩ := hrel
     have HF : Hid (∀ i, 1 ≤ i → i < j → (ls.getD (i - 1) du0).a < (ls.getD i du0).a) := hf
     have HB : Hid (Below w1.heap.size w1 wr) := hb
     by_cases hlt2 : j < k
     ·have hdl2 : decide ((j : Int) < (k : Int)) = true := by simp; omega
      have c0 : wr.cell? ⟨b, off + j * 2, none⟩ = some (.int .i64 (ls.getD j du0).a) := (hb.cell (p := ⟨b, off + j * 2, none⟩) hbl).trans (HC.out j hlt2).1
      have c1 : wr.cell? ⟨b, off + (j - 1) * 2, none⟩ = some (.int .i64 (ls.getD (j - 1) du0).a) := (hb.cell (p := ⟨b, off + (j - 1) * 2, none⟩) hbl).trans (HC.out (j - 1) (by omega)).1
      have hs2' : wr.drew.cell? ⟨b, off + j * 2, none⟩ = some (.int .i64 (ls.getD j du0).a) := c0
      have HBD : Hid (Below w1.heap.size w1 wr.drew) := hb.drew
      have hsub : ((j : Int) - 1) = ((j - 1 : Nat) : Int) := by omega
      have hjm : j - 1 < k := by omega
      clear hb hf
      by_cases hle : (ls.getD j du0).a ≤ (ls.getD (j - 1) du0).a
      ·have hde : decide ((ls.getD j du0).a ≤ (ls.getD (j - 1) du0).a) = true := decide_eq_true hle
       have HN : Hid (¬ (Rises ls ∧ Ends ls)) := rise_not hj1 (by rw [HLEN.out]; exact hlt2) hle
       clear hle
       generalize (ls.getD j du0).a = x at *
       generalize (ls.getD (j - 1) du0).a = y at *
       generalize j - 1 = j1 at *
       go_wp2_with fail
       go_region
       all_goals go_wp2_with fail
       go_ret
       exact ⟨_, rfl, .inr (.inr (.inl ⟨HS.out, HFT.out, HN.out, rfl⟩)), HBD.out⟩
      ·have hde : decide ((ls.getD j du0).a ≤ (ls.getD (j - 1) du0).a) = false := decide_eq_false hle
       have HF2 : Hid (∀ i, 1 ≤ i → i < j + 1 → (ls.getD (i - 1) du0).a < (ls.getD i du0).a) := fun i h1 h2 => by
        by_cases e : i = j
        ·subst e; omega
        ·exact HF.out i h1 (by omega)
       clear hle
       generalize (ls.getD j du0).a = x at *
       generalize (ls.getD (j - 1) du0).a = y at *
       generalize j - 1 = j1 at *
       go_wp2_with fail
       go_region
       all_goals go_wp2_with fail
       go_roundw
       case rel => exact ⟨j + 1, by omega, by omega, by go_num, HF2.out, HBD.out⟩
       case measure => simp [intOf]; omega
     ·obtain rfl : j = k := by omega
      have hdl2 : decide ((j : Int) < (j : Int)) = false := by simp
      have HR : Hid (Rises ls) := fun i h1 h2 => HF.out i h1 (by rw [HLEN.out] at h2; exact h2)
      have c1 : wr.cell? ⟨b, off + (j - 1) * 2, none⟩ = some (.int .i64 (ls.getD (j - 1) du0).a) := (hb.cell (p := ⟨b, off + (j - 1) * 2, none⟩) hbl).trans (HC.out (j - 1) (by omega)).1
      have hsub : ((j : Int) - 1) = ((j - 1 : Nat) : Int) := by omega
      have hjm : j - 1 < j := by omega
      have HE : Hid (Ends ls ↔ (ls.getD (j - 1) du0).a = 10000000) := by show Ends ls ↔ _; unfold Ends; rw [HLEN.out]
      clear hb hf
      by_cases he : (ls.getD (j - 1) du0).a = 10000000
      ·have HR2 : Hid (Right ls) := ⟨HS.out, HFT.out, HR.out, HE.out.2 he⟩
       have hne : ((ls.getD (j - 1) du0).a != 10000000) = false := by rw [he]; rfl
       clear he HE
       generalize (ls.getD (j - 1) du0).a = y at *
       generalize j - 1 = j1 at *
       go_wp2_with fail
       go_ret
       exact ⟨_, rfl, .inr (.inr (.inr ⟨HR2.out, rfl⟩)), HB.out⟩
      ·have HN : Hid (¬ (Rises ls ∧ Ends ls)) := fun h => he (HE.out.1 h.2)
       have hne : ((ls.getD (j - 1) du0).a != 10000000) = true := by simpa using he
       clear he HE
       generalize (ls.getD (j - 1) du0).a = y at *
       generalize j - 1 = j1 at *
       go_wp2_with fail
       go_ret
       exact ⟨_, rfl, .inr (.inr (.inl ⟨HS.out, HFT.out, HN.out, rfl⟩)), HB.out⟩
 ·have HS : Hid (¬ Sized ls) := by show ¬ (1 ≤ ls.length ∧ ls.length ≤ 8); rw [hlen]; exact hs
  rw [decide_eq_false (show ¬ (1 ≤ (n : Int) ∧ (n : Int) ≤ 8) by omega)] at HIS
  have hnm : n ≤ 9223372036854775807 := by unfold maxLen at hn; omega
  clear hs hr hlen hn
  go_enter Tryz.func56, Tryz.ntmps56
  go_wp2_with fail
  refine (HIS.out _).mono ?_
  rintro e w1 ⟨rfl, hw1⟩
  subst hw1
  go_wp2_with fail
  go_ret
  exact ⟨_, rfl, .inl ⟨HS.out, rfl⟩, Below.refl _ _⟩
end tar
namespace acc
open tar (Du du0 Came RowD Ld PairT)
open Go.RowKit
set_option maxRecDepth 100000
set_option maxHeartbeats 2000000 in
theorem tfa0 (t : Tm) (p : Option Addr) (len cap : Nat) (w : World) (h : RowD w p len t.ts) (hl : len ≤ maxLen) (hr : ¬ tar.Right t.ts) : Calls Tryz.prog 34 #[.agg #[.slice p len cap, .int .i64 t.ff, .int .i64 t.fb, .int .i64 t.db, .int .i64 t.al]] w fun e w' => tar.ErrPost w (TFault t) e w' := by
 obtain ⟨WW, HWW, HBK, HBA, hsz⟩ := sh1 w #[.slice p len cap, .int .i64 t.ff, .int .i64 t.fb, .int .i64 t.db, .int .i64 t.al] 24
 have HRA : Hid (RowD WW p len t.ts) := h.below HBA.out
 have c0 : WW.cell? ⟨w.heap.size, 0, none⟩ = some (.slice p len cap) := HBK.out.cell 0
 have HFA : Hid (Calls Tryz.prog 56 #[.slice p len cap] WW fun e w' => tar.ErrPost WW (tar.FaultIs t.ts) e w') := tar.rfault p len cap t.ts _ HRA.out hl
 have HN : Hid (¬ tar.Right t.ts) := hr
 clear h hl hr HRA
 go_enter Tryz.func34, Tryz.ntmps34
 go_upto_region 1 with fail
 rw [HWW.out]
 clear HWW
 go_wp2_with fail
 refine HFA.out.mono ?_
 rintro e w1 ⟨f, rfl, hf, hb1⟩
 have HB1 : Hid (Below w.heap.size w w1) := HBA.out.trans (hb1.mono (Nat.le_of_lt hsz))
 have HK1 : Hid (Blk w1 w.heap.size #[.slice p len cap, .int .i64 t.ff, .int .i64 t.fb, .int .i64 t.db, .int .i64 t.al] 24) := HBK.out.below hb1 hsz
 have d1 : w1.cell? ⟨w.heap.size, 1, none⟩ = some (.int .i64 t.ff) := HK1.out.cell 1
 have d2 : w1.cell? ⟨w.heap.size, 2, none⟩ = some (.int .i64 t.fb) := HK1.out.cell 2
 have d3 : w1.cell? ⟨w.heap.size, 3, none⟩ = some (.int .i64 t.db) := HK1.out.cell 3
 have d4 : w1.cell? ⟨w.heap.size, 4, none⟩ = some (.int .i64 t.al) := HK1.out.cell 4
 have HF : Hid (tar.FaultIs t.ts f) := hf
 have hne : (f != 0) = true := by simpa using fun e => HN.out (hf.ok.1 e)
 clear hf HFA hb1 c0 HBK HK1 hsz
 go_wp2_with fail
 all_goals first
  | (rename_i q1 q2; exact absurd q1 (by simp [undef]))
  | (go_ret; exact ⟨_, rfl, .inl ⟨HN.out, HF.out⟩, HB1.out⟩)
set_option maxHeartbeats 2000000 in
theorem tfa1 (t : Tm) (p : Option Addr) (len cap : Nat) (w : World) (h : RowD w p len t.ts) (hl : len ≤ maxLen) (hr : tar.Right t.ts) (h1 : ¬ (0 ≤ t.ff ∧ t.ff ≤ 100000)) : Calls Tryz.prog 34 #[.agg #[.slice p len cap, .int .i64 t.ff, .int .i64 t.fb, .int .i64 t.db, .int .i64 t.al]] w fun e w' => tar.ErrPost w (TFault t) e w' := by
 obtain ⟨WW, HWW, HBK, HBA, hsz⟩ := sh1 w #[.slice p len cap, .int .i64 t.ff, .int .i64 t.fb, .int .i64 t.db, .int .i64 t.al] 24
 have HRA : Hid (RowD WW p len t.ts) := h.below HBA.out
 have c0 : WW.cell? ⟨w.heap.size, 0, none⟩ = some (.slice p len cap) := HBK.out.cell 0
 have HFA : Hid (Calls Tryz.prog 56 #[.slice p len cap] WW fun e w' => tar.ErrPost WW (tar.FaultIs t.ts) e w') := tar.rfault p len cap t.ts _ HRA.out hl
 have HI1 : Hid (∀ W, Calls Tryz.prog 25 #[.int .i64 t.ff, .int .i64 0, .int .i64 100000] W fun e w' => e = .returned (.bool (decide (0 ≤ t.ff ∧ t.ff ≤ 100000))) ∧ w' = W) := fun W => cal.cin t.ff 0 100000 W
 rw [decide_eq_false h1] at HI1
 have HX : Hid (¬ TOk t) := fun hh => h1 hh.1
 have HN : Hid (tar.Right t.ts) := hr
 clear h hl hr HRA h1
 go_enter Tryz.func34, Tryz.ntmps34
 go_upto_region 1 with fail
 rw [HWW.out]
 clear HWW
 go_wp2_with fail
 refine HFA.out.mono ?_
 rintro e w1 ⟨f, rfl, hf, hb1⟩
 have HB1 : Hid (Below w.heap.size w w1) := HBA.out.trans (hb1.mono (Nat.le_of_lt hsz))
 have HK1 : Hid (Blk w1 w.heap.size #[.slice p len cap, .int .i64 t.ff, .int .i64 t.fb, .int .i64 t.db, .int .i64 t.al] 24) := HBK.out.below hb1 hsz
 have d1 : w1.cell? ⟨w.heap.size, 1, none⟩ = some (.int .i64 t.ff) := HK1.out.cell 1
 have d2 : w1.cell? ⟨w.heap.size, 2, none⟩ = some (.int .i64 t.fb) := HK1.out.cell 2
 have d3 : w1.cell? ⟨w.heap.size, 3, none⟩ = some (.int .i64 t.db) := HK1.out.cell 3
 have d4 : w1.cell? ⟨w.heap.size, 4, none⟩ = some (.int .i64 t.al) := HK1.out.cell 4
 obtain rfl : f = 0 := hf.ok.2 HN.out
 clear hf HFA hb1 c0 HBK HK1 hsz
 go_wp2_with fail
 refine (HI1.out _).mono ?_
 rintro e w2 ⟨rfl, hw2⟩
 subst hw2
 go_wp2_with fail
 all_goals first
  | (rename_i q1 q2; exact absurd q1 (by simp [undef]))
  | (go_ret; exact ⟨_, rfl, .inr (.inl ⟨HN.out, HX.out, rfl⟩), HB1.out⟩)
set_option maxHeartbeats 2000000 in
theorem tfa2 (t : Tm) (p : Option Addr) (len cap : Nat) (w : World) (h : RowD w p len t.ts) (hl : len ≤ maxLen) (hr : tar.Right t.ts) (h1 : 0 ≤ t.ff ∧ t.ff ≤ 100000) (h2 : ¬ (0 ≤ t.fb ∧ t.fb ≤ 10000)) : Calls Tryz.prog 34 #[.agg #[.slice p len cap, .int .i64 t.ff, .int .i64 t.fb, .int .i64 t.db, .int .i64 t.al]] w fun e w' => tar.ErrPost w (TFault t) e w' := by
 obtain ⟨WW, HWW, HBK, HBA, hsz⟩ := sh1 w #[.slice p len cap, .int .i64 t.ff, .int .i64 t.fb, .int .i64 t.db, .int .i64 t.al] 24
 have HRA : Hid (RowD WW p len t.ts) := h.below HBA.out
 have c0 : WW.cell? ⟨w.heap.size, 0, none⟩ = some (.slice p len cap) := HBK.out.cell 0
 have HFA : Hid (Calls Tryz.prog 56 #[.slice p len cap] WW fun e w' => tar.ErrPost WW (tar.FaultIs t.ts) e w') := tar.rfault p len cap t.ts _ HRA.out hl
 have HI1 : Hid (∀ W, Calls Tryz.prog 25 #[.int .i64 t.ff, .int .i64 0, .int .i64 100000] W fun e w' => e = .returned (.bool (decide (0 ≤ t.ff ∧ t.ff ≤ 100000))) ∧ w' = W) := fun W => cal.cin t.ff 0 100000 W
 rw [decide_eq_true h1] at HI1
 have HI2 : Hid (∀ W, Calls Tryz.prog 25 #[.int .i64 t.fb, .int .i64 0, .int .i64 10000] W fun e w' => e = .returned (.bool (decide (0 ≤ t.fb ∧ t.fb ≤ 10000))) ∧ w' = W) := fun W => cal.cin t.fb 0 10000 W
 rw [decide_eq_false h2] at HI2
 have HX : Hid (¬ TOk t) := fun hh => h2 hh.2.1
 have HN : Hid (tar.Right t.ts) := hr
 clear h hl hr HRA h1 h2
 go_enter Tryz.func34, Tryz.ntmps34
 go_upto_region 1 with fail
 rw [HWW.out]
 clear HWW
 go_wp2_with fail
 refine HFA.out.mono ?_
 rintro e w1 ⟨f, rfl, hf, hb1⟩
 have HB1 : Hid (Below w.heap.size w w1) := HBA.out.trans (hb1.mono (Nat.le_of_lt hsz))
 have HK1 : Hid (Blk w1 w.heap.size #[.slice p len cap, .int .i64 t.ff, .int .i64 t.fb, .int .i64 t.db, .int .i64 t.al] 24) := HBK.out.below hb1 hsz
 have d1 : w1.cell? ⟨w.heap.size, 1, none⟩ = some (.int .i64 t.ff) := HK1.out.cell 1
 have d2 : w1.cell? ⟨w.heap.size, 2, none⟩ = some (.int .i64 t.fb) := HK1.out.cell 2
 have d3 : w1.cell? ⟨w.heap.size, 3, none⟩ = some (.int .i64 t.db) := HK1.out.cell 3
 have d4 : w1.cell? ⟨w.heap.size, 4, none⟩ = some (.int .i64 t.al) := HK1.out.cell 4
 obtain rfl : f = 0 := hf.ok.2 HN.out
 clear hf HFA hb1 c0 HBK HK1 hsz
 go_wp2_with fail
 refine (HI1.out _).mono ?_
 rintro e w2 ⟨rfl, hw2⟩
 subst hw2
 go_wp2_with fail
 refine (HI2.out _).mono ?_
 rintro e w2 ⟨rfl, hw2⟩
 subst hw2
 go_wp2_with fail
 all_goals first
  | (rename_i q1 q2; exact absurd q1 (by simp [undef]))
  | (go_ret; exact ⟨_, rfl, .inr (.inl ⟨HN.out, HX.out, rfl⟩), HB1.out⟩)
set_option maxHeartbeats 2000000 in
theorem tfa3 (t : Tm) (p : Option Addr) (len cap : Nat) (w : World) (h : RowD w p len t.ts) (hl : len ≤ maxLen) (hr : tar.Right t.ts) (h1 : 0 ≤ t.ff ∧ t.ff ≤ 100000) (h2 : 0 ≤ t.fb ∧ t.fb ≤ 10000) (h3 : ¬ (0 ≤ t.db ∧ t.db ≤ 10000)) : Calls Tryz.prog 34 #[.agg #[.slice p len cap, .int .i64 t.ff, .int .i64 t.fb, .int .i64 t.db, .int .i64 t.al]] w fun e w' => tar.ErrPost w (TFault t) e w' := by
 obtain ⟨WW, HWW, HBK, HBA, hsz⟩ := sh1 w #[.slice p len cap, .int .i64 t.ff, .int .i64 t.fb, .int .i64 t.db, .int .i64 t.al] 24
 have HRA : Hid (RowD WW p len t.ts) := h.below HBA.out
 have c0 : WW.cell? ⟨w.heap.size, 0, none⟩ = some (.slice p len cap) := HBK.out.cell 0
 have HFA : Hid (Calls Tryz.prog 56 #[.slice p len cap] WW fun e w' => tar.ErrPost WW (tar.FaultIs t.ts) e w') := tar.rfault p len cap t.ts _ HRA.out hl
 have HI1 : Hid (∀ W, Calls Tryz.prog 25 #[.int .i64 t.ff, .int .i64 0, .int .i64 100000] W fun e w' => e = .returned (.bool (decide (0 ≤ t.ff ∧ t.ff ≤ 100000))) ∧ w' = W) := fun W => cal.cin t.ff 0 100000 W
 rw [decide_eq_true h1] at HI1
 have HI2 : Hid (∀ W, Calls Tryz.prog 25 #[.int .i64 t.fb, .int .i64 0, .int .i64 10000] W fun e w' => e = .returned (.bool (decide (0 ≤ t.fb ∧ t.fb ≤ 10000))) ∧ w' = W) := fun W => cal.cin t.fb 0 10000 W
 rw [decide_eq_true h2] at HI2
 have HI3 : Hid (∀ W, Calls Tryz.prog 25 #[.int .i64 t.db, .int .i64 0, .int .i64 10000] W fun e w' => e = .returned (.bool (decide (0 ≤ t.db ∧ t.db ≤ 10000))) ∧ w' = W) := fun W => cal.cin t.db 0 10000 W
 rw [decide_eq_false h3] at HI3
 have HX : Hid (¬ TOk t) := fun hh => h3 hh.2.2.1
 have HN : Hid (tar.Right t.ts) := hr
 clear h hl hr HRA h1 h2 h3
 go_enter Tryz.func34, Tryz.ntmps34
 go_upto_region 1 with fail
 rw [HWW.out]
 clear HWW
 go_wp2_with fail
 refine HFA.out.mono ?_
 rintro e w1 ⟨f, rfl, hf, hb1⟩
 have HB1 : Hid (Below w.heap.size w w1) := HBA.out.trans (hb1.mono (Nat.le_of_lt hsz))
 have HK1 : Hid (Blk w1 w.heap.size #[.slice p len cap, .int .i64 t.ff, .int .i64 t.fb, .int .i64 t.db, .int .i64 t.al] 24) := HBK.out.below hb1 hsz
 have d1 : w1.cell? ⟨w.heap.size, 1, none⟩ = some (.int .i64 t.ff) := HK1.out.cell 1
 have d2 : w1.cell? ⟨w.heap.size, 2, none⟩ = some (.int .i64 t.fb) := HK1.out.cell 2
 have d3 : w1.cell? ⟨w.heap.size, 3, none⟩ = some (.int .i64 t.db) := HK1.out.cell 3
 have d4 : w1.cell? ⟨w.heap.size, 4, none⟩ = some (.int .i64 t.al) := HK1.out.cell 4
 obtain rfl : f = 0 := hf.ok.2 HN.out
 clear hf HFA hb1 c0 HBK HK1 hsz
 go_wp2_with fail
 refine (HI1.out _).mono ?_
 rintro e w2 ⟨rfl, hw2⟩
 subst hw2
 go_wp2_with fail
 refine (HI2.out _).mono ?_
 rintro e w2 ⟨rfl, hw2⟩
 subst hw2
 go_wp2_with fail
 refine (HI3.out _).mono ?_
 rintro e w2 ⟨rfl, hw2⟩
 subst hw2
 go_wp2_with fail
 all_goals first
  | (rename_i q1 q2; exact absurd q1 (by simp [undef]))
  | (go_ret; exact ⟨_, rfl, .inr (.inl ⟨HN.out, HX.out, rfl⟩), HB1.out⟩)
set_option maxHeartbeats 2000000 in
theorem tfa4 (t : Tm) (p : Option Addr) (len cap : Nat) (w : World) (h : RowD w p len t.ts) (hl : len ≤ maxLen) (hr : tar.Right t.ts) (h1 : 0 ≤ t.ff ∧ t.ff ≤ 100000) (h2 : 0 ≤ t.fb ∧ t.fb ≤ 10000) (h3 : 0 ≤ t.db ∧ t.db ≤ 10000) (h4 : ¬ (0 ≤ t.al ∧ t.al ≤ 2097151)) : Calls Tryz.prog 34 #[.agg #[.slice p len cap, .int .i64 t.ff, .int .i64 t.fb, .int .i64 t.db, .int .i64 t.al]] w fun e w' => tar.ErrPost w (TFault t) e w' := by
 obtain ⟨WW, HWW, HBK, HBA, hsz⟩ := sh1 w #[.slice p len cap, .int .i64 t.ff, .int .i64 t.fb, .int .i64 t.db, .int .i64 t.al] 24
 have HRA : Hid (RowD WW p len t.ts) := h.below HBA.out
 have c0 : WW.cell? ⟨w.heap.size, 0, none⟩ = some (.slice p len cap) := HBK.out.cell 0
 have HFA : Hid (Calls Tryz.prog 56 #[.slice p len cap] WW fun e w' => tar.ErrPost WW (tar.FaultIs t.ts) e w') := tar.rfault p len cap t.ts _ HRA.out hl
 have HI1 : Hid (∀ W, Calls Tryz.prog 25 #[.int .i64 t.ff, .int .i64 0, .int .i64 100000] W fun e w' => e = .returned (.bool (decide (0 ≤ t.ff ∧ t.ff ≤ 100000))) ∧ w' = W) := fun W => cal.cin t.ff 0 100000 W
 rw [decide_eq_true h1] at HI1
 have HI2 : Hid (∀ W, Calls Tryz.prog 25 #[.int .i64 t.fb, .int .i64 0, .int .i64 10000] W fun e w' => e = .returned (.bool (decide (0 ≤ t.fb ∧ t.fb ≤ 10000))) ∧ w' = W) := fun W => cal.cin t.fb 0 10000 W
 rw [decide_eq_true h2] at HI2
 have HI3 : Hid (∀ W, Calls Tryz.prog 25 #[.int .i64 t.db, .int .i64 0, .int .i64 10000] W fun e w' => e = .returned (.bool (decide (0 ≤ t.db ∧ t.db ≤ 10000))) ∧ w' = W) := fun W => cal.cin t.db 0 10000 W
 rw [decide_eq_true h3] at HI3
 have HI4 : Hid (∀ W, Calls Tryz.prog 25 #[.int .i64 t.al, .int .i64 0, .int .i64 2097151] W fun e w' => e = .returned (.bool (decide (0 ≤ t.al ∧ t.al ≤ 2097151))) ∧ w' = W) := fun W => cal.cin t.al 0 2097151 W
 rw [decide_eq_false h4] at HI4
 have HX : Hid (¬ TOk t) := fun hh => h4 hh.2.2.2
 have HN : Hid (tar.Right t.ts) := hr
 clear h hl hr HRA h1 h2 h3 h4
 go_enter Tryz.func34, Tryz.ntmps34
 go_upto_region 1 with fail
 rw [HWW.out]
 clear HWW
 go_wp2_with fail
 refine HFA.out.mono ?_
 rintro e w1 ⟨f, rfl, hf, hb1⟩
 have HB1 : Hid (Below w.heap.size w w1) := HBA.out.trans (hb1.mono (Nat.le_of_lt hsz))
 have HK1 : Hid (Blk w1 w.heap.size #[.slice p len cap, .int .i64 t.ff, .int .i64 t.fb, .int .i64 t.db, .int .i64 t.al] 24) := HBK.out.below hb1 hsz
 have d1 : w1.cell? ⟨w.heap.size, 1, none⟩ = some (.int .i64 t.ff) := HK1.out.cell 1
 have d2 : w1.cell? ⟨w.heap.size, 2, none⟩ = some (.int .i64 t.fb) := HK1.out.cell 2
 have d3 : w1.cell? ⟨w.heap.size, 3, none⟩ = some (.int .i64 t.db) := HK1.out.cell 3
 have d4 : w1.cell? ⟨w.heap.size, 4, none⟩ = some (.int .i64 t.al) := HK1.out.cell 4
 obtain rfl : f = 0 := hf.ok.2 HN.out
 clear hf HFA hb1 c0 HBK HK1 hsz
 go_wp2_with fail
 refine (HI1.out _).mono ?_
 rintro e w2 ⟨rfl, hw2⟩
 subst hw2
 go_wp2_with fail
 refine (HI2.out _).mono ?_
 rintro e w2 ⟨rfl, hw2⟩
 subst hw2
 go_wp2_with fail
 refine (HI3.out _).mono ?_
 rintro e w2 ⟨rfl, hw2⟩
 subst hw2
 go_wp2_with fail
 refine (HI4.out _).mono ?_
 rintro e w2 ⟨rfl, hw2⟩
 subst hw2
 go_wp2_with fail
 all_goals first
  | (rename_i q1 q2; exact absurd q1 (by simp [undef]))
  | (go_ret; exact ⟨_, rfl, .inr (.inl ⟨HN.out, HX.out, rfl⟩), HB1.out⟩)
set_option maxHeartbeats 2000000 in
theorem tfa5 (t : Tm) (p : Option Addr) (len cap : Nat) (w : World) (h : RowD w p len t.ts) (hl : len ≤ maxLen) (hr : tar.Right t.ts) (h1 : 0 ≤ t.ff ∧ t.ff ≤ 100000) (h2 : 0 ≤ t.fb ∧ t.fb ≤ 10000) (h3 : 0 ≤ t.db ∧ t.db ≤ 10000) (h4 : 0 ≤ t.al ∧ t.al ≤ 2097151) : Calls Tryz.prog 34 #[.agg #[.slice p len cap, .int .i64 t.ff, .int .i64 t.fb, .int .i64 t.db, .int .i64 t.al]] w fun e w' => tar.ErrPost w (TFault t) e w' := by
 obtain ⟨WW, HWW, HBK, HBA, hsz⟩ := sh1 w #[.slice p len cap, .int .i64 t.ff, .int .i64 t.fb, .int .i64 t.db, .int .i64 t.al] 24
 have HRA : Hid (RowD WW p len t.ts) := h.below HBA.out
 have c0 : WW.cell? ⟨w.heap.size, 0, none⟩ = some (.slice p len cap) := HBK.out.cell 0
 have HFA : Hid (Calls Tryz.prog 56 #[.slice p len cap] WW fun e w' => tar.ErrPost WW (tar.FaultIs t.ts) e w') := tar.rfault p len cap t.ts _ HRA.out hl
 have HI1 : Hid (∀ W, Calls Tryz.prog 25 #[.int .i64 t.ff, .int .i64 0, .int .i64 100000] W fun e w' => e = .returned (.bool (decide (0 ≤ t.ff ∧ t.ff ≤ 100000))) ∧ w' = W) := fun W => cal.cin t.ff 0 100000 W
 rw [decide_eq_true h1] at HI1
 have HI2 : Hid (∀ W, Calls Tryz.prog 25 #[.int .i64 t.fb, .int .i64 0, .int .i64 10000] W fun e w' => e = .returned (.bool (decide (0 ≤ t.fb ∧ t.fb ≤ 10000))) ∧ w' = W) := fun W => cal.cin t.fb 0 10000 W
 rw [decide_eq_true h2] at HI2
 have HI3 : Hid (∀ W, Calls Tryz.prog 25 #[.int .i64 t.db, .int .i64 0, .int .i64 10000] W fun e w' => e = .returned (.bool (decide (0 ≤ t.db ∧ t.db ≤ 10000))) ∧ w' = W) := fun W => cal.cin t.db 0 10000 W
 rw [decide_eq_true h3] at HI3
 have HI4 : Hid (∀ W, Calls Tryz.prog 25 #[.int .i64 t.al, .int .i64 0, .int .i64 2097151] W fun e w' => e = .returned (.bool (decide (0 ≤ t.al ∧ t.al ≤ 2097151))) ∧ w' = W) := fun W => cal.cin t.al 0 2097151 W
 rw [decide_eq_true h4] at HI4
 have HX : Hid (TOk t) := ⟨h1, h2, h3, h4⟩
 have HN : Hid (tar.Right t.ts) := hr
 clear h hl hr HRA h1 h2 h3 h4
 go_enter Tryz.func34, Tryz.ntmps34
 go_upto_region 1 with fail
 rw [HWW.out]
 clear HWW
 go_wp2_with fail
 refine HFA.out.mono ?_
 rintro e w1 ⟨f, rfl, hf, hb1⟩
 have HB1 : Hid (Below w.heap.size w w1) := HBA.out.trans (hb1.mono (Nat.le_of_lt hsz))
 have HK1 : Hid (Blk w1 w.heap.size #[.slice p len cap, .int .i64 t.ff, .int .i64 t.fb, .int .i64 t.db, .int .i64 t.al] 24) := HBK.out.below hb1 hsz
 have d1 : w1.cell? ⟨w.heap.size, 1, none⟩ = some (.int .i64 t.ff) := HK1.out.cell 1
 have d2 : w1.cell? ⟨w.heap.size, 2, none⟩ = some (.int .i64 t.fb) := HK1.out.cell 2
 have d3 : w1.cell? ⟨w.heap.size, 3, none⟩ = some (.int .i64 t.db) := HK1.out.cell 3
 have d4 : w1.cell? ⟨w.heap.size, 4, none⟩ = some (.int .i64 t.al) := HK1.out.cell 4
 obtain rfl : f = 0 := hf.ok.2 HN.out
 clear hf HFA hb1 c0 HBK HK1 hsz
 go_wp2_with fail
 refine (HI1.out _).mono ?_
 rintro e w2 ⟨rfl, hw2⟩
 subst hw2
 go_wp2_with fail
 refine (HI2.out _).mono ?_
 rintro e w2 ⟨rfl, hw2⟩
 subst hw2
 go_wp2_with fail
 refine (HI3.out _).mono ?_
 rintro e w2 ⟨rfl, hw2⟩
 subst hw2
 go_wp2_with fail
 refine (HI4.out _).mono ?_
 rintro e w2 ⟨rfl, hw2⟩
 subst hw2
 go_wp2_with fail
 all_goals first
  | (rename_i q1 q2; exact absurd q1 (by simp [undef]))
  | (go_ret; exact ⟨_, rfl, .inr (.inr ⟨⟨HN.out, HX.out⟩, rfl⟩), HB1.out⟩)
theorem rterms (t : Tm) (p : Option Addr) (len cap : Nat) (w : World) (h : RowD w p len t.ts) (hl : len ≤ maxLen) : Calls Tryz.prog 34 #[.agg #[.slice p len cap, .int .i64 t.ff, .int .i64 t.fb, .int .i64 t.db, .int .i64 t.al]] w fun e w' => tar.ErrPost w (TFault t) e w' := by
 by_cases hr : tar.Right t.ts
 ·by_cases h1 : 0 ≤ t.ff ∧ t.ff ≤ 100000
  ·by_cases h2 : 0 ≤ t.fb ∧ t.fb ≤ 10000
   ·by_cases h3 : 0 ≤ t.db ∧ t.db ≤ 10000
    ·by_cases h4 : 0 ≤ t.al ∧ t.al ≤ 2097151
     ·exact tfa5 t p len cap w h hl hr h1 h2 h3 h4
     ·exact tfa4 t p len cap w h hl hr h1 h2 h3 h4
    ·exact tfa3 t p len cap w h hl hr h1 h2 h3
   ·exact tfa2 t p len cap w h hl hr h1 h2
  ·exact tfa1 t p len cap w h hl hr h1
 ·exact tfa0 t p len cap w h hl hr
end acc
namespace deb
open tar (Du du0 Came RowD Ld ErrPost TwoPost PairT GaveD)
open Go.RowKit
set_option maxRecDepth 100000
theorem part_split (a b : Int) : a / 10000 * b + a % 10000 * b / 10000 = a * b / 10000 := by
 have e : a * b = a / 10000 * b * 10000 + a % 10000 * b := by
  have h := Int.emod_add_mul_ediv a 10000
  have h2 : a * b = (a % 10000 + 10000 * (a / 10000)) * b := by rw [h]
  rw [h2, Int.add_mul, Int.mul_assoc, Int.mul_comm 10000, Int.add_comm]
 rw [e]
 generalize a / 10000 * b = x
 generalize a % 10000 * b = y
 omega
set_option maxHeartbeats 1000000 in
theorem rparted (a b : Int) (w : World) (h : (0 ≤ a ∧ a ≤ 1000000000000) ∧ 0 ≤ b ∧ b ≤ 10000) :
  Calls Tryz.prog 82 #[.int .i64 a, .int .i64 b] w fun e w' => e = .returned (.tuple #[.int .i64 (a * b / 10000), .int .i64 0]) ∧ w' = w := by
 have HI1 : Hid (∀ W, Calls Tryz.prog 25 #[.int .i64 a, .int .i64 0, .int .i64 1000000000000] W fun e w' => e = .returned (.bool (decide (0 ≤ a ∧ a ≤ 1000000000000))) ∧ w' = W) := fun W => cal.cin a 0 1000000000000 W
 have HI2 : Hid (∀ W, Calls Tryz.prog 25 #[.int .i64 b, .int .i64 0, .int .i64 10000] W fun e w' => e = .returned (.bool (decide (0 ≤ b ∧ b ≤ 10000))) ∧ w' = W) := fun W => cal.cin b 0 10000 W
 rw [decide_eq_true h.1] at HI1
 rw [decide_eq_true h.2] at HI2
 obtain ⟨⟨h1, h2⟩, h3, h4⟩ := h
 obtain ⟨p1, p2⟩ := prod_le (a / 10000) b 100000000 10000 (by omega) (by omega) h3 h4
 obtain ⟨p3, p4⟩ := prod_le (a % 10000) b 10000 10000 (by omega) (by omega) h3 h4
 rw [← part_split]
 go_enter Tryz.func82, Tryz.ntmps82
 go_wp2_with fail
 refine (HI1.out _).mono ?_
 rintro e w1 ⟨rfl, hw1⟩
 subst hw1
 go_wp2_with fail
 refine (HI2.out _).mono ?_
 rintro e w1 ⟨rfl, hw1⟩
 subst hw1
 go_wp2
 go_ret2
 exact ⟨rfl, rfl⟩
set_option maxHeartbeats 1000000 in
theorem rnopart (a b : Int) (w : World) (h : 0 ≤ a ∧ a ≤ 1000000000000) (hb : ¬ (0 ≤ b ∧ b ≤ 10000)) :
  Calls Tryz.prog 82 #[.int .i64 a, .int .i64 b] w fun e w' => e = .returned (.tuple #[.int .i64 0, .int .i64 2]) ∧ w' = w := by
 have HI1 : Hid (∀ W, Calls Tryz.prog 25 #[.int .i64 a, .int .i64 0, .int .i64 1000000000000] W fun e w' => e = .returned (.bool (decide (0 ≤ a ∧ a ≤ 1000000000000))) ∧ w' = W) := fun W => cal.cin a 0 1000000000000 W
 have HI2 : Hid (∀ W, Calls Tryz.prog 25 #[.int .i64 b, .int .i64 0, .int .i64 10000] W fun e w' => e = .returned (.bool (decide (0 ≤ b ∧ b ≤ 10000))) ∧ w' = W) := fun W => cal.cin b 0 10000 W
 rw [decide_eq_true h] at HI1
 rw [decide_eq_false hb] at HI2
 clear h hb
 go_enter Tryz.func82, Tryz.ntmps82
 go_wp2_with fail
 refine (HI1.out _).mono ?_
 rintro e w1 ⟨rfl, hw1⟩
 subst hw1
 go_wp2_with fail
 refine (HI2.out _).mono ?_
 rintro e w1 ⟨rfl, hw1⟩
 subst hw1
 go_wp2
 go_ret2
 exact ⟨rfl, rfl⟩
set_option maxHeartbeats 1000000 in
theorem rshare (t bp : Int) (w : World) : Calls Tryz.prog 94 #[.int .i64 t, .int .i64 bp] w fun e w' => ∃ s f, e = .returned (.tuple #[.int .i64 s, .int .i64 f]) ∧ ShareIs t bp s f ∧ w' = w := by
 have HIT : Hid (∀ W, Calls Tryz.prog 25 #[.int .i64 t, .int .i64 0, .int .i64 100000000] W fun e w' => e = .returned (.bool (decide (0 ≤ t ∧ t ≤ 100000000))) ∧ w' = W) := fun W => cal.cin t 0 100000000 W
 by_cases ht : 0 ≤ t ∧ t ≤ 100000000
 ·rw [decide_eq_true ht] at HIT
  by_cases hb : 0 ≤ bp ∧ bp ≤ 10000
  ·have HPA : Hid (∀ W, Calls Tryz.prog 82 #[.int .i64 t, .int .i64 bp] W fun e w' => e = .returned (.tuple #[.int .i64 (t * bp / 10000), .int .i64 0]) ∧ w' = W) := fun W => rparted t bp W ⟨⟨ht.1, by omega⟩, hb⟩
   have HT : Hid (TMay t bp) := ⟨ht, hb⟩
   clear ht hb
   go_enter Tryz.func94, Tryz.ntmps94
   go_wp2_with fail
   refine (HIT.out _).mono ?_
   rintro e w1 ⟨rfl, hw1⟩
   subst hw1
   go_wp2_with fail
   refine (HPA.out _).mono ?_
   rintro e w1 ⟨rfl, hw1⟩
   subst hw1
   go_wp2_with fail
   go_ret2
   exact ⟨_, _, rfl, .inl ⟨HT.out, rfl, rfl⟩, rfl⟩
  ·have HPA : Hid (∀ W, Calls Tryz.prog 82 #[.int .i64 t, .int .i64 bp] W fun e w' => e = .returned (.tuple #[.int .i64 0, .int .i64 2]) ∧ w' = W) := fun W => rnopart t bp W ⟨ht.1, by omega⟩ hb
   have HT : Hid (¬ TMay t bp) := fun h => hb h.2
   clear ht hb
   go_enter Tryz.func94, Tryz.ntmps94
   go_wp2_with fail
   refine (HIT.out _).mono ?_
   rintro e w1 ⟨rfl, hw1⟩
   subst hw1
   go_wp2_with fail
   refine (HPA.out _).mono ?_
   rintro e w1 ⟨rfl, hw1⟩
   subst hw1
   go_wp2_with fail
   go_ret2
   exact ⟨_, _, rfl, .inr ⟨HT.out, rfl, rfl⟩, rfl⟩
 ·rw [decide_eq_false ht] at HIT
  have HT : Hid (¬ TMay t bp) := fun h => ht h.1
  clear ht
  go_enter Tryz.func94, Tryz.ntmps94
  go_wp2_with fail
  refine (HIT.out _).mono ?_
  rintro e w1 ⟨rfl, hw1⟩
  subst hw1
  go_wp2_with fail
  go_ret2
  exact ⟨_, _, rfl, .inr ⟨HT.out, rfl, rfl⟩, rfl⟩
end deb
end Go.Proofs.YtomibnggmhjdfaaGreat
