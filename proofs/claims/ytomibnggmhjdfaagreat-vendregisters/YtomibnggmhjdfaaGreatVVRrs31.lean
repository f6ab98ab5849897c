import Derived.Test.YtomibnggmhjdfaaGreatVVRrs30
set_option linter.unusedVariables false
set_option linter.unusedSimpArgs false
namespace Go.Proofs.YtomibnggmhjdfaaGreat
namespace acc
open tar (Du du0 Came RowD Ld PairT)
open Go.RowKit
set_option maxRecDepth 100000
def RollR (x : Ac) (m : Int) (b0 : Bi) (y : Ac) (b : Bi) (f : Int) : Prop := ((¬ RMay x m ∧ RErr x m f ∧ y = x) ∨ (RMay x m ∧ y = rolled x m ∧ f = 0)) ∧ b = b0
set_option maxHeartbeats 4000000 in
theorem proll (g : Nat) (x : Ac) (b : Bi) (p : Option Addr) (len cap : Nat) (m : Int) (w : World) (hw : Blk w g (wcs x b p len cap) 121) (hd : deb.Fresh w (g + 1) p len cap x.ds) (ha : AMay x) : Calls Tryz.prog 118 #[.pointer (some ⟨g, 0, none⟩), .int .i64 m] w fun e w' => DPost w g (RollR x m b) e w' := by
 have hgl := hw.lt
 have hmo := ha.2.2.2.2.1
 have HMA : Hid (deb.Mays x.ds) := ha.1
 obtain ⟨me, rv, nx, mo, bo, fr, ds⟩ := x
 obtain ⟨id, te, de, fe, pr, ch, un⟩ := b
 simp only [] at hmo
 have HI : Hid (Blk w g #[.int .i64 me, .int .i64 rv, .int .i64 nx, .int .i64 mo, .int .i64 bo, .int .i64 fr, .slice p len cap, .int .i64 id, .int .i64 te, .int .i64 de, .int .i64 fe, .int .i64 pr, .int .i64 ch, .int .i64 un] 121) := hw
 have HD : Hid (deb.Fresh w (g + 1) p len cap ds) := hd
 have HIM : Hid (∀ W, Calls Tryz.prog 69 #[.int .i64 0, .int .i64 2399, .int .i64 m] W fun e w' => e = .returned (.bool (decide (0 ≤ m ∧ m ≤ 2399))) ∧ w' = W) := fun W => awithin 0 2399 m W
 have q3 : w.cell? ⟨g, 3, none⟩ = some (.int .i64 mo) := HI.out.cell 3
 clear hw hd ha
 by_cases h1 : 0 ≤ m ∧ m ≤ 2399
 ·rw [decide_eq_true h1] at HIM
  by_cases h2 : m < mo
  ·have d2 : decide (m < mo) = true := decide_eq_true h2
   have HV : Hid (RollR ⟨me, rv, nx, mo, bo, fr, ds⟩ m ⟨id, te, de, fe, pr, ch, un⟩ ⟨me, rv, nx, mo, bo, fr, ds⟩ ⟨id, te, de, fe, pr, ch, un⟩ 23) := ⟨.inl ⟨fun hh => by have : mo ≤ m := hh.2; omega, .inr ⟨h1, h2, rfl⟩, rfl⟩, rfl⟩
   clear h1 h2 hmo
   go_enter Tryz.func118, Tryz.ntmps118
   go_wp2_with fail
   refine (HIM.out _).mono ?_
   rintro e w2 ⟨rfl, hw2⟩
   subst w2
   go_wp2_with fail
   go_ret
   exact ⟨_, _, p, len, cap, 23, rfl, HV.out, HI.out, HD.out, Chg.refl _ _⟩
  ·have d2 : decide (m < mo) = false := decide_eq_false h2
   have HRM : Hid (RMay ⟨me, rv, nx, mo, bo, fr, ds⟩ m) := ⟨h1, by show mo ≤ m; omega⟩
   by_cases h3 : mo < m
   ·have d3 : decide (mo < m) = true := decide_eq_true h3
    have hwr : IntKind.i64.wrap (m - mo) = m - mo := by rw [IntKind.wrap_i64]; omega
    have HAG : Hid (Calls Tryz.prog 122 #[.slice p len cap, .int .i64 (m - mo)] w.drew fun e w' => deb.AgePost w.drew ds (m - mo) e w') := deb.kage _ p len cap ds (m - mo) (fresh_drew HD.out).came (tar.wf_mid (by omega) (by omega))
    have HMR : Hid (0 ≤ m - mo ∧ m - mo ≤ 2400) := ⟨by omega, by omega⟩
    have HNE : Hid (¬ m = mo) := by show ¬ _ = _; omega
    clear h1 h2 h3
    go_enter Tryz.func118, Tryz.ntmps118
    go_wp2_with fail
    refine (HIM.out _).mono ?_
    rintro e w2 ⟨rfl, hw2⟩
    subst w2
    go_wp2_with fail
    clear HIM d2 d3 q3
    have q6 : w.drew.cell? ⟨g, 6, none⟩ = some (.slice p len cap) := HI.out.cell 6
    refine wp_region_held_drew (S := fun v => v.cell? ⟨g, 3, none⟩ = some (.int .i64 mo)) (by kernel_rfl) (show w.drew.cell? _ = _ from HI.out.cell 3) (fun hHeld => ?_)
    refine zqt 0 26 (.pointer (some ⟨g, 0, none⟩)) rfl rfl (by kernel_rfl) (fun _ _ _ h => h) (Or.inl ⟨by rfl, fun v hv => by clear hv; go_simp⟩) hHeld ?_
    simp only [Act.put, zqa, zqb, zqc]
    refine zqt 1 27 (.pointer (some ⟨g, 0, none⟩)) rfl rfl (by kernel_rfl) (fun _ _ _ h => h) (Or.inl ⟨by rfl, fun v hv => by clear hv; go_simp⟩) hHeld ?_
    simp only [Act.put, zqa, zqb, zqc]
    refine zqt 2 28 (.pointer (some ⟨g, 0, none⟩)) rfl rfl (by kernel_rfl) (fun _ _ _ h => h) (Or.inl ⟨by rfl, fun v hv => by clear hv; go_simp⟩) hHeld ?_
    simp only [Act.put, zqa, zqb, zqc]
    refine zqt 3 29 (.pointer (some ⟨g, 0, none⟩)) rfl rfl (by kernel_rfl) (fun _ _ _ h => h) (Or.inl ⟨by rfl, fun v hv => by clear hv; go_simp⟩) hHeld ?_
    simp only [Act.put, zqa, zqb, zqc]
    refine zqt 4 30 (.pointer (some ⟨g, 6, none⟩)) rfl rfl (by kernel_rfl) (fun _ _ _ h => h) (Or.inl ⟨by rfl, fun v hv => by clear hv; go_simp⟩) hHeld ?_
    simp only [Act.put, zqa, zqb, zqc]
    refine zqt 6 32 (.int .i64 m) rfl rfl (by kernel_rfl) (fun _ _ _ h => h) (Or.inl ⟨by rfl, fun v hv => by clear hv; go_simp⟩) hHeld ?_
    simp only [Act.put, zqa, zqb, zqc]
    refine zqt 7 33 (.pointer (some ⟨g, 0, none⟩)) rfl rfl (by kernel_rfl) (fun _ _ _ h => h) (Or.inl ⟨by rfl, fun v hv => by clear hv; go_simp⟩) hHeld ?_
    simp only [Act.put, zqa, zqb, zqc]
    refine zqt 8 34 (.pointer (some ⟨g, 0, none⟩)) rfl rfl (by kernel_rfl) (fun _ _ _ h => h) (Or.inl ⟨by rfl, fun v hv => by clear hv; go_simp⟩) hHeld ?_
    simp only [Act.put, zqa, zqb, zqc]
    refine zqt 9 35 (.pointer (some ⟨g, 0, none⟩)) rfl rfl (by kernel_rfl) (fun _ _ _ h => h) (Or.inl ⟨by rfl, fun v hv => by clear hv; go_simp⟩) hHeld ?_
    simp only [Act.put, zqa, zqb, zqc]
    refine zqt 10 36 (.pointer (some ⟨g, 3, none⟩)) rfl rfl (by kernel_rfl) (fun _ _ _ h => h) (Or.inl ⟨by rfl, fun v hv => by clear hv; go_simp⟩) hHeld ?_
    simp only [Act.put, zqa, zqb, zqc]
    refine zqt 11 37 (.int .i64 mo) rfl rfl (by kernel_rfl) (fun _ _ _ h => h) (Or.inl ⟨by rfl, fun v hv => by have g0 := hv; clear hv; go_simp⟩) hHeld ?_
    simp only [Act.put, zqa, zqb, zqc]
    refine zqt 12 38 (.int .i64 (m - mo)) rfl rfl (by kernel_rfl) (fun _ _ _ h => h) (Or.inl ⟨by rfl, fun v hv => by clear hv; go_simp⟩) hHeld ?_
    simp only [Act.put, zqa, zqb, zqc]
    refine wpAnyH_ready (rs := [5]) (by kernel_rfl) (by simp) (AllReadyH.cons rfl (fun K hK => ?_) AllReadyH.nil)
    rw [if_pos (by rfl)]
    refine wp_runOp (v := .slice p len cap) (w' := w.drew) 31 rfl (by clear hK; go_simp) ?_
    refine hK.out _ _ (show w.drew.cell? _ = _ from HI.out.cell 3) (fun hHeld => ?_)
    clear hK K q6
    simp only [Act.put, zqa, zqb, zqc]
    refine wpAnyH_ready (rs := [13]) (by kernel_rfl) (by simp) (AllReadyH.cons rfl (fun K hK => ?_) AllReadyH.nil)
    rw [if_pos (by rfl)]
    refine wp_callOp 39 rfl (by clear hK; go_simp) HAG.out ?_
    rintro e w1 ⟨q, n, c, z, f, rfl, hz, hf, hb1⟩
    obtain ⟨rfl, hz2⟩ := hz.got HMA.out HMR.out
    have HI1 : Hid (Blk w1 g #[.int .i64 me, .int .i64 rv, .int .i64 nx, .int .i64 mo, .int .i64 bo, .int .i64 fr, .slice p len cap, .int .i64 id, .int .i64 te, .int .i64 de, .int .i64 fe, .int .i64 pr, .int .i64 ch, .int .i64 un] 121) := (Blk.drew HI.out 1).next hb1
    have HC1 : Hid (Chg w w1 g) := (Chg.of (bel_drew (Below.refl _ _) 1)).trans (.of hb1)
    have HF1 : Hid (deb.Fresh w1 (g + 1) q n c z) := hf.low (by show g + 1 ≤ w.heap.size; omega)
    have HZ : Hid (z = deb.ageAll ds (m - mo).toNat) := hz2
    refine ⟨_, rfl, hK.out _ _ (HI1.out.cell 3) (fun hHeld => ?_)⟩
    clear hK K hz hf hb1 hz2 HAG HI HD
    simp only [Act.put, zqa, zqb, zqc]
    refine zqt 14 25 (.tuple #[.slice q n c, .int .i64 0]) rfl rfl (by kernel_rfl) (fun _ _ _ h => h) (Or.inl ⟨by rfl, fun v hv => by clear hv; go_simp⟩) hHeld ?_
    simp only [Act.put, zqa, zqb, zqc]
    refine zqt 15 40 (.slice q n c) rfl rfl (by kernel_rfl) (fun _ _ _ h => h) (Or.inl ⟨by rfl, fun v hv => by clear hv; go_simp⟩) hHeld ?_
    simp only [Act.put, zqa, zqb, zqc]
    refine zqt 16 41 (.int .i64 0) rfl rfl (by kernel_rfl) (fun _ _ _ h => h) (Or.inl ⟨by rfl, fun v hv => by clear hv; go_simp⟩) hHeld ?_
    simp only [Act.put, zqa, zqb, zqc]
    refine zqt 17 42 (.pointer (some ⟨g, 0, none⟩)) rfl rfl (by kernel_rfl) (fun _ _ _ h => h) (Or.inl ⟨by rfl, fun v hv => by clear hv; go_simp⟩) hHeld ?_
    simp only [Act.put, zqa, zqb, zqc]
    refine zqt 18 43 (.pointer (some ⟨g, 0, none⟩)) rfl rfl (by kernel_rfl) (fun _ _ _ h => h) (Or.inl ⟨by rfl, fun v hv => by clear hv; go_simp⟩) hHeld ?_
    simp only [Act.put, zqa, zqb, zqc]
    refine zqt 19 44 (.pointer (some ⟨g, 6, none⟩)) rfl rfl (by kernel_rfl) (fun _ _ _ h => h) (Or.inl ⟨by rfl, fun v hv => by clear hv; go_simp⟩) hHeld ?_
    simp only [Act.put, zqa, zqb, zqc]
    refine wpAnyH_ready (rs := [20]) (by kernel_rfl) (by simp) (AllReadyH.cons rfl (fun K hK => ?_) AllReadyH.nil)
    rw [if_pos (by rfl)]
    refine wp_letOp1 57 _ _ rfl g 6 rfl (.slice q n c) rfl rfl (by kernel_rfl) rfl #[.int .i64 me, .int .i64 rv, .int .i64 nx, .int .i64 mo, .int .i64 bo, .int .i64 fr, .slice p len cap, .int .i64 id, .int .i64 te, .int .i64 de, .int .i64 fe, .int .i64 pr, .int .i64 ch, .int .i64 un] 121 HI1.out (by simp) rfl ?_
    intro W2 hU
    have HI2 : Hid (Blk W2 g #[.int .i64 me, .int .i64 rv, .int .i64 nx, .int .i64 mo, .int .i64 bo, .int .i64 fr, .slice q n c, .int .i64 id, .int .i64 te, .int .i64 de, .int .i64 fe, .int .i64 pr, .int .i64 ch, .int .i64 un] 121) := hU.blk
    have HC2 : Hid (Chg w W2 g) := HC1.out.trans (.upd hU)
    have HF2 : Hid (deb.Fresh W2 (g + 1) q n c z) := fresh_chg HF1.out (.upd hU)
    clear hU HF1 HC1
    refine hK.out _ _ (HI2.out.cell 3) (fun hHeld => ?_)
    clear hK K HI1
    refine wpAnyH_done (by kernel_rfl) ?_ _
    clear hHeld
    go_wp2_with (first | (refine wp_let1 rfl 3 _ _ rfl g 3 rfl .i64 m rfl (by kernel_rfl) #[.int .i64 me, .int .i64 rv, .int .i64 nx, .int .i64 mo, .int .i64 bo, .int .i64 fr, .slice q n c, .int .i64 id, .int .i64 te, .int .i64 de, .int .i64 fe, .int .i64 pr, .int .i64 ch, .int .i64 un] 121 HI2.out (by simp) ?_) | fail)
    intro W3 hU
    have HI3 : Hid (Blk W3 g #[.int .i64 me, .int .i64 rv, .int .i64 nx, .int .i64 m, .int .i64 bo, .int .i64 fr, .slice q n c, .int .i64 id, .int .i64 te, .int .i64 de, .int .i64 fe, .int .i64 pr, .int .i64 ch, .int .i64 un] 121) := hU.blk
    have HC3 : Hid (Chg w W3 g) := HC2.out.trans (.upd hU)
    have HF3 : Hid (deb.Fresh W3 (g + 1) q n c z) := fresh_chg HF2.out (.upd hU)
    clear hU HF2 HC2 HI2
    go_wp2_with (first | (refine wp_let1 rfl 3 _ _ rfl g 4 rfl .i64 0 rfl (by kernel_rfl) #[.int .i64 me, .int .i64 rv, .int .i64 nx, .int .i64 m, .int .i64 bo, .int .i64 fr, .slice q n c, .int .i64 id, .int .i64 te, .int .i64 de, .int .i64 fe, .int .i64 pr, .int .i64 ch, .int .i64 un] 121 HI3.out (by simp) ?_) | fail)
    intro W4 hU
    have HI4 : Hid (Blk W4 g #[.int .i64 me, .int .i64 rv, .int .i64 nx, .int .i64 m, .int .i64 0, .int .i64 fr, .slice q n c, .int .i64 id, .int .i64 te, .int .i64 de, .int .i64 fe, .int .i64 pr, .int .i64 ch, .int .i64 un] 121) := hU.blk
    have HC4 : Hid (Chg w W4 g) := HC3.out.trans (.upd hU)
    have HF4 : Hid (deb.Fresh W4 (g + 1) q n c z) := fresh_chg HF3.out (.upd hU)
    have HV : Hid (RollR ⟨me, rv, nx, mo, bo, fr, ds⟩ m ⟨id, te, de, fe, pr, ch, un⟩ ⟨me, rv, nx, m, 0, fr, z⟩ ⟨id, te, de, fe, pr, ch, un⟩ 0) := ⟨.inr ⟨HRM.out, by unfold rolled; rw [if_neg HNE.out, HZ.out], rfl⟩, rfl⟩
    clear hU HF3 HC3 HI3
    go_wp2_with fail
    go_ret
    exact ⟨⟨me, rv, nx, m, 0, fr, z⟩, _, q, n, c, 0, rfl, HV.out, HI4.out, HF4.out, HC4.out⟩
   ·have d3 : decide (mo < m) = false := decide_eq_false h3
    have HV : Hid (RollR ⟨me, rv, nx, mo, bo, fr, ds⟩ m ⟨id, te, de, fe, pr, ch, un⟩ ⟨me, rv, nx, mo, bo, fr, ds⟩ ⟨id, te, de, fe, pr, ch, un⟩ 0) := ⟨.inr ⟨HRM.out, by unfold rolled; rw [if_pos (by show m = mo; omega)], rfl⟩, rfl⟩
    clear h1 h2 h3 hmo
    go_enter Tryz.func118, Tryz.ntmps118
    go_wp2_with fail
    refine (HIM.out _).mono ?_
    rintro e w2 ⟨rfl, hw2⟩
    subst w2
    go_wp2_with fail
    go_ret
    exact ⟨_, _, p, len, cap, 0, rfl, HV.out, HI.out, HD.out, Chg.refl _ _⟩
 ·rw [decide_eq_false h1] at HIM
  have HV : Hid (RollR ⟨me, rv, nx, mo, bo, fr, ds⟩ m ⟨id, te, de, fe, pr, ch, un⟩ ⟨me, rv, nx, mo, bo, fr, ds⟩ ⟨id, te, de, fe, pr, ch, un⟩ 2) := ⟨.inl ⟨fun hh => h1 hh.1, .inl ⟨h1, rfl⟩, rfl⟩, rfl⟩
  clear h1 hmo q3
  go_enter Tryz.func118, Tryz.ntmps118
  go_wp2_with fail
  refine (HIM.out _).mono ?_
  rintro e w2 ⟨rfl, hw2⟩
  subst w2
  go_wp2_with fail
  go_ret
  exact ⟨_, _, p, len, cap, 2, rfl, HV.out, HI.out, HD.out, Chg.refl _ _⟩
def KcCheck : Prop := ∀ (W : World) (t : Tm) (pt : Option Addr) (lt ct : Nat), TCame W t pt lt ct → Calls Tryz.prog 51 #[t.v pt lt ct] W fun e w' => tar.ErrPost W (TFault t) e w'
end acc
namespace tar
open Go.RowKit
def KtCheck : Prop := ∀ (W : World) (a : Option Addr) (len cap : Nat) (ls : List Du), Came W a len cap ls → Calls Tryz.prog 75 #[.slice a len cap] W fun e w' => ErrPost W (FaultIs ls) e w'
theorem pwithin (lo hi n : Int) (w : World) : Calls Tryz.prog 89 #[.int .i64 lo, .int .i64 hi, .int .i64 n] w fun e w' => e = .returned (.bool (decide (lo ≤ n ∧ n ≤ hi))) ∧ w' = w := by
 by_cases h1 : lo ≤ n
 ·by_cases h2 : n ≤ hi
  ·have h3 : decide (lo ≤ n ∧ n ≤ hi) = true := by simp; omega
   rw [h3]; clear h3
   go_enter Tryz.func89, Tryz.ntmps89
   go_wp2
   go_ret
   exact ⟨rfl, rfl⟩
  ·have h3 : decide (lo ≤ n ∧ n ≤ hi) = false := by simp; omega
   have h4 : decide (n ≤ hi) = false := by simp; omega
   rw [h3]; clear h3 h2
   go_enter Tryz.func89, Tryz.ntmps89
   go_wp2
   go_ret
   exact ⟨rfl, rfl⟩
 ·have h3 : decide (lo ≤ n ∧ n ≤ hi) = false := by simp; omega
  have h4 : decide (lo ≤ n) = false := by simp; omega
  rw [h3]; clear h3 h1
  go_enter Tryz.func89, Tryz.ntmps89
  go_wp2
  go_ret
  exact ⟨rfl, rfl⟩
set_option maxRecDepth 100000
open Classical in
set_option maxHeartbeats 2000000 in
theorem prises (b off k cap : Nat) (ls : List Du) (w1 : World) (hs1 : 1 ≤ k) (hs2 : k ≤ 8) (hlen : ls.length = k) (hbl : b < w1.heap.size) (hc : ∀ i, i < k → w1.cell? ⟨b, off + i * 2, none⟩ = some (.int .i64 (ls.getD i du0).a) ∧ w1.cell? ⟨b, off + i * 2 + 1, none⟩ = some (.int .i64 (ls.getD i du0).b)) : Calls Tryz.prog 90 #[.slice (some ⟨b, off, none⟩) k cap] w1 fun e w' => e = .returned (.bool (decide (Rises ls))) ∧ Below w1.heap.size w1 w' := by
 have HC : Hid (∀ i, i < k → w1.cell? ⟨b, off + i * 2, none⟩ = some (.int .i64 (ls.getD i du0).a) ∧ w1.cell? ⟨b, off + i * 2 + 1, none⟩ = some (.int .i64 (ls.getD i du0).b)) := hc
 have HLEN : Hid (ls.length = k) := hlen
 have hnm : k ≤ 9223372036854775807 := by omega
 clear hc hlen
 go_enter Tryz.func90, Tryz.ntmps90
 go_wp2_with fail
 go_loopw [3] (fun x wr2 => ∃ j : Nat, 1 ≤ j ∧ j ≤ k ∧ x = .int .i64 (j : Int) ∧ (∀ i, 1 ≤ i → i < j → (ls.getD (i - 1) du0).a < (ls.getD i du0).a) ∧ Below w1.heap.size w1 wr2) (fun x _ => k - (intOf x).toNat)
 case atStart => exact ⟨1, Nat.le_refl _, hs1, rfl, fun i h1 h2 => absurd h2 (by omega), Below.refl _ _⟩
 case round =>
  obtain ⟨j, hj1, hj, rfl, hf, hb⟩ := hrel
  have HF : Hid (∀ i, 1 ≤ i → i < j → (ls.getD (i - 1) du0).a < (ls.getD i du0).a) := hf
  have HB : Hid (Below w1.heap.size w1 wr) := hb
  by_cases hlt2 : j < k
  ·have hdl2 : decide ((j : Int) < (k : Int)) = true := by simp; omega
   have c0 : wr.cell? ⟨b, off + j * 2, none⟩ = some (.int .i64 (ls.getD j du0).a) := (hb.cell (p := ⟨b, off + j * 2, none⟩) hbl).trans (HC.out j hlt2).1
   have c1 : wr.cell? ⟨b, off + (j - 1) * 2, none⟩ = some (.int .i64 (ls.getD (j - 1) du0).a) := (hb.cell (p := ⟨b, off + (j - 1) * 2, none⟩) hbl).trans (HC.out (j - 1) (by omega)).1
   have hs2' : wr.drew.cell? ⟨b, off + j * 2, none⟩ = some (.int .i64 (ls.getD j du0).a) := c0
   have HBD : Hid (Below w1.heap.size w1 wr.drew) := hb.drew
   have hsub : ((j : Int) - 1) = ((j - 1 : Nat) : Int) := by omega
   have hjm : j - 1 < k := by omega
   clear hb hf
   by_cases hle : (ls.getD j du0).a ≤ (ls.getD (j - 1) du0).a
   ·have hde : decide ((ls.getD j du0).a ≤ (ls.getD (j - 1) du0).a) = true := decide_eq_true hle
    have HN : Hid (decide (Rises ls) = false) := decide_eq_false fun h => by
     have := h j hj1 (by rw [HLEN.out]; exact hlt2); omega
    clear hle
    generalize (ls.getD j du0).a = x at *
    generalize (ls.getD (j - 1) du0).a = y at *
    generalize j - 1 = j1 at *
    go_wp2_with fail
    go_region
    all_goals go_wp2_with fail
    go_ret
    exact ⟨by rw [HN.out]; rfl, HBD.out⟩
   ·have hde : decide ((ls.getD j du0).a ≤ (ls.getD (j - 1) du0).a) = false := decide_eq_false hle
    have HF2 : Hid (∀ i, 1 ≤ i → i < j + 1 → (ls.getD (i - 1) du0).a < (ls.getD i du0).a) := fun i h1 h2 => by
     by_cases e : i = j
     ·subst e; omega
     ·exact HF.out i h1 (by omega)
    clear hle
    generalize (ls.getD j du0).a = x at *
    generalize (ls.getD (j - 1) du0).a = y at *
    generalize j - 1 = j1 at *
    go_wp2_with fail
    go_region
    all_goals go_wp2_with fail
    go_roundw
    case rel => exact ⟨j + 1, by omega, by omega, by go_num, HF2.out, HBD.out⟩
    case measure => simp [intOf]; omega
  ·obtain rfl : j = k := by omega
   have hdl2 : decide ((j : Int) < (j : Int)) = false := by simp
   have HR : Hid (decide (Rises ls) = true) := decide_eq_true fun i h1 h2 => HF.out i h1 (by rw [HLEN.out] at h2; exact h2)
   clear hb hf
   go_wp2_with fail
   go_ret
   exact ⟨by rw [HR.out]; rfl, HB.out⟩
open Classical in
set_option maxHeartbeats 2000000 in
theorem kcheck : KtCheck := by
 intro w a n cap ls hcame
 have hr := hcame.row
 have hn := hcame.most
 clear hcame
 have hlen := hr.1
 have HIU : Hid (∀ x W, Calls Tryz.prog 89 #[.int .i64 1, .int .i64 10000000, .int .i64 x] W fun e w' => e = .returned (.bool (decide (1 ≤ x ∧ x ≤ 10000000))) ∧ w' = W) := fun x W => pwithin 1 10000000 x W
 have HIP : Hid (∀ x W, Calls Tryz.prog 89 #[.int .i64 1, .int .i64 100000, .int .i64 x] W fun e w' => e = .returned (.bool (decide (1 ≤ x ∧ x ≤ 100000))) ∧ w' = W) := fun x W => pwithin 1 100000 x W
 by_cases hs : 1 ≤ n ∧ n ≤ 8
 ·have HS : Hid (Sized ls) := by show 1 ≤ ls.length ∧ ls.length ≤ 8; rw [hlen]; exact hs
  obtain ⟨hs1, hs2⟩ := hs
  have hd0 : ((n : Int) == 0) = false := by simp; omega
  have hd8 : decide ((8 : Int) < (n : Int)) = false := by simp; omega
  obtain ⟨b, off, rfl, hbl, hc⟩ := hr.at hs1
  have HC : Hid (∀ i, i < n → w.cell? ⟨b, off + i * 2, none⟩ = some (.int .i64 (ls.getD i du0).a) ∧ w.cell? ⟨b, off + i * 2 + 1, none⟩ = some (.int .i64 (ls.getD i du0).b)) := hc
  have HLEN : Hid (ls.length = n) := hlen
  have HRS : Hid (∀ W, Below w.heap.size w W → Calls Tryz.prog 90 #[.slice (some ⟨b, off, none⟩) n cap] W fun e w' => e = .returned (.bool (decide (Rises ls))) ∧ Below W.heap.size W w') := fun W hW => prises b off n cap ls W hs1 hs2 hlen (Nat.lt_of_lt_of_le hbl hW.size) (fun i hi => ⟨(hW.cell (p := ⟨b, off + i * 2, none⟩) hbl).trans (hc i hi).1, (hW.cell (p := ⟨b, off + i * 2 + 1, none⟩) hbl).trans (hc i hi).2⟩)
  have hnm : n ≤ 9223372036854775807 := by omega
  clear hc hr hn hlen
  go_enter Tryz.func75, Tryz.ntmps75
  go_wp2_with fail
  go_loopw [15] (fun x wr => ∃ k : Nat, k ≤ n ∧ x = .int .i64 (k : Int) ∧ (∀ i, i < k → (1 ≤ (ls.getD i du0).a ∧ (ls.getD i du0).a ≤ 10000000) ∧ 1 ≤ (ls.getD i du0).b ∧ (ls.getD i du0).b ≤ 100000) ∧ Below w.heap.size w wr) (fun x _ => n - (intOf x).toNat)
  case atStart => exact ⟨0, Nat.zero_le _, rfl, fun i hi => absurd hi (Nat.not_lt_zero _), Below.refl _ _⟩
  case round =>
   obtain ⟨k, hk, rfl, hf, hb⟩ := hrel
   have HF : Hid (∀ i, i < k → (1 ≤ (ls.getD i du0).a ∧ (ls.getD i du0).a ≤ 10000000) ∧ 1 ≤ (ls.getD i du0).b ∧ (ls.getD i du0).b ≤ 100000) := hf
   have HB : Hid (Below w.heap.size w wr) := hb
   clear hf
   by_cases hlt : k < n
   ·have hdl : decide ((k : Int) < (n : Int)) = true := by simp; omega
    have c0 : wr.cell? ⟨b, off + k * 2, none⟩ = some (.int .i64 (ls.getD k du0).a) := (hb.cell (p := ⟨b, off + k * 2, none⟩) hbl).trans (HC.out k hlt).1
    have c1 : wr.cell? ⟨b, off + k * 2 + 1, none⟩ = some (.int .i64 (ls.getD k du0).b) := (hb.cell (p := ⟨b, off + k * 2 + 1, none⟩) hbl).trans (HC.out k hlt).2
    have HBA : Hid (∀ o, Below w.heap.size w (wr.alloc o)) := fun o => hb.alloc hb.size o
    clear hb
    have HU := HIU.out (ls.getD k du0).a
    have HP := HIP.out (ls.getD k du0).b
    by_cases hu : 1 ≤ (ls.getD k du0).a ∧ (ls.getD k du0).a ≤ 10000000
    ·rw [decide_eq_true hu] at HU
     by_cases hp : 1 ≤ (ls.getD k du0).b ∧ (ls.getD k du0).b ≤ 100000
     ·rw [decide_eq_true hp] at HP
      have HF2 : Hid (∀ i, i < k + 1 → (1 ≤ (ls.getD i du0).a ∧ (ls.getD i du0).a ≤ 10000000) ∧ 1 ≤ (ls.getD i du0).b ∧ (ls.getD i du0).b ≤ 100000) := fun i hi => by
       by_cases e : i = k
       ·subst e; exact ⟨hu, hp⟩
       ·exact HF.out i (by omega)
      have HU2 : Hid (∀ W, Calls Tryz.prog 89 #[.int .i64 1, .int .i64 10000000, .int .i64 (ls.getD k du0).a] W fun e w' => e = .returned (.bool true) ∧ w' = W) := HU
      have HP2 : Hid (∀ W, Calls Tryz.prog 89 #[.int .i64 1, .int .i64 100000, .int .i64 (ls.getD k du0).b] W fun e w' => e = .returned (.bool true) ∧ w' = W) := HP
      clear HU HP hu hp HF
      generalize (ls.getD k du0).a = x at *
      generalize (ls.getD k du0).b = y at *
      go_wp2_with fail
      refine (HU2.out _).mono ?_
      rintro e w2 ⟨rfl, hw2⟩
      subst w2
      go_wp2_with fail
      refine (HP2.out _).mono ?_
      rintro e w2 ⟨rfl, hw2⟩
      subst w2
      go_wp2_with fail
      go_roundw
      case rel => exact ⟨k + 1, by omega, by go_num, HF2.out, HBA.out _⟩
      case measure => simp [intOf]; omega
     ·rw [decide_eq_false hp] at HP
      have HN : Hid (¬ Fits ls) := fun h => hp (h k (by rw [HLEN.out]; exact hlt)).2
      have HU2 : Hid (∀ W, Calls Tryz.prog 89 #[.int .i64 1, .int .i64 10000000, .int .i64 (ls.getD k du0).a] W fun e w' => e = .returned (.bool true) ∧ w' = W) := HU
      have HP2 : Hid (∀ W, Calls Tryz.prog 89 #[.int .i64 1, .int .i64 100000, .int .i64 (ls.getD k du0).b] W fun e w' => e = .returned (.bool false) ∧ w' = W) := HP
      clear HU HP hu hp HF
      generalize (ls.getD k du0).a = x at *
      generalize (ls.getD k du0).b = y at *
      go_wp2_with fail
      refine (HU2.out _).mono ?_
      rintro e w2 ⟨rfl, hw2⟩
      subst w2
      go_wp2_with fail
      refine (HP2.out _).mono ?_
      rintro e w2 ⟨rfl, hw2⟩
      subst w2
      go_wp2_with fail
      go_ret
      exact ⟨_, rfl, .inr (.inl ⟨HS.out, HN.out, rfl⟩), HBA.out _⟩
    ·rw [decide_eq_false hu] at HU
     have HN : Hid (¬ Fits ls) := fun h => hu (h k (by rw [HLEN.out]; exact hlt)).1
     have HU2 : Hid (∀ W, Calls Tryz.prog 89 #[.int .i64 1, .int .i64 10000000, .int .i64 (ls.getD k du0).a] W fun e w' => e = .returned (.bool false) ∧ w' = W) := HU
     clear HU HP hu HF
     generalize (ls.getD k du0).a = x at *
     generalize (ls.getD k du0).b = y at *
     go_wp2_with fail
     refine (HU2.out _).mono ?_
     rintro e w2 ⟨rfl, hw2⟩
     subst w2
     go_wp2_with fail
     go_ret
     exact ⟨_, rfl, .inr (.inl ⟨HS.out, HN.out, rfl⟩), HBA.out _⟩
   ·obtain rfl : k = n := by omega
    have hdl : decide ((k : Int) < (k : Int)) = false := by simp
    have HFT : Hid (Fits ls) := fun i hi => HF.out i (by rw [HLEN.out] at hi; exact hi)
    have HR := HRS.out wr hb
    clear HF HIU HIP HRS hb
    have HE : Hid (Ends ls ↔ (ls.getD (k - 1) du0).a = 10000000) := by show Ends ls ↔ _; unfold Ends; rw [HLEN.out]
    have HC1 : Hid (∀ W, Below wr.heap.size wr W → W.cell? ⟨b, off + (k - 1) * 2, none⟩ = some (.int .i64 (ls.getD (k - 1) du0).a)) := fun W hW => ((HB.out.trans (hW.mono HB.out.size)).cell (p := ⟨b, off + (k - 1) * 2, none⟩) hbl).trans (HC.out (k - 1) (by omega)).1
    have hsub : ((k : Int) - 1) = ((k - 1 : Nat) : Int) := by omega
    have hjm : k - 1 < k := by omega
    by_cases hri : Rises ls
    ·rw [decide_eq_true hri] at HR
     have HR2 : Hid (Calls Tryz.prog 90 #[.slice (some ⟨b, off, none⟩) k cap] wr fun e w' => e = .returned (.bool true) ∧ Below wr.heap.size wr w') := HR
     have HRI : Hid (Rises ls) := hri
     clear HR hri
     go_wp2_with fail
     refine HR2.out.mono ?_
     rintro e w2 ⟨rfl, hw2⟩
     have c1 := HC1.out w2 hw2
     have HB2 := shB HB hw2
     clear hw2 HR2
     by_cases he : (ls.getD (k - 1) du0).a = 10000000
     ·have HRT : Hid (Right ls) := ⟨HS.out, HFT.out, HRI.out, HE.out.2 he⟩
      have hne : ((ls.getD (k - 1) du0).a != 10000000) = false := by rw [he]; rfl
      clear he HE HC1
      generalize (ls.getD (k - 1) du0).a = y at *
      generalize k - 1 = j1 at *
      go_wp2_with fail
      go_ret
      exact ⟨_, rfl, .inr (.inr (.inr ⟨HRT.out, rfl⟩)), HB2.out⟩
     ·have HN : Hid (¬ (Rises ls ∧ Ends ls)) := fun h => he (HE.out.1 h.2)
      have hne : ((ls.getD (k - 1) du0).a != 10000000) = true := by simpa using he
      clear he HE HC1
      generalize (ls.getD (k - 1) du0).a = y at *
      generalize k - 1 = j1 at *
      go_wp2_with fail
      go_ret
      exact ⟨_, rfl, .inr (.inr (.inl ⟨HS.out, HFT.out, HN.out, rfl⟩)), HB2.out⟩
    ·rw [decide_eq_false hri] at HR
     have HR2 : Hid (Calls Tryz.prog 90 #[.slice (some ⟨b, off, none⟩) k cap] wr fun e w' => e = .returned (.bool false) ∧ Below wr.heap.size wr w') := HR
     have HN : Hid (¬ (Rises ls ∧ Ends ls)) := fun h => hri h.1
     clear HR hri
     go_wp2_with fail
     refine HR2.out.mono ?_
     rintro e w2 ⟨rfl, hw2⟩
     have HB2 := shB HB hw2
     clear hw2 HR2 HE HC1
     generalize k - 1 = j1 at *
     go_wp2_with fail
     go_ret
     exact ⟨_, rfl, .inr (.inr (.inl ⟨HS.out, HFT.out, HN.out, rfl⟩)), HB2.out⟩
 ·have HS : Hid (¬ Sized ls) := by show ¬ (1 ≤ ls.length ∧ ls.length ≤ 8); rw [hlen]; exact hs
  have hnm : n ≤ 9223372036854775807 := by unfold maxLen at hn; omega
  clear hr hlen hn
  by_cases h0 : n = 0
  ·subst h0
   clear hs hnm
   go_enter Tryz.func75, Tryz.ntmps75
   go_wp2_with fail
   go_ret
   exact ⟨_, rfl, .inl ⟨HS.out, rfl⟩, Below.refl _ _⟩
  ·have hd0 : ((n : Int) == 0) = false := by simp; omega
   have hd8 : decide ((8 : Int) < (n : Int)) = true := by simp; omega
   clear hs h0
   go_enter Tryz.func75, Tryz.ntmps75
   go_wp2_with fail
   go_ret
   exact ⟨_, rfl, .inl ⟨HS.out, rfl⟩, Below.refl _ _⟩
end tar
namespace acc
open tar (Du du0 Came RowD Ld PairT)
open Go.RowKit
set_option maxRecDepth 100000
set_option maxHeartbeats 4000000 in
theorem kcheck : KcCheck := by
 intro w t pt lt ct hc
 have h := hc.ts
 unfold Tm.v
 have HI0 : Hid (∀ W, Calls Tryz.prog 69 #[.int .i64 0, .int .i64 100000, .int .i64 t.ff] W fun e w' => e = .returned (.bool (decide (0 ≤ t.ff ∧ t.ff ≤ 100000))) ∧ w' = W) := fun W => awithin 0 100000 t.ff W
 have HI1 : Hid (∀ W, Calls Tryz.prog 69 #[.int .i64 0, .int .i64 10000, .int .i64 t.fb] W fun e w' => e = .returned (.bool (decide (0 ≤ t.fb ∧ t.fb ≤ 10000))) ∧ w' = W) := fun W => awithin 0 10000 t.fb W
 have HI2 : Hid (∀ W, Calls Tryz.prog 69 #[.int .i64 0, .int .i64 10000, .int .i64 t.db] W fun e w' => e = .returned (.bool (decide (0 ≤ t.db ∧ t.db ≤ 10000))) ∧ w' = W) := fun W => awithin 0 10000 t.db W
 have HI3 : Hid (∀ W, Calls Tryz.prog 69 #[.int .i64 0, .int .i64 2097151, .int .i64 t.al] W fun e w' => e = .returned (.bool (decide (0 ≤ t.al ∧ t.al ≤ 2097151))) ∧ w' = W) := fun W => awithin 0 2097151 t.al W
 obtain ⟨WW, HWW, HBK, HBA, -⟩ := sh1 w #[.slice pt lt ct, .int .i64 t.ff, .int .i64 t.fb, .int .i64 t.db, .int .i64 t.al] 24
 have HTO : Hid (Calls Tryz.prog 75 #[.slice pt lt ct] WW fun e w' => tar.ErrPost WW (tar.FaultIs t.ts) e w') := tar.kcheck _ pt lt ct t.ts (h.below HBA.out)
 have c0 : WW.cell? ⟨w.heap.size, 0, none⟩ = some (.slice pt lt ct) := HBK.out.cell 0
 clear h hc
 go_enter Tryz.func51, Tryz.ntmps51
 go_upto_region 1 with fail
 rw [HWW.out]
 clear HWW
 go_wp2_with fail
 refine HTO.out.mono ?_
 rintro e w1 ⟨f, rfl, hf, hb1⟩
 have HB1 := shB HBA hb1
 have HK1 := shN HBK hb1
 have HF : Hid (tar.FaultIs t.ts f) := hf
 clear hf hb1 HTO HBA HBK c0
 obtain ⟨c0, c1, c2, c3, c4⟩ := scl5 HK1
 by_cases h0 : f = 0
 ·have HR : Hid (tar.Right t.ts) := HF.out.ok.1 h0
  subst h0
  by_cases g0 : 0 ≤ t.ff ∧ t.ff ≤ 100000
  ·rw [decide_eq_true g0] at HI0
   go_wp2_with fail
   refine (HI0.out _).mono ?_
   rintro e w2 ⟨rfl, hw2⟩
   subst w2
   by_cases g1 : 0 ≤ t.fb ∧ t.fb ≤ 10000
   ·rw [decide_eq_true g1] at HI1
    go_wp2_with fail
    refine (HI1.out _).mono ?_
    rintro e w2 ⟨rfl, hw2⟩
    subst w2
    by_cases g2 : 0 ≤ t.db ∧ t.db ≤ 10000
    ·rw [decide_eq_true g2] at HI2
     go_wp2_with fail
     refine (HI2.out _).mono ?_
     rintro e w2 ⟨rfl, hw2⟩
     subst w2
     by_cases g3 : 0 ≤ t.al ∧ t.al ≤ 2097151
     ·rw [decide_eq_true g3] at HI3
      go_wp2_with fail
      refine (HI3.out _).mono ?_
      rintro e w2 ⟨rfl, hw2⟩
      subst w2
      have HV : Hid (TFault t 0) := .inr (.inr ⟨⟨HR.out, g0, g1, g2, g3⟩, rfl⟩)
      clear g0 g1 g2 g3
      go_wp2_with fail
      go_ret
      exact ⟨0, rfl, HV.out, HB1.out⟩
     ·rw [decide_eq_false g3] at HI3
      have HV : Hid (TFault t 2) := .inr (.inl ⟨HR.out, fun h => g3 h.2.2.2, rfl⟩)
      clear g3
      go_wp2_with fail
      refine (HI3.out _).mono ?_
      rintro e w2 ⟨rfl, hw2⟩
      subst w2
      go_wp2_with fail
      all_goals first
       | (rename_i q1 q2; exact absurd q1 (by simp [undef]))
       | (go_ret; exact ⟨2, rfl, HV.out, HB1.out⟩)
    ·rw [decide_eq_false g2] at HI2
     have HV : Hid (TFault t 2) := .inr (.inl ⟨HR.out, fun h => g2 h.2.2.1, rfl⟩)
     clear g2
     go_wp2_with fail
     refine (HI2.out _).mono ?_
     rintro e w2 ⟨rfl, hw2⟩
     subst w2
     go_wp2_with fail
     all_goals first
      | (rename_i q1 q2; exact absurd q1 (by simp [undef]))
      | (go_ret; exact ⟨2, rfl, HV.out, HB1.out⟩)
   ·rw [decide_eq_false g1] at HI1
    have HV : Hid (TFault t 2) := .inr (.inl ⟨HR.out, fun h => g1 h.2.1, rfl⟩)
    clear g1
    go_wp2_with fail
    refine (HI1.out _).mono ?_
    rintro e w2 ⟨rfl, hw2⟩
    subst w2
    go_wp2_with fail
    all_goals first
     | (rename_i q1 q2; exact absurd q1 (by simp [undef]))
     | (go_ret; exact ⟨2, rfl, HV.out, HB1.out⟩)
  ·rw [decide_eq_false g0] at HI0
   have HV : Hid (TFault t 2) := .inr (.inl ⟨HR.out, fun h => g0 h.1, rfl⟩)
   clear g0
   go_wp2_with fail
   refine (HI0.out _).mono ?_
   rintro e w2 ⟨rfl, hw2⟩
   subst w2
   go_wp2_with fail
   all_goals first
    | (rename_i q1 q2; exact absurd q1 (by simp [undef]))
    | (go_ret; exact ⟨2, rfl, HV.out, HB1.out⟩)
 ·have d0 : (f != 0) = true := by simpa using h0
  have HV : Hid (TFault t f) := .inl ⟨fun h => h0 (HF.out.ok.2 h), HF.out⟩
  clear h0
  go_wp2_with fail
  go_ret
  exact ⟨f, rfl, HV.out, HB1.out⟩
def BeginR (x : Ac) (t : Tm) (m : Int) (b0 : Bi) (y : Ac) (b : Bi) (f : Int) : Prop := ((¬ TRight t ∧ TFault t f ∧ y = x) ∨ (TRight t ∧ ¬ RMay x m ∧ RErr x m f ∧ y = x) ∨ (TRight t ∧ RMay x m ∧ y = rolled x m ∧ f = 0)) ∧ b = b0
set_option maxHeartbeats 2000000 in
theorem pbegin (g : Nat) (x : Ac) (p : Option Addr) (len cap : Nat) (t : Tm) (pt : Option Addr) (lt ct : Nat) (b : Bi) (m : Int) (w : World) (hw : Blk w g (wcs x b p len cap) 121) (hd : deb.Fresh w (g + 1) p len cap x.ds) (ha : AMay x) (ht : Came w pt lt ct t.ts) (hwf : wf4 t) (hfar : Far pt lt g) : Calls Tryz.prog 113 #[.pointer (some ⟨g, 0, none⟩), .agg #[.slice pt lt ct, .int .i64 t.ff, .int .i64 t.fb, .int .i64 t.db, .int .i64 t.al], .int .i64 m] w fun e w' => DPost w g (BeginR x t m b) e w' := by
 have hgl := hw.lt
 have HCK : Hid (∀ W, Below w.heap.size w W → Calls Tryz.prog 51 #[.agg #[.slice pt lt ct, .int .i64 t.ff, .int .i64 t.fb, .int .i64 t.db, .int .i64 t.al]] W fun e w' => tar.ErrPost W (TFault t) e w') := fun W hW => kcheck W t pt lt ct ⟨ht.below hW, hwf⟩
 have HRL : Hid (∀ W, Blk W g (wcs x b p len cap) 121 → deb.Fresh W (g + 1) p len cap x.ds → Calls Tryz.prog 118 #[.pointer (some ⟨g, 0, none⟩), .int .i64 m] W fun e w' => DPost W g (RollR x m b) e w') := fun W h1 h2 => proll g x b p len cap m W h1 h2 ha
 have H0B : Hid (Below w.heap.size w (w.alloc (.cells #[.slice pt lt ct, .int .i64 t.ff, .int .i64 t.fb, .int .i64 t.db, .int .i64 t.al] 24))) := (Below.refl w.heap.size w).alloc (by simp) _
 have H0t : Hid (Blk (w.alloc (.cells #[.slice pt lt ct, .int .i64 t.ff, .int .i64 t.fb, .int .i64 t.db, .int .i64 t.al] 24)) w.heap.size #[.slice pt lt ct, .int .i64 t.ff, .int .i64 t.fb, .int .i64 t.db, .int .i64 t.al] 24) := Blk.new w _ _
 have H0g : Hid (Blk (w.alloc (.cells #[.slice pt lt ct, .int .i64 t.ff, .int .i64 t.fb, .int .i64 t.db, .int .i64 t.al] 24)) g (wcs x b p len cap) 121) := hw.alloc _
 have H0D : Hid (deb.Fresh (w.alloc (.cells #[.slice pt lt ct, .int .i64 t.ff, .int .i64 t.fb, .int .i64 t.db, .int .i64 t.al] 24)) (g + 1) p len cap x.ds) := hd.below H0B.out
 clear hw hd ha ht hwf hfar
 generalize hWW : (w.alloc (.cells #[.slice pt lt ct, .int .i64 t.ff, .int .i64 t.fb, .int .i64 t.db, .int .i64 t.al] 24)) = W0 at *
 have HWW : Hid ((w.alloc (.cells #[.slice pt lt ct, .int .i64 t.ff, .int .i64 t.fb, .int .i64 t.db, .int .i64 t.al] 24)) = W0) := hWW
 clear hWW
 go_enter Tryz.func113, Tryz.ntmps113
 go_upto_region 1 with fail
 rw [HWW.out]
 clear HWW
 go_wp2_with (first
  | (refine zqw rfl rfl rfl H0t zqu24 ?_)
  | fail)
 refine (HCK.out _ H0B.out).mono ?_
 rintro e w1 ⟨f, rfl, hf, hb1⟩
 have H1g := shN H0g hb1
 have H1D : Hid (deb.Fresh w1 (g + 1) p len cap x.ds) := H0D.out.below hb1
 have H1C : Hid (Chg w w1 g) := .of (bel_step H0B.out hb1)
 have HF : Hid (TFault t f) := hf
 clear hf hb1 H0B H0t H0g H0D HCK
 by_cases h0 : f = 0
 ·subst h0
  have HT : Hid (TRight t) := HF.out.ok.1 rfl
  go_wp2_with fail
  refine (HRL.out _ H1g.out H1D.out).mono ?_
  rintro e w2 ⟨y, b2, q, n, c, f, rfl, ⟨hr, hb⟩, hi, hfr, hc⟩
  have HX : Hid (DPost w g (BeginR x t m b) (.returned (.int .i64 f)) w2) := by
   refine ⟨y, b2, q, n, c, f, rfl, ⟨?_, hb⟩, hi, hfr, H1C.out.trans hc⟩
   rcases hr with ⟨h1, h2, h3⟩ | ⟨h1, h2, h3⟩
   ·exact .inr (.inl ⟨HT.out, h1, h2, h3⟩)
   ·exact .inr (.inr ⟨HT.out, h1, h2, h3⟩)
  clear hr hb hi hfr hc HRL
  go_wp2_with fail
  go_ret
  exact HX.out
 ·have d0 : (f != 0) = true := by simpa using h0
  have HX : Hid (DPost w g (BeginR x t m b) (.returned (.int .i64 f)) w1) := ⟨x, b, p, len, cap, f, rfl, ⟨.inl ⟨fun h => h0 (HF.out.ok.2 h), HF.out, rfl⟩, rfl⟩, H1g.out, H1D.out, H1C.out⟩
  clear h0 HRL HF
  go_wp2_with fail
  go_ret
  exact HX.out
end acc
end Go.Proofs.YtomibnggmhjdfaaGreat
