/- The statement DebtAdds. -/
import Derived.Test.YtodnlecccgiogaaKdT
import Derived.Test.YtodnlecccgiogaaKdR
import Derived.Test.YtodnlecccgiogaaDbQ
import Derived.Test.YtodnlecccgiogaaDbM
import Derived.Test.YtodnlecccgiogaaPart
import Derived.Test.YtodnlecccgiogaaTfMin
namespace Go.Proofs.Ytodnlecccgiogaa.deb
open Go.Proofs.Ytodnlecccgiogaa.tar (Du du0 Came RowD Ld TwoPost PairT)
open Go.Proofs.Ytodnlecccgiogaa.check (pick picked_any pick_nonneg pick_lt)
open Go.RowKit
set_option maxRecDepth 100000
set_option linter.unusedVariables false
set_option linter.unusedSimpArgs false

set_option maxHeartbeats 4000000 in
theorem DebtAdds_walk (KTotal : KdTotal) (KRec : KdRec) (a : Option Addr) (len cap : Nat) (rs : List Du) (t y : Int) (w : World) (h : Came w a len cap rs) (ht : (Lit.int .i64 t).wf = true) (hy : (Lit.int .i64 y).wf = true) : Calls Try.prog 7 #[.slice a len cap, .int .i64 t, .int .i64 y] w fun e w' => e = .returned (.bool true) ∧ Below w.heap.size w w' := by
  have HST : Hid (Calls Try.prog 19 #[.slice a len cap, .int .i64 1000000000] w fun e w' => GaveO w 1000000000 e w') := owing_any a len cap 1000000000 (by decide) rs w h
  have HP1 : Hid (∀ W, Calls Try.prog 20 #[.int .i64 t, .int .i64 100000001] W fun e w' => e = .returned (.int .i64 (pick t 100000001)) ∧ w' = W) := fun W => picked_any t 100000001 W ht (by decide) (by decide)
  have qP10 := pick_nonneg t 100000001 (by decide)
  have qP11 := pick_lt t 100000001 (by decide)
  generalize pick t 100000001 = X at *
  have HP2 : Hid (∀ W, Calls Try.prog 20 #[.int .i64 y, .int .i64 10001] W fun e w' => e = .returned (.int .i64 (pick y 10001)) ∧ w' = W) := fun W => picked_any y 10001 W hy (by decide) (by decide)
  have qP20 := pick_nonneg y 10001 (by decide)
  have qP21 := pick_lt y 10001 (by decide)
  generalize pick y 10001 = Y at *
  clear h
  go_enter Try.func7, Try.ntmps7
  go_wp2_with fail
  refine HST.out.mono ?_
  rintro e w1 ⟨v1, ls, rfl, hm, hmo, hv1, hb1⟩
  obtain ⟨a1, cap1, rfl, hc1⟩ := ld_mays hv1 hm
  have HC1 : Hid (Came w1 a1 ls.length cap1 ls) := hc1
  have HM : Hid (Mays ls) := hm
  have HMO : Hid (∀ d ∈ ls, d.a ≤ 1000000000) := hmo
  have hl8 : ls.length ≤ 8 := hm.1
  have B1 : Hid (Below w.heap.size w w1) := hb1
  clear hv1 hc1 hb1 HST hm hmo
  have HTM : Hid (TMay X Y) := ⟨⟨by omega, by omega⟩, by omega, by omega⟩
  have hsb := share_bd HTM.out
  have HSV0 : ∃ s, X * Y / 10000 = s := ⟨_, rfl⟩
  obtain ⟨s, hsv⟩ := HSV0
  have HSV : Hid (X * Y / 10000 = s) := hsv
  rw [hsv] at hsb
  clear hsv
  have HTO : Hid (∀ W a' n' c' l', Came W a' n' c' l' → Mays l' → Calls Try.prog 10 #[.slice a' n' c'] W fun e w' => e = .returned (.tuple #[.int .i64 (sumD l'), .int .i64 0]) ∧ Below W.heap.size W w') := fun W a' n' c' l' hc hm =>
    (KTotal W a' n' c' l' hc).mono fun e w' hh => by
      obtain ⟨p, f, rfl, hp, hb⟩ := hh
      obtain ⟨rfl, rfl⟩ := hp.got hm
      exact ⟨rfl, hb⟩
  clear KTotal
  have HRE : Hid (∀ W a' n' c' l', Came W a' n' c' l' → Mays l' → Calls Try.prog 13 #[.slice a' n' c', .int .i64 X, .int .i64 Y] W fun e w' => ∃ a2 n2 c2, e = .returned (.tuple #[.slice a2 n2 c2, .int .i64 (min s (sumD l')), .int .i64 0]) ∧ Came w' a2 n2 c2 (recK l' s l'.length) ∧ Mays (recK l' s l'.length) ∧ Below W.heap.size W w') := fun W a' n' c' l' hc hm =>
    (KRec W a' n' c' l' X Y hc (tar.wf_mid (by omega) (by omega)) (tar.wf_mid (by omega) (by omega))).mono fun e w' hh => by
      obtain ⟨a2, n2, c2, z, p, f, rfl, hp, hcf, hb⟩ := hh
      have hcz := hcf.came
      have hmz := hp.mays
      obtain ⟨rfl, rfl, rfl⟩ := hp.got hm HTM.out
      rw [HSV.out] at hcz hmz ⊢
      exact ⟨a2, n2, c2, rfl, hcz, hmz, hb⟩
  clear KRec
  have HPT : Hid (∀ W, Calls Try.prog 21 #[.int .i64 X, .int .i64 Y] W fun e w' => e = .returned (.tuple #[.int .i64 s, .int .i64 0]) ∧ Below W.heap.size W w') := fun W => by
    have := cents.part_yes X Y W (by omega) (by omega) (by omega) (by omega)
    rwa [HSV.out] at this
  have hT := sumD_pos (mem_fits HM.out.2)
  have hTB : sumD (recK ls s ls.length) = max 0 (sumD ls - s) := by rw [recK_sum HM.out s hsb.1 _ (Nat.le_refl _), sumK_all]
  have HSO : Hid (∀ W a' n' c' l', RowD W a' n' l' → Mays l' → Calls Try.prog 22 #[.slice a' n' c'] W fun e w' => e = .returned (.int .i64 (sumD l')) ∧ w' = W) := fun W a' n' c' l' hr hm => sumof a' n' c' l' W hr hm
  go_wp2_with fail
  refine (HP1.out _).mono ?_
  rintro e wz ⟨rfl, hwz⟩
  subst hwz
  go_wp2_with fail
  refine (HP2.out _).mono ?_
  rintro e wz ⟨rfl, hwz⟩
  subst hwz
  go_wp2_with fail
  refine (HRE.out _ _ _ _ _ HC1.out HM.out).mono ?_
  rintro e w2 ⟨a2, n2, c2, rfl, hcz, hmz, hbz⟩
  have HZ2 : Hid (Came w2 a2 n2 c2 (recK ls s ls.length)) := hcz
  have HMZ : Hid (Mays (recK ls s ls.length)) := hmz
  have HC2 : Hid (Came w2 a1 ls.length cap1 ls) := HC1.out.below hbz
  have B2 : Hid (Below w.heap.size w w2) := B1.out.trans (hbz.mono B1.out.size)
  clear hcz hmz hbz HRE HC1 B1
  generalize recK ls s ls.length = z at *
  have hB1 : sumD z = max 0 (sumD ls - s) := hTB
  clear hTB
  have hT1 : 0 ≤ sumD ls := hT.1
  have hT2 : sumD ls ≤ 8000000000 := by have := hT.2; omega
  clear hT
  have HTT : Hid (Calls Try.prog 10 #[.slice a1 ls.length cap1] w2 fun e w' => e = .returned (.tuple #[.int .i64 (sumD ls), .int .i64 0]) ∧ Below w2.heap.size w2 w') := HTO.out _ _ _ _ _ HC2.out HM.out
  have HSD : Hid (∀ W, Below w2.heap.size w2 W → Calls Try.prog 22 #[.slice a1 ls.length cap1] W fun e w' => e = .returned (.int .i64 (sumD ls)) ∧ w' = W) := fun W hb => HSO.out W _ _ _ _ (HC2.out.below hb).row HM.out
  have HTZ : Hid (∀ W, Below w2.heap.size w2 W → Calls Try.prog 10 #[.slice a2 n2 c2] W fun e w' => e = .returned (.tuple #[.int .i64 (sumD z), .int .i64 0]) ∧ Below W.heap.size W w') := fun W hb => HTO.out _ _ _ _ _ (HZ2.out.below hb) HMZ.out
  have HSZ : Hid (∀ W, Below w2.heap.size w2 W → Calls Try.prog 22 #[.slice a2 n2 c2] W fun e w' => e = .returned (.int .i64 (sumD z)) ∧ w' = W) := fun W hb => HSO.out W _ _ _ _ (HZ2.out.below hb).row HMZ.out
  clear HTO HSO
  generalize ls.length = n1 at *
  generalize sumD ls = T at *
  generalize sumD z = T2 at *
  have hp1 : ∃ p, min s T = p ∧ T2 + p = T ∧ 0 ≤ p ∧ 0 ≤ T2 := ⟨min s T, rfl, by omega, by omega, by omega⟩
  obtain ⟨p, hmp, hpt, hp0, ht20⟩ := hp1
  have hmn : ∀ W : World, (Builtin.min_ #[3, 3] 3 #[.int .i64 s, .int .i64 T]).run Try.prog W = .ok (.int .i64 p) W := fun W => tar.run_min _ _ _ hmp W
  rw [hmp]
  have e1 : (T == T) = true := by simp
  have e2 : (T2 == T2) = true := by simp
  have e3 : (T == T2 + p) = true := by simp; omega
  have e4 : (p == p) = true := by simp
  have hp2 : T2 + p ≤ 8000000000 := by omega
  clear hmp hpt hB1
  go_wp2_with fail
  refine HTT.out.mono ?_
  rintro e w3 ⟨rfl, hb3⟩
  have B3 : Hid (Below w2.heap.size w2 w3) := hb3
  clear hb3
  go_wp2_with fail
  refine (HTZ.out _ B3.out).mono ?_
  rintro e w4 ⟨rfl, hb4⟩
  have B4 : Hid (Below w2.heap.size w2 w4) := B3.out.trans (hb4.mono B3.out.size)
  clear hb4
  go_wp2_with fail
  refine (HPT.out _).mono ?_
  rintro e w5 ⟨rfl, hb5⟩
  have B5 : Hid (Below w2.heap.size w2 w5) := B4.out.trans (hb5.mono B4.out.size)
  clear hb5
  go_wp2_with fail
  refine (HSD.out _ B5.out).mono ?_
  rintro e w6 ⟨rfl, hw6⟩
  subst hw6
  go_wp2_with fail
  refine (HSZ.out _ B5.out).mono ?_
  rintro e w6 ⟨rfl, hw6⟩
  subst hw6
  have BF : Hid (Below w.heap.size w w6) := B2.out.trans (B5.out.mono B2.out.size)
  clear HSD HSZ HTT HTZ HPT HP1 HP2
  go_wp2_with fail
  go_ret
  exact ⟨rfl, BF.out⟩

end Go.Proofs.Ytodnlecccgiogaa.deb
