/- The statement TariffLines. -/
import Derived.Test.YtmjjfljaelahoabKtP
import Derived.Test.YtmjjfljaelahoabKtB
import Derived.Test.YtmjjfljaelahoabTfQ
import Derived.Test.YtmjjfljaelahoabTxW
import Derived.Test.YtmjjfljaelahoabTfMin
namespace Go.Proofs.Ytmjjfljaelahoab.tar
open Go.Proofs.Ytmjjfljaelahoab.check (pick picked_any pick_nonneg pick_lt)
open Go.RowKit
set_option maxRecDepth 100000
set_option linter.unusedVariables false
set_option linter.unusedSimpArgs false

set_option maxHeartbeats 4000000 in
theorem TariffLines_walk (KPrice : KtPrice) (KBill : KtBill) (a : Option Addr) (len cap : Nat) (rs : List Du) (f n : Int) (w : World) (h : Came w a len cap rs) (hf : (Lit.int .i64 f).wf = true) (hn : (Lit.int .i64 n).wf = true) : Calls Try.prog 4 #[.slice a len cap, .int .i64 f, .int .i64 n] w fun e w' => e = .returned (.bool true) ∧ Below w.heap.size w w' := by
  have HST : Hid (Calls Try.prog 5 #[.slice a len cap] w fun e w' => GaveT w e w') := stepped_any a len cap rs w h
  have HP1 : Hid (∀ W, Calls Try.prog 6 #[.int .i64 f, .int .i64 10000000] W fun e w' => e = .returned (.int .i64 (pick f 10000000)) ∧ w' = W) := fun W => picked_any f 10000000 W hf (by decide) (by decide)
  have qP10 := pick_nonneg f 10000000 (by decide)
  have qP11 := pick_lt f 10000000 (by decide)
  generalize pick f 10000000 = F at *
  have hmin0 : ∃ M : Int, min 2097151 (10000000 - F) = M ∧ 1 ≤ M ∧ M ≤ 2097151 ∧ M ≤ 10000000 - F := ⟨_, rfl, by omega, by omega, by omega⟩
  obtain ⟨M, hM, hM1, hM2, hM3⟩ := hmin0
  have hmn : ∀ W : World, (Builtin.min_ #[3, 3] 3 #[.int .i64 2097151, .int .i64 (10000000 - F)]).run Try.prog W = .ok (.int .i64 M) W := fun W => run_min _ _ _ hM W
  clear hM
  have HP2 : Hid (∀ W, Calls Try.prog 6 #[.int .i64 n, .int .i64 (M + 1)] W fun e w' => e = .returned (.int .i64 (pick n (M + 1))) ∧ w' = W) := fun W => picked_any n (M + 1) W hn (by omega) (by omega)
  have qP20 := pick_nonneg n (M + 1) (by omega)
  have qP21 := pick_lt n (M + 1) (by omega)
  generalize pick n (M + 1) = X at *
  clear h
  go_enter Try.func4, Try.ntmps4
  go_wp2_with fail
  refine HST.out.mono ?_
  rintro e w1 ⟨v1, ls, rfl, hR, hv1, hb1⟩
  obtain ⟨a1, cap1, rfl, hc1⟩ := hv1.right hR
  have HC1 : Hid (Came w1 a1 ls.length cap1 ls) := hc1
  have HR : Hid (Right ls) := hR
  have HL8 : Hid (1 ≤ ls.length ∧ ls.length ≤ 8) := hR.1
  have B1 : Hid (Below w.heap.size w w1) := hb1
  clear hv1 hc1 hb1 HST hR
  have HPR : Hid (∀ W x n, Came W a1 ls.length cap1 ls → 0 ≤ x ∧ x ≤ 10000000 → 0 ≤ n ∧ n ≤ 2097151 → x + n ≤ 10000000 → Calls Try.prog 8 #[.slice a1 ls.length cap1, .int .i64 x, .int .i64 n] W fun e w' => e = .returned (.tuple #[.int .i64 (cost ls x (x + n)), .int .i64 0]) ∧ Below W.heap.size W w') := fun W x n hc hx hn hs =>
    (KPrice W a1 ls.length cap1 ls x n hc (wf_mid hx.1 (by omega)) (wf_mid hn.1 (by omega))).mono fun e w' hh => by
      obtain ⟨p, f, rfl, hp, hb⟩ := hh
      obtain ⟨rfl, rfl⟩ := hp.got HR.out ⟨hx, hn, hs⟩
      exact ⟨rfl, hb⟩
  clear KPrice
  have HBI : Hid (∀ W, Came W a1 ls.length cap1 ls → Calls Try.prog 9 #[.slice a1 ls.length cap1, .int .i64 F, .int .i64 X] W fun e w' => ∃ v, e = .returned (.tuple #[v, .int .i64 0]) ∧ Lt 36 w' W.heap.size v (billK ls F (F + X) ls.length) ∧ Below W.heap.size W w') := fun W hc =>
    (KBill W a1 ls.length cap1 ls F X hc (wf_mid (by omega) (by omega)) (wf_mid (by omega) (by omega))).mono fun e w' hh => by
      obtain ⟨v, z, f, rfl, hp, hl, hb⟩ := hh
      obtain ⟨rfl, rfl⟩ := hp.got HR.out ⟨⟨by omega, by omega⟩, ⟨by omega, by omega⟩, by omega⟩
      exact ⟨v, rfl, hl, hb⟩
  clear KBill
  have HPR2 : Hid (∀ W, Came W a1 ls.length cap1 ls → Calls Try.prog 8 #[.slice a1 ls.length cap1, .int .i64 F, .int .i64 X] W fun e w' => e = .returned (.tuple #[.int .i64 (cost ls F (F + X)), .int .i64 0]) ∧ Below W.heap.size W w') := fun W hc => HPR.out W F X hc ⟨by omega, by omega⟩ ⟨by omega, by omega⟩ (by omega)
  have hbp := cost_bd HR.out F (F + X) (by omega) (by omega) (by omega)
  have hsums := bill_sums ls F (F + X) ls.length
  rw [many_all HR.out F (F + X) (by omega) (by omega) (by omega)] at hsums
  have hsA : sumA (billK ls F (F + X) ls.length) = X := by omega
  have hsC : sumC (billK ls F (F + X) ls.length) = cost ls F (F + X) := hsums.2
  have HOK : Hid (∀ t ∈ billK ls F (F + X) ls.length, LineOk t) := bill_ok HR.out F (F + X) ls.length (Nat.le_refl _)
  have hzl := bill_len ls F (F + X) ls.length
  clear hsums HPR
  generalize cost ls F (F + X) = p at *
  generalize billK ls F (F + X) ls.length = z at *
  have hp0 : 0 ≤ p := by omega
  have hp1 : p ≤ 1000000000000 := by omega
  have HSA : Hid (sumA z = X) := hsA
  have HSC : Hid (sumC z = p) := hsC
  clear hbp hsA hsC
  generalize hln : ls.length = len1 at *
  have hl8 := HL8.out.2
  clear hln
  go_wp2_with fail
  refine (HP1.out _).mono ?_
  rintro e w1x ⟨rfl, hwz⟩
  subst hwz
  go_wp2_with fail
  refine (HP2.out _).mono ?_
  rintro e w2x ⟨rfl, hwz⟩
  subst hwz
  go_wp2_with fail
  refine (HBI.out _ HC1.out).mono ?_
  rintro e w2 ⟨v2, rfl, hL, hbz⟩
  obtain ⟨L, C, rfl, hRL, _⟩ := hL.row
  have HRL2 : Hid (RowL w2 L z.length z) := hRL
  have HC2 : Hid (Came w2 a1 len1 cap1 ls) := HC1.out.below hbz
  have B2 : Hid (Below w.heap.size w w2) := B1.out.trans (hbz.mono B1.out.size)
  clear hbz HBI hL hRL HC1 B1
  have HK2 : Hid (Calls Try.prog 8 #[.slice a1 len1 cap1, .int .i64 F, .int .i64 X] w2 fun e w' => e = .returned (.tuple #[.int .i64 p, .int .i64 0]) ∧ Below w2.heap.size w2 w') := HPR2.out w2 HC2.out
  go_wp2_with fail
  refine HK2.out.mono ?_
  rintro e w3 ⟨rfl, hbz⟩
  have HC3 : Hid (Came w3 a1 len1 cap1 ls) := HC2.out.below hbz
  have B3 : Hid (Below w.heap.size w w3) := B2.out.trans (hbz.mono B2.out.size)
  have HRL : Hid (RowL w3 L z.length z) := HRL2.out.below hbz
  clear HRL2 hbz HK2 HC2 B2
  clear HPR2 HP1 HP2
  have HZL : Hid (z.length = z.length) := rfl
  generalize hzz : z.length = zl at *
  have HZZ : Hid (z.length = zl) := hzz
  have hdz : decide ((len1 : Int) < (zl : Int)) = false := by simp; omega
  have hzl2 : zl ≤ 8 := by omega
  clear hzz HZL
  go_wp2_with fail
  go_loopw [14, 15, 16] (fun u v y wr => ∃ k : Nat, k ≤ zl ∧ y = .int .i64 (k : Int) ∧ u = .int .i64 (sumA (z.take k)) ∧ v = .int .i64 (sumC (z.take k)) ∧ Below w3.heap.size w3 wr) (fun _ _ y _ => zl - (intOf y).toNat)
  case atStart => exact ⟨0, Nat.zero_le _, rfl, rfl, rfl, Below.refl _ _⟩
  case round =>
    obtain ⟨k, hk, rfl, rfl, rfl, hb⟩ := hrel
    have hst := sums_take z HOK.out k
    by_cases hlt : k < zl
    · have hdl : decide ((k : Int) < (zl : Int)) = true := by simp; omega
      have hkl : k < z.length := by rw [HZZ.out]; exact hlt
      obtain ⟨b, off, rfl, hbl, hc⟩ := HRL.out.at (by omega)
      have c0 : wr.cell? ⟨b, off + k * 3, none⟩ = some (.int .i64 (z.getD k tr0).a) := (hb.cell (p := ⟨b, off + k * 3, none⟩) hbl).trans (hc k hlt).1
      have c1 : wr.cell? ⟨b, off + k * 3 + 1, none⟩ = some (.int .i64 (z.getD k tr0).b) := (hb.cell (p := ⟨b, off + k * 3 + 1, none⟩) hbl).trans (hc k hlt).2.1
      have c2 : wr.cell? ⟨b, off + k * 3 + 2, none⟩ = some (.int .i64 (z.getD k tr0).c) := (hb.cell (p := ⟨b, off + k * 3 + 2, none⟩) hbl).trans (hc k hlt).2.2
      obtain ⟨o1, o2, o3, o4, o5⟩ := line_at HOK.out k hkl
      have hsn := sums_next z k hkl
      have hpb := prod_bd (show 0 ≤ (z.getD k tr0).a by omega) o2 o3 o4
      have HNA : Hid (sumA (z.take k) + (z.getD k tr0).a = sumA (z.take (k + 1))) := hsn.1.symm
      have HNC : Hid (sumC (z.take k) + (z.getD k tr0).c = sumC (z.take (k + 1))) := hsn.2.symm
      have hsX := HSA.out
      have hsp := HSC.out
      have t0 := hst.1.1
      have t1 : sumA (z.take k) ≤ 2097151 := by omega
      have t2 := hst.2.1
      have t3 : sumC (z.take k) ≤ 1000000000000 := by omega
      have hne : ((z.getD k tr0).c != (z.getD k tr0).a * (z.getD k tr0).b) = false := by rw [o5]; simp
      have hc1' : 0 ≤ (z.getD k tr0).c := by omega
      have hc2' : (z.getD k tr0).c ≤ 1000000000000 := by omega
      have hlt1 : decide ((z.getD k tr0).a < 1) = false := decide_eq_false (by omega)
      have HBA : Hid (Below w3.heap.size w3 (wr.alloc (.cells #[.int .i64 (z.getD k tr0).a, .int .i64 (z.getD k tr0).b, .int .i64 (z.getD k tr0).c] 36))) := hb.alloc hb.size _
      clear hc hb hsn hst hsX hsp o5 hkl
      generalize sumA (z.take k) = sA at *
      generalize sumC (z.take k) = sC at *
      generalize (z.getD k tr0).a = x1 at *
      generalize (z.getD k tr0).b = x2 at *
      generalize (z.getD k tr0).c = x3 at *
      have hwx : IntKind.i64.wrap (x1 * x2) = x1 * x2 := by rw [IntKind.wrap_i64]; omega
      go_wp2_with fail
      go_roundw
      case rel => exact ⟨k + 1, by omega, by go_num, by rw [← HNA.out], by rw [← HNC.out], HBA.out⟩
      case measure => simp [intOf]; omega
    · obtain rfl : k = zl := by omega
      have hdl : decide ((k : Int) < (k : Int)) = false := by simp
      have HTK : Hid (z.take k = z) := List.take_of_length_le (by rw [HZZ.out]; exact Nat.le_refl _)
      have s1 : (sumA (z.take k) == X) = true := by rw [HTK.out, HSA.out]; simp
      have s2 : (sumC (z.take k) == p) = true := by rw [HTK.out, HSC.out]; simp
      have HBF : Hid (Below w.heap.size w wr) := B3.out.trans (hb.mono B3.out.size)
      clear hb hst
      generalize sumA (z.take k) = sA at *
      generalize sumC (z.take k) = sC at *
      go_wp2_with fail
      go_ret
      exact ⟨rfl, HBF.out⟩

end Go.Proofs.Ytmjjfljaelahoab.tar
