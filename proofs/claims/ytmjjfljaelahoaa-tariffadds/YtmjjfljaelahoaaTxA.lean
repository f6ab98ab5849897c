/- The statement TariffAdds. -/
import Derived.Test.YtmjjfljaelahoaaKtP
import Derived.Test.YtmjjfljaelahoaaTfQ
import Derived.Test.YtmjjfljaelahoaaTxW
namespace Go.Proofs.Ytmjjfljaelahoaa.tar
open Go.Proofs.Ytmjjfljaelahoaa.check (pick picked_any pick_nonneg pick_lt)
open Go.RowKit
set_option maxRecDepth 100000
set_option linter.unusedVariables false
set_option linter.unusedSimpArgs false

set_option maxHeartbeats 4000000 in
theorem TariffAdds_walk (KPrice : KtPrice) (a : Option Addr) (len cap : Nat) (rs : List Du) (f x y : Int) (w : World) (h : Came w a len cap rs) (hf : (Lit.int .i64 f).wf = true) (hx : (Lit.int .i64 x).wf = true) (hy : (Lit.int .i64 y).wf = true) : Calls Try.prog 7 #[.slice a len cap, .int .i64 f, .int .i64 x, .int .i64 y] w fun e w' => e = .returned (.bool true) ∧ Below w.heap.size w w' := by
  have HST : Hid (Calls Try.prog 20 #[.slice a len cap] w fun e w' => GaveT w e w') := stepped_any a len cap rs w h
  have HP1 : Hid (∀ W, Calls Try.prog 21 #[.int .i64 f, .int .i64 7000001] W fun e w' => e = .returned (.int .i64 (pick f 7000001)) ∧ w' = W) := fun W => picked_any f 7000001 W hf (by decide) (by decide)
  have qP10 := pick_nonneg f 7000001 (by decide)
  have qP11 := pick_lt f 7000001 (by decide)
  generalize pick f 7000001 = F at *
  have HP2 : Hid (∀ W, Calls Try.prog 21 #[.int .i64 x, .int .i64 1000001] W fun e w' => e = .returned (.int .i64 (pick x 1000001)) ∧ w' = W) := fun W => picked_any x 1000001 W hx (by decide) (by decide)
  have qP20 := pick_nonneg x 1000001 (by decide)
  have qP21 := pick_lt x 1000001 (by decide)
  generalize pick x 1000001 = X at *
  have HP3 : Hid (∀ W, Calls Try.prog 21 #[.int .i64 y, .int .i64 1000001] W fun e w' => e = .returned (.int .i64 (pick y 1000001)) ∧ w' = W) := fun W => picked_any y 1000001 W hy (by decide) (by decide)
  have qP30 := pick_nonneg y 1000001 (by decide)
  have qP31 := pick_lt y 1000001 (by decide)
  generalize pick y 1000001 = Y at *
  clear h
  go_enter Try.func7, Try.ntmps7
  go_wp2_with fail
  refine HST.out.mono ?_
  rintro e w1 ⟨v1, ls, rfl, hR, hv1, hb1⟩
  obtain ⟨a1, cap1, rfl, hc1⟩ := hv1.right hR
  have HC1 : Hid (Came w1 a1 ls.length cap1 ls) := hc1
  have HR : Hid (Right ls) := hR
  have HL8 : Hid (1 ≤ ls.length ∧ ls.length ≤ 8) := hR.1
  have B1 : Hid (Below w.heap.size w w1) := hb1
  clear hv1 hc1 hb1 HST hR
  have HPR : Hid (∀ W x n, Came W a1 ls.length cap1 ls → 0 ≤ x ∧ x ≤ 10000000 → 0 ≤ n ∧ n ≤ 2097151 → x + n ≤ 10000000 → Calls Try.prog 13 #[.slice a1 ls.length cap1, .int .i64 x, .int .i64 n] W fun e w' => e = .returned (.tuple #[.int .i64 (cost ls x (x + n)), .int .i64 0]) ∧ Below W.heap.size W w') := fun W x n hc hx hn hs =>
    (KPrice W a1 ls.length cap1 ls x n hc (wf_mid hx.1 (by omega)) (wf_mid hn.1 (by omega))).mono fun e w' hh => by
      obtain ⟨p, f, rfl, hp, hb⟩ := hh
      obtain ⟨rfl, rfl⟩ := hp.got HR.out ⟨hx, hn, hs⟩
      exact ⟨rfl, hb⟩
  clear KPrice
  have HPR1 : Hid (∀ W, Came W a1 ls.length cap1 ls → Calls Try.prog 13 #[.slice a1 ls.length cap1, .int .i64 F, .int .i64 X] W fun e w' => e = .returned (.tuple #[.int .i64 (cost ls F (F + X)), .int .i64 0]) ∧ Below W.heap.size W w') := fun W hc => HPR.out W F X hc ⟨by omega, by omega⟩ ⟨by omega, by omega⟩ (by omega)
  have HPR2 : Hid (∀ W, Came W a1 ls.length cap1 ls → Calls Try.prog 13 #[.slice a1 ls.length cap1, .int .i64 (F + X), .int .i64 Y] W fun e w' => e = .returned (.tuple #[.int .i64 (cost ls (F + X) (F + X + Y)), .int .i64 0]) ∧ Below W.heap.size W w') := fun W hc => HPR.out W (F + X) Y hc ⟨by omega, by omega⟩ ⟨by omega, by omega⟩ (by omega)
  have HPR3 : Hid (∀ W, Came W a1 ls.length cap1 ls → Calls Try.prog 13 #[.slice a1 ls.length cap1, .int .i64 F, .int .i64 (X + Y)] W fun e w' => e = .returned (.tuple #[.int .i64 (cost ls F (F + (X + Y))), .int .i64 0]) ∧ Below W.heap.size W w') := fun W hc => HPR.out W F (X + Y) hc ⟨by omega, by omega⟩ ⟨by omega, by omega⟩ (by omega)
  have hsum : cost ls F (F + X) + cost ls (F + X) (F + X + Y) = cost ls F (F + (X + Y)) := by
    rw [show F + (X + Y) = F + X + Y by omega]
    exact (cost_adds HR.out F (F + X) (F + X + Y) (by omega) (by omega)).symm
  have hbp := cost_bd HR.out F (F + X) (by omega) (by omega) (by omega)
  have hbq := cost_bd HR.out (F + X) (F + X + Y) (by omega) (by omega) (by omega)
  generalize cost ls F (F + X) = p at *
  generalize cost ls (F + X) (F + X + Y) = q at *
  generalize cost ls F (F + (X + Y)) = s at *
  have hp0 : 0 ≤ p := by omega
  have hp1 : p ≤ 100000000000 := by omega
  have hq0 : 0 ≤ q := by omega
  have hq1 : q ≤ 100000000000 := by omega
  have hzz : X = 0 ↔ p = 0 := ⟨fun e => by subst e; omega, fun e => by omega⟩
  have HSE : Hid ((p + q == s) = true) := by show _ = true; simpa using hsum
  obtain ⟨Bz, hB1, hB2⟩ : ∃ Bz : Bool, (X == 0) = Bz ∧ (p == 0) = Bz := by
    refine ⟨_, rfl, ?_⟩
    by_cases e : X = 0
    · rw [show (p == 0) = true by simpa using hzz.1 e, show (X == 0) = true by simpa using e]
    · rw [show (p == 0) = false by simpa using fun h => e (hzz.2 h), show (X == 0) = false by simpa using e]
  have HB12 : Hid ((X == 0) = Bz ∧ (p == 0) = Bz) := ⟨hB1, hB2⟩
  clear hsum hbp hbq hzz HPR hB1 hB2
  generalize hln : ls.length = len1 at *
  clear hln
  go_wp2_with fail
  refine (HP1.out _).mono ?_
  rintro e w1x ⟨rfl, hwz⟩
  subst hwz
  go_wp2_with fail
  refine (HP2.out _).mono ?_
  rintro e w2x ⟨rfl, hwz⟩
  subst hwz
  go_wp2_with fail
  refine (HP3.out _).mono ?_
  rintro e w3x ⟨rfl, hwz⟩
  subst hwz
  have HK1 : Hid (Calls Try.prog 13 #[.slice a1 len1 cap1, .int .i64 F, .int .i64 X] w3x fun e w' => e = .returned (.tuple #[.int .i64 p, .int .i64 0]) ∧ Below w3x.heap.size w3x w') := HPR1.out w3x HC1.out
  go_wp2_with fail
  refine HK1.out.mono ?_
  rintro e w2 ⟨rfl, hbz⟩
  have HC2 : Hid (Came w2 a1 len1 cap1 ls) := HC1.out.below hbz
  have B2 : Hid (Below w.heap.size w w2) := B1.out.trans (hbz.mono B1.out.size)
  clear hbz HK1 HC1 B1
  have HK2 : Hid (Calls Try.prog 13 #[.slice a1 len1 cap1, .int .i64 (F + X), .int .i64 Y] w2 fun e w' => e = .returned (.tuple #[.int .i64 q, .int .i64 0]) ∧ Below w2.heap.size w2 w') := HPR2.out w2 HC2.out
  go_wp2_with fail
  refine HK2.out.mono ?_
  rintro e w3 ⟨rfl, hbz⟩
  have HC3 : Hid (Came w3 a1 len1 cap1 ls) := HC2.out.below hbz
  have B3 : Hid (Below w.heap.size w w3) := B2.out.trans (hbz.mono B2.out.size)
  clear hbz HK2 HC2 B2
  have HK3 : Hid (Calls Try.prog 13 #[.slice a1 len1 cap1, .int .i64 F, .int .i64 (X + Y)] w3 fun e w' => e = .returned (.tuple #[.int .i64 s, .int .i64 0]) ∧ Below w3.heap.size w3 w') := HPR3.out w3 HC3.out
  go_wp2_with fail
  refine HK3.out.mono ?_
  rintro e w4 ⟨rfl, hbz⟩
  have HC4 : Hid (Came w4 a1 len1 cap1 ls) := HC3.out.below hbz
  have B4 : Hid (Below w.heap.size w w4) := B3.out.trans (hbz.mono B3.out.size)
  clear hbz HK3 HC3 B3
  have hse := HSE.out
  have hb1 := HB12.out.1
  have hb2 := HB12.out.2
  have hbb : (Bz == Bz) = true := by simp
  clear HSE HB12 HPR1 HPR2 HPR3 HP1 HP2 HP3 HC4
  go_wp2_with fail
  go_ret
  exact ⟨rfl, B4.out⟩

end Go.Proofs.Ytmjjfljaelahoaa.tar
