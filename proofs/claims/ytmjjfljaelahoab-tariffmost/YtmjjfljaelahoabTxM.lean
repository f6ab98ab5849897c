/- The statement TariffMost. -/
import Derived.Test.YtmjjfljaelahoabKtP
import Derived.Test.YtmjjfljaelahoabKtM
import Derived.Test.YtmjjfljaelahoabTfQ
import Derived.Test.YtmjjfljaelahoabTxW
namespace Go.Proofs.Ytmjjfljaelahoab.tar
open Go.Proofs.Ytmjjfljaelahoab.check (pick picked_any pick_nonneg pick_lt)
open Go.RowKit
set_option maxRecDepth 100000
set_option linter.unusedVariables false
set_option linter.unusedSimpArgs false

set_option maxHeartbeats 4000000 in
theorem TariffMost_walk (KPrice : KtPrice) (KMost : KtMost) (a : Option Addr) (len cap : Nat) (rs : List Du) (f n : Int) (w : World) (h : Came w a len cap rs) (hf : (Lit.int .i64 f).wf = true) (hn : (Lit.int .i64 n).wf = true) : Calls Try.prog 3 #[.slice a len cap, .int .i64 f, .int .i64 n] w fun e w' => e = .returned (.bool true) ∧ Below w.heap.size w w' := by
  have HST : Hid (Calls Try.prog 5 #[.slice a len cap] w fun e w' => GaveT w e w') := stepped_any a len cap rs w h
  have HP1 : Hid (∀ W, Calls Try.prog 6 #[.int .i64 f, .int .i64 10000001] W fun e w' => e = .returned (.int .i64 (pick f 10000001)) ∧ w' = W) := fun W => picked_any f 10000001 W hf (by decide) (by decide)
  have qP10 := pick_nonneg f 10000001 (by decide)
  have qP11 := pick_lt f 10000001 (by decide)
  generalize pick f 10000001 = F at *
  have HP2 : Hid (∀ W, Calls Try.prog 6 #[.int .i64 n, .int .i64 1000000000001] W fun e w' => e = .returned (.int .i64 (pick n 1000000000001)) ∧ w' = W) := fun W => picked_any n 1000000000001 W hn (by decide) (by decide)
  have qP20 := pick_nonneg n 1000000000001 (by decide)
  have qP21 := pick_lt n 1000000000001 (by decide)
  generalize pick n 1000000000001 = X at *
  clear h
  go_enter Try.func3, Try.ntmps3
  go_wp2_with fail
  refine HST.out.mono ?_
  rintro e w1 ⟨v1, ls, rfl, hR, hv1, hb1⟩
  obtain ⟨a1, cap1, rfl, hc1⟩ := hv1.right hR
  have HC1 : Hid (Came w1 a1 ls.length cap1 ls) := hc1
  have HR : Hid (Right ls) := hR
  have HL8 : Hid (1 ≤ ls.length ∧ ls.length ≤ 8) := hR.1
  have B1 : Hid (Below w.heap.size w w1) := hb1
  clear hv1 hc1 hb1 HST hR
  have HPR : Hid (∀ W x n, Came W a1 ls.length cap1 ls → 0 ≤ x ∧ x ≤ 10000000 → 0 ≤ n ∧ n ≤ 2097151 → x + n ≤ 10000000 → Calls Try.prog 8 #[.slice a1 ls.length cap1, .int .i64 x, .int .i64 n] W fun e w' => e = .returned (.tuple #[.int .i64 (cost ls x (x + n)), .int .i64 0]) ∧ Below W.heap.size W w') := fun W x n hc hx hn hs =>
    (KPrice W a1 ls.length cap1 ls x n hc (wf_mid hx.1 (by omega)) (wf_mid hn.1 (by omega))).mono fun e w' hh => by
      obtain ⟨p, f, rfl, hp, hb⟩ := hh
      obtain ⟨rfl, rfl⟩ := hp.got HR.out ⟨hx, hn, hs⟩
      exact ⟨rfl, hb⟩
  clear KPrice
  have HMO : Hid (∀ W, Came W a1 ls.length cap1 ls → Calls Try.prog 7 #[.slice a1 ls.length cap1, .int .i64 F, .int .i64 X] W fun e w' => ∃ U : Int, e = .returned (.tuple #[.int .i64 U, .int .i64 (cost ls F (F + U)), .int .i64 0]) ∧ MostOf ls F X U ∧ Below W.heap.size W w') := fun W hc =>
    (KMost W a1 ls.length cap1 ls F X hc (wf_mid (by omega) (by omega)) (wf_mid (by omega) (by omega))).mono fun e w' hh => by
      obtain ⟨u, p, f, rfl, hp, hb⟩ := hh
      obtain ⟨rfl, h1, rfl⟩ := hp.got HR.out ⟨⟨by omega, by omega⟩, by omega, by omega⟩
      exact ⟨u, rfl, h1, hb⟩
  clear KMost
  have HLN : Hid (ls.length = ls.length) := rfl
  go_wp2_with fail
  refine (HP1.out _).mono ?_
  rintro e w1x ⟨rfl, hwz⟩
  subst hwz
  go_wp2_with fail
  refine (HP2.out _).mono ?_
  rintro e w2x ⟨rfl, hwz⟩
  subst hwz
  go_wp2_with fail
  refine (HMO.out _ HC1.out).mono ?_
  rintro e w2 ⟨U, rfl, hU, hbz⟩
  have HC2 : Hid (Came w2 a1 ls.length cap1 ls) := HC1.out.below hbz
  have B2 : Hid (Below w.heap.size w w2) := B1.out.trans (hbz.mono B1.out.size)
  obtain ⟨⟨hU0, hU1⟩, hU2, hU3⟩ := hU
  unfold Top at hU1 hU3
  have HPR2 : Hid (∀ W, Came W a1 ls.length cap1 ls → Calls Try.prog 8 #[.slice a1 ls.length cap1, .int .i64 F, .int .i64 U] W fun e w' => e = .returned (.tuple #[.int .i64 (cost ls F (F + U)), .int .i64 0]) ∧ Below W.heap.size W w') := fun W hc => HPR.out W F U hc ⟨by omega, by omega⟩ ⟨by omega, by omega⟩ (by omega)
  have HPR3 : Hid (U + 1 ≤ 2097151 → F + U + 1 ≤ 10000000 → ∀ W, Came W a1 ls.length cap1 ls → Calls Try.prog 8 #[.slice a1 ls.length cap1, .int .i64 F, .int .i64 (U + 1)] W fun e w' => e = .returned (.tuple #[.int .i64 (cost ls F (F + (U + 1))), .int .i64 0]) ∧ Below W.heap.size W w') := fun h1 h2 W hc => HPR.out W F (U + 1) hc ⟨by omega, by omega⟩ ⟨by omega, by omega⟩ (by omega)
  have hbp := cost_bd HR.out F (F + U) (by omega) (by omega) (by omega)
  have HOV : Hid (¬ U = 2097151 → ¬ F + U = 10000000 → X < cost ls F (F + (U + 1))) := fun h1 h2 => by
    rcases hU3 with h3 | h3
    · exact absurd h3 (by omega)
    · exact h3
  have hu4 : F + U ≤ 10000000 := by omega
  have hu5 : U ≤ 2097151 := by omega
  clear hbz HMO HPR hU1 hU3 HC1 B1
  generalize cost ls F (F + U) = p at *
  generalize cost ls F (F + (U + 1)) = s at *
  have hp0 : 0 ≤ p := by omega
  have hp1 : p ≤ 1000000000000 := by omega
  clear hbp
  generalize hln : ls.length = len1 at *
  clear hln
  have HK2 : Hid (Calls Try.prog 8 #[.slice a1 len1 cap1, .int .i64 F, .int .i64 U] w2 fun e w' => e = .returned (.tuple #[.int .i64 p, .int .i64 0]) ∧ Below w2.heap.size w2 w') := HPR2.out w2 HC2.out
  go_wp2_with fail
  refine HK2.out.mono ?_
  rintro e w3 ⟨rfl, hbz⟩
  have HC3 : Hid (Came w3 a1 len1 cap1 ls) := HC2.out.below hbz
  have B3 : Hid (Below w.heap.size w w3) := B2.out.trans (hbz.mono B2.out.size)
  clear hbz HK2 HC2 B2
  have e1 : (p != p) = false := by simp
  have e2 : decide (X < p) = false := decide_eq_false (by omega)
  clear hU2 HPR2 HP1 HP2
  by_cases hu : U = 2097151
  · have e3 : (U == 2097151) = true := by simpa using hu
    clear hu HPR3 HOV
    go_wp2_with fail
    go_ret
    exact ⟨rfl, B3.out⟩
  · have e3 : (U == 2097151) = false := by simpa using hu
    by_cases hv : F + U = 10000000
    · have e4 : (F + U == 10000000) = true := by simpa using hv
      clear hu hv HPR3 HOV
      go_wp2_with fail
      go_ret
      exact ⟨rfl, B3.out⟩
    · have e4 : (F + U == 10000000) = false := by simpa using hv
      have hov := HOV.out hu hv
      have e5 : decide (X < s) = true := decide_eq_true hov
      have HPR4 := HPR3.out (by omega) (by omega)
      have HPR3 : Hid (∀ W, Came W a1 len1 cap1 ls → Calls Try.prog 8 #[.slice a1 len1 cap1, .int .i64 F, .int .i64 (U + 1)] W fun e w' => e = .returned (.tuple #[.int .i64 s, .int .i64 0]) ∧ Below W.heap.size W w') := HPR4
      clear hu hv HOV hov HPR4
      have HK3 : Hid (Calls Try.prog 8 #[.slice a1 len1 cap1, .int .i64 F, .int .i64 (U + 1)] w3 fun e w' => e = .returned (.tuple #[.int .i64 s, .int .i64 0]) ∧ Below w3.heap.size w3 w') := HPR3.out w3 HC3.out
      go_wp2_with fail
      refine HK3.out.mono ?_
      rintro e w4 ⟨rfl, hbz⟩
      have HC4 : Hid (Came w4 a1 len1 cap1 ls) := HC3.out.below hbz
      have B4 : Hid (Below w.heap.size w w4) := B3.out.trans (hbz.mono B3.out.size)
      clear hbz HK3 HC3 B3
      go_wp2_with fail
      go_ret
      exact ⟨rfl, B4.out⟩

end Go.Proofs.Ytmjjfljaelahoab.tar
