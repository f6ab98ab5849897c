/- The statement TariffRises. -/
import Derived.Test.YtmjjfljaelahoaaKtP
import Derived.Test.YtmjjfljaelahoaaTfQ
import Derived.Test.YtmjjfljaelahoaaTxW
import Derived.Test.YtmjjfljaelahoaaTfMin
namespace Go.Proofs.Ytmjjfljaelahoaa.tar
open Go.Proofs.Ytmjjfljaelahoaa.check (pick picked_any pick_nonneg pick_lt)
open Go.RowKit
set_option maxRecDepth 100000
set_option linter.unusedVariables false
set_option linter.unusedSimpArgs false

set_option maxHeartbeats 4000000 in
theorem TariffRises_walk (KPrice : KtPrice) (a : Option Addr) (len cap : Nat) (rs : List Du) (f n : Int) (w : World) (h : Came w a len cap rs) (hf : (Lit.int .i64 f).wf = true) (hn : (Lit.int .i64 n).wf = true) : Calls Try.prog 8 #[.slice a len cap, .int .i64 f, .int .i64 n] w fun e w' => e = .returned (.bool true) ∧ Below w.heap.size w w' := by
  have HST : Hid (Calls Try.prog 20 #[.slice a len cap] w fun e w' => GaveT w e w') := stepped_any a len cap rs w h
  have HP1 : Hid (∀ W, Calls Try.prog 21 #[.int .i64 f, .int .i64 10000000] W fun e w' => e = .returned (.int .i64 (pick f 10000000)) ∧ w' = W) := fun W => picked_any f 10000000 W hf (by decide) (by decide)
  have qP10 := pick_nonneg f 10000000 (by decide)
  have qP11 := pick_lt f 10000000 (by decide)
  generalize pick f 10000000 = F at *
  have hmin0 : ∃ M : Int, min 2097151 (10000000 - F) = M ∧ 1 ≤ M ∧ M ≤ 2097151 ∧ M ≤ 10000000 - F := ⟨_, rfl, by omega, by omega, by omega⟩
  obtain ⟨M, hM, hM1, hM2, hM3⟩ := hmin0
  have hmn : ∀ W : World, (Builtin.min_ #[3, 3] 3 #[.int .i64 2097151, .int .i64 (10000000 - F)]).run Try.prog W = .ok (.int .i64 M) W := fun W => run_min _ _ _ hM W
  clear hM
  have HP2 : Hid (∀ W, Calls Try.prog 21 #[.int .i64 n, .int .i64 M] W fun e w' => e = .returned (.int .i64 (pick n M)) ∧ w' = W) := fun W => picked_any n M W hn (by omega) (by omega)
  have qP20 := pick_nonneg n M (by omega)
  have qP21 := pick_lt n M (by omega)
  generalize pick n M = X at *
  clear h
  go_enter Try.func8, Try.ntmps8
  go_wp2_with fail
  refine HST.out.mono ?_
  rintro e w1 ⟨v1, ls, rfl, hR, hv1, hb1⟩
  obtain ⟨a1, cap1, rfl, hc1⟩ := hv1.right hR
  have HC1 : Hid (Came w1 a1 ls.length cap1 ls) := hc1
  have HR : Hid (Right ls) := hR
  have HL8 : Hid (1 ≤ ls.length ∧ ls.length ≤ 8) := hR.1
  have B1 : Hid (Below w.heap.size w w1) := hb1
  clear hv1 hc1 hb1 HST hR
  have HPR : Hid (∀ W x n, Came W a1 ls.length cap1 ls → 0 ≤ x ∧ x ≤ 10000000 → 0 ≤ n ∧ n ≤ 2097151 → x + n ≤ 10000000 → Calls Try.prog 13 #[.slice a1 ls.length cap1, .int .i64 x, .int .i64 n] W fun e w' => e = .returned (.tuple #[.int .i64 (cost ls x (x + n)), .int .i64 0]) ∧ Below W.heap.size W w') := fun W x n hc hx hn hs =>
    (KPrice W a1 ls.length cap1 ls x n hc (wf_mid hx.1 (by omega)) (wf_mid hn.1 (by omega))).mono fun e w' hh => by
      obtain ⟨p, f, rfl, hp, hb⟩ := hh
      obtain ⟨rfl, rfl⟩ := hp.got HR.out ⟨hx, hn, hs⟩
      exact ⟨rfl, hb⟩
  clear KPrice
  have HPR1 : Hid (∀ W, Came W a1 ls.length cap1 ls → Calls Try.prog 13 #[.slice a1 ls.length cap1, .int .i64 F, .int .i64 X] W fun e w' => e = .returned (.tuple #[.int .i64 (cost ls F (F + X)), .int .i64 0]) ∧ Below W.heap.size W w') := fun W hc => HPR.out W F X hc ⟨by omega, by omega⟩ ⟨by omega, by omega⟩ (by omega)
  have HPR2 : Hid (∀ W, Came W a1 ls.length cap1 ls → Calls Try.prog 13 #[.slice a1 ls.length cap1, .int .i64 F, .int .i64 (X + 1)] W fun e w' => e = .returned (.tuple #[.int .i64 (cost ls F (F + (X + 1))), .int .i64 0]) ∧ Below W.heap.size W w') := fun W hc => HPR.out W F (X + 1) hc ⟨by omega, by omega⟩ ⟨by omega, by omega⟩ (by omega)
  have hsum : cost ls F (F + (X + 1)) = cost ls F (F + X) + cost ls (F + X) (F + X + 1) := by
    rw [show F + (X + 1) = F + X + 1 by omega]
    exact cost_adds HR.out F (F + X) (F + X + 1) (by omega) (by omega)
  have hbp := cost_bd HR.out F (F + X) (by omega) (by omega) (by omega)
  have hbq := cost_bd HR.out F (F + (X + 1)) (by omega) (by omega) (by omega)
  have HUN : Hid (∀ k, k < ls.length → low ls k ≤ F + X → F + X + 1 ≤ (ls.getD k du0).a → cost ls F (F + (X + 1)) - cost ls F (F + X) = (ls.getD k du0).b) := fun k hk h1 h2 => by
    have := cost_unit HR.out (F + X) k hk h1 h2
    omega
  have HEN : Hid (F + X < low ls ls.length) := by show _ < _; rw [HR.out.low_end]; omega
  generalize cost ls F (F + X) = p at *
  generalize cost ls F (F + (X + 1)) = q at *
  have hp0 : 0 ≤ p := by omega
  have hp1 : p ≤ 1000000000000 := by omega
  have hq0 : 0 ≤ q := by omega
  have hq1 : q ≤ 1000000000000 := by omega
  clear hsum hbp hbq HPR
  have HLN : Hid (ls.length = ls.length) := rfl
  generalize hln : ls.length = len1 at *
  have HLEN : Hid (ls.length = len1) := hln
  have hl1 := HL8.out.1
  have hl8 := HL8.out.2
  clear hln HLN
  go_wp2_with fail
  refine (HP1.out _).mono ?_
  rintro e w1x ⟨rfl, hwz⟩
  subst hwz
  go_wp2_with fail
  refine (HP2.out _).mono ?_
  rintro e w2x ⟨rfl, hwz⟩
  subst hwz
  have HK1 : Hid (Calls Try.prog 13 #[.slice a1 len1 cap1, .int .i64 F, .int .i64 X] w2x fun e w' => e = .returned (.tuple #[.int .i64 p, .int .i64 0]) ∧ Below w2x.heap.size w2x w') := HPR1.out w2x HC1.out
  go_wp2_with fail
  refine HK1.out.mono ?_
  rintro e w2 ⟨rfl, hbz⟩
  have HC2 : Hid (Came w2 a1 len1 cap1 ls) := HC1.out.below hbz
  have B2 : Hid (Below w.heap.size w w2) := B1.out.trans (hbz.mono B1.out.size)
  clear hbz HK1 HC1 B1
  have HK2 : Hid (Calls Try.prog 13 #[.slice a1 len1 cap1, .int .i64 F, .int .i64 (X + 1)] w2 fun e w' => e = .returned (.tuple #[.int .i64 q, .int .i64 0]) ∧ Below w2.heap.size w2 w') := HPR2.out w2 HC2.out
  go_wp2_with fail
  refine HK2.out.mono ?_
  rintro e w3 ⟨rfl, hbz⟩
  have HC3 : Hid (Came w3 a1 len1 cap1 ls) := HC2.out.below hbz
  have B3 : Hid (Below w.heap.size w w3) := B2.out.trans (hbz.mono B2.out.size)
  clear hbz HK2 HC2 B2
  obtain ⟨b, off, hab, hbl, hc⟩ := HC3.out.row.at hl1
  subst hab
  have HCE : Hid (∀ i, i < len1 → w3.cell? ⟨b, off + i * 2, none⟩ = some (.int .i64 (ls.getD i du0).a) ∧ w3.cell? ⟨b, off + i * 2 + 1, none⟩ = some (.int .i64 (ls.getD i du0).b)) := hc
  clear hc HPR1 HPR2 HP1 HP2
  go_wp2_with fail
  go_loopw [14] (fun z wr => ∃ k : Nat, k ≤ len1 ∧ z = .int .i64 (k : Int) ∧ low ls k ≤ F + X ∧ wr = w3) (fun z _ => len1 - (intOf z).toNat)
  case atStart => exact ⟨0, Nat.zero_le _, rfl, by rw [low_zero]; omega, rfl⟩
  case round =>
    obtain ⟨k, hk, rfl, hlo, hwr⟩ := hrel
    subst wr
    by_cases hlt : k < len1
    · have hdl : decide ((k : Int) < (len1 : Int)) = true := by simp; omega
      have c0 := (HCE.out k hlt).1
      have c1 := (HCE.out k hlt).2
      by_cases hle : F + X + 1 ≤ (ls.getD k du0).a
      · have hd : decide (F + X + 1 ≤ (ls.getD k du0).a) = true := decide_eq_true hle
        have hv := HUN.out k (by first | exact hlt | (rw [HLEN.out]; exact hlt)) hlo hle
        have hve : (q - p == (ls.getD k du0).b) = true := by simpa using hv
        clear hle hv hlo
        generalize (ls.getD k du0).a = u at *
        generalize (ls.getD k du0).b = y at *
        go_wp2_with fail
        go_ret
        exact ⟨rfl, B3.out⟩
      · have hd : decide (F + X + 1 ≤ (ls.getD k du0).a) = false := decide_eq_false hle
        have HNX : Hid (low ls (k + 1) ≤ F + X) := by show _ ≤ _; rw [low_next]; omega
        clear hle hlo
        generalize (ls.getD k du0).a = u at *
        generalize (ls.getD k du0).b = y at *
        go_wp2_with fail
        go_roundw
        case rel => exact ⟨k + 1, by omega, by go_num, HNX.out, by first | rfl | trivial⟩
        case measure => simp [intOf]; omega
    · obtain rfl : k = len1 := by omega
      have hen := HEN.out
      omega

end Go.Proofs.Ytmjjfljaelahoaa.tar
