/- The statement DebtEnds. -/
import Derived.Test.YtodnlecccgiogabKdT
import Derived.Test.YtodnlecccgiogabKdR
import Derived.Test.YtodnlecccgiogabKdN
import Derived.Test.YtodnlecccgiogabDbQ
import Derived.Test.YtodnlecccgiogabDbM
namespace Go.Proofs.Ytodnlecccgiogab.deb
open Go.Proofs.Ytodnlecccgiogab.tar (Du du0 Came RowD Ld TwoPost PairT)
open Go.Proofs.Ytodnlecccgiogab.check (pick picked_any pick_nonneg pick_lt)
open Go.RowKit
set_option maxRecDepth 100000
set_option linter.unusedVariables false
set_option linter.unusedSimpArgs false

/-- So often that nothing is left, and not once less. -/
structure Often (T s : Int) (N : Nat) : Prop where
  pos : 0 < N ↔ 0 < T
  more : ∀ k : Nat, k < N → (k : Int) * s < T
  done : T ≤ (N : Int) * s
theorem TimesIs.often {l : List Du} {t bp n e s : Int} (h : TimesIs l t bp n e) (hm : Mays l) (ht : TMay t bp) (hs : t * bp / 10000 = s) (hs1 : 1 ≤ s) : ∃ N : Nat, n = (N : Int) ∧ e = 0 ∧ Often (sumD l) s N := by
  have hT := (sumD_pos (mem_fits hm.2)).1
  rcases h with ⟨a, _⟩ | ⟨_, b, _⟩ | ⟨_, _, c, rfl, rfl⟩ | ⟨_, _, _, d, _⟩ | ⟨_, _, c, _, rfl, g⟩
  · exact absurd hm a
  · exact absurd ht b
  · exact ⟨0, rfl, rfl, ⟨⟨fun h => absurd h (by decide), fun h => by omega⟩, fun k hk => absurd hk (Nat.not_lt_zero _), by simp; omega⟩⟩
  · omega
  · rw [hs] at g
    obtain ⟨g1, g2⟩ := g
    have hn1 : 1 ≤ n := by
      by_cases hn : 1 ≤ n
      · exact hn
      · have := Int.mul_le_mul_of_nonneg_right (show n ≤ 0 by omega) (show 0 ≤ s by omega)
        omega
    refine ⟨n.toNat, by omega, rfl, ⟨⟨fun _ => by omega, fun _ => by omega⟩, fun k hk => ?_, by rw [show ((n.toNat : Nat) : Int) = n by omega]; exact g2⟩⟩
    have := Int.mul_le_mul_of_nonneg_right (show (k : Int) ≤ n - 1 by omega) (show 0 ≤ s by omega)
    omega
theorem sum_small {l : List Du} (h : ∀ d ∈ l, d.a ≤ 10000) : sumD l ≤ (l.length : Int) * 10000 := by
  induction l with
  | nil => exact Int.le_refl _
  | cons d l ih =>
    have h1 := ih fun x hx => h x (List.mem_cons_of_mem _ hx)
    have h2 := h d List.mem_cons_self
    show d.a + sumD l ≤ ((l.length + 1 : Nat) : Int) * 10000
    omega
theorem often_few {T s : Int} {N : Nat} (h : Often T s N) (hT : T ≤ 80000) (hs : 100 ≤ s) : N ≤ 1000 := by
  by_cases hn : N ≤ 1000
  · exact hn
  · have h1 := h.more 1000 (by omega)
    have h2 : (1000 : Int) * 100 ≤ (1000 : Int) * s := Int.mul_le_mul_of_nonneg_left hs (by decide)
    omega
theorem share_low {x y : Int} (hx : 1000 ≤ x) (hy : 1000 ≤ y) : 100 ≤ x * y / 10000 := by
  have h1 : (1000 : Int) * 1000 ≤ x * y := Int.le_trans (Int.mul_le_mul_of_nonneg_right hx (by decide)) (Int.mul_le_mul_of_nonneg_left hy (by omega))
  omega
set_option maxHeartbeats 4000000 in
theorem DebtEnds_walk (KTotal : KdTotal) (KRec : KdRec) (KTimes : KdTimes) (a : Option Addr) (len cap : Nat) (rs : List Du) (t y : Int) (w : World) (h : Came w a len cap rs) (ht : (Lit.int .i64 t).wf = true) (hy : (Lit.int .i64 y).wf = true) : Calls Try.prog 4 #[.slice a len cap, .int .i64 t, .int .i64 y] w fun e w' => e = .returned (.bool true) ∧ Below w.heap.size w w' := by
  have HST : Hid (Calls Try.prog 5 #[.slice a len cap, .int .i64 10000] w fun e w' => GaveO w 10000 e w') := owing_any a len cap 10000 (by decide) rs w h
  have HP1 : Hid (∀ W, Calls Try.prog 6 #[.int .i64 t, .int .i64 100000] W fun e w' => e = .returned (.int .i64 (pick t 100000)) ∧ w' = W) := fun W => picked_any t 100000 W ht (by decide) (by decide)
  have qP10 := pick_nonneg t 100000 (by decide)
  have qP11 := pick_lt t 100000 (by decide)
  generalize pick t 100000 = X at *
  have HP2 : Hid (∀ W, Calls Try.prog 6 #[.int .i64 y, .int .i64 9001] W fun e w' => e = .returned (.int .i64 (pick y 9001)) ∧ w' = W) := fun W => picked_any y 9001 W hy (by decide) (by decide)
  have qP20 := pick_nonneg y 9001 (by decide)
  have qP21 := pick_lt y 9001 (by decide)
  generalize pick y 9001 = Y at *
  clear h
  go_enter Try.func4, Try.ntmps4
  go_wp2_with fail
  refine HST.out.mono ?_
  rintro e w1 ⟨v1, ls, rfl, hm, hmo, hv1, hb1⟩
  obtain ⟨a1, cap1, rfl, hc1⟩ := ld_mays hv1 hm
  have HC1 : Hid (Came w1 a1 ls.length cap1 ls) := hc1
  have HM : Hid (Mays ls) := hm
  have HMO : Hid (∀ d ∈ ls, d.a ≤ 10000) := hmo
  have hl8 : ls.length ≤ 8 := hm.1
  have B1 : Hid (Below w.heap.size w w1) := hb1
  clear hv1 hc1 hb1 HST hm hmo
  have HTM : Hid (TMay (1000 + X) (1000 + Y)) := ⟨⟨by omega, by omega⟩, by omega, by omega⟩
  have hsb := share_bd HTM.out
  have HSV0 : ∃ s, (1000 + X) * (1000 + Y) / 10000 = s := ⟨_, rfl⟩
  obtain ⟨s, hsv⟩ := HSV0
  have HSV : Hid ((1000 + X) * (1000 + Y) / 10000 = s) := hsv
  rw [hsv] at hsb
  clear hsv
  have hs1 : 100 ≤ s := by have := share_low (x := 1000 + X) (y := 1000 + Y) (by omega) (by omega); rw [HSV.out] at this; exact this
  have HTO : Hid (∀ W a' n' c' l', Came W a' n' c' l' → Mays l' → Calls Try.prog 11 #[.slice a' n' c'] W fun e w' => e = .returned (.tuple #[.int .i64 (sumD l'), .int .i64 0]) ∧ Below W.heap.size W w') := fun W a' n' c' l' hc hm =>
    (KTotal W a' n' c' l' hc).mono fun e w' hh => by
      obtain ⟨p, f, rfl, hp, hb⟩ := hh
      obtain ⟨rfl, rfl⟩ := hp.got hm
      exact ⟨rfl, hb⟩
  clear KTotal
  have HRE : Hid (∀ W a' n' c' l', Came W a' n' c' l' → Mays l' → Calls Try.prog 12 #[.slice a' n' c', .int .i64 (1000 + X), .int .i64 (1000 + Y)] W fun e w' => ∃ a2 n2 c2, e = .returned (.tuple #[.slice a2 n2 c2, .int .i64 (min s (sumD l')), .int .i64 0]) ∧ Came w' a2 n2 c2 (recK l' s l'.length) ∧ Mays (recK l' s l'.length) ∧ Below W.heap.size W w') := fun W a' n' c' l' hc hm =>
    (KRec W a' n' c' l' (1000 + X) (1000 + Y) hc (tar.wf_mid (by omega) (by omega)) (tar.wf_mid (by omega) (by omega))).mono fun e w' hh => by
      obtain ⟨a2, n2, c2, z, p, f, rfl, hp, hcf, hb⟩ := hh
      have hcz := hcf.came
      have hmz := hp.mays
      obtain ⟨rfl, rfl, rfl⟩ := hp.got hm HTM.out
      rw [HSV.out] at hcz hmz ⊢
      exact ⟨a2, n2, c2, rfl, hcz, hmz, hb⟩
  clear KRec
  have HTI : Hid (∀ W, Came W a1 ls.length cap1 ls → Calls Try.prog 9 #[.slice a1 ls.length cap1, .int .i64 (1000 + X), .int .i64 (1000 + Y)] W fun e w' => ∃ N : Nat, e = .returned (.tuple #[.int .i64 (N : Int), .int .i64 0]) ∧ Often (sumD ls) s N ∧ Below W.heap.size W w') := fun W hc =>
    (KTimes W a1 ls.length cap1 ls (1000 + X) (1000 + Y) hc (tar.wf_mid (by omega) (by omega)) (tar.wf_mid (by omega) (by omega))).mono fun e w' hh => by
      obtain ⟨p, f, rfl, hp, hb⟩ := hh
      obtain ⟨N, rfl, rfl, hN⟩ := hp.often HM.out HTM.out HSV.out (by omega)
      exact ⟨N, rfl, hN, hb⟩
  clear KTimes
  have hT := (sumD_pos (mem_fits HM.out.2)).1
  have hT2 : sumD ls ≤ 80000 := by have := sum_small HMO.out; omega
  have HSO : Hid (∀ W, RowD W a1 ls.length ls → Calls Try.prog 10 #[.slice a1 ls.length cap1] W fun e w' => e = .returned (.int .i64 (sumD ls)) ∧ w' = W) := fun W hr => sumof a1 ls.length cap1 ls W hr HM.out
  have HRT : Hid (∀ l', Mays l' → sumD (recK l' s l'.length) = max 0 (sumD l' - s)) := fun l' hm => by rw [recK_sum hm s (by omega) _ (Nat.le_refl _), sumK_all]
  go_wp2_with fail
  refine (HP1.out _).mono ?_
  rintro e wz ⟨rfl, hwz⟩
  subst hwz
  go_wp2_with fail
  refine (HP2.out _).mono ?_
  rintro e wz ⟨rfl, hwz⟩
  subst hwz
  go_wp2_with fail
  refine (HTI.out _ HC1.out).mono ?_
  rintro e w2 ⟨N, rfl, hN, hb2⟩
  have hNs := often_few hN hT2 hs1
  have HN : Hid (Often (sumD ls) s N) := hN
  have HC2 : Hid (Came w2 a1 ls.length cap1 ls) := HC1.out.below hb2
  have B2 : Hid (Below w.heap.size w w2) := B1.out.trans (hb2.mono B1.out.size)
  have hpos := hN.pos
  clear hN hb2 HC1 B1 HTI HP1 HP2
  have HSD : Hid (Calls Try.prog 10 #[.slice a1 ls.length cap1] w2 fun e w' => e = .returned (.int .i64 (sumD ls)) ∧ w' = w2) := HSO.out _ HC2.out.row
  obtain ⟨Bz, hB1, hB2⟩ : ∃ Bz : Bool, decide (0 < (N : Int)) = Bz ∧ decide (0 < sumD ls) = Bz := by
    refine ⟨_, rfl, ?_⟩
    by_cases e : 0 < N
    · rw [decide_eq_true (hpos.1 e), decide_eq_true (show 0 < (N : Int) by omega)]
    · rw [decide_eq_false (fun h => e (hpos.2 h)), decide_eq_false (show ¬ 0 < (N : Int) by omega)]
  have hB3 : decide (0 < N) = Bz := by rw [← hB1]; exact decide_eq_decide.2 (by omega)
  have hb3 : (Bz != Bz) = false := by simp
  have f1 : decide ((N : Int) < 0) = false := decide_eq_false (by omega)
  have f2 : decide (1000 < (N : Int)) = false := decide_eq_false (by omega)
  have HM0 : Hid (Came w2 a1 ls.length cap1 ls ∧ Mays ls ∧ sumD ls = max 0 (sumD ls - ((0 : Nat) : Int) * s)) := ⟨HC2.out, HM.out, by simp; omega⟩
  clear HSO hpos HMO
  generalize ls.length = n1 at *
  generalize hTT : sumD ls = T at *
  have HTT : Hid (sumD ls = T) := hTT
  clear hTT
  go_wp2_with fail
  refine HSD.out.mono ?_
  rintro e w3 ⟨rfl, hw3⟩
  subst hw3
  clear HSD
  go_wp2_with fail
  go_loopw [7, 12] (fun u z wr => ∃ (k : Nat) (a' : Option Addr) (n' c' : Nat) (l' : List Du), k ≤ N ∧ z = .int .i64 (k : Int) ∧ u = .slice a' n' c' ∧ Came wr a' n' c' l' ∧ Mays l' ∧ sumD l' = max 0 (T - (k : Int) * s) ∧ Below w3.heap.size w3 wr) (fun _ z _ => N - (intOf z).toNat)
  case atStart => exact ⟨0, a1, n1, cap1, ls, Nat.zero_le _, rfl, rfl, HM0.out.1, HM0.out.2.1, by have := HM0.out.2.2; rw [HTT.out]; exact this, Below.refl _ _⟩
  case round =>
    obtain ⟨k, a', n', c', l', hk, rfl, rfl, hca, hma, hsu, hb⟩ := hrel
    have HCA : Hid (Came wr a' n' c' l') := hca
    have HMA : Hid (Mays l') := hma
    have HSU : Hid (sumD l' = max 0 (T - (k : Int) * s)) := hsu
    have HBW : Hid (Below w3.heap.size w3 wr) := hb
    have HTK : Hid (Calls Try.prog 11 #[.slice a' n' c'] wr fun e w' => e = .returned (.tuple #[.int .i64 (sumD l'), .int .i64 0]) ∧ Below wr.heap.size wr w') := HTO.out _ _ _ _ _ hca hma
    by_cases hlt : k < N
    · have hdl : decide ((k : Int) < (N : Int)) = true := by simp; omega
      have hmr := HN.out.more k hlt
      have hne : (sumD l' == 0) = false := by rw [hsu]; simp; omega
      have HREK : Hid (∀ W, Came W a' n' c' l' → Calls Try.prog 12 #[.slice a' n' c', .int .i64 (1000 + X), .int .i64 (1000 + Y)] W fun e w' => ∃ a2 n2 c2, e = .returned (.tuple #[.slice a2 n2 c2, .int .i64 (min s (sumD l')), .int .i64 0]) ∧ Came w' a2 n2 c2 (recK l' s l'.length) ∧ Mays (recK l' s l'.length) ∧ Below W.heap.size W w') := fun W hc => HRE.out W a' n' c' l' hc hma
      have HNX : Hid (sumD (recK l' s l'.length) = max 0 (T - ((k + 1 : Nat) : Int) * s)) := by
        show _ = _
        rw [HRT.out l' hma, hsu, show ((k + 1 : Nat) : Int) * s = (k : Int) * s + s by rw [show ((k + 1 : Nat) : Int) = (k : Int) + 1 by omega, Int.add_mul, Int.one_mul]]
        omega
      clear hca hma hsu hb hmr
      generalize recK l' s l'.length = z2 at *
      generalize min s (sumD l') = pd at *
      generalize sumD l' = q at *
      go_wp2_with fail
      refine HTK.out.mono ?_
      rintro e w4 ⟨rfl, hb4⟩
      have HC4 : Hid (Came w4 a' n' c' l') := HCA.out.below hb4
      have B4 : Hid (Below w3.heap.size w3 w4) := HBW.out.trans (hb4.mono HBW.out.size)
      clear hb4 HTK
      go_wp2_with fail
      refine (HREK.out _ HC4.out).mono ?_
      rintro e w5 ⟨a2, n2, c2, rfl, hcz, hmz, hb5⟩
      have HCZ : Hid (Came w5 a2 n2 c2 z2) := hcz
      have HMZ : Hid (Mays z2) := hmz
      have B5 : Hid (Below w3.heap.size w3 w5) := B4.out.trans (hb5.mono B4.out.size)
      clear hb5 hcz hmz HREK HC4 HCA HBW B4
      go_wp2_with fail
      go_roundw
      case rel => exact ⟨k + 1, a2, n2, c2, z2, by omega, by go_num, by first | rfl | trivial, HCZ.out, HMZ.out, HNX.out, B5.out⟩
      case measure => simp [intOf]; omega
    · obtain rfl : k = N := by omega
      have hdl : decide ((k : Int) < (k : Int)) = false := by simp
      have hdn := HN.out.done
      have hze : (sumD l' == 0) = true := by rw [hsu]; simp; omega
      clear hca hma hsu hb hdn
      generalize sumD l' = q at *
      go_wp2_with fail
      refine HTK.out.mono ?_
      rintro e w4 ⟨rfl, hb4⟩
      have BF : Hid (Below w.heap.size w w4) := B2.out.trans ((HBW.out.trans (hb4.mono HBW.out.size)).mono B2.out.size)
      clear hb4 HTK
      go_wp2_with fail
      go_ret
      exact ⟨rfl, BF.out⟩

end Go.Proofs.Ytodnlecccgiogab.deb
