/- symMerge where both stretches are of more than one number, the second way. -/
import Derived.Test.YtipihacnkiijaaaSymC
namespace Go.Proofs.Ytipihacnkiijaaa.cents
open Go.RowKit
variable {w0 : World} {g n B : Nat} {key : Int → Int}

set_option maxRecDepth 100000 in
set_option maxHeartbeats 4000000 in
theorem sym_C2 (hc : CmpOk w0 g n B key) (cap a m b mid : Nat) (ih : SymBelow w0 g n B key cap (b - a)) (f : Nat → Int) (w : World) (h : Own w0 w g n f) (hma : a + 1 < m) (h2 : m + 1 < b) (h3 : b ≤ n) (hn : n ≤ 50) (hi0 : In0 n f)
    (sl : Srt key f a m) (sr' : Srt key f m b) (t : Tie f a m b) (hmid : mid = (a + b) / 2) (hcase : m ≤ mid) : SymSaid w0 g n B key cap a m b f w := by
  unfold SymSaid
  have hone : ((m : Int) - (a : Int) == 1) = false := by simp; omega
  have hone2 : ((b : Int) - (m : Int) == 1) = false := by simp; omega
  have HQ : Hid (((a : Int) + (b : Int)) / 2 = (mid : Int)) := by show _ = _; omega
  have HC : Hid (CmpOk w0 g n B key) := hc
  have HIH : Hid (SymBelow w0 g n B key cap (b - a)) := ih
  have HSL : Hid (Srt key f a m) := sl
  have HSR : Hid (Srt key f m b) := sr'
  have HT : Hid (Tie f a m b) := t
  have HI : Hid (In0 n f) := hi0
  have HMD : Hid (mid = (a + b) / 2) := hmid
  have hmd1 : a < mid := by omega
  have hmd2 : mid < b := by omega
  have hmd3 : 2 * mid ≤ a + b := by omega
  have hmd4 : a + b ≤ 2 * mid + 1 := by omega
  obtain ⟨p, hp⟩ : ∃ p, p + 1 = mid + m := ⟨mid + m - 1, by omega⟩
  obtain ⟨s0, hs0⟩ : ∃ s0 : Nat, s0 = a := ⟨_, rfl⟩
  obtain ⟨r0, hr0⟩ : ∃ r0 : Nat, r0 = m := ⟨_, rfl⟩
  have HP : Hid ((mid : Int) + (m : Int) - 1 = (p : Int)) := by show _ = _; omega
  have HPN : Hid (p + 1 = mid + m) := hp
  have HCASE : Hid ((mid < m ∧ s0 + b = mid + m ∧ r0 = mid) ∨ (m ≤ mid ∧ s0 = a ∧ r0 = m)) := by show _ ∨ _; omega
  have k1 : a ≤ s0 := by omega
  have k2 : s0 ≤ r0 := by omega
  have k3 : r0 ≤ m := by omega
  have k4 : ∀ c, s0 ≤ c → c < r0 → m ≤ p - c ∧ p - c < b ∧ c ≤ p := by intro c c1 c2; omega
  have K4 : Hid (∀ c, s0 ≤ c → c < r0 → m ≤ p - c ∧ p - c < b ∧ c ≤ p) := k4
  have HS0 : Hid (s0 = a) := hs0
  have HR0 : Hid (r0 = m) := hr0
  clear hc ih sl sr' t hi0 hmid k4 hs0 hr0 hp
  go_enter Try.func54, Try.ntmps54
  go_upto_region 25 with fail
  rw [HQ.out]
  go_wp2_with fail
  rw [HP.out]
  go_loopw [20, 21] (fun vi vj wr => ∃ i j : Nat, s0 ≤ i ∧ i ≤ j ∧ j ≤ r0 ∧ vi = .int .i64 i ∧ vj = .int .i64 j ∧ Own w0 wr g n f ∧ (∀ k, s0 ≤ k → k < i → key (f (p - k)) ≤ key (f k)) ∧ (∀ k, j ≤ k → k < r0 → key (f k) < key (f (p - k)))) (fun vi vj _ => (intOf vj).toNat - (intOf vi).toNat)
  case atStart => exact ⟨s0, r0, Nat.le_refl _, k2, Nat.le_refl _, by have := HS0.out; congr 1; omega, by have := HR0.out; congr 1; omega, h, fun k h1 h2 => by omega, fun k h1 h2 => by omega⟩
  case round =>
    obtain ⟨i, j, hmi, hij, hjb, rfl, rfl, ho, hlo, hhi⟩ := hrel
    have HO : Hid (Own w0 wr g n f) := ho
    have HL : Hid (∀ k, s0 ≤ k → k < i → key (f (p - k)) ≤ key (f k)) := hlo
    have HH : Hid (∀ k, j ≤ k → k < r0 → key (f k) < key (f (p - k))) := hhi
    clear h ho hlo hhi
    by_cases hlt : i < j
    · obtain ⟨c, hh⟩ : ∃ c, c = (i + j) / 2 := ⟨_, rfl⟩
      have hcast : ((i : Int) + (j : Int)) / 2 = (c : Int) := by omega
      have hih : i ≤ c := by omega
      have hhj : c < j := by omega
      have HQ2 : Hid (((i : Int) + (j : Int)) / 2 = (c : Int)) := hcast
      clear hh hcast
      obtain ⟨q1, q2, q3⟩ := K4.out c (by omega) (by omega)
      have ca := HO.out.cell (i := p - c) (by omega)
      have ch := HO.out.cell (i := c) (by omega)
      have b1 := HI.out c (by omega)
      have b2 := HI.out (p - c) (by omega)
      have HX : Hid (cv key (f (p - c)) (f c) < 0 ↔ key (f c) < key (f (p - c))) := cv_neg key (f (p - c)) (f c)
      have hbd := cv_bd key (f (p - c)) (f c)
      have HCC : Hid (∀ N, Calls Try.prog 34 #[.int .i64 (f (p - c)), .int .i64 (f c), .pointer (some ⟨B, 0, none⟩)] (wr.drewN N) fun e w' => e = .returned (.int .i64 (cv key (f (p - c)) (f c))) ∧ ∃ q, w' = (wr.drewN N).drewN q) := fun N => HC.out _ f _ _ (HO.out.drewN N) b2.1 b2.2 b1.1 b1.2
      have HHK : Hid (∀ k, s0 ≤ k → k < c + 1 → key (f (p - c)) ≤ key (f c) → key (f (p - k)) ≤ key (f k)) := by
        intro k k5 k6 k7
        by_cases e : k = c
        · rw [e]; exact k7
        · have l1 := HSL.out k c (by omega) (by omega) (by omega)
          have l2 := HSR.out (p - c) (p - k) (by omega) (by omega) (by have := K4.out k (by omega) (by omega); omega)
          unfold Lo at l1 l2; omega
      have HHL : Hid (∀ k, c ≤ k → k < r0 → key (f c) < key (f (p - c)) → key (f k) < key (f (p - k))) := by
        intro k k5 k6 k7
        by_cases e : k = c
        · rw [e]; exact k7
        · have l1 := HSL.out c k (by omega) (by omega) (by omega)
          have l2 := HSR.out (p - k) (p - c) (by have := K4.out k (by omega) (by omega); omega) (by have := K4.out k (by omega) (by omega); omega) (by omega)
          unfold Lo at l1 l2; omega
      clear b1 b2
      generalize cv key (f (p - c)) (f c) = cc at *
      generalize f (p - c) = fh at *
      generalize f c = fa at *
      have hpc : (p : Int) - (c : Int) = ((p - c : Nat) : Int) := by omega
      have hpc2 : ((p : Int) - (c : Int)).toNat = p - c := by omega
      go_wp2_with fail
      rw [HQ2.out]
      by_cases hk : cc < 0
      · go_quiet ((go_at_call 34; exact Calls.quiet_of (HCC.out _)))
        go_wp2_with fail
        go_roundw
        case rel => exact ⟨i, c, hmi, hih, by omega, rfl, rfl, HO.out.drewN _, HL.out, fun k k1 k2 => HHL.out k k1 k2 (HX.out.1 hk)⟩
        case measure => simp [intOf]; omega
      · go_quiet ((go_at_call 34; exact Calls.quiet_of (HCC.out _)))
        go_wp2_with fail
        go_roundw
        case rel => exact ⟨c + 1, j, by omega, by omega, hjb, by go_num, rfl, HO.out.drewN _, fun k k1 k2 => HHK.out k k1 k2 (by have := HX.out; omega), HH.out⟩
        case measure => simp [intOf]; omega
    · obtain rfl : i = j := by omega
      obtain ⟨e, he⟩ : ∃ e, e + i = mid + m := ⟨mid + m - i, by omega⟩
      have HE : Hid ((mid : Int) + (m : Int) - (i : Int) = (e : Int)) := by show _ = _; omega
      have HX := cross HMD.out (by omega) (by omega) HPN.out he hmi hjb HCASE.out HSL.out HSR.out HT.out HL.out HH.out
      have HM1 : Hid (Mix f (rot f m (m - i) (e - m)) a b) := HX.1
      have HP1 : Hid (Parts key (rot f m (m - i) (e - m)) a i mid e b) := HX.2
      have HN1 : Hid (i = m ∨ m = e → ∀ k, rot f m (m - i) (e - m) k = f k) := by
        intro hh k
        rcases hh with hh | hh
        · rw [hh]; exact rot_none1 f m _ k
        · rw [← hh]; exact rot_none2 f m _ k
      have e1 : a ≤ i := by omega
      have e2 : i ≤ m := by omega
      have e3 : m ≤ e := by have := HCASE.out; omega
      have e4 : e ≤ b := by have := HCASE.out; omega
      have HI1 : Hid (In0 n (rot f m (m - i) (e - m))) := HX.1.allN (P := fun v => 0 ≤ v ∧ v < n) h3 HI.out
      have he1 : e + i ≤ mid + m := by omega
      have he2 : mid + m ≤ e + i := by omega
      clear HX HL HH hij hlt he
      generalize hf1 : rot f m (m - i) (e - m) = f1 at *
      have HF1 : Hid (rot f m (m - i) (e - m) = f1) := hf1
      clear hf1
      go_upto_region 39 with fail
      rw [HE.out]
      by_cases p1 : i < m
      · by_cases q1 : m < e
        · by_cases r1 : a < i
          · by_cases t1 : e < b
            · clear HN1
              go_wp2_with fail
              refine (rotate_any _ _ i m e f _ HO.out (by omega) (by omega) (by omega) hn).mono ?_
              rintro e' w1 ⟨rfl, hw1⟩
              rw [HF1.out] at hw1
              have HC1 : Hid (Own w0 w1 g n f1) := hw1
              clear hw1
              go_wp2_with fail
              refine (HIH.out a i mid f1 _ (by omega) HC1.out (by omega) (by omega) (by omega) HI1.out HP1.out.s1 HP1.out.s2 HP1.out.t1).mono ?_
              rintro e' w2 ⟨rfl, f2, ho2, hm2, hs2⟩
              have HO2 : Hid (Own w0 w2 g n f2) := ho2
              have HI2 : Hid (In0 n f2) := hm2.allN (P := fun v => 0 ≤ v ∧ v < n) (by omega) HI1.out
              have HFIN : Hid (∀ f3, Mix f2 f3 mid b → Srt key f3 mid b → Mix f f3 a b ∧ Srt key f3 a b) := fin HM1.out HP1.out hm2 hs2 (by omega) (by omega)
              have HU : Hid (∀ k, ¬ (a ≤ k ∧ k < mid) → f2 k = f1 k) := hm2.out
              clear ho2 hm2 hs2
              go_wp2_with fail
              refine (HIH.out mid e b f2 _ (by omega) HO2.out (by omega) (by omega) h3 HI2.out (HP1.out.s3.congr fun k k1 k2 => HU.out k (by omega)) (HP1.out.s4.congr fun k k1 k2 => HU.out k (by omega)) (fun x y x1 x2 y1 y2 => by rw [HU.out x (by omega), HU.out y (by omega)]; exact HP1.out.t2 x y x1 x2 y1 y2)).mono ?_
              rintro e' w3 ⟨rfl, f3, hw, hm3, hs3⟩
              go_wp2_with fail
              go_end0
              exact ⟨rfl, f3, hw, HFIN.out f3 hm3 hs3⟩
            · exfalso; omega
          · by_cases t1 : e < b
            · clear HN1
              go_wp2_with fail
              refine (rotate_any _ _ i m e f _ HO.out (by omega) (by omega) (by omega) hn).mono ?_
              rintro e' w1 ⟨rfl, hw1⟩
              rw [HF1.out] at hw1
              have HC1 : Hid (Own w0 w1 g n f1) := hw1
              clear hw1
              obtain ⟨f2, ho2, hm2, hs2⟩ : ∃ f2, Own w0 w1 g n f2 ∧ Mix f1 f2 a mid ∧ Srt key f2 a mid := ⟨f1, HC1.out, Mix.refl _ _ _, HP1.out.s2.sub (by omega) (Nat.le_refl _)⟩
              have HO2 : Hid (Own w0 w1 g n f2) := ho2
              have HI2 : Hid (In0 n f2) := hm2.allN (P := fun v => 0 ≤ v ∧ v < n) (by omega) HI1.out
              have HFIN : Hid (∀ f3, Mix f2 f3 mid b → Srt key f3 mid b → Mix f f3 a b ∧ Srt key f3 a b) := fin HM1.out HP1.out hm2 hs2 (by omega) (by omega)
              have HU : Hid (∀ k, ¬ (a ≤ k ∧ k < mid) → f2 k = f1 k) := hm2.out
              clear ho2 hm2 hs2
              go_wp2_with fail
              refine (HIH.out mid e b f2 _ (by omega) HO2.out (by omega) (by omega) h3 HI2.out (HP1.out.s3.congr fun k k1 k2 => HU.out k (by omega)) (HP1.out.s4.congr fun k k1 k2 => HU.out k (by omega)) (fun x y x1 x2 y1 y2 => by rw [HU.out x (by omega), HU.out y (by omega)]; exact HP1.out.t2 x y x1 x2 y1 y2)).mono ?_
              rintro e' w3 ⟨rfl, f3, hw, hm3, hs3⟩
              go_wp2_with fail
              go_end0
              exact ⟨rfl, f3, hw, HFIN.out f3 hm3 hs3⟩
            · clear HN1
              go_wp2_with fail
              refine (rotate_any _ _ i m e f _ HO.out (by omega) (by omega) (by omega) hn).mono ?_
              rintro e' w1 ⟨rfl, hw1⟩
              rw [HF1.out] at hw1
              have HC1 : Hid (Own w0 w1 g n f1) := hw1
              clear hw1
              obtain ⟨f2, ho2, hm2, hs2⟩ : ∃ f2, Own w0 w1 g n f2 ∧ Mix f1 f2 a mid ∧ Srt key f2 a mid := ⟨f1, HC1.out, Mix.refl _ _ _, HP1.out.s2.sub (by omega) (Nat.le_refl _)⟩
              have HO2 : Hid (Own w0 w1 g n f2) := ho2
              have HI2 : Hid (In0 n f2) := hm2.allN (P := fun v => 0 ≤ v ∧ v < n) (by omega) HI1.out
              have HFIN : Hid (∀ f3, Mix f2 f3 mid b → Srt key f3 mid b → Mix f f3 a b ∧ Srt key f3 a b) := fin HM1.out HP1.out hm2 hs2 (by omega) (by omega)
              have HU : Hid (∀ k, ¬ (a ≤ k ∧ k < mid) → f2 k = f1 k) := hm2.out
              clear ho2 hm2 hs2
              go_wp2_with fail
              go_end0
              exact ⟨rfl, f2, HO2.out, HFIN.out f2 (Mix.refl _ _ _) ((HP1.out.s3.sub (Nat.le_refl _) (by omega)).congr fun k k1 k2 => HU.out k (by omega))⟩
        · have q2 : ¬ i < mid := by omega
          have t1 : e < b := by omega
          have t2 : mid < e := by omega
          have r1 : a < i := by omega
          have HC1 : Hid (Own w0 wr g n f1) := HO.out.congr fun k _ => (HN1.out (by omega) k).symm
          obtain ⟨f2, ho2, hm2, hs2⟩ : ∃ f2, Own w0 wr g n f2 ∧ Mix f1 f2 a mid ∧ Srt key f2 a mid := ⟨f1, HC1.out, Mix.refl _ _ _, HP1.out.s1.sub (Nat.le_refl _) (by omega)⟩
          have HO2 : Hid (Own w0 wr g n f2) := ho2
          have HI2 : Hid (In0 n f2) := hm2.allN (P := fun v => 0 ≤ v ∧ v < n) (by omega) HI1.out
          have HFIN : Hid (∀ f3, Mix f2 f3 mid b → Srt key f3 mid b → Mix f f3 a b ∧ Srt key f3 a b) := fin HM1.out HP1.out hm2 hs2 (by omega) (by omega)
          have HU : Hid (∀ k, ¬ (a ≤ k ∧ k < mid) → f2 k = f1 k) := hm2.out
          clear ho2 hm2 hs2
          go_wp2_with fail
          refine (HIH.out mid e b f2 _ (by omega) HO2.out (by omega) (by omega) h3 HI2.out (HP1.out.s3.congr fun k k1 k2 => HU.out k (by omega)) (HP1.out.s4.congr fun k k1 k2 => HU.out k (by omega)) (fun x y x1 x2 y1 y2 => by rw [HU.out x (by omega), HU.out y (by omega)]; exact HP1.out.t2 x y x1 x2 y1 y2)).mono ?_
          rintro e' w3 ⟨rfl, f3, hw, hm3, hs3⟩
          go_wp2_with fail
          go_end0
          exact ⟨rfl, f3, hw, HFIN.out f3 hm3 hs3⟩
      · have t2 : ¬ mid < e := by omega
        by_cases q1 : m < e
        · have r1 : a < i := by omega
          have r2 : i < mid := by omega
          have HC1 : Hid (Own w0 wr g n f1) := HO.out.congr fun k _ => (HN1.out (by omega) k).symm
          go_wp2_with fail
          refine (HIH.out a i mid f1 _ (by omega) HC1.out (by omega) (by omega) (by omega) HI1.out HP1.out.s1 HP1.out.s2 HP1.out.t1).mono ?_
          rintro e' w2 ⟨rfl, f2, ho2, hm2, hs2⟩
          have HO2 : Hid (Own w0 w2 g n f2) := ho2
          have HI2 : Hid (In0 n f2) := hm2.allN (P := fun v => 0 ≤ v ∧ v < n) (by omega) HI1.out
          have HFIN : Hid (∀ f3, Mix f2 f3 mid b → Srt key f3 mid b → Mix f f3 a b ∧ Srt key f3 a b) := fin HM1.out HP1.out hm2 hs2 (by omega) (by omega)
          have HU : Hid (∀ k, ¬ (a ≤ k ∧ k < mid) → f2 k = f1 k) := hm2.out
          clear ho2 hm2 hs2
          go_wp2_with fail
          go_end0
          exact ⟨rfl, f2, HO2.out, HFIN.out f2 (Mix.refl _ _ _) ((HP1.out.s4.sub (by omega) (Nat.le_refl _)).congr fun k k1 k2 => HU.out k (by omega))⟩
        · have r1 : ¬ i < mid := by omega
          have r2 : a < i := by omega
          have HC1 : Hid (Own w0 wr g n f1) := HO.out.congr fun k _ => (HN1.out (by omega) k).symm
          obtain ⟨f2, ho2, hm2, hs2⟩ : ∃ f2, Own w0 wr g n f2 ∧ Mix f1 f2 a mid ∧ Srt key f2 a mid := ⟨f1, HC1.out, Mix.refl _ _ _, HP1.out.s1.sub (Nat.le_refl _) (by omega)⟩
          have HO2 : Hid (Own w0 wr g n f2) := ho2
          have HI2 : Hid (In0 n f2) := hm2.allN (P := fun v => 0 ≤ v ∧ v < n) (by omega) HI1.out
          have HFIN : Hid (∀ f3, Mix f2 f3 mid b → Srt key f3 mid b → Mix f f3 a b ∧ Srt key f3 a b) := fin HM1.out HP1.out hm2 hs2 (by omega) (by omega)
          have HU : Hid (∀ k, ¬ (a ≤ k ∧ k < mid) → f2 k = f1 k) := hm2.out
          clear ho2 hm2 hs2
          go_wp2_with fail
          go_end0
          exact ⟨rfl, f2, HO2.out, HFIN.out f2 (Mix.refl _ _ _) ((HP1.out.s4.sub (by omega) (Nat.le_refl _)).congr fun k k1 k2 => HU.out k (by omega))⟩

/-- symMerge, whatever the stretches. -/
theorem sym_any (hc : CmpOk w0 g n B key) (hn : n ≤ 50) (cap K : Nat) : SymBelow w0 g n B key cap K := by
  induction K with
  | zero => intro a m b f w h; omega
  | succ K ih =>
    intro a m b f w hK ho h1 h2 h3 hi sl sr' t
    by_cases c1 : m = a + 1
    · exact sym_A hc cap a m b f w ho c1 h2 h3 hn hi sr' t
    · by_cases c2 : b = m + 1
      · exact sym_B hc cap a m b f w ho (by omega) c2 h3 hn hi sl t
      · have ih' : SymBelow w0 g n B key cap (b - a) := fun a' m' b' f' w' hh => ih a' m' b' f' w' (by omega)
        by_cases c3 : (a + b) / 2 < m
        · exact sym_C1 hc cap a m b _ ih' f w ho (by omega) (by omega) h3 hn hi sl sr' t rfl c3
        · exact sym_C2 hc cap a m b _ ih' f w ho (by omega) (by omega) h3 hn hi sl sr' t rfl (by omega)

end Go.Proofs.Ytipihacnkiijaaa.cents
