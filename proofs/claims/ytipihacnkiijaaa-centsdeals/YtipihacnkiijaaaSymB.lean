/- symMerge where the second stretch is one number alone. -/
import Derived.Test.YtipihacnkiijaaaSymA
namespace Go.Proofs.Ytipihacnkiijaaa.cents
open Go.RowKit
variable {w0 : World} {g n B : Nat} {key : Int → Int}

theorem rotB_step (f : Nat → Int) (m k x : Nat) (hk : k < m) : swp (rot f m (m - (k + 1)) 1) (k + 1) k x = rot f m (m - k) 1 x := by
  simp only [swp, rot]
  repeat' split
  all_goals first | omega | (congr 1; omega)

theorem rotB_zero (f : Nat → Int) (m x : Nat) : rot f m (m - m) 1 x = f x := by
  simp only [rot]
  repeat' split
  all_goals first | omega | (congr 1; omega)

theorem sorted_B {f : Nat → Int} {a m i b : Nat} (hb : b = m + 1) (h1 : a ≤ i) (h2 : i ≤ m) (sl : Srt key f a m) (t : Tie f a m b) (hlo : ∀ k, a ≤ k → k < i → key (f m) ≤ key (f k)) (hhi : ∀ k, i ≤ k → k < m → key (f k) < key (f m)) :
    Mix f (rot f m (m - i) 1) a b ∧ Srt key (rot f m (m - i) 1) a b := by
  have e : b - m = 1 := by omega
  rw [← e]
  refine ⟨(rot_mix f i m b h2 (by omega)).wide h1 (Nat.le_refl _), ?_⟩
  have P := parts (key := key) (f := f) (a := a) (s := i) (m := m) (e := b) (b := b) h1 h2 (by omega) (Nat.le_refl _) sl (Srt.empty key f (by omega)) t (fun i j _ _ _ _ => by omega) (fun x j x1 x2 j1 j2 => by
    obtain rfl : j = m := by omega
    exact .inl (hhi x x1 x2))
  refine Srt.join (Srt.join P.s1 P.s2 ?_) P.s3 P.x
  intro x j x1 x2 j1 j2
  obtain rfl : j = i := by omega
  have e1 : rot f m (m - j) (b - m) x = f x := by
    simp only [rot]
    rw [if_neg (by omega), if_neg (by omega)]
  have e2 : rot f m (m - j) (b - m) j = f m := by
    simp only [rot]
    rw [if_pos (by omega)]
    congr 1; omega
  rw [e1, e2]
  exact tie_lo (t x m x1 (by omega) (Nat.le_refl _) (by omega)) (by have := hlo x x1 x2; omega)

set_option maxRecDepth 100000 in
set_option maxHeartbeats 1000000 in
theorem sym_B (hc : CmpOk w0 g n B key) (cap a m b : Nat) (f : Nat → Int) (w : World) (h : Own w0 w g n f) (hma : a + 1 < m) (h2 : b = m + 1) (h3 : b ≤ n) (hn : n ≤ 50) (hi0 : In0 n f)
    (sl : Srt key f a m) (t : Tie f a m b) :
    Calls Try.prog 54 #[.slice (some ⟨g, 0, none⟩) n cap, .int .i64 a, .int .i64 m, .int .i64 b, cmpV B] w fun e w' => e = .returned (.tuple #[]) ∧ ∃ f', Own w0 w' g n f' ∧ Mix f f' a b ∧ Srt key f' a b := by
  have hone : ((m : Int) - (a : Int) == 1) = false := by simp; omega
  have hone2 : ((b : Int) - (m : Int) == 1) = true := by simp; omega
  have HC : Hid (CmpOk w0 g n B key) := hc
  have HM : Hid (b = m + 1) := h2
  have HS : Hid (Srt key f a m) := sl
  have HT : Hid (Tie f a m b) := t
  have HI : Hid (In0 n f) := hi0
  have hmb : m < b := by omega
  clear hc h2 sl t hi0
  go_enter Try.func54, Try.ntmps54
  go_wp2_with fail
  go_loopw [14, 15] (fun vi vj wr => ∃ i j : Nat, a ≤ i ∧ i ≤ j ∧ j ≤ m ∧ vi = .int .i64 i ∧ vj = .int .i64 j ∧ Own w0 wr g n f ∧ (∀ k, a ≤ k → k < i → key (f m) ≤ key (f k)) ∧ (∀ k, j ≤ k → k < m → key (f k) < key (f m))) (fun vi vj _ => (intOf vj).toNat - (intOf vi).toNat)
  case atStart => exact ⟨a, m, Nat.le_refl _, by omega, Nat.le_refl _, rfl, rfl, h, fun k h1 h2 => by omega, fun k h1 h2 => by omega⟩
  case round =>
    obtain ⟨i, j, hmi, hij, hjb, rfl, rfl, ho, hlo, hhi⟩ := hrel
    have HO : Hid (Own w0 wr g n f) := ho
    have HL : Hid (∀ k, a ≤ k → k < i → key (f m) ≤ key (f k)) := hlo
    have HH : Hid (∀ k, j ≤ k → k < m → key (f k) < key (f m)) := hhi
    clear h ho hlo hhi
    by_cases hlt : i < j
    · obtain ⟨h, hh⟩ : ∃ h, h = (i + j) / 2 := ⟨_, rfl⟩
      have hcast : ((i : Int) + (j : Int)) / 2 = (h : Int) := by omega
      have hih : i ≤ h := by omega
      have hhj : h < j := by omega
      have HQ : Hid (((i : Int) + (j : Int)) / 2 = (h : Int)) := hcast
      clear hh hcast
      have ca := HO.out.cell (i := m) (by omega)
      have ch := HO.out.cell (i := h) (by omega)
      have b1 := HI.out h (by omega)
      have b2 := HI.out m (by omega)
      have HX : Hid (cv key (f m) (f h) < 0 ↔ key (f h) < key (f m)) := cv_neg key (f m) (f h)
      have hbd := cv_bd key (f m) (f h)
      have HCC : Hid (∀ N, Calls Try.prog 34 #[.int .i64 (f m), .int .i64 (f h), .pointer (some ⟨B, 0, none⟩)] (wr.drewN N) fun e w' => e = .returned (.int .i64 (cv key (f m) (f h))) ∧ ∃ q, w' = (wr.drewN N).drewN q) := fun N => HC.out _ f _ _ (HO.out.drewN N) b2.1 b2.2 b1.1 b1.2
      have HHK : Hid (∀ k, a ≤ k → k < h + 1 → key (f m) ≤ key (f h) → key (f m) ≤ key (f k)) := by
        intro k k1 k2 k3
        by_cases e : k = h
        · rw [e]; exact k3
        · have := HS.out k h k1 (by omega) (by omega)
          unfold Lo at this; omega
      have HHL : Hid (∀ k, h ≤ k → k < m → key (f h) < key (f m) → key (f k) < key (f m)) := by
        intro k k1 k2 k3
        by_cases e : k = h
        · rw [e]; exact k3
        · have := HS.out h k (by omega) (by omega) (by omega)
          unfold Lo at this; omega
      clear b1 b2
      generalize cv key (f m) (f h) = c at *
      generalize f h = fh at *
      generalize f m = fa at *
      go_wp2_with fail
      rw [HQ.out]
      by_cases hk : c < 0
      · go_quiet ((go_at_call 34; exact Calls.quiet_of (HCC.out _)))
        go_wp2_with fail
        go_roundw
        case rel => exact ⟨i, h, hmi, hih, by omega, rfl, rfl, HO.out.drewN _, HL.out, fun k k1 k2 => HHL.out k k1 k2 (HX.out.1 hk)⟩
        case measure => simp [intOf]; omega
      · go_quiet ((go_at_call 34; exact Calls.quiet_of (HCC.out _)))
        go_wp2_with fail
        go_roundw
        case rel => exact ⟨h + 1, j, by omega, by omega, hjb, by go_num, rfl, HO.out.drewN _, fun k k1 k2 => HHK.out k k1 k2 (by have := HX.out; omega), HH.out⟩
        case measure => simp [intOf]; omega
    · obtain rfl : i = j := by omega
      have HEND : Hid (Mix f (rot f m (m - i) 1) a b ∧ Srt key (rot f m (m - i) 1) a b) := sorted_B HM.out hmi hjb HS.out HT.out HL.out HH.out
      clear HL HH hij hlt
      go_wp2_with fail
      go_loopw [17] (fun vk wr => ∃ k : Nat, i ≤ k ∧ k ≤ m ∧ vk = .int .i64 k ∧ Own w0 wr g n (rot f m (m - k) 1)) (fun vk _ => (intOf vk).toNat - i)
      case atStart => exact ⟨m, by omega, Nat.le_refl _, rfl, HO.out.congr fun x _ => (rotB_zero f m x).symm⟩
      case round =>
        obtain ⟨k, hak, hki, rfl, ho2⟩ := hrel
        by_cases hlt : i < k
        · obtain ⟨k, rfl⟩ : ∃ q, k = q + 1 := ⟨k - 1, by omega⟩
          have hkm : ((k + 1 : Nat) : Int) - 1 = (k : Int) := by omega
          have HF : Hid (∀ x, x < n → swp (rot f m (m - (k + 1)) 1) (k + 1) k x = rot f m (m - k) 1 x) := fun x _ => rotB_step f m k x (by omega)
          generalize rot f m (m - (k + 1)) 1 = fi at *
          have c1 := ho2.cell (i := k) (by omega)
          have c2 := ho2.cell (i := k + 1) (by omega)
          have f1 := ho2.frozen k
          have f2 := ho2.frozen (k + 1)
          have HSW : Hid (Own w0 ((wr.setCell ⟨g, k + 1, none⟩ (.int .i64 (fi k))).setCell ⟨g, k, none⟩ (.int .i64 (fi (k + 1)))).drew g n (swp fi (k + 1) k)) := (ho2.swap (k + 1) k).drew
          clear ho2
          generalize fi k = x at *
          generalize fi (k + 1) = y at *
          go_wp2_with fail
          go_region
          go_wp2_with fail
          go_roundw
          case rel => exact ⟨k, by omega, by omega, by go_num, HSW.out.congr HF.out⟩
          case measure => simp [intOf]; omega
        · obtain rfl : k = i := by omega
          have HG : Hid (Own w0 wr g n (rot f m (m - k) 1)) := ho2
          clear ho2
          go_wp2_with fail
          refine bodyPost_ret (results_none rfl _ _ _) rfl ?_
          exact ⟨rfl, _, HG.out, HEND.out.1, HEND.out.2⟩

end Go.Proofs.Ytipihacnkiijaaa.cents
