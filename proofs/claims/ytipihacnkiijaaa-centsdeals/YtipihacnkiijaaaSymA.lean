/- symMerge where the first stretch is one number alone. -/
import Derived.Test.YtipihacnkiijaaaMerge
namespace Go.Proofs.Ytipihacnkiijaaa.cents
open Go.RowKit
variable {w0 : World} {g n B : Nat} {key : Int → Int}

/-- What the comparison answers, in every world that the sort passes through. -/
def CmpOk (w0 : World) (g n B : Nat) (key : Int → Int) : Prop := ∀ (w : World) (f : Nat → Int) (x y : Int), Own w0 w g n f → 0 ≤ x → x < n → 0 ≤ y → y < n →
  Calls Try.prog 34 #[.int .i64 x, .int .i64 y, .pointer (some ⟨B, 0, none⟩)] w fun e w' => e = .returned (.int .i64 (cv key x y)) ∧ ∃ q, w' = w.drewN q

abbrev cmpV (B : Nat) : Value := .func (.func 34) #[] #[.pointer (some ⟨B, 0, none⟩)]
def In0 (n : Nat) (f : Nat → Int) : Prop := ∀ k, k < n → 0 ≤ f k ∧ f k < n

theorem rotA_step (f : Nat → Int) (a m k x : Nat) (hm : m = a + 1) (hk : a ≤ k) : swp (rot f m 1 (k - a)) k (k + 1) x = rot f m 1 (k + 1 - a) x := by
  subst hm
  simp only [swp, rot]
  repeat' split
  all_goals first | omega | (congr 1; omega)

theorem rotA_zero (f : Nat → Int) (a m x : Nat) (hm : m = a + 1) : rot f m 1 (a - a) x = f x := by
  subst hm
  simp only [rot]
  repeat' split
  all_goals first | omega | (congr 1; omega)

theorem sorted_A {f : Nat → Int} {a m i b : Nat} (hm : m = a + 1) (h1 : m ≤ i) (h2 : i ≤ b) (sr' : Srt key f m b) (t : Tie f a m b) (hlo : ∀ k, m ≤ k → k < i → key (f a) < key (f k)) (hhi : ∀ k, i ≤ k → k < b → key (f k) ≤ key (f a)) :
    Mix f (rot f m (m - a) (i - m)) a b ∧ Srt key (rot f m (m - a) (i - m)) a b := by
  refine ⟨(rot_mix f a m i (by omega) h1).wide (Nat.le_refl _) h2, ?_⟩
  have P := parts (key := key) (f := f) (a := a) (s := a) (m := m) (e := i) (b := b) (Nat.le_refl _) (by omega) h1 h2 (Srt.empty key f (by omega)) sr' t (fun i j _ _ => by omega) (fun x j x1 x2 j1 j2 => by
    obtain rfl : x = a := by omega
    exact .inl (hlo j j1 j2))
  have hmid : a + (i - m) + 1 = i := by omega
  refine Srt.join P.s2 (Srt.join P.s3 P.s4 ?_) P.x
  intro x j x1 x2 j1 j2
  obtain rfl : x = a + (i - m) := by omega
  have e1 : rot f m (m - a) (i - m) (a + (i - m)) = f a := by
    simp only [rot]
    rw [if_neg (by omega), if_pos (by omega)]
    congr 1; omega
  have e2 : rot f m (m - a) (i - m) j = f j := by
    simp only [rot]
    rw [if_neg (by omega), if_neg (by omega)]
  rw [e1, e2]
  exact tie_lo (t a j (Nat.le_refl _) (by omega) (by omega) j2) (by have := hhi j j1 j2; omega)

set_option maxRecDepth 100000 in
set_option maxHeartbeats 1000000 in
theorem sym_A (hc : CmpOk w0 g n B key) (cap a m b : Nat) (f : Nat → Int) (w : World) (h : Own w0 w g n f) (hma : m = a + 1) (h2 : m < b) (h3 : b ≤ n) (hn : n ≤ 50) (hi0 : In0 n f)
    (sr' : Srt key f m b) (t : Tie f a m b) :
    Calls Try.prog 54 #[.slice (some ⟨g, 0, none⟩) n cap, .int .i64 a, .int .i64 m, .int .i64 b, cmpV B] w fun e w' => e = .returned (.tuple #[]) ∧ ∃ f', Own w0 w' g n f' ∧ Mix f f' a b ∧ Srt key f' a b := by
  have hone : ((m : Int) - (a : Int) == 1) = true := by simp; omega
  have HC : Hid (CmpOk w0 g n B key) := hc
  have HM : Hid (m = a + 1) := hma
  have HS : Hid (Srt key f m b) := sr'
  have HT : Hid (Tie f a m b) := t
  have HI : Hid (In0 n f) := hi0
  have ham : a < m := by omega
  clear hc hma sr' t hi0
  go_enter Try.func54, Try.ntmps54
  go_wp2_with fail
  go_loopw [10, 11] (fun vi vj wr => ∃ i j : Nat, m ≤ i ∧ i ≤ j ∧ j ≤ b ∧ vi = .int .i64 i ∧ vj = .int .i64 j ∧ Own w0 wr g n f ∧ (∀ k, m ≤ k → k < i → key (f a) < key (f k)) ∧ (∀ k, j ≤ k → k < b → key (f k) ≤ key (f a))) (fun vi vj _ => (intOf vj).toNat - (intOf vi).toNat)
  case atStart => exact ⟨m, b, Nat.le_refl _, by omega, Nat.le_refl _, rfl, rfl, h, fun k h1 h2 => by omega, fun k h1 h2 => by omega⟩
  case round =>
    obtain ⟨i, j, hmi, hij, hjb, rfl, rfl, ho, hlo, hhi⟩ := hrel
    have HO : Hid (Own w0 wr g n f) := ho
    have HL : Hid (∀ k, m ≤ k → k < i → key (f a) < key (f k)) := hlo
    have HH : Hid (∀ k, j ≤ k → k < b → key (f k) ≤ key (f a)) := hhi
    clear h ho hlo hhi
    by_cases hlt : i < j
    · obtain ⟨h, hh⟩ : ∃ h, h = (i + j) / 2 := ⟨_, rfl⟩
      have hcast : ((i : Int) + (j : Int)) / 2 = (h : Int) := by omega
      have hih : i ≤ h := by omega
      have hhj : h < j := by omega
      have HQ : Hid (((i : Int) + (j : Int)) / 2 = (h : Int)) := hcast
      clear hh hcast
      have ca := HO.out.cell (i := a) (by omega)
      have ch := HO.out.cell (i := h) (by omega)
      have b1 := HI.out h (by omega)
      have b2 := HI.out a (by omega)
      have HX : Hid (cv key (f h) (f a) < 0 ↔ key (f a) < key (f h)) := cv_neg key (f h) (f a)
      have hbd := cv_bd key (f h) (f a)
      have HCC : Hid (∀ N, Calls Try.prog 34 #[.int .i64 (f h), .int .i64 (f a), .pointer (some ⟨B, 0, none⟩)] (wr.drewN N) fun e w' => e = .returned (.int .i64 (cv key (f h) (f a))) ∧ ∃ q, w' = (wr.drewN N).drewN q) := fun N => HC.out _ f _ _ (HO.out.drewN N) b1.1 b1.2 b2.1 b2.2
      have HHK : Hid (∀ k, m ≤ k → k < h + 1 → key (f a) < key (f h) → key (f a) < key (f k)) := by
        intro k k1 k2 k3
        by_cases e : k = h
        · rw [e]; exact k3
        · have := HS.out k h k1 (by omega) (by omega)
          unfold Lo at this; omega
      have HHL : Hid (∀ k, h ≤ k → k < b → key (f h) ≤ key (f a) → key (f k) ≤ key (f a)) := by
        intro k k1 k2 k3
        by_cases e : k = h
        · rw [e]; exact k3
        · have := HS.out h k (by omega) (by omega) (by omega)
          unfold Lo at this; omega
      clear b1 b2
      generalize cv key (f h) (f a) = c at *
      generalize f h = fh at *
      generalize f a = fa at *
      go_wp2_with fail
      rw [HQ.out]
      by_cases hk : c < 0
      · go_quiet ((go_at_call 34; exact Calls.quiet_of (HCC.out _)))
        go_wp2_with fail
        go_roundw
        case rel => exact ⟨h + 1, j, by omega, by omega, hjb, by go_num, rfl, HO.out.drewN _, fun k k1 k2 => HHK.out k k1 k2 (HX.out.1 hk), HH.out⟩
        case measure => simp [intOf]; omega
      · go_quiet ((go_at_call 34; exact Calls.quiet_of (HCC.out _)))
        go_wp2_with fail
        go_roundw
        case rel => exact ⟨i, h, hmi, hih, by omega, rfl, rfl, HO.out.drewN _, HL.out, fun k k1 k2 => HHL.out k k1 k2 (by have := HX.out; omega)⟩
        case measure => simp [intOf]; omega
    · obtain rfl : i = j := by omega
      have HEND : Hid (Mix f (rot f m (m - a) (i - m)) a b ∧ Srt key (rot f m (m - a) (i - m)) a b) := sorted_A HM.out hmi hjb HS.out HT.out HL.out HH.out
      clear HL HH hij hlt
      go_wp2_with fail
      go_loopw [13] (fun vk wr => ∃ k : Nat, a ≤ k ∧ k + 1 ≤ i ∧ vk = .int .i64 k ∧ Own w0 wr g n (rot f m 1 (k - a))) (fun vk _ => i - (intOf vk).toNat)
      case atStart => exact ⟨a, Nat.le_refl _, by omega, rfl, HO.out.congr fun x _ => (rotA_zero f a m x HM.out).symm⟩
      case round =>
        obtain ⟨k, hak, hki, rfl, ho2⟩ := hrel
        by_cases hlt : k + 1 < i
        · have HF : Hid (∀ x, x < n → swp (rot f m 1 (k - a)) k (k + 1) x = rot f m 1 (k + 1 - a) x) := fun x _ => rotA_step f a m k x HM.out hak
          generalize rot f m 1 (k - a) = fi at *
          have c1 := ho2.cell (i := k) (by omega)
          have c2 := ho2.cell (i := k + 1) (by omega)
          have f1 := ho2.frozen k
          have f2 := ho2.frozen (k + 1)
          have HSW : Hid (Own w0 ((wr.setCell ⟨g, k, none⟩ (.int .i64 (fi (k + 1)))).setCell ⟨g, k + 1, none⟩ (.int .i64 (fi k))).drew g n (swp fi k (k + 1))) := (ho2.swap k (k + 1)).drew
          clear ho2
          generalize fi k = x at *
          generalize fi (k + 1) = y at *
          go_wp2_with fail
          go_region
          go_wp2_with fail
          go_roundw
          case rel => exact ⟨k + 1, by omega, by omega, by go_num, HSW.out.congr HF.out⟩
          case measure => simp [intOf]; omega
        · have HG : Hid (Own w0 wr g n (rot f m (m - a) (i - m))) := by
            have e1 : m - a = 1 := by have := HM.out; omega
            have e2 : i - m = k - a := by have := HM.out; omega
            rw [e1, e2]; exact ho2
          clear ho2
          go_wp2_with fail
          refine bodyPost_ret (results_none rfl _ _ _) rfl ?_
          exact ⟨rfl, _, HG.out, HEND.out.1, HEND.out.2⟩

end Go.Proofs.Ytipihacnkiijaaa.cents
