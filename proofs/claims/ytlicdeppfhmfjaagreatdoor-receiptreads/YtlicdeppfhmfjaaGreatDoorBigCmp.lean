/- Numbers of any size are compared. -/
import Derived.Test.YtlicdeppfhmfjaaGreatDoorBig96V
namespace Go.Proofs.YtlicdeppfhmfjaaGreatDoor.words
open Go.RowKit
set_option maxRecDepth 100000

theorem nf_lt {f : Nat → Nat} : ∀ {n : Nat}, (∀ i, i < n → f i < 4294967296) → nf f n < 4294967296 ^ n
  | 0, _ => by simp [nf]
  | n + 1, h => by
    have h1 := nf_lt (f := f) (n := n) fun i hi => h i (by omega)
    have h2 := h n (by omega)
    rw [nf, Nat.pow_succ]
    have : 4294967296 ^ n * (f n + 1) ≤ 4294967296 ^ n * 4294967296 := Nat.mul_le_mul_left _ (by omega)
    rw [Nat.mul_add] at this
    omega
theorem nf_top {f g : Nat → Nat} {i : Nat} (hf : ∀ j, j < i → f j < 4294967296) (h : f i < g i) : nf f (i + 1) < nf g (i + 1) := by
  have h1 := nf_lt (f := f) (n := i) hf
  rw [nf, nf]
  have : 4294967296 ^ i * (f i + 1) ≤ 4294967296 ^ i * g i := Nat.mul_le_mul_left _ h
  rw [Nat.mul_add] at this
  omega
theorem nf_above {f g : Nat → Nat} {i : Nat} (h : nf f i < nf g i) : ∀ {n : Nat}, i ≤ n → (∀ j, i ≤ j → j < n → f j = g j) → nf f n < nf g n
  | 0, hn, _ => by have : i = 0 := by omega
                   subst this; exact h
  | n + 1, hn, he => by
    by_cases e : i = n + 1
    · subst e; exact h
    · have := nf_above h (n := n) (by omega) fun j h1 h2 => he j h1 (by omega)
      rw [nf, nf, he n (by omega) (by omega)]
      omega
theorem dig_nf (m : Nat) : nf (fun i => (dig m).getD i 0) (dig m).length = m := by rw [← nv_nf, nv_dig]
theorem dig_word (m i : Nat) : (dig m).getD i 0 < 4294967296 := by
  by_cases hi : i < (dig m).length
  · exact dig_lt m _ (by simp [List.getD, List.getElem?_eq_getElem hi])
  · simp [List.getD, List.getElem?_eq_none (show (dig m).length ≤ i by omega)]
theorem dig_low (m : Nat) : m < 4294967296 ^ (dig m).length := by
  have := nf_lt (f := fun i => (dig m).getD i 0) (n := (dig m).length) fun i _ => dig_word m i
  rwa [dig_nf] at this
theorem dig_high : ∀ (m k : Nat), (dig m).length = k + 1 → 4294967296 ^ k ≤ m := by
  intro m k
  induction k generalizing m with
  | zero =>
    intro h
    have : m ≠ 0 := by intro e; rw [e, dig_zero] at h; simp at h
    simp; omega
  | succ k ih =>
    intro h
    have h0 : m ≠ 0 := by intro e; rw [e, dig_zero] at h; simp at h
    rw [dig_pos h0] at h
    have := ih (m / 4294967296) (by simpa using h)
    rw [Nat.pow_succ]
    have h2 := Nat.mul_le_mul_right 4294967296 this
    omega
theorem len_less {m k : Nat} (h : (dig m).length < (dig k).length) : m < k := by
  have h1 := dig_low m
  have h2 := dig_high k ((dig k).length - 1) (by omega)
  have h3 : 4294967296 ^ (dig m).length ≤ 4294967296 ^ ((dig k).length - 1) := Nat.pow_le_pow_right (by decide) (by omega)
  omega
theorem word_less {m k i : Nat} (hl : (dig m).length = (dig k).length) (hi : i < (dig m).length) (hab : ∀ j, i + 1 ≤ j → j < (dig m).length → (dig m).getD j 0 = (dig k).getD j 0) (h : (dig m).getD i 0 < (dig k).getD i 0) : m < k := by
  have h1 := nf_top (f := fun j => (dig m).getD j 0) (g := fun j => (dig k).getD j 0) (i := i) (fun j _ => dig_word m j) h
  have h2 := nf_above h1 (n := (dig m).length) (by omega) hab
  rw [dig_nf] at h2
  rw [hl, dig_nf] at h2
  exact h2
theorem same_words {m k : Nat} (hl : (dig m).length = (dig k).length) (h : ∀ j, j < (dig m).length → (dig m).getD j 0 = (dig k).getD j 0) : m = k := by
  apply dig_inj
  apply List.ext_getElem hl
  intro i h1 h2
  have := h i h1
  simpa [List.getD, List.getElem?_eq_getElem h1, List.getElem?_eq_getElem h2] using this

theorem cmp3_lt {x y : Int} (h : x < y) : cmp3 x y = -1 := by unfold cmp3; rw [if_pos h]
theorem cmp3_gt {x y : Int} (h : y < x) : cmp3 x y = 1 := by unfold cmp3; rw [if_neg (by omega), if_pos h]
theorem cmp3_eq (x : Int) : cmp3 x x = 0 := by unfold cmp3; rw [if_neg (by omega), if_neg (by omega)]

theorem drew2 (w : World) (a b : Nat) : (w.drewN a).drewN b = w.drewN (a + b) := by simp [World.drewN, Nat.add_assoc]
theorem drew3 (w : World) (a b c : Nat) : ((w.drewN a).drewN b).drewN c = w.drewN (a + b + c) := by rw [drew2, drew2, Nat.add_assoc]

/-- A comparison was answered; only draws were made. -/
def CmpPost (w : World) (m k : Nat) (e : Ending) (w' : World) : Prop := e = .returned (.int .i64 (cmp3 m k)) ∧ ∃ q, w' = w.drewN q

set_option maxHeartbeats 1000000 in
theorem bigcmp_any (a b : Option Addr) (n k ca cb m1 m2 : Nat) (w : World) (ha : Ru w a n ca (dig m1)) (hb : Ru w b k cb (dig m2)) (hn : n ≤ 100) (hk : k ≤ 100) :
    Calls Tryz.prog 146 #[.slice a n ca, .slice b k cb] w fun e w' => CmpPost w m1 m2 e w' := by
  have el1 := ha.len
  have el2 := hb.len
  by_cases hl : n = k
  · subst hl
    have HA : Hid (Ru w a n ca (dig m1)) := ha
    have HB : Hid (Ru w b n cb (dig m2)) := hb
    have hne : ((n : Int) != (n : Int)) = false := by simp
    have HL : Hid ((dig m1).length = n ∧ (dig m2).length = n) := ⟨el1, el2⟩
    clear ha hb el1 el2
    go_enter Tryz.func146, Tryz.ntmps146
    go_wp2_with fail
    go_loopw [5] (fun v wr => ∃ i q : Nat, i ≤ n ∧ v = .int .i64 ((i : Int) - 1) ∧ wr = w.drewN q ∧ ∀ j, i ≤ j → j < n → (dig m1).getD j 0 = (dig m2).getD j 0) (fun v _ => (intOf v + 1).toNat)
    case atStart => exact ⟨n, 0, Nat.le_refl _, rfl, rfl, fun j h1 h2 => by omega⟩
    case round =>
      obtain ⟨i, q, hin, rfl, rfl, hab⟩ := hrel
      have HAB : Hid (∀ j, i ≤ j → j < n → (dig m1).getD j 0 = (dig m2).getD j 0) := hab
      clear hab
      by_cases hi0 : i = 0
      · subst hi0
        have HE : Hid (cmp3 (m1 : Int) (m2 : Int) = 0) := by
          have e : m1 = m2 := same_words (by rw [HL.out.1, HL.out.2]) fun j hj => HAB.out j (Nat.zero_le _) (by rw [HL.out.1] at hj; exact hj)
          have goal : cmp3 (m1 : Int) (m2 : Int) = 0 := by rw [e]; exact cmp3_eq _
          exact goal
        go_wp2_with fail
        go_ret
        exact ⟨by rw [HE.out]; rfl, q, rfl⟩
      · obtain ⟨g, rfl⟩ : ∃ g, i = g + 1 := ⟨i - 1, by omega⟩
        have eg : ((g + 1 : Nat) : Int) - 1 = (g : Int) := by omega
        rw [eg]
        obtain ⟨ba, oa, rfl, hca⟩ := HA.out.at (i := g) (by omega)
        obtain ⟨bb, ob, rfl, hcb⟩ := HB.out.at (i := g) (by omega)
        have hca' : (w.drewN q).cell? ⟨ba, oa + g, none⟩ = some (.int .u32 (((dig m1).getD g 0 : Nat) : Int)) := hca
        have hcb' : (w.drewN q).cell? ⟨bb, ob + g, none⟩ = some (.int .u32 (((dig m2).getD g 0 : Nat) : Int)) := hcb
        have gn : (g : Int) < (n : Int) := by omega
        by_cases he : (dig m1).getD g 0 = (dig m2).getD g 0
        · rw [he] at hca' hca
          have HN : Hid (∀ j, g ≤ j → j < n → (dig m1).getD j 0 = (dig m2).getD j 0) := fun j h1 h2 => by
            by_cases e : j = g
            · rw [e]; exact he
            · exact HAB.out j (by omega) h2
          clear he eg
          generalize (((dig m2).getD g 0 : Nat) : Int) = y at *
          have hyy : (y != y) = false := by simp
          go_wp2_with fail
          go_quiet (fail)
          go_wp2_with fail
          go_roundw
          case rel => exact ⟨g, _, by omega, by go_num, rfl, HN.out⟩
          case measure => first | (simp [intOf]; done) | (simp [intOf]; omega)
        · have hnb : ((((dig m1).getD g 0 : Nat) : Int) != (((dig m2).getD g 0 : Nat) : Int)) = true := bne_iff_ne.2 (by omega)
          by_cases hlt : (dig m1).getD g 0 < (dig m2).getD g 0
          · have HE : Hid (cmp3 (m1 : Int) (m2 : Int) = -1) := by
              have e := word_less (m := m1) (k := m2) (i := g) (by rw [HL.out.1, HL.out.2]) (by rw [HL.out.1]; omega) (fun j h1 h2 => HAB.out j h1 (by rw [HL.out.1] at h2; exact h2)) hlt
              have goal : cmp3 (m1 : Int) (m2 : Int) = -1 := cmp3_lt (by omega)
              exact goal
            have hd : decide ((((dig m1).getD g 0 : Nat) : Int) < (((dig m2).getD g 0 : Nat) : Int)) = true := decide_eq_true (by omega)
            clear he eg hlt
            generalize (((dig m1).getD g 0 : Nat) : Int) = x at *
            generalize (((dig m2).getD g 0 : Nat) : Int) = y at *
            go_wp2_with fail
            go_quiet (fail)
            go_wp2_with fail
            go_quiet (fail)
            go_wp2_with fail
            go_ret
            exact ⟨by rw [HE.out]; rfl, _, drew3 _ _ _ _⟩
          · have HE : Hid (cmp3 (m1 : Int) (m2 : Int) = 1) := by
              have e := word_less (m := m2) (k := m1) (i := g) (by rw [HL.out.1, HL.out.2]) (by rw [HL.out.2]; omega) (fun j h1 h2 => (HAB.out j h1 (by rw [HL.out.2] at h2; exact h2)).symm) (by omega)
              have goal : cmp3 (m1 : Int) (m2 : Int) = 1 := cmp3_gt (by omega)
              exact goal
            have hd : decide ((((dig m1).getD g 0 : Nat) : Int) < (((dig m2).getD g 0 : Nat) : Int)) = false := decide_eq_false (by omega)
            clear he eg hlt
            generalize (((dig m1).getD g 0 : Nat) : Int) = x at *
            generalize (((dig m2).getD g 0 : Nat) : Int) = y at *
            go_wp2_with fail
            go_quiet (fail)
            go_wp2_with fail
            go_quiet (fail)
            go_wp2_with fail
            go_ret
            exact ⟨by rw [HE.out]; rfl, _, drew3 _ _ _ _⟩
  · have hne : ((n : Int) != (k : Int)) = true := bne_iff_ne.2 (by omega)
    by_cases hlt : n < k
    · have HE : Hid (cmp3 (m1 : Int) (m2 : Int) = -1) := by
        have e := len_less (m := m1) (k := m2) (by rw [el1, el2]; exact hlt)
        have goal : cmp3 (m1 : Int) (m2 : Int) = -1 := cmp3_lt (by omega)
        exact goal
      have hd : (n : Int) < (k : Int) := by omega
      clear ha hb el1 el2
      go_enter Tryz.func146, Tryz.ntmps146
      go_wp2_with fail
      go_ret
      exact ⟨by rw [HE.out]; rfl, 0, rfl⟩
    · have HE : Hid (cmp3 (m1 : Int) (m2 : Int) = 1) := by
        have e := len_less (m := m2) (k := m1) (by rw [el1, el2]; omega)
        have goal : cmp3 (m1 : Int) (m2 : Int) = 1 := cmp3_gt (by omega)
        exact goal
      have hd : ¬ (n : Int) < (k : Int) := by omega
      clear ha hb el1 el2
      go_enter Tryz.func146, Tryz.ntmps146
      go_wp2_with fail
      go_ret
      exact ⟨by rw [HE.out]; rfl, 0, rfl⟩

end Go.Proofs.YtlicdeppfhmfjaaGreatDoor.words
