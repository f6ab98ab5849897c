/- The length in bits of a number of any size; its low two words; shifts by 31. -/
import Derived.Test.YtlicdeppfhmfjaaGreatDoorBigTwin
namespace Go.Proofs.YtlicdeppfhmfjaaGreatDoor.words
open Go.RowKit
set_option maxRecDepth 100000

/-- L bits are what m takes. -/
def BitsOf (m L : Nat) : Prop := m < 2 ^ L ∧ (m = 0 → L = 0) ∧ (0 < m → 0 < L ∧ 2 ^ (L - 1) ≤ m)
theorem bitsOf_uniq {m L L' : Nat} (h : BitsOf m L) (h' : BitsOf m L') : L = L' := by
  by_cases h0 : m = 0
  · rw [h.2.1 h0, h'.2.1 h0]
  · obtain ⟨a1, a2⟩ := h.2.2 (by omega)
    obtain ⟨b1, b2⟩ := h'.2.2 (by omega)
    rcases Nat.lt_trichotomy L L' with c | c | c
    · have : 2 ^ L ≤ 2 ^ (L' - 1) := Nat.pow_le_pow_right (by decide) (by omega)
      have := h.1
      omega
    · exact c
    · have : 2 ^ L' ≤ 2 ^ (L - 1) := Nat.pow_le_pow_right (by decide) (by omega)
      have := h'.1
      omega

theorem nf_split (f : Nat → Nat) (n : Nat) : nf f (n + 1) = nf f n + 4294967296 ^ n * f n := rfl
theorem pow32 (n : Nat) : 4294967296 ^ n = 2 ^ (32 * n) := by rw [Nat.pow_mul]

theorem bits_top {m n x k : Nat} (hn : (dig m).length = n + 1) (hx : (dig m).getD n 0 = x) (hk : BitsOf x k) (hx0 : x ≠ 0) : BitsOf m (32 * n + k) := by
  have e : m = nf (fun i => (dig m).getD i 0) n + 4294967296 ^ n * x := by
    have h := dig_nf m
    rw [hn, nf, hx] at h
    exact h.symm
  have hl := nf_lt (f := fun i => (dig m).getD i 0) (n := n) fun i _ => dig_word m i
  obtain ⟨h1, _, h3⟩ := hk
  obtain ⟨h4, h5⟩ := h3 (by omega)
  rw [pow32] at e hl
  have e1 : 2 ^ (32 * n + k) = 2 ^ (32 * n) * 2 ^ k := Nat.pow_add ..
  have e2 : 2 ^ (32 * n + k - 1) = 2 ^ (32 * n) * 2 ^ (k - 1) := by rw [← Nat.pow_add]; congr 1; omega
  have h6 : 2 ^ (32 * n) * (x + 1) ≤ 2 ^ (32 * n) * 2 ^ k := Nat.mul_le_mul_left _ h1
  have h7 : 2 ^ (32 * n) * 2 ^ (k - 1) ≤ 2 ^ (32 * n) * x := Nat.mul_le_mul_left _ h5
  have h8 : 0 < 2 ^ (32 * n) := Nat.two_pow_pos _
  rw [Nat.mul_add] at h6
  have h9 : 2 ^ (32 * n) ≤ 2 ^ (32 * n) * x := Nat.le_mul_of_pos_right _ (by omega)
  refine ⟨by rw [e1]; omega, fun h => by omega, fun _ => ⟨by omega, by rw [e2]; omega⟩⟩

/-- The number that shr makes, a bit at a time. -/
theorem bits_step {x k t : Nat} (h : x / 2 ^ k = t) : x / 2 ^ (k + 1) = t / 2 := by
  rw [Nat.pow_succ, ← Nat.div_div_eq_div_mul, h]
theorem bits_end {x k : Nat} (h : x / 2 ^ k = 0) (h0 : k = 0 ∨ x / 2 ^ (k - 1) ≠ 0) : BitsOf x k := by
  have hp : 0 < 2 ^ k := Nat.two_pow_pos _
  have h1 : x < 2 ^ k := by
    rcases Nat.div_eq_zero_iff.1 h with h | h
    · omega
    · exact h
  refine ⟨h1, fun e => ?_, fun e => ?_⟩
  · rcases h0 with h0 | h0
    · exact h0
    · subst e; simp at h0
  · rcases h0 with h0 | h0
    · subst h0; simp at h1; omega
    · refine ⟨?_, ?_⟩
      · rcases Nat.eq_zero_or_pos k with h2 | h2
        · subst h2; simp at h1; omega
        · exact h2
      · rcases Nat.lt_or_ge x (2 ^ (k - 1)) with h2 | h2
        · exact absurd (Nat.div_eq_of_lt h2) h0
        · exact h2
theorem bits_le {x k t : Nat} (hx : x < 4294967296) (h : x / 2 ^ k = t) (ht : t ≠ 0) : k < 32 := by
  rcases Nat.lt_or_ge k 32 with h1 | h1
  · exact h1
  · have : 2 ^ 32 ≤ 2 ^ k := Nat.pow_le_pow_right (by decide) h1
    have : x / 2 ^ k = 0 := Nat.div_eq_of_lt (by omega)
    omega

def LenPost (w : World) (m : Nat) (e : Ending) (w' : World) : Prop := w' = w ∧ ∃ L, e = .returned (.int .i64 ((L : Nat) : Int)) ∧ BitsOf m L ∧ L ≤ 3200

theorem top_ne {m n : Nat} (h : (dig m).length = n + 1) : (dig m).getD n 0 ≠ 0 := by
  intro h0
  have e := dig_nf m
  rw [h, nf, h0] at e
  have hl := nf_lt (f := fun i => (dig m).getD i 0) (n := n) fun i _ => dig_word m i
  have := dig_high m n h
  omega

/-- The bits counted so far. -/
def BitInv (x k t : Nat) : Prop := x / 2 ^ k = t ∧ (k = 0 ∨ x / 2 ^ (k - 1) ≠ 0) ∧ k ≤ 32

set_option maxHeartbeats 1000000 in
theorem length_any (a : Option Addr) (n ca m : Nat) (w : World) (ha : Ru w a n ca (dig m)) (hn : n ≤ 100) :
    Calls Tryz.prog 105 #[.slice a n ca] w fun e w' => LenPost w m e w' := by
  have el := ha.len
  by_cases hn0 : n = 0
  · subst hn0
    have hm : m = 0 := dig_nil (List.eq_nil_of_length_eq_zero el)
    have HP : Hid (LenPost w m (.returned (.int .i64 0)) w) := ⟨rfl, 0, rfl, by subst hm; exact ⟨by decide, fun _ => rfl, fun h => by omega⟩, by omega⟩
    clear ha
    go_enter Tryz.func105, Tryz.ntmps105
    go_wp2_with fail
    go_ret
    exact HP.out
  · obtain ⟨g, rfl⟩ : ∃ g, n = g + 1 := ⟨n - 1, by omega⟩
    obtain ⟨ba, oa, rfl, hca⟩ := ha.at (i := g) (by omega)
    have hx := ha.word g
    have hx0 := top_ne el
    obtain ⟨x, hxx⟩ : ∃ x, (dig m).getD g 0 = x := ⟨_, rfl⟩
    have HF : Hid (∀ k, BitsOf x k → k ≤ 32 → LenPost w m (.returned (.int .i64 (((32 * g + k : Nat)) : Int))) w) := fun k hk hk2 => ⟨rfl, _, rfl, bits_top el hxx hk (by rw [← hxx]; exact hx0), by omega⟩
    rw [hxx] at hca hx
    have e1 : ((g + 1 : Nat) : Int) - 1 = (g : Int) := by omega
    have hz : (((g + 1 : Nat) : Int) == 0) = false := beq_eq_false_iff_ne.2 (by omega)
    clear ha el hx0 hxx
    go_enter Tryz.func105, Tryz.ntmps105
    go_wp2_with fail
    go_loop [3, 4] (fun nv tv => ∃ k t : Nat, nv = .int .i64 (k : Int) ∧ tv = .int .u32 (t : Int) ∧ t < 4294967296 ∧ BitInv x k t) (fun _ tv => (intOf tv).toNat)
    case atStart => exact ⟨0, x, rfl, rfl, hx, by simp, .inl rfl, by omega⟩
    case round =>
      obtain ⟨k, t, rfl, rfl, ht, hi⟩ := hrel
      by_cases ht0 : t = 0
      · subst ht0
        have HB : Hid (LenPost w m (.returned (.int .i64 (((32 * g + k : Nat)) : Int))) w) := HF.out k (bits_end hi.1 hi.2.1) hi.2.2
        have hk := hi.2.2
        have e2 : (g : Int) * 32 + (k : Int) = ((32 * g + k : Nat) : Int) := by omega
        clear hi HF
        go_wp2_with fail
        go_ret
        first | exact HB.out | (rw [e2]; exact HB.out)
      · have hk := bits_le hx hi.1 ht0
        have HN : Hid (BitInv x (k + 1) (t / 2)) := ⟨bits_step hi.1, .inr (by rw [Nat.add_sub_cancel, hi.1]; exact ht0), by omega⟩
        have hb : ((t : Int) != 0) = true := bne_iff_ne.2 (by omega)
        have e2 : (t : Int) / 2 = ((t / 2 : Nat) : Int) := by omega
        have hlt2 : t / 2 < t := by omega
        clear hi
        generalize t / 2 = t2 at *
        go_wp2_with fail
        go_round
        case rel => exact ⟨k + 1, t2, by go_num, by first | rfl | rw [e2], by omega, HN.out⟩
        case measure => simp [intOf]; omega

end Go.Proofs.YtlicdeppfhmfjaaGreatDoor.words
