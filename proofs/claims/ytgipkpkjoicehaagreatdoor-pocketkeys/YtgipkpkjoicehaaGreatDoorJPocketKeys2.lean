import Derived.Test.YtgipkpkjoicehaaGreatDoorJPocketKeys1
import Derived.Laws.CopyOwn
import Derived.Test.YtgipkpkjoicehaaGreatDoorMtD
import Derived.Test.YtgipkpkjoicehaaGreatDoorLet
import Derived.Test.YtgipkpkjoicehaaGreatDoorWnPj
import Derived.Test.YtgipkpkjoicehaaGreatDoorOpAt
import Derived.Deep.DeepCutAuto
import Derived.ChangeKeysEq
import Derived.Test.YtgipkpkjoicehaaGreatDoorBlk
import Derived.Lib.OthersKept
import Derived.Test.YtgipkpkjoicehaaGreatDoorBitw
import Derived.Deep.RegionWith
import Derived.Test.YtgipkpkjoicehaaGreatDoorRows
import Derived.WalkKit
import Derived.ProofKit
import Derived.OpenShut
import Derived.Below
import Derived.Lib.SmallJoins
import Derived.Lib.LaidTab
import Derived.Test.YtgipkpkjoicehaaGreatDoorTkFlN
import Derived.Lib.QuietBelow
import Derived.OwnWalk
import Derived.BigRegion
import Derived.Deep.RegionHeld
import Derived.Test.YtgipkpkjoicehaaGreatDoorProg

/- A copy of a number's words. -/
namespace Go.Proofs.YtgipkpkjoicehaaGreatDoor.words
open Go.RowKit
set_option maxRecDepth 100000

theorem own_ru {w : World} {base : Nat} {v : Value} {n : Nat} {l : List Nat} (h : w.ownsRow base 51 1 v n (l.map fun (x : Nat) => Value.int .u32 (x : Int))) (hl : l.length = n) (hlt : ∀ x ∈ l, x < 4294967296) :
    ∃ a cap, v = .slice a n cap ∧ Ru w a n cap l := by
  rcases h.2 with ⟨rfl, rfl⟩ | ⟨g, cap, cur, rfl, hb, hg, hnc, _, hcs, htake⟩
  · exact ⟨none, 0, rfl, hl, hlt, fun _ => rfl, Nat.le_refl _, .inl rfl, fun _ _ _ e _ => by cases e⟩
  · refine ⟨_, cap, rfl, hl, hlt, (fun e => by cases e), hnc, .inr ⟨g, 0, rfl, fun i hi => ?_⟩, fun b off s e _ => by obtain ⟨rfl, -, -⟩ := (by simpa using e : g = b ∧ 0 = off ∧ none = s); exact ⟨_, _, hg⟩⟩
    have := h.cellAt i (by omega)
    rw [Nat.zero_add, this]
    simp [List.getD, List.getElem?_eq_getElem (show i < l.length by omega)]

set_option maxHeartbeats 400000 in
theorem twin_any (a : Option Addr) (n cap m : Nat) (w : World) (hr : Ru w a n cap (dig m)) (hl : n ≤ 100) :
    Calls Tryz.prog 108 #[.slice a n cap] w fun e w' => Gives w m e w' := by
  obtain ⟨i0, hi, hz0, hz1, hz2⟩ := info_parts info_u32
  cases a with
  | none =>
    have hc := hr.nil rfl
    have h0 : n = 0 := by have := hr.room; omega
    subst hc h0
    have happ : ∀ w : World, (Builtin.append_ #[22, 22] 22 #[.slice none 0 0, .slice none 0 0]).run Tryz.prog w = .ok (.slice none 0 0) w := fun w => by kernel_rfl
    have HG : Hid (Gives w m (.returned (.slice none 0 0)) w) := Gives.mk hr (Below.refl _ _)
    clear hr
    go_enter Tryz.func108, Tryz.ntmps108
    go_wp2
    go_ret
    exact HG.out
  | some x =>
    have HR : Hid (Ru w (some x) n cap (dig m)) := hr
    clear hr
    go_enter Tryz.func108, Tryz.ntmps108
    go_wp2_with (first
      | (at_builtin; refine wpList_append_own _ rfl _ _ 22 rfl w.heap.size 51 i0 (.int .u32 0) 1 4 Tryz.underlying22 hi hz0 hz1 hz2 rfl (by decide) _ _ _ rfl (World.ownsRow_nil _ _ _ _) x n cap ((dig m).map fun (x : Nat) => Value.int .u32 (x : Int)) rfl ?c0 ?c1 ?c2 ?c3 ?c4 ?c5 ?_)
      | go_in)
    case c0 => simp [HR.out.len]
    case c5 => exact Nat.le_refl _
    case c1 =>
      intro j u hu
      rcases HR.out.cell with h | ⟨b, off, h, hc⟩
      · rw [List.getElem?_eq_none (by simp [HR.out.len]; omega)] at hu; cases hu
      · obtain rfl := Option.some.inj h
        by_cases hj : j < (dig m).length
        · simp [List.getElem?_eq_getElem hj] at hu
          subst hu
          have := hc j (by rw [HR.out.len] at hj; exact hj)
          simpa [Addr.add_lit, List.getD, List.getElem?_eq_getElem hj] using this
        · rw [List.getElem?_eq_none (by simp; omega)] at hu; cases hu
    case c2 => intro u hu; obtain ⟨z, _, rfl⟩ := List.mem_map.1 hu; rfl
    case c3 => unfold maxLen; omega
    case c4 => omega
    intro v' w' hown hg _
    obtain ⟨a', cap', hv, hrow⟩ := own_ru (l := dig m) (n := n) (by simpa using hown) HR.out.len HR.out.lt
    rw [hv]
    have HG : Hid (Gives w m (.returned (.slice a' n cap')) w') := Gives.mk hrow ((Below.refl _ _).grown hg (Nat.le_refl _) (fun k hk => by simp [Value.ownBlock] at hk))
    clear hown hg hrow
    go_wp2
    go_ret
    exact HG.out

end Go.Proofs.YtgipkpkjoicehaaGreatDoor.words

/- The length in bits of a number of any size; its low two words; shifts by 31. -/
namespace Go.Proofs.YtgipkpkjoicehaaGreatDoor.words
open Go.RowKit
set_option maxRecDepth 100000

/-- L bits are what m takes. -/
def BitsOf (m L : Nat) : Prop := m < 2 ^ L ∧ (m = 0 → L = 0) ∧ (0 < m → 0 < L ∧ 2 ^ (L - 1) ≤ m)
theorem bitsOf_uniq {m L L' : Nat} (h : BitsOf m L) (h' : BitsOf m L') : L = L' := by
  by_cases h0 : m = 0
  · rw [h.2.1 h0, h'.2.1 h0]
  · obtain ⟨a1, a2⟩ := h.2.2 (by omega)
    obtain ⟨b1, b2⟩ := h'.2.2 (by omega)
    rcases Nat.lt_trichotomy L L' with c | c | c
    · have : 2 ^ L ≤ 2 ^ (L' - 1) := Nat.pow_le_pow_right (by decide) (by omega)
      have := h.1
      omega
    · exact c
    · have : 2 ^ L' ≤ 2 ^ (L - 1) := Nat.pow_le_pow_right (by decide) (by omega)
      have := h'.1
      omega

theorem nf_split (f : Nat → Nat) (n : Nat) : nf f (n + 1) = nf f n + 4294967296 ^ n * f n := rfl
theorem pow32 (n : Nat) : 4294967296 ^ n = 2 ^ (32 * n) := by rw [Nat.pow_mul]

theorem bits_top {m n x k : Nat} (hn : (dig m).length = n + 1) (hx : (dig m).getD n 0 = x) (hk : BitsOf x k) (hx0 : x ≠ 0) : BitsOf m (32 * n + k) := by
  have e : m = nf (fun i => (dig m).getD i 0) n + 4294967296 ^ n * x := by
    have h := dig_nf m
    rw [hn, nf, hx] at h
    exact h.symm
  have hl := nf_lt (f := fun i => (dig m).getD i 0) (n := n) fun i _ => dig_word m i
  obtain ⟨h1, _, h3⟩ := hk
  obtain ⟨h4, h5⟩ := h3 (by omega)
  rw [pow32] at e hl
  have e1 : 2 ^ (32 * n + k) = 2 ^ (32 * n) * 2 ^ k := Nat.pow_add ..
  have e2 : 2 ^ (32 * n + k - 1) = 2 ^ (32 * n) * 2 ^ (k - 1) := by rw [← Nat.pow_add]; congr 1; omega
  have h6 : 2 ^ (32 * n) * (x + 1) ≤ 2 ^ (32 * n) * 2 ^ k := Nat.mul_le_mul_left _ h1
  have h7 : 2 ^ (32 * n) * 2 ^ (k - 1) ≤ 2 ^ (32 * n) * x := Nat.mul_le_mul_left _ h5
  have h8 : 0 < 2 ^ (32 * n) := Nat.two_pow_pos _
  rw [Nat.mul_add] at h6
  have h9 : 2 ^ (32 * n) ≤ 2 ^ (32 * n) * x := Nat.le_mul_of_pos_right _ (by omega)
  refine ⟨by rw [e1]; omega, fun h => by omega, fun _ => ⟨by omega, by rw [e2]; omega⟩⟩

/-- The number that shr makes, a bit at a time. -/
theorem bits_step {x k t : Nat} (h : x / 2 ^ k = t) : x / 2 ^ (k + 1) = t / 2 := by
  rw [Nat.pow_succ, ← Nat.div_div_eq_div_mul, h]
theorem bits_end {x k : Nat} (h : x / 2 ^ k = 0) (h0 : k = 0 ∨ x / 2 ^ (k - 1) ≠ 0) : BitsOf x k := by
  have hp : 0 < 2 ^ k := Nat.two_pow_pos _
  have h1 : x < 2 ^ k := by
    rcases Nat.div_eq_zero_iff.1 h with h | h
    · omega
    · exact h
  refine ⟨h1, fun e => ?_, fun e => ?_⟩
  · rcases h0 with h0 | h0
    · exact h0
    · subst e; simp at h0
  · rcases h0 with h0 | h0
    · subst h0; simp at h1; omega
    · refine ⟨?_, ?_⟩
      · rcases Nat.eq_zero_or_pos k with h2 | h2
        · subst h2; simp at h1; omega
        · exact h2
      · rcases Nat.lt_or_ge x (2 ^ (k - 1)) with h2 | h2
        · exact absurd (Nat.div_eq_of_lt h2) h0
        · exact h2
theorem bits_le {x k t : Nat} (hx : x < 4294967296) (h : x / 2 ^ k = t) (ht : t ≠ 0) : k < 32 := by
  rcases Nat.lt_or_ge k 32 with h1 | h1
  · exact h1
  · have : 2 ^ 32 ≤ 2 ^ k := Nat.pow_le_pow_right (by decide) h1
    have : x / 2 ^ k = 0 := Nat.div_eq_of_lt (by omega)
    omega

def LenPost (w : World) (m : Nat) (e : Ending) (w' : World) : Prop := w' = w ∧ ∃ L, e = .returned (.int .i64 ((L : Nat) : Int)) ∧ BitsOf m L ∧ L ≤ 3200

theorem top_ne {m n : Nat} (h : (dig m).length = n + 1) : (dig m).getD n 0 ≠ 0 := by
  intro h0
  have e := dig_nf m
  rw [h, nf, h0] at e
  have hl := nf_lt (f := fun i => (dig m).getD i 0) (n := n) fun i _ => dig_word m i
  have := dig_high m n h
  omega

/-- The bits counted so far. -/
def BitInv (x k t : Nat) : Prop := x / 2 ^ k = t ∧ (k = 0 ∨ x / 2 ^ (k - 1) ≠ 0) ∧ k ≤ 32

set_option maxHeartbeats 1000000 in
theorem length_any (a : Option Addr) (n ca m : Nat) (w : World) (ha : Ru w a n ca (dig m)) (hn : n ≤ 100) :
    Calls Tryz.prog 74 #[.slice a n ca] w fun e w' => LenPost w m e w' := by
  have el := ha.len
  by_cases hn0 : n = 0
  · subst hn0
    have hm : m = 0 := dig_nil (List.eq_nil_of_length_eq_zero el)
    have HP : Hid (LenPost w m (.returned (.int .i64 0)) w) := ⟨rfl, 0, rfl, by subst hm; exact ⟨by decide, fun _ => rfl, fun h => by omega⟩, by omega⟩
    clear ha
    go_enter Tryz.func74, Tryz.ntmps74
    go_wp2_with fail
    go_ret
    exact HP.out
  · obtain ⟨g, rfl⟩ : ∃ g, n = g + 1 := ⟨n - 1, by omega⟩
    obtain ⟨ba, oa, rfl, hca⟩ := ha.at (i := g) (by omega)
    have hx := ha.word g
    have hx0 := top_ne el
    obtain ⟨x, hxx⟩ : ∃ x, (dig m).getD g 0 = x := ⟨_, rfl⟩
    have HF : Hid (∀ k, BitsOf x k → k ≤ 32 → LenPost w m (.returned (.int .i64 (((32 * g + k : Nat)) : Int))) w) := fun k hk hk2 => ⟨rfl, _, rfl, bits_top el hxx hk (by rw [← hxx]; exact hx0), by omega⟩
    rw [hxx] at hca hx
    have e1 : ((g + 1 : Nat) : Int) - 1 = (g : Int) := by omega
    have hz : (((g + 1 : Nat) : Int) == 0) = false := beq_eq_false_iff_ne.2 (by omega)
    clear ha el hx0 hxx
    go_enter Tryz.func74, Tryz.ntmps74
    go_wp2_with fail
    go_loop [3, 4] (fun nv tv => ∃ k t : Nat, nv = .int .i64 (k : Int) ∧ tv = .int .u32 (t : Int) ∧ t < 4294967296 ∧ BitInv x k t) (fun _ tv => (intOf tv).toNat)
    case atStart => exact ⟨0, x, rfl, rfl, hx, by simp, .inl rfl, by omega⟩
    case round =>
      obtain ⟨k, t, rfl, rfl, ht, hi⟩ := hrel
      by_cases ht0 : t = 0
      · subst ht0
        have HB : Hid (LenPost w m (.returned (.int .i64 (((32 * g + k : Nat)) : Int))) w) := HF.out k (bits_end hi.1 hi.2.1) hi.2.2
        have hk := hi.2.2
        have e2 : (g : Int) * 32 + (k : Int) = ((32 * g + k : Nat) : Int) := by omega
        clear hi HF
        go_wp2_with fail
        go_ret
        first | exact HB.out | (rw [e2]; exact HB.out)
      · have hk := bits_le hx hi.1 ht0
        have HN : Hid (BitInv x (k + 1) (t / 2)) := ⟨bits_step hi.1, .inr (by rw [Nat.add_sub_cancel, hi.1]; exact ht0), by omega⟩
        have hb : ((t : Int) != 0) = true := bne_iff_ne.2 (by omega)
        have e2 : (t : Int) / 2 = ((t / 2 : Nat) : Int) := by omega
        have hlt2 : t / 2 < t := by omega
        clear hi
        generalize t / 2 = t2 at *
        go_wp2_with fail
        go_round
        case rel => exact ⟨k + 1, t2, by go_num, by first | rfl | rw [e2], by omega, HN.out⟩
        case measure => simp [intOf]; omega

end Go.Proofs.YtgipkpkjoicehaaGreatDoor.words

/- Shifts of a number of any size. -/
namespace Go.Proofs.YtgipkpkjoicehaaGreatDoor.words
open Go.RowKit
set_option maxRecDepth 100000

theorem or_low {r q s : Nat} (hr : r < 2 ^ s) : r ||| q * 2 ^ s = r + q * 2 ^ s := by
  have h := Nat.shiftLeft_add_eq_or_of_lt hr q
  rw [Nat.shiftLeft_eq] at h
  rw [Nat.or_comm, ← h, Nat.add_comm]
theorem pow_parts {s : Nat} (hs : s < 32) : ∃ C, 4294967296 = 2 ^ s * C ∧ 0 < C := ⟨2 ^ (32 - s), by rw [← Nat.pow_add, show s + (32 - s) = 32 by omega], Nat.two_pow_pos _⟩

/-- A word times 2^s: its low word is a multiple of 2^s, its high word is below 2^s. -/
theorem shl_parts {x s : Nat} (hx : x < 4294967296) (hs : s < 32) : ∃ q hi, x * 2 ^ s % 4294967296 = q * 2 ^ s ∧ x * 2 ^ s / 4294967296 = hi ∧ hi < 2 ^ s ∧ q * 2 ^ s + 2 ^ s ≤ 4294967296 ∧ x * 2 ^ s < 18446744073709551616 := by
  obtain ⟨C, hC, hC0⟩ := pow_parts hs
  have hP : 0 < 2 ^ s := Nat.two_pow_pos _
  have hP2 : 2 ^ s ≤ 2 ^ 31 := Nat.pow_le_pow_right (by decide) (by omega)
  refine ⟨x % C, x * 2 ^ s / 4294967296, ?_, rfl, ?_, ?_, ?_⟩
  · rw [hC, Nat.mul_comm x, Nat.mul_mod_mul_left, Nat.mul_comm]
  · rw [Nat.div_lt_iff_lt_mul (by decide), Nat.mul_comm]
    exact Nat.mul_lt_mul_of_pos_left hx hP
  · have : x % C < C := Nat.mod_lt _ hC0
    rw [hC, ← Nat.succ_mul, Nat.mul_comm]
    exact Nat.mul_le_mul_left _ this
  · have : x * 2 ^ s ≤ x * 2 ^ 31 := Nat.mul_le_mul_left _ hP2
    omega

theorem or32_low {r q s : Nat} (hr : r < 2 ^ s) (hq : q * 2 ^ s + 2 ^ s ≤ 4294967296) : bits .or .u32 (r : Int) ((q * 2 ^ s : Nat) : Int) = ((r + q * 2 ^ s : Nat) : Int) := by
  rw [or32 r (q * 2 ^ s) (by omega) (by omega), or_low hr]
theorem or32_zero {r : Nat} (hr : r < 4294967296) : bits .or .u32 0 (r : Int) = (r : Int) := by
  have := or32 0 r (by omega) (by omega)
  rw [Nat.zero_or] at this
  exact this

/-- A word more, shifted up. -/
theorem left_step {N W P A I x lo hi r z : Nat} (h : N = W * P * A) (hv : lo + 4294967296 * hi = x * P) (hz : z = r + lo) {N0 : Nat} (hN : N = N0 + W * I * r) :
    (N0 + W * I * z) + W * I * 4294967296 * hi = W * P * (A + I * x) := by
  rw [hz, Nat.mul_add (W * I), Nat.mul_assoc (W * I) 4294967296 hi, Nat.mul_add (W * P), ← h, hN]
  have : W * P * (I * x) = W * I * (x * P) := by
    rw [Nat.mul_assoc, Nat.mul_assoc, Nat.mul_left_comm P I x, Nat.mul_comm P x]
  rw [this, ← hv, Nat.mul_add]
  omega

/-- The words so far of a number shifted up. -/
def LeftInv (la : List Nat) (n wd s i : Nat) (f : Nat → Nat) : Prop := (∀ j, j < n + wd + 1 → f j < 4294967296) ∧ (∀ j, i + wd < j → f j = 0) ∧ f (i + wd) < 2 ^ s ∧ nf f (i + wd + 1) = 4294967296 ^ wd * 2 ^ s * nf (fun j => la.getD j 0) i

theorem left_next {la : List Nat} {n wd s i : Nat} {f : Nat → Nat} (h : LeftInv la n wd s i f) {q hi : Nat} (hl : la.getD i 0 * 2 ^ s % 4294967296 = q * 2 ^ s) (hh : la.getD i 0 * 2 ^ s / 4294967296 = hi) (h1 : hi < 2 ^ s) (h2 : q * 2 ^ s + 2 ^ s ≤ 4294967296) :
    LeftInv la n wd s (i + 1) (updU (updU f (i + wd) (f (i + wd) + q * 2 ^ s)) (i + wd + 1) hi) := by
  obtain ⟨b1, b2, b3, b4⟩ := h
  have hs : 2 ^ s ≤ 4294967296 := by omega
  refine ⟨fun j hj => ?_, fun j hj => ?_, ?_, ?_⟩
  · unfold updU
    split
    · omega
    · split
      · omega
      · exact b1 j hj
  · unfold updU
    rw [if_neg (by omega), if_neg (by omega)]
    exact b2 j (by omega)
  · rw [show i + 1 + wd = i + wd + 1 by omega]
    unfold updU
    rw [if_pos rfl]
    exact h1
  · rw [show i + 1 + wd + 1 = (i + wd + 1) + 1 by omega, nf, nf, nf]
    have e1 : nf (updU (updU f (i + wd) (f (i + wd) + q * 2 ^ s)) (i + wd + 1) hi) (i + wd) = nf f (i + wd) := nf_congr fun j hj => by
      unfold updU
      rw [if_neg (by omega), if_neg (by omega)]
    have e2 : updU (updU f (i + wd) (f (i + wd) + q * 2 ^ s)) (i + wd + 1) hi (i + wd) = f (i + wd) + q * 2 ^ s := by
      unfold updU
      rw [if_neg (by omega), if_pos rfl]
    have e3 : updU (updU f (i + wd) (f (i + wd) + q * 2 ^ s)) (i + wd + 1) hi (i + wd + 1) = hi := by
      unfold updU
      rw [if_pos rfl]
    rw [e1, e2, e3]
    rw [nf] at b4
    have hp : 4294967296 ^ (i + wd) = 4294967296 ^ wd * 4294967296 ^ i := by rw [← Nat.pow_add, Nat.add_comm]
    have hp1 : 4294967296 ^ (i + wd + 1) = 4294967296 ^ wd * 4294967296 ^ i * 4294967296 := by rw [Nat.pow_succ, hp]
    rw [hp] at b4
    rw [hp, hp1]
    have hv : q * 2 ^ s + 4294967296 * hi = la.getD i 0 * 2 ^ s := by rw [← hl, ← hh]; omega
    exact left_step (N := nf f (i + wd) + 4294967296 ^ wd * 4294967296 ^ i * f (i + wd)) (A := nf (fun j => la.getD j 0) i) (I := 4294967296 ^ i) (x := la.getD i 0) (r := f (i + wd)) b4 hv rfl rfl

theorem left_end {la : List Nat} {n wd s : Nat} {f : Nat → Nat} (h : LeftInv la n wd s n f) (hl : la.length ≤ n) : nv ((List.range (n + wd + 1)).map f) = nv la * 2 ^ (32 * wd + s) := by
  rw [nv_range, h.2.2.2, ← nv_more la hl, pow32, ← Nat.pow_add, Nat.mul_comm]

set_option maxHeartbeats 2000000 in
theorem left_some (a : Option Addr) (n ca wd s : Nat) (la : List Nat) (w : World) (ha : Ru w a n ca la) (n0 : n ≠ 0) (hn : n ≤ 100) (hw : wd ≤ 100) (hs : s < 32) :
    Calls Tryz.prog 111 #[.slice a n ca, .int .u64 ((32 * wd + s : Nat) : Int)] w fun e w' => Gives w (nv la * 2 ^ (32 * wd + s)) e w' := by
  obtain ⟨i0, hi, hz0, hz1, hz2⟩ := info_parts info_u32
  have HA : Hid (Ru w a n ca la) := ha
  have z1 : ((n : Int) == 0) = false := beq_eq_false_iff_ne.2 (by omega)
  have ew : ((32 * wd + s : Nat) : Int) / 32 = (wd : Int) := by omega
  have es : ((32 * wd + s : Nat) : Int) % 32 = (s : Int) := by omega
  have HFin : Hid (∀ f, LeftInv la n wd s n f → nv ((List.range (n + wd + 1)).map f) = nv la * 2 ^ (32 * wd + s)) := fun f h => left_end h (by rw [HA.out.len]; exact Nat.le_refl _)
  generalize 2 ^ (32 * wd + s) = PP at *
  have hsh : 32 * wd + s < 4000 := by omega
  generalize 32 * wd + s = sft at *
  clear ha
  go_enter Tryz.func111, Tryz.ntmps111
  go_wp2_with (first
    | (at_make; refine wpList_make_full _ rfl _ _ 22 rfl w.heap.size 51 i0 (.int .u32 0) 1 Tryz.underlying22 hi hz0 hz1 _ _ _ _ (n + wd + 1) rfl rfl ?c0 ?c1 ?c2 ?c3 ?c4 ?_))
  try (case c0 => first | rfl | (congr 1; omega))
  try (case c1 => first | rfl | (congr 1; omega))
  case c2 => first | omega | (rw [hz2]; omega)
  case c3 => unfold maxLen; omega
  try (case c4 => simp)
  intro w1 hown hgr
  have HR1 : Hid (RowU w1 w.heap.size (n + wd + 1) (fun _ => 0)) := rowU_made hown
  have HB1 : Hid (Below w.heap.size w w1) := (Below.refl _ _).grown hgr (Nat.le_refl _) (fun k hk => by cases hk)
  clear hown hgr hi hz0 hz1 hz2
  go_wp2_with fail
  go_loopw [8] (fun iv wr => ∃ (i : Nat) (f : Nat → Nat), i ≤ n ∧ iv = .int .i64 i ∧ RowU wr w.heap.size (n + wd + 1) f ∧ Below w.heap.size w wr ∧ LeftInv la n wd s i f) (fun iv _ => n - (intOf iv).toNat)
  case atStart => exact ⟨0, fun _ => 0, Nat.zero_le _, rfl, HR1.out, HB1.out, fun _ _ => (by decide : 0 < 4294967296), fun _ _ => rfl, Nat.two_pow_pos _, by rw [nf_zero fun _ _ => rfl, nf, Nat.mul_zero]⟩
  case round =>
    obtain ⟨i, f, hin, rfl, hrow, hb, hinv⟩ := hrel
    by_cases hlt : i < n
    · obtain ⟨ba, oa, rfl, hca⟩ := (HA.out.below hb).at hlt
      have hx := HA.out.word i
      obtain ⟨q, hi, hq, hhi, hh1, hq2, hv⟩ := shl_parts hx hs
      have hnx := left_next hinv hq hhi hh1 hq2
      have r0 := hrow.cell (i := i + wd) (by omega)
      have f0 := hrow.free (i + wd)
      have rr := hrow.set (i + wd) (f (i + wd) + q * 2 ^ s)
      have r1 := rr.cell (i := i + wd + 1) (by omega)
      have f1 := rr.free (i + wd + 1)
      have HN : Hid (RowU ((wr.setCell ⟨w.heap.size, i + wd, none⟩ (.int .u32 ((f (i + wd) + q * 2 ^ s : Nat) : Int))).setCell ⟨w.heap.size, i + wd + 1, none⟩ (.int .u32 (hi : Int))) w.heap.size (n + wd + 1) (updU (updU f (i + wd) (f (i + wd) + q * 2 ^ s)) (i + wd + 1) hi)) := rr.set _ _
      have HBN : Hid (Below w.heap.size w ((wr.setCell ⟨w.heap.size, i + wd, none⟩ (.int .u32 ((f (i + wd) + q * 2 ^ s : Nat) : Int))).setCell ⟨w.heap.size, i + wd + 1, none⟩ (.int .u32 (hi : Int)))) := below_set (below_set hb _ _ _ (Nat.le_refl _)) _ _ _ (Nat.le_refl _)
      have HI : Hid (LeftInv la n wd s (i + 1) (updU (updU f (i + wd) (f (i + wd) + q * 2 ^ s)) (i + wd + 1) hi)) := hnx
      have eu : updU f (i + wd) (f (i + wd) + q * 2 ^ s) (i + wd + 1) = 0 := by
        unfold updU
        rw [if_neg (by omega)]
        exact hinv.2.1 _ (by omega)
      rw [eu] at r1
      have hor := or32_low hinv.2.2.1 hq2
      have hhl : hi < 4294967296 := by omega
      have hor2 := or32_zero hhl
      obtain ⟨x, hxx⟩ : ∃ x, la.getD i 0 = x := ⟨_, rfl⟩
      rw [hxx] at hca hx hq hhi hv
      have hshl : IntKind.u64.wrap ((x : Int) * 2 ^ s) = ((x * 2 ^ s : Nat) : Int) := by
        rw [IntKind.wrap_u64]
        have : (x : Int) * 2 ^ s = ((x * 2 ^ s : Nat) : Int) := by simp
        rw [this]
        omega
      have hz : f (i + wd) + q * 2 ^ s < 4294967296 := by have := hinv.2.2.1; omega
      have fb := hinv.1 (i + wd) (by omega)
      clear hnx hinv rr hrow hb eu hxx hq2 hh1
      obtain ⟨z, hzz⟩ : ∃ z, f (i + wd) + q * 2 ^ s = z := ⟨_, rfl⟩
      rw [hzz] at HN HBN HI hor hz r1 f1
      obtain ⟨lo, hlo⟩ : ∃ lo, q * 2 ^ s = lo := ⟨_, rfl⟩
      rw [hlo] at hq hor
      obtain ⟨v, hvv⟩ : ∃ v, x * 2 ^ s = v := ⟨_, rfl⟩
      rw [hvv] at hq hhi hv hshl
      obtain ⟨r, hrr⟩ : ∃ r, f (i + wd) = r := ⟨_, rfl⟩
      rw [hrr] at r0 hor fb
      clear hzz hlo hvv hrr
      have e1 : ((v : Nat) : Int) % 4294967296 = (lo : Int) := by omega
      have e2 : ((v : Nat) : Int) / 4294967296 = (hi : Int) := by omega
      have e3 : ((hi : Nat) : Int) % 4294967296 = (hi : Int) := by omega
      clear hq hhi
      go_wp2_with fail
      go_roundw
      case rel => exact ⟨i + 1, _, by omega, by go_num, HN.out, HBN.out, HI.out⟩
      case measure => simp [intOf]; omega
    · obtain rfl : i = n := by omega
      have HN : Hid (Ru wr (some ⟨w.heap.size, 0, none⟩) (i + wd + 1) (i + wd + 1) ((List.range (i + wd + 1)).map f)) := hrow.ru hinv.1
      have HB : Hid (Below w.heap.size w wr) := hb
      have HE : Hid (nv ((List.range (i + wd + 1)).map f) = nv la * PP) := HFin.out f hinv
      clear hrow hb hinv hlt
      go_wp2_with fail
      refine (trim_any _ _ _ _ _ HN.out (by omega)).mono ?_
      rintro e w3 ⟨a3, n3, c3, rfl, hr3, hb3⟩
      rw [HE.out] at hr3
      have HG : Hid (Gives w (nv la * PP) (.returned (.slice a3 n3 c3)) w3) := Gives.mk hr3 (HB.out.trans (hb3.mono HB.out.size))
      clear hr3 hb3
      go_wp2_with fail
      go_ret
      exact HG.out

theorem left_any (a : Option Addr) (n ca wd s : Nat) (la : List Nat) (w : World) (ha : Ru w a n ca la) (hn : n ≤ 100) (hw : wd ≤ 100) (hs : s < 32) :
    Calls Tryz.prog 111 #[.slice a n ca, .int .u64 ((32 * wd + s : Nat) : Int)] w fun e w' => Gives w (nv la * 2 ^ (32 * wd + s)) e w' := by
  by_cases n0 : n = 0
  · subst n0
    have el : la = [] := List.eq_nil_of_length_eq_zero ha.len
    have HG : Hid (Gives w (nv la * 2 ^ (32 * wd + s)) (.returned (.slice none 0 0)) w) := Gives.mk (by rw [el, nv, Nat.zero_mul, dig_zero]; exact ru_nil w) (Below.refl _ _)
    clear ha el
    generalize nv la * 2 ^ (32 * wd + s) = M at *
    generalize ((32 * wd + s : Nat) : Int) = sft at *
    go_enter Tryz.func111, Tryz.ntmps111
    go_wp2_with fail
    go_ret
    exact HG.out
  · exact left_some a n ca wd s la w ha n0 hn hw hs

end Go.Proofs.YtgipkpkjoicehaaGreatDoor.words

/- A number of any size shifted down. -/
namespace Go.Proofs.YtgipkpkjoicehaaGreatDoor.words
open Go.RowKit
set_option maxRecDepth 100000

theorem or_words' (n x : Int) (n0 : 0 ≤ n) (n1 : n < 4294967296) (x0 : 0 ≤ x) (x1 : x < 4294967296) : bits .or .u64 x (n * 4294967296) = n * 4294967296 + x := by
  obtain ⟨p, rfl⟩ := Int.eq_ofNat_of_zero_le n0
  obtain ⟨q, rfl⟩ := Int.eq_ofNat_of_zero_le x0
  have e : ((p : Int) * 4294967296) = ((p * 4294967296 : Nat) : Int) := by simp
  rw [e, or64 _ _ (by omega) (by omega)]
  have h := Nat.shiftLeft_add_eq_or_of_lt (show q < 2 ^ 32 by omega) p
  rw [Nat.shiftLeft_eq] at h
  have h2 : p * 4294967296 ||| q = p * 4294967296 + q := h.symm
  rw [Nat.or_comm, h2]; simp

theorem right_sum {a b c X C : Nat} (h1 : a < C) (h2 : c + C ≤ 4294967296) : (a + (4294967296 * b + c)) % 4294967296 + 4294967296 * X = a + (4294967296 * X + c) := by omega
theorem right_arith {f0 f1 X P C : Nat} (hB : 4294967296 = P * C) (hP : 0 < P) (h0 : f0 < 4294967296) (hx : X % P = f1 % P) : ((f0 + 4294967296 * f1) / P) % 4294967296 + 4294967296 * (X / P) = (f0 + 4294967296 * X) / P := by
  have e0 : ∀ y, 4294967296 * y = P * (C * y) := fun y => by rw [← Nat.mul_assoc, ← hB]
  have e1 : ∀ y, (f0 + 4294967296 * y) / P = f0 / P + C * y := fun y => by
    rw [e0, Nat.add_mul_div_left _ _ hP]
  have e2 : ∀ y, C * y = 4294967296 * (y / P) + C * (y % P) := fun y => by
    rw [e0, Nat.mul_left_comm, ← Nat.mul_add, Nat.div_add_mod]
  have hC : f0 / P < C := Nat.div_lt_of_lt_mul (by rw [← hB]; exact h0)
  have hm : f1 % P < P := Nat.mod_lt _ hP
  have hl : C * (f1 % P) + C ≤ 4294967296 := by
    have h3 : C * (f1 % P + 1) ≤ C * P := Nat.mul_le_mul_left _ hm
    rw [Nat.mul_comm C P, ← hB] at h3
    exact h3
  have a1 := e1 f1
  have a2 := e1 X
  have a3 := e2 f1
  have a4 := e2 X
  rw [a1, a2, a3, a4, hx]
  exact right_sum hC hl

theorem right_mod {P C : Nat} (hB : 4294967296 = P * C) (a X : Nat) : (a + 4294967296 * X) % P = a % P := by
  have e0 : 4294967296 * X = P * (C * X) := by rw [← Nat.mul_assoc, ← hB]
  rw [e0, Nat.add_mul_mod_self_left]

theorem right_nf {P C : Nat} (hB : 4294967296 = P * C) (hP : 0 < P) (n : Nat) : ∀ (f : Nat → Nat), (∀ i, f i < 4294967296) → (∀ i, n ≤ i → f i = 0) → nf (fun j => ((f j + 4294967296 * f (j + 1)) / P) % 4294967296) n = nf f n / P := by
  induction n with
  | zero => intro f _ _; rw [nf, nf, Nat.zero_div]
  | succ n ih =>
    intro f h hz
    have ih' := ih (fun i => f (i + 1)) (fun i => h _) fun i hi => hz _ (by omega)
    have hx : nf (fun i => f (i + 1)) n % P = f 1 % P := by
      cases n with
      | zero => rw [nf, hz 1 (Nat.le_refl _)]
      | succ n =>
        rw [nf_cons]
        exact right_mod hB _ _
    rw [nf_cons, nf_cons f, ih']
    exact right_arith hB hP (h 0) hx

theorem hf_key (f : Nat → Nat) (i k : Nat) : nf f (i + k) = nf f i + 4294967296 ^ i * nf (fun j => f (i + j)) k := by
  induction k with
  | zero => rw [nf, Nat.mul_zero]; rfl
  | succ k ih => rw [← Nat.add_assoc, nf, ih, nf, Nat.mul_add, ← Nat.mul_assoc, ← Nat.pow_add, Nat.add_assoc]
theorem div_split {a p h : Nat} (hp : 0 < p) (ha : a < p) : (a + p * h) / p = h := by
  rw [Nat.add_mul_div_left _ _ hp, Nat.div_eq_of_lt ha, Nat.zero_add]
theorem hf_div {f : Nat → Nat} (hf' : ∀ i, f i < 4294967296) {i n : Nat} (h : i ≤ n) : hf f i n = nf f n / 4294967296 ^ i := by
  have key := hf_key f i (n - i)
  rw [Nat.add_sub_cancel' h] at key
  have hlt := nf_lt (f := f) (n := i) fun j _ => hf' j
  rw [key]
  exact (div_split (Nat.lt_of_le_of_lt (Nat.zero_le _) hlt) hlt).symm

/-- The words so far of a number shifted down. -/
def RightInv (la : List Nat) (n wd s i : Nat) (f : Nat → Nat) : Prop := (∀ j, j < n - wd → f j < 4294967296) ∧ ∀ j, j < i → f j = ((la.getD (j + wd) 0 + 4294967296 * la.getD (j + wd + 1) 0) / 2 ^ s) % 4294967296

theorem right_end {la : List Nat} {n wd s : Nat} {f : Nat → Nat} (h : RightInv la n wd s (n - wd) f) (hl : la.length = n) (hw : wd < n) (hs : s < 32) (hlt : ∀ i, la.getD i 0 < 4294967296) : nv ((List.range (n - wd)).map f) = nv la / 2 ^ (32 * wd + s) := by
  obtain ⟨C, hC, _⟩ := pow_parts hs
  rw [nv_range, nf_congr h.2, Nat.pow_add, ← pow32, ← Nat.div_div_eq_div_mul, nv_nf, hl, ← hf_div hlt (by omega)]
  unfold hf
  have := right_nf hC (Nat.two_pow_pos s) (n - wd) (fun j => la.getD (wd + j) 0) (fun i => hlt _) (fun i hi => by
    simp [List.getD, List.getElem?_eq_none (show la.length ≤ wd + i by omega)])
  rw [← this]
  exact nf_congr fun j _ => by rw [Nat.add_comm j wd, show wd + j + 1 = wd + (j + 1) by omega]

theorem right_small {la : List Nat} {n wd s : Nat} (hl : la.length = n) (hw : n ≤ wd) (hlt : ∀ i, la.getD i 0 < 4294967296) : nv la / 2 ^ (32 * wd + s) = 0 := by
  apply Nat.div_eq_of_lt
  have h1 := nf_lt (f := fun i => la.getD i 0) (n := n) fun i _ => hlt i
  rw [nv_nf, hl]
  rw [pow32] at h1
  exact Nat.lt_of_lt_of_le h1 (Nat.pow_le_pow_right (by decide) (by omega))

theorem right_next {la : List Nat} {n wd s i v : Nat} {f : Nat → Nat} (h : RightInv la n wd s i f) (hv : la.getD (i + wd) 0 + 4294967296 * la.getD (i + wd + 1) 0 = v) : RightInv la n wd s (i + 1) (updU f i (v / 2 ^ s % 4294967296)) := by
  refine ⟨fun j hj => ?_, fun j hj => ?_⟩
  · unfold updU
    split
    · omega
    · exact h.1 j hj
  · unfold updU
    split
    · next e => subst e; rw [hv]
    · exact h.2 j (by omega)

set_option maxHeartbeats 2000000 in
theorem right_some (a : Option Addr) (n ca wd s : Nat) (la : List Nat) (w : World) (ha : Ru w a n ca la) (hn : n ≤ 200) (hw : wd < n) (hs : s < 32) :
    Calls Tryz.prog 112 #[.slice a n ca, .int .u64 ((32 * wd + s : Nat) : Int)] w fun e w' => Gives w (nv la / 2 ^ (32 * wd + s)) e w' := by
  obtain ⟨i0, hi, hz0, hz1, hz2⟩ := info_parts info_u32
  have HA : Hid (Ru w a n ca la) := ha
  have ew : ((32 * wd + s : Nat) : Int) / 32 = (wd : Int) := by omega
  have es : ((32 * wd + s : Nat) : Int) % 32 = (s : Int) := by omega
  have HFin : Hid (∀ f, RightInv la n wd s (n - wd) f → nv ((List.range (n - wd)).map f) = nv la / 2 ^ (32 * wd + s)) := fun f h => right_end h HA.out.len hw hs HA.out.word
  generalize 2 ^ (32 * wd + s) = PP at *
  have hsh : 32 * wd + s < 10000 := by omega
  generalize 32 * wd + s = sft at *
  have hge : ¬ (n : Int) ≤ (wd : Int) := by omega
  obtain ⟨K, hK⟩ : ∃ K, n - wd = K := ⟨_, rfl⟩
  have eK : (n : Int) - (wd : Int) = (K : Int) := by omega
  clear ha
  rw [hK] at HFin
  go_enter Tryz.func112, Tryz.ntmps112
  go_wp2_with (first
    | (at_make; refine wpList_make_full _ rfl _ _ 22 rfl w.heap.size 51 i0 (.int .u32 0) 1 Tryz.underlying22 hi hz0 hz1 _ _ _ _ K rfl rfl ?c0 ?c1 ?c2 ?c3 ?c4 ?_))
  try (case c0 => first | rfl | (congr 1; omega))
  try (case c1 => first | rfl | (congr 1; omega))
  case c2 => first | omega | (rw [hz2]; omega)
  case c3 => unfold maxLen; omega
  try (case c4 => simp)
  intro w1 hown hgr
  have HR1 : Hid (RowU w1 w.heap.size K (fun _ => 0)) := rowU_made hown
  have HB1 : Hid (Below w.heap.size w w1) := (Below.refl _ _).grown hgr (Nat.le_refl _) (fun k hk => by cases hk)
  clear hown hgr hi hz0 hz1 hz2
  go_wp2_with fail
  go_loopw [8] (fun iv wr => ∃ (i : Nat) (f : Nat → Nat), i ≤ K ∧ iv = .int .i64 i ∧ RowU wr w.heap.size K f ∧ Below w.heap.size w wr ∧ RightInv la n wd s i f) (fun iv _ => K - (intOf iv).toNat)
  case atStart => exact ⟨0, fun _ => 0, Nat.zero_le _, rfl, HR1.out, HB1.out, fun _ _ => (by decide : 0 < 4294967296), fun j hj => by omega⟩
  case round =>
    obtain ⟨i, f, hin, rfl, hrow, hb, hinv⟩ := hrel
    by_cases hlt : i < K
    · obtain ⟨ba, oa, rfl, hca⟩ := (HA.out.below hb).at (i := i + wd) (by omega)
      have hx := HA.out.word (i + wd)
      have r0 := hrow.cell (i := i) (by omega)
      have f0 := hrow.free i
      obtain ⟨fi, hfi⟩ : ∃ fi : Int, ((f i : Nat) : Int) = fi := ⟨_, rfl⟩
      rw [hfi] at r0
      clear hfi
      by_cases hmo : i + wd + 1 < n
      · obtain ⟨bb, ob, hab, hcb⟩ := (HA.out.below hb).at (i := i + wd + 1) hmo
        simp only [Option.some.injEq, Addr.mk.injEq, and_true] at hab
        obtain ⟨rfl, rfl⟩ := hab
        have hy := HA.out.word (i + wd + 1)
        obtain ⟨v, hv⟩ : ∃ v, la.getD (i + wd) 0 + 4294967296 * la.getD (i + wd + 1) 0 = v := ⟨_, rfl⟩
        have hnx := right_next hinv hv
        obtain ⟨x, hxx⟩ : ∃ x, la.getD (i + wd) 0 = x := ⟨_, rfl⟩
        obtain ⟨y, hyy⟩ : ∃ y, la.getD (i + wd + 1) 0 = y := ⟨_, rfl⟩
        rw [hxx] at hca hx hv
        rw [hyy] at hcb hy hv
        have hor := or_words' y x (by omega) (by omega) (by omega) (by omega)
        have ev : (y : Int) * 4294967296 + (x : Int) = (v : Int) := by omega
        rw [ev] at hor
        have hsr : (v : Int) / 2 ^ s = ((v / 2 ^ s : Nat) : Int) := by simp
        have hvl : v < 18446744073709551616 := by omega
        have hq : v / 2 ^ s ≤ v := Nat.div_le_self _ _
        obtain ⟨q, hqq⟩ : ∃ q, v / 2 ^ s = q := ⟨_, rfl⟩
        rw [hqq] at hnx hsr hq
        obtain ⟨z, hzz⟩ : ∃ z, q % 4294967296 = z := ⟨_, rfl⟩
        rw [hzz] at hnx
        have e1 : (q : Int) % 4294967296 = (z : Int) := by omega
        have HN : Hid (RowU (wr.setCell ⟨w.heap.size, i, none⟩ (.int .u32 ((z : Nat) : Int))) w.heap.size K (updU f i z)) := hrow.set _ _
        have HBN : Hid (Below w.heap.size w (wr.setCell ⟨w.heap.size, i, none⟩ (.int .u32 ((z : Nat) : Int)))) := below_set hb _ _ _ (Nat.le_refl _)
        have HI : Hid (RightInv la n wd s (i + 1) (updU f i z)) := hnx
        have hmi : (i : Int) + (wd : Int) + 1 < (n : Int) := by omega
        clear hnx hinv hrow hb hxx hyy hqq hzz hv ev
        go_wp2_with fail
        go_roundw
        case rel => exact ⟨i + 1, _, by omega, by go_num, HN.out, HBN.out, HI.out⟩
        case measure => simp [intOf]; omega
      · have hy0 : la.getD (i + wd + 1) 0 = 0 := by simp [List.getD, List.getElem?_eq_none (show la.length ≤ i + wd + 1 by rw [HA.out.len]; omega)]
        obtain ⟨v, hv⟩ : ∃ v, la.getD (i + wd) 0 + 4294967296 * la.getD (i + wd + 1) 0 = v := ⟨_, rfl⟩
        have hnx := right_next hinv hv
        rw [hy0] at hv
        have hv' : la.getD (i + wd) 0 = v := by omega
        rw [hv'] at hca hx
        have hsr : (v : Int) / 2 ^ s = ((v / 2 ^ s : Nat) : Int) := by simp
        have hq : v / 2 ^ s ≤ v := Nat.div_le_self _ _
        obtain ⟨q, hqq⟩ : ∃ q, v / 2 ^ s = q := ⟨_, rfl⟩
        rw [hqq] at hnx hsr hq
        have hqb : q % 4294967296 = q := by omega
        rw [hqb] at hnx
        have e1 : (q : Int) % 4294967296 = (q : Int) := by omega
        have HN : Hid (RowU (wr.setCell ⟨w.heap.size, i, none⟩ (.int .u32 ((q : Nat) : Int))) w.heap.size K (updU f i q)) := hrow.set _ _
        have HBN : Hid (Below w.heap.size w (wr.setCell ⟨w.heap.size, i, none⟩ (.int .u32 ((q : Nat) : Int)))) := below_set hb _ _ _ (Nat.le_refl _)
        have HI : Hid (RightInv la n wd s (i + 1) (updU f i q)) := hnx
        have hmi : ¬ (i : Int) + (wd : Int) + 1 < (n : Int) := by omega
        clear hnx hinv hrow hb hqq hqb hv hv' hy0
        go_wp2_with fail
        go_roundw
        case rel => exact ⟨i + 1, _, by omega, by go_num, HN.out, HBN.out, HI.out⟩
        case measure => simp [intOf]; omega
    · obtain rfl : i = K := by omega
      have HN : Hid (Ru wr (some ⟨w.heap.size, 0, none⟩) i i ((List.range i).map f)) := hrow.ru (by have h := hinv.1; rw [hK] at h; exact h)
      have HB : Hid (Below w.heap.size w wr) := hb
      have HE : Hid (nv ((List.range i).map f) = nv la / PP) := HFin.out f hinv
      clear hrow hb hinv hlt
      go_wp2_with fail
      refine (trim_any _ _ _ _ _ HN.out (by omega)).mono ?_
      rintro e w3 ⟨a3, n3, c3, rfl, hr3, hb3⟩
      rw [HE.out] at hr3
      have HG : Hid (Gives w (nv la / PP) (.returned (.slice a3 n3 c3)) w3) := Gives.mk hr3 (HB.out.trans (hb3.mono HB.out.size))
      clear hr3 hb3
      go_wp2_with fail
      go_ret
      exact HG.out

theorem right_any (a : Option Addr) (n ca wd s : Nat) (la : List Nat) (w : World) (ha : Ru w a n ca la) (hn : n ≤ 200) (hw : wd ≤ 100) (hs : s < 32) :
    Calls Tryz.prog 112 #[.slice a n ca, .int .u64 ((32 * wd + s : Nat) : Int)] w fun e w' => Gives w (nv la / 2 ^ (32 * wd + s)) e w' := by
  by_cases n0 : wd < n
  · exact right_some a n ca wd s la w ha hn n0 hs
  · have HG : Hid (Gives w (nv la / 2 ^ (32 * wd + s)) (.returned (.slice none 0 0)) w) := Gives.mk (by rw [right_small ha.len (by omega) ha.word, dig_zero]; exact ru_nil w) (Below.refl _ _)
    have ew : ((32 * wd + s : Nat) : Int) / 32 = (wd : Int) := by omega
    have es : ((32 * wd + s : Nat) : Int) % 32 = (s : Int) := by omega
    have hge : (n : Int) ≤ (wd : Int) := by omega
    clear ha
    generalize nv la / 2 ^ (32 * wd + s) = M at *
    have hsh : 32 * wd + s < 10000 := by omega
    generalize 32 * wd + s = sft at *
    go_enter Tryz.func112, Tryz.ntmps112
    go_wp2_with fail
    go_ret
    exact HG.out

end Go.Proofs.YtgipkpkjoicehaaGreatDoor.words

/- The worth of a wide number. -/
namespace Go.Proofs.YtgipkpkjoicehaaGreatDoor.words
open Go.RowKit
set_option maxRecDepth 100000

theorem big96_val {a b c : Nat} : ((big96V a b c : Nat) : Int) = W3.val ⟨a, b, c⟩ := by
  unfold big96V W3.val
  simp only
  omega
theorem big96_len {a b c : Nat} (ha : a < 4294967296) (hb : b < 4294967296) (hc : c < 4294967296) : (dig (big96V a b c)).length ≤ 100 := by
  refine len100 ?_
  have : big96V a b c < 4294967296 ^ 3 := by unfold big96V; omega
  exact Nat.lt_of_lt_of_le this (Nat.pow_le_pow_right (by decide) (by decide))

end Go.Proofs.YtgipkpkjoicehaaGreatDoor.words

/- Division of numbers of any size: the short ways. -/
namespace Go.Proofs.YtgipkpkjoicehaaGreatDoor.words
open Go.RowKit
set_option maxRecDepth 100000

theorem plain_val {m : Nat} (h : (dig m).length ≤ 2) : m = (dig m).getD 0 0 + 4294967296 * (dig m).getD 1 0 := by
  have e := dig_nf m
  have h2 : nf (fun i => (dig m).getD i 0) 2 = m := by
    rw [← nv_more (dig m) h, nv_dig]
  rw [nf, nf, nf] at h2
  simp at h2
  rw [List.getD_eq_getElem?_getD, List.getD_eq_getElem?_getD]
  omega

theorem plain_any (a : Option Addr) (n ca m : Nat) (w : World) (ha : Ru w a n ca (dig m)) (hn : n ≤ 2) :
    Calls Tryz.prog 109 #[.slice a n ca] w fun e w' => e = .returned (.int .u64 (m : Int)) ∧ w' = w := by
  have el := ha.len
  have hp := plain_val (m := m) (by omega)
  have hx := ha.word 0
  have hy := ha.word 1
  have h1 : n < 2 → (dig m).getD 1 0 = 0 := fun h => by simp [List.getD, List.getElem?_eq_none (show (dig m).length ≤ 1 by omega)]
  have h0 : n < 1 → (dig m).getD 0 0 = 0 := fun h => by simp [List.getD, List.getElem?_eq_none (show (dig m).length ≤ 0 by omega)]
  rcases (by omega : n = 0 ∨ n = 1 ∨ n = 2) with rfl | rfl | rfl
  · have hm : m = 0 := by rw [h0 (by omega), h1 (by omega)] at hp; omega
    subst hm
    clear ha el hp hx hy h0 h1
    go_enter Tryz.func109, Tryz.ntmps109
    go_wp2_with fail
    go_ret
    exact ⟨rfl, rfl⟩
  · obtain ⟨ba, oa, rfl, hca⟩ := ha.at (i := 0) (by omega)
    rw [h1 (by omega)] at hp
    have hp' : (dig m).getD 0 0 = m := by omega
    rw [hp', Nat.add_zero] at hca
    rw [hp'] at hx
    clear ha el hp hy h0 h1 hp'
    go_enter Tryz.func109, Tryz.ntmps109
    go_wp2_with fail
    go_ret
    exact ⟨rfl, rfl⟩
  · obtain ⟨ba, oa, rfl, hca⟩ := ha.at (i := 0) (by omega)
    obtain ⟨bb, ob, hab, hcb⟩ := ha.at (i := 1) (by omega)
    simp only [Option.some.injEq, Addr.mk.injEq, and_true] at hab
    obtain ⟨rfl, rfl⟩ := hab
    obtain ⟨x, hxx⟩ : ∃ x, (dig m).getD 0 0 = x := ⟨_, rfl⟩
    obtain ⟨y, hyy⟩ : ∃ y, (dig m).getD 1 0 = y := ⟨_, rfl⟩
    rw [hxx, Nat.add_zero] at hca
    rw [hxx] at hx hp
    rw [hyy] at hcb hy hp
    have hor := or_words' y x (by omega) (by omega) (by omega) (by omega)
    have ev : (y : Int) * 4294967296 + (x : Int) = (m : Int) := by omega
    rw [ev] at hor
    clear ha el hp h0 h1 hxx hyy ev
    go_enter Tryz.func109, Tryz.ntmps109
    go_wp2_with fail
    go_ret
    exact ⟨rfl, rfl⟩

theorem dig_le {M m : Nat} (h : M ≤ m) : (dig M).length ≤ (dig m).length := by
  rcases Nat.lt_or_ge (dig m).length (dig M).length with h1 | h1
  · have := len_less h1; omega
  · exact h1

/-- A quotient and a rest were given back, both of any size. -/
def DivGives (w : World) (q r : Nat) (e : Ending) (w' : World) : Prop := ∃ a n c a' n' c', e = .returned (.tuple #[.slice a n c, .slice a' n' c']) ∧ Ru w' a n c (dig q) ∧ Ru w' a' n' c' (dig r) ∧ Below w.heap.size w w'

theorem Ru.drewN {w : World} {a : Option Addr} {n cap : Nat} {l : List Nat} (h : Ru w a n cap l) (q : Nat) : Ru (w.drewN q) a n cap l := ⟨h.len, h.lt, h.nil, h.room, h.cell, h.typ⟩
theorem dig_none {m n : Nat} (h : (dig m).length = n) (hm : 0 < m) : n ≠ 0 := by
  intro e
  rw [e] at h
  have := dig_nil (List.eq_nil_of_length_eq_zero h)
  omega

set_option maxRecDepth 100000 in
set_option maxHeartbeats 2000000 in
theorem div_less (a b : Option Addr) (n k ca cb m d : Nat) (w : World) (ha : Ru w a n ca (dig m)) (hb : Ru w b k cb (dig d)) (hn : n ≤ 100) (hk : k ≤ 100) (hlt : m < d) :
    Calls Tryz.prog 75 #[.slice a n ca, .slice b k cb] w fun e w' => DivGives w 0 m e w' := by
  have k0 := dig_none hb.len (by omega)
  have kz : ((k : Int) == 0) = false := beq_eq_false_iff_ne.2 (by omega)
  have HA : Hid (Ru w a n ca (dig m)) := ha
  have HC := bigcmp_any a b n k ca cb m d w ha hb hn hk
  have HC' : Hid (Calls Tryz.prog 106 #[.slice a n ca, .slice b k cb] w fun e w' => CmpPost w m d e w') := HC
  have hcm : cmp3 (m : Int) (d : Int) = -1 := cmp3_lt (by omega)
  clear ha hb HC hlt
  go_enter Tryz.func75, Tryz.ntmps75
  go_wp2_with fail
  refine HC'.out.mono ?_
  rintro e w1 ⟨rfl, q, rfl⟩
  rw [hcm]
  go_wp2_with fail
  refine (twin_any a n ca m _ (HA.out.drewN q) hn).mono ?_
  rintro e w2 ⟨a2, n2, c2, rfl, hr2, hb2⟩
  have HG : Hid (DivGives w 0 m (.returned (.tuple #[.slice none 0 0, .slice a2 n2 c2])) w2) := ⟨none, 0, 0, a2, n2, c2, rfl, by rw [dig_zero]; exact ru_nil w2, hr2, (below_drewN (Below.refl _ w) q).trans hb2⟩
  clear hr2 hb2
  go_wp2_with fail
  refine bodyPost_ret (v := .tuple #[.slice none 0 0, .slice a2 n2 c2]) (by simp [results, Tryz.results75, go_sem]) rfl HG.out

theorem ru_one (w : World) (x : Nat) (hx : x < 4294967296) : Ru (w.alloc (.cells #[.int .u32 (x : Int)] 51)) (some ⟨w.heap.size, 0, none⟩) 1 1 [x] := by
  refine ⟨rfl, ?_, (fun h => by cases h), Nat.le_refl _, .inr ⟨w.heap.size, 0, rfl, fun i hi => ?_⟩, fun b off s e _ => by obtain ⟨rfl, -, -⟩ := (by simpa using e : w.heap.size = b ∧ 0 = off ∧ none = s); exact ty_new _ _⟩
  · intro z hz; simp at hz; omega
  · match i, hi with
    | 0, _ => simp

set_option maxRecDepth 100000 in
set_option maxHeartbeats 2000000 in
theorem div_one (a b : Option Addr) (n ca cb m d : Nat) (w : World) (ha : Ru w a n ca (dig m)) (hb : Ru w b 1 cb (dig d)) (hn : n ≤ 100) (hn2 : 2 < n) :
    Calls Tryz.prog 75 #[.slice a n ca, .slice b 1 cb] w fun e w' => DivGives w (m / d) (m % d) e w' := by
  have HA : Hid (Ru w a n ca (dig m)) := ha
  have HC := bigcmp_any a b n 1 ca cb m d w ha hb hn (by omega)
  have HC' : Hid (Calls Tryz.prog 106 #[.slice a n ca, .slice b 1 cb] w fun e w' => CmpPost w m d e w') := HC
  have hgt : d < m := len_less (by rw [ha.len, hb.len]; omega)
  have hcm : cmp3 (m : Int) (d : Int) = 1 := cmp3_gt (by omega)
  obtain ⟨bb, ob, rfl, hcb⟩ := hb.at (i := 0) (by omega)
  have hd0 : d ≠ 0 := by
    intro e
    have h := hb.len
    rw [e, dig_zero] at h
    simp at h
  have hdd : (dig d).getD 0 0 = d := by
    have h := dig_nf d
    rw [hb.len, nf, nf] at h
    simpa using h
  have hdl : d < 4294967296 := by rw [← hdd]; exact hb.word 0
  rw [hdd] at hcb
  have hcb' : ∀ q, (w.drewN q).cell? ⟨bb, ob, none⟩ = some (.int .u32 (d : Int)) := fun q => hcb
  have hrl : m % d < 4294967296 := by have := Nat.mod_lt m (show 0 < d by omega); omega
  have hn2' : ¬ (n : Int) ≤ 2 := by omega
  clear ha hb HC hgt hdd
  go_enter Tryz.func75, Tryz.ntmps75
  go_wp2_with fail
  refine HC'.out.mono ?_
  rintro e w1 ⟨rfl, q, rfl⟩
  rw [hcm]
  have hcc := hcb' q
  go_wp2_with fail
  refine (small_any a n ca d (dig m) _ (HA.out.drewN q) hn (by omega) hdl).mono ?_
  rintro e w2 ⟨a2, n2, c2, rfl, hr2, hb2, _⟩
  rw [nv_dig] at hr2
  rw [nv_dig]
  have HR2 : Hid (Ru w2 a2 n2 c2 (dig (m / d))) := hr2
  have HB2 : Hid (Below w.heap.size w w2) := (below_drewN (Below.refl _ w) q).trans hb2
  clear hr2 hb2 hcb hcb' hcc
  generalize hrr : m % d = r at *
  go_wp2_with fail
  refine (trim_any _ _ _ [r] _ (ru_one w2 r hrl) (by omega)).mono ?_
  rintro e w3 ⟨a3, n3, c3, rfl, hr3, hb3⟩
  have e3 : nv [r] = r := by simp [nv]
  rw [e3] at hr3
  have hal := (Below.refl _ w2).alloc (Nat.le_refl _) (.cells #[.int .u32 (r : Int)] 51)
  have hb4 := hal.trans (hb3.mono hal.size)
  have HG : Hid (DivGives w (m / d) (m % d) (.returned (.tuple #[.slice a2 n2 c2, .slice a3 n3 c3])) w3) := by
    rw [hrr]
    exact ⟨a2, n2, c2, a3, n3, c3, rfl, HR2.out.below hb4, hr3, HB2.out.trans (hb4.mono HB2.out.size)⟩
  clear hr3 hb3 hal hb4
  go_wp2_with fail
  refine bodyPost_ret (v := .tuple #[.slice a2 n2 c2, .slice a3 n3 c3]) (by simp [results, Tryz.results75, go_sem]) rfl HG.out

set_option maxRecDepth 100000 in
set_option maxHeartbeats 2000000 in
theorem div_two (a b : Option Addr) (n k ca cb m d : Nat) (w : World) (ha : Ru w a n ca (dig m)) (hb : Ru w b k cb (dig d)) (hn2 : n ≤ 2) (d0 : 0 < d) (hle : d ≤ m) :
    Calls Tryz.prog 75 #[.slice a n ca, .slice b k cb] w fun e w' => DivGives w (m / d) (m % d) e w' := by
  have HA : Hid (Ru w a n ca (dig m)) := ha
  have HBB : Hid (Ru w b k cb (dig d)) := hb
  have hkn : k ≤ n := by
    have := dig_le hle
    rw [ha.len, hb.len] at this
    exact this
  have HC := bigcmp_any a b n k ca cb m d w ha hb (by omega) (by omega)
  have HC' : Hid (Calls Tryz.prog 106 #[.slice a n ca, .slice b k cb] w fun e w' => CmpPost w m d e w') := HC
  have hcm : ¬ cmp3 (m : Int) (d : Int) < 0 := by
    by_cases e : d = m
    · subst e; rw [cmp3_eq]; omega
    · rw [cmp3_gt (by omega)]; omega
  have k0 := dig_none hb.len d0
  have kz : ((k : Int) == 0) = false := beq_eq_false_iff_ne.2 (by omega)
  have hml : m < 18446744073709551616 := by
    have h := plain_val (m := m) (by rw [ha.len]; exact hn2)
    have := ha.word 0
    have := ha.word 1
    omega
  have hq : m / d ≤ m := Nat.div_le_self _ _
  have hr : m % d < d := Nat.mod_lt _ d0
  have eq1 : (m : Int) / (d : Int) = ((m / d : Nat) : Int) := by simp
  have eq2 : (m : Int) % (d : Int) = ((m % d : Nat) : Int) := by simp
  have eq3 : (m : Int).tmod (d : Int) = ((m % d : Nat) : Int) := by rw [Int.tmod_eq_emod_of_nonneg (by omega)]; exact eq2
  obtain ⟨cc, hcc⟩ : ∃ cc, cmp3 (m : Int) (d : Int) = cc := ⟨_, rfl⟩
  rw [hcc] at hcm
  generalize hQ : m / d = Q at *
  generalize hR : m % d = R at *
  have HWQ : Hid (∀ w, Calls Tryz.prog 104 #[.int .u64 (Q : Int)] w fun e w' => Gives w Q e w') := fun w => words_any Q w (by omega)
  have HWR : Hid (∀ w, Calls Tryz.prog 104 #[.int .u64 (R : Int)] w fun e w' => Gives w R e w') := fun w => words_any R w (by omega)
  have HWT : Hid (∀ w, Calls Tryz.prog 104 #[.int .u64 ((m : Int).tmod (d : Int))] w fun e w' => Gives w R e w') := fun w => by rw [eq3]; exact words_any R w (by omega)
  clear eq3
  have HWW : Hid (∀ w, Calls Tryz.prog 104 #[.int .u64 (IntKind.u64.wrap (Q : Int))] w fun e w' => Gives w Q e w') := fun w => by
    have hwq : IntKind.u64.wrap (Q : Int) = (Q : Int) := by rw [IntKind.wrap_u64]; omega
    rw [hwq]
    exact words_any Q w (by omega)
  have dz : ((d : Int) == 0) = false := beq_eq_false_iff_ne.2 (by omega)
  have dne : (d : Int) ≠ 0 := by omega
  have hn2' : (n : Int) ≤ 2 := by omega
  clear ha hb HC hQ hR
  go_enter Tryz.func75, Tryz.ntmps75
  go_wp2_with fail
  refine HC'.out.mono ?_
  rintro e w1 ⟨rfl, q, rfl⟩
  rw [hcc]
  clear hcc
  go_wp2_with fail
  refine (plain_any a n ca m _ (HA.out.drewN q) hn2).mono ?_
  rintro e w2 ⟨rfl, rfl⟩
  go_wp2_with fail
  refine (plain_any b k cb d _ (HBB.out.drewN q) (by omega)).mono ?_
  rintro e w2 ⟨rfl, rfl⟩
  go_wp2_with fail
  have BW : Hid (Below w.heap.size w (w.drewN q).drew) := (below_drewN (Below.refl _ w) q).drew
  go_region_held (fun _ => True) (trivial)
    (first
      | (go_at_call_of 104 (Value.int .u64 (Q : Int)); refine (HWQ.out _).mono ?_; rintro e w1 ⟨a1, n1, c1, rfl, hr1, hb1⟩
         have R1 : Hid (Ru w1 a1 n1 c1 (dig Q)) := hr1
         have B1 : Hid (Below w.heap.size w w1) := BW.out.trans (hb1.mono BW.out.size)
         clear hr1 hb1)
      | (go_at_call_of 104 (Value.int .u64 (IntKind.u64.wrap (Q : Int))); refine (HWW.out _).mono ?_; rintro e w1 ⟨a1, n1, c1, rfl, hr1, hb1⟩
         have R1 : Hid (Ru w1 a1 n1 c1 (dig Q)) := hr1
         have B1 : Hid (Below w.heap.size w w1) := BW.out.trans (hb1.mono BW.out.size)
         clear hr1 hb1)
      | (go_at_call_of 104 (Value.int .u64 (R : Int)); refine (HWR.out _).mono ?_; rintro e w2 ⟨a2, n2, c2, rfl, hr2, hb2⟩
         have R2 : Hid (Ru w2 a2 n2 c2 (dig R)) := hr2
         have R3 : Hid (Ru w2 a1 n1 c1 (dig Q)) := R1.out.below hb2
         have B2 : Hid (Below w.heap.size w w2) := B1.out.trans (hb2.mono B1.out.size)
         clear hr2 hb2)
      | (go_at_call_of 104 (Value.int .u64 ((m : Int).tmod (d : Int))); refine (HWT.out _).mono ?_; rintro e w2 ⟨a2, n2, c2, rfl, hr2, hb2⟩
         have R2 : Hid (Ru w2 a2 n2 c2 (dig R)) := hr2
         have R3 : Hid (Ru w2 a1 n1 c1 (dig Q)) := R1.out.below hb2
         have B2 : Hid (Below w.heap.size w w2) := B1.out.trans (hb2.mono B1.out.size)
         clear hr2 hb2))
  all_goals (go_wp2_with fail; refine bodyPost_ret (v := .tuple #[.slice a1 n1 c1, .slice a2 n2 c2]) (by simp [results, Tryz.results75, go_sem]) rfl ⟨a1, n1, c1, a2, n2, c2, rfl, R3.out, R2.out, B2.out⟩)

end Go.Proofs.YtgipkpkjoicehaaGreatDoor.words

/- Long division by a power of 2 with two words or more: plain facts. -/
namespace Go.Proofs.YtgipkpkjoicehaaGreatDoor.words
open Go.RowKit
set_option maxRecDepth 100000

/-- The words of 2^31 behind k noughts. -/
theorem dig_high31 (k : Nat) : dig (4294967296 ^ k * 2147483648) = List.replicate k 0 ++ [2147483648] := by
  induction k with
  | zero =>
    rw [Nat.pow_zero, Nat.one_mul, dig_pos (by decide)]
    have e : 2147483648 / 4294967296 = 0 := by decide
    rw [e, dig_zero]
    rfl
  | succ k ih =>
    have e : 4294967296 ^ (k + 1) * 2147483648 = 4294967296 ^ k * 2147483648 * 4294967296 + 0 := by rw [Nat.pow_succ, Nat.mul_right_comm, Nat.add_zero]
    have h0 : 4294967296 ^ k * 2147483648 ≠ 0 := Nat.ne_of_gt (Nat.mul_pos (Nat.pow_pos (by decide)) (by decide))
    rw [e, dig_shift _ 0 (by decide) (.inl h0), ih]
    rfl
theorem high31_len (k : Nat) : (dig (4294967296 ^ k * 2147483648)).length = k + 1 := by rw [dig_high31]; simp
theorem high31_low {k i : Nat} (h : i < k) : (dig (4294967296 ^ k * 2147483648)).getD i 0 = 0 := by
  rw [dig_high31]
  simp [List.getD, List.getElem?_append_left, h]
theorem high31_top (k : Nat) : (dig (4294967296 ^ k * 2147483648)).getD k 0 = 2147483648 := by
  rw [dig_high31]
  simp [List.getD]

/-- What is left of the number, and the quotient's words from k on: N = m + n + 1 words, the divisor B^(n-1) * 2^31. -/
def LongInv (A m n k : Nat) (U Q : Nat → Nat) : Prop :=
  (∀ j, j < m + n + 1 → U j < 4294967296) ∧ (∀ j, k + n ≤ j → j < m + n + 1 → U j = 0) ∧ U (k + n - 1) < 2147483648 ∧ (∀ j, j < m + 1 → Q j < 4294967296) ∧
  nf U (m + n + 1) + 4294967296 ^ (n - 1) * 2147483648 * (4294967296 ^ k * hf Q k (m + 1)) = A

theorem long_arith {N N1 N2 T x y g : Nat} (h1 : N1 + T * y = N + T * (y % 2147483648)) (h2 : N2 + T * 4294967296 * x = N1 + T * 4294967296 * 0) (hg : g = x * 2 + y / 2147483648) : N = N2 + T * 2147483648 * g := by
  have e1 : T * y = T * 2147483648 * (y / 2147483648) + T * (y % 2147483648) := by
    rw [Nat.mul_assoc, ← Nat.mul_add, Nat.div_add_mod]
  have e2 : T * 2147483648 * g = T * 4294967296 * x + T * 2147483648 * (y / 2147483648) := by
    have e3 : 2147483648 * (x * 2) = 4294967296 * x := by omega
    rw [hg, Nat.mul_add, Nat.mul_assoc T 2147483648 (x * 2), e3, ← Nat.mul_assoc]
  rw [e2]
  rw [Nat.mul_zero] at h2
  omega

theorem long_fold {N P J c g B H A : Nat} (h : N + P * J * c * g + P * c * (J * B * H) = A) : N + P * c * (J * (g + B * H)) = A := by
  rw [Nat.mul_add, Nat.mul_add, ← Nat.mul_assoc J B H, ← Nat.add_assoc, ← Nat.mul_assoc (P * c) J g, Nat.mul_right_comm P c J]
  exact h

theorem long_next {A m n j : Nat} {U Q : Nat → Nat} (hn : 2 ≤ n) (hj : j ≤ m) (h : LongInv A m n (j + 1) U Q) :
    LongInv A m n j (updU (updU U (j + n - 1) (U (j + n - 1) % 2147483648)) (j + n) 0) (updU Q j (U (j + n) * 2 + U (j + n - 1) / 2147483648)) := by
  obtain ⟨b1, b2, b3, b4, b5⟩ := h
  have hx : U (j + n) < 2147483648 := by rw [show j + n = j + 1 + n - 1 by omega]; exact b3
  have hy := b1 (j + n - 1) (by omega)
  refine ⟨fun i hi => ?_, fun i h1 h2 => ?_, ?_, fun i hi => ?_, ?_⟩
  · unfold updU
    split
    · omega
    · split
      · omega
      · exact b1 i hi
  · unfold updU
    split
    · rfl
    · rw [if_neg (by omega)]
      exact b2 i (by omega) h2
  · unfold updU
    rw [if_neg (by omega), if_pos rfl]
    omega
  · unfold updU
    split
    · omega
    · exact b4 i hi
  · have u1 := nf_upd U (j + n - 1) (U (j + n - 1) % 2147483648) (m + n + 1) (by omega)
    have u2 := nf_upd (updU U (j + n - 1) (U (j + n - 1) % 2147483648)) (j + n) 0 (m + n + 1) (by omega)
    have e0 : updU U (j + n - 1) (U (j + n - 1) % 2147483648) (j + n) = U (j + n) := by unfold updU; rw [if_neg (by omega)]
    rw [e0] at u2
    have hq : hf (updU Q j (U (j + n) * 2 + U (j + n - 1) / 2147483648)) j (m + 1) = (U (j + n) * 2 + U (j + n - 1) / 2147483648) + 4294967296 * hf Q (j + 1) (m + 1) := by
      rw [hf_step _ (by omega : j < m + 1)]
      congr 1
      · unfold updU; rw [if_pos rfl]
      · congr 1
        exact hf_congr fun i hi => by unfold updU; rw [if_neg (by omega)]
    rw [hq]
    generalize hg : U (j + n) * 2 + U (j + n - 1) / 2147483648 = g at *
    have p1 : 4294967296 ^ (j + n - 1) = 4294967296 ^ (n - 1) * 4294967296 ^ j := by rw [← Nat.pow_add]; congr 1; omega
    have p2 : 4294967296 ^ (j + n) = 4294967296 ^ (n - 1) * 4294967296 ^ j * 4294967296 := by rw [← p1, ← Nat.pow_succ]; congr 1; omega
    rw [p1] at u1
    rw [p2] at u2
    have hN := long_arith u1 u2 hg.symm
    rw [hN, Nat.pow_succ] at b5
    exact long_fold b5

theorem long_end {M s m n : Nat} {U Q : Nat → Nat} {D : Nat} (hD : D * 2 ^ s = 4294967296 ^ (n - 1) * 2147483648) (hn : 2 ≤ n) (h : LongInv (M * 2 ^ s) m n 0 U Q) :
    nv ((List.range (m + 1)).map Q) = M / D ∧ nv ((List.range (m + n + 1)).map U) / 2 ^ s = M % D := by
  obtain ⟨b1, b2, b3, b4, b5⟩ := h
  rw [nv_range, nv_range]
  rw [Nat.pow_zero, Nat.one_mul, hf_zero, ← hD] at b5
  have hp : 0 < 2 ^ s := Nat.two_pow_pos _
  have hU : nf U (m + n + 1) < D * 2 ^ s := by
    have e1 : nf U (m + n + 1) = nf U n := by
      have : ∀ k, n ≤ k → k ≤ m + n + 1 → nf U k = nf U n := by
        intro k h1
        induction k with
        | zero => intro _; have : n = 0 := by omega
                  omega
        | succ k ih =>
          intro h2
          by_cases e : n = k + 1
          · rw [e]
          · rw [nf, b2 k (by omega) (by omega), Nat.mul_zero, Nat.add_zero]
            exact ih (by omega) (by omega)
      exact this _ (by omega) (Nat.le_refl _)
    obtain ⟨k, rfl⟩ : ∃ k, n = k + 1 := ⟨n - 1, by omega⟩
    rw [e1, nf, hD, Nat.add_sub_cancel]
    have h1 := nf_lt (f := U) (n := k) fun i hi => b1 i (by omega)
    have h2 : U k < 2147483648 := by rw [show 0 + (k + 1) - 1 = k by omega] at b3; exact b3
    have h3 : 4294967296 ^ k * (U k + 1) ≤ 4294967296 ^ k * 2147483648 := Nat.mul_le_mul_left _ h2
    rw [Nat.mul_add, Nat.mul_one] at h3
    exact Nat.lt_of_lt_of_le (by rw [Nat.add_comm]; exact Nat.add_lt_add_left h1 _) h3
  have h2 := small_fin (Q := nf Q (m + 1)) (r := nf U (m + n + 1)) (d := D * 2 ^ s) (m := M * 2 ^ s) (by rw [← b5, Nat.add_comm, Nat.mul_comm (nf Q (m + 1))]) hU
  rw [Nat.mul_div_mul_right _ _ hp, Nat.mul_mod_mul_right] at h2
  exact ⟨h2.1, by rw [h2.2, Nat.mul_div_cancel _ hp]⟩

end Go.Proofs.YtgipkpkjoicehaaGreatDoor.words

/- Words laid over the head of a row by copy; what the long division's walk needs of left. -/
namespace Go.Proofs.YtgipkpkjoicehaaGreatDoor.words
open Go.RowKit
set_option maxRecDepth 100000

theorem left0_any (a : Option Addr) (n ca s m : Nat) (w : World) (ha : Ru w a n ca (dig m)) (hn : n ≤ 100) (hs : s < 32) :
    Calls Tryz.prog 111 #[.slice a n ca, .int .u64 (s : Int)] w fun e w' => Gives w (m * 2 ^ s) e w' := by
  have := left_any a n ca 0 s (dig m) w ha hn (by omega) hs
  rwa [nv_dig, Nat.mul_zero, Nat.zero_add] at this

/-- How a row of words stands when others have been laid over its head. -/
theorem rowU_copied {w : World} {g N n : Nat} {l : List Nat} (hl : l.length = n) (hn : n ≤ N) (h : w.heap[g]? = some (.cells (((List.range N).map fun _ => Value.int .u32 0).take 0 ++ (l.map fun (x : Nat) => Value.int .u32 (x : Int)) ++ ((List.range N).map fun _ => Value.int .u32 0).drop (0 + (l.map fun (x : Nat) => Value.int .u32 (x : Int)).length)).toArray 51 (0, 0))) : RowU w g N (fun i => l.getD i 0) := by
  unfold RowU
  rw [h]
  congr 3
  apply List.ext_getElem?
  intro i
  by_cases hi : i < n
  · rw [List.take_zero, List.nil_append, List.getElem?_append_left (by simp; omega)]
    simp [List.getD, List.getElem?_eq_getElem (show i < l.length by omega), show i < N by omega]
  · rw [List.take_zero, List.nil_append, List.getElem?_append_right (by simp; omega)]
    by_cases hiN : i < N
    · have e : 0 + (l.map fun (x : Nat) => Value.int .u32 (x : Int)).length + (i - (l.map fun (x : Nat) => Value.int .u32 (x : Int)).length) = i := by simp; omega
      rw [List.getElem?_drop, e]
      simp [List.getD, List.getElem?_eq_none (show l.length ≤ i by omega), hiN]
    · rw [List.getElem?_eq_none (by simp; omega), List.getElem?_eq_none (by simp; omega)]

theorem left_len {M s n : Nat} (hn : (dig M).length = n) (hs : s < 32) : (dig (M * 2 ^ s)).length ≤ n + 1 := by
  apply dig_len
  have h1 := dig_low M
  rw [hn] at h1
  have h2 : 2 ^ s ≤ 2 ^ 32 := Nat.pow_le_pow_right (by decide) (by omega)
  rw [Nat.pow_succ]
  have h3 : M * 2 ^ s ≤ M * 4294967296 := Nat.mul_le_mul_left _ h2
  exact Nat.lt_of_le_of_lt h3 (Nat.mul_lt_mul_of_pos_right h1 (by decide))

/-- Words that lie in another block than the one that turns. -/
theorem Ru.apart {w w' : World} {z : Nat} {a : Option Addr} {n cap : Nat} {l : List Nat} (h : Ru w a n cap l) (he : Ex w w' z) (hne : ∀ b off, a = some ⟨b, off, none⟩ → b ≠ z) : Ru w' a n cap l := by
  refine ⟨h.len, h.lt, h.nil, h.room, ?_, fun b off s e hn => (h.typ b off s e hn).same (he.block b (h.typ b off s e hn).lt (by
    rcases h.cell with h0 | ⟨b', off', e', _⟩
    · exact absurd h0 hn
    · rw [e'] at e
      obtain ⟨rfl, rfl, rfl⟩ := (by simpa using e : b' = b ∧ off' = off ∧ none = s)
      exact hne _ _ e'))⟩
  rcases h.cell with h0 | ⟨b, off, rfl, hc⟩
  · exact .inl h0
  · refine .inr ⟨b, off, rfl, fun i hi => ?_⟩
    have h1 := hc i hi
    rw [World.cell?_of_block (w := w) (a := ⟨b, off + i, none⟩) (he.block b (World.block_lt_of_cell? w _ h1) (hne b off rfl))]
    exact h1
theorem Ru.lies {w : World} {a : Option Addr} {n cap : Nat} {l : List Nat} (h : Ru w a n cap l) (h0 : 0 < n) : ∀ b off, a = some ⟨b, off, none⟩ → b < w.heap.size := by
  intro b off e
  obtain ⟨b', off', e', hc⟩ := h.at (i := 0) h0
  rw [e] at e'
  simp only [Option.some.injEq, Addr.mk.injEq, and_true] at e'
  rw [e'.1]
  exact World.block_lt_of_cell? w _ hc

/-- copy of words over a row of noughts. -/
theorem copy_words (a : Option Addr) (n cap N g : Nat) (l : List Nat) (w : World) (h : Ru w a n cap l) (n0 : 0 < n) (hn : n ≤ N) (hr : RowU w g N (fun _ => 0)) :
    ∃ w', (Builtin.copy_ #[22, 22] 3 #[.slice (some ⟨g, 0, none⟩) N N, .slice a n cap]).run Tryz.prog w = .ok (.int .i64 (n : Int)) w' ∧ RowU w' g N (fun i => l.getD i 0) ∧ Ex w w' g := by
  obtain ⟨b, off, rfl, -⟩ := h.at n0
  have hc : ∀ i, i < n → w.cell? ⟨b, off + i, none⟩ = some (.int .u32 ((l.getD i 0 : Nat) : Int)) := by
    rcases h.cell with h0 | ⟨b', off', e, hc⟩
    · omega
    · simp only [Option.some.injEq, Addr.mk.injEq, and_true] at e
      obtain ⟨rfl, rfl⟩ := e
      exact hc
  have hrun := run_copy_row (P := Tryz.prog) w 22 22 3 51 g 0 N N ⟨b, off, none⟩ n cap ((List.range N).map fun _ => Value.int .u32 0).toArray 51 (l.map fun (x : Nat) => Value.int .u32 (x : Int)) Tryz.underlying22 (by kernel_rfl) hr (by
      rw [List.length_map, h.len]; exact (Nat.min_eq_left hn).symm) (by
      intro j u hu
      by_cases hj : j < l.length
      · simp [List.getElem?_eq_getElem hj] at hu
        subst hu
        have := hc j (by rw [h.len] at hj; exact hj)
        simpa [Addr.add_lit, List.getD, List.getElem?_eq_getElem hj] using this
      · rw [List.getElem?_eq_none (by simp; omega)] at hu; cases hu) (by simp [h.len]; omega) (by
      intro u hu; obtain ⟨z, _, rfl⟩ := List.mem_map.1 hu; rfl)
  refine ⟨_, ?_, rowU_copied (n := n) h.len hn (setRow_heap w g _ _ 51 _ hr), rfl, rfl, rfl, by simp [World.setRow], fun k _ hk => setRow_other w g k _ hk⟩
  rw [hrun]
  simp [goInt, h.len]

end Go.Proofs.YtgipkpkjoicehaaGreatDoor.words

/- Long division by a power of 2 with two words or more: the walk. -/
namespace Go.Proofs.YtgipkpkjoicehaaGreatDoor.words
open Go.RowKit
set_option maxRecDepth 100000

theorem RowU.other {w : World} {g n z : Nat} {f : Nat → Nat} (h : RowU w g n f) (i : Nat) (u : Value) (hne : z ≠ g) : RowU (w.setCell ⟨z, i, none⟩ u) g n f := by
  unfold RowU at *
  simp only [World.setCell, Array.getElem?_modify]
  rw [if_neg hne]
  exact h
theorem ex_set (w : World) (z i : Nat) (u : Value) : Ex w (w.setCell ⟨z, i, none⟩ u) z :=
  ⟨rfl, rfl, rfl, by simp [World.setCell], fun k _ hk => by simp only [World.setCell, Array.getElem?_modify]; rw [if_neg (fun e => hk e.symm)]⟩
theorem updU_same (f : Nat → Nat) (i : Nat) : updU f i (f i) = f := by
  funext k
  unfold updU
  split
  · next e => rw [e]
  · rfl

set_option maxRecDepth 100000 in
set_option maxHeartbeats 4000000 in
theorem div_long (a b : Option Addr) (n k ca cb M D s L : Nat) (w : World) (ha : Ru w a n ca (dig M)) (hb : Ru w b k cb (dig D)) (hn : n ≤ 60) (hn2 : 2 < n) (hk2 : 2 ≤ k) (hkn : k ≤ n) (hs : s < 32)
    (hD : D * 2 ^ s = 4294967296 ^ (k - 1) * 2147483648) (hle : D ≤ M) (hL : BitsOf D L) (hLs : L + s = 32 * k) :
    Calls Tryz.prog 75 #[.slice a n ca, .slice b k cb] w fun e w' => DivGives w (M / D) (M % D) e w' := by
  obtain ⟨i0, hi, hz0, hz1, hz2⟩ := info_parts info_u32
  have HA : Hid (Ru w a n ca (dig M)) := ha
  have HBB : Hid (Ru w b k cb (dig D)) := hb
  have HC := bigcmp_any a b n k ca cb M D w ha hb (by omega) (by omega)
  have HC' : Hid (Calls Tryz.prog 106 #[.slice a n ca, .slice b k cb] w fun e w' => CmpPost w M D e w') := HC
  have hcm : ¬ cmp3 (M : Int) (D : Int) < 0 := by
    by_cases e : D = M
    · subst e; rw [cmp3_eq]; omega
    · rw [cmp3_gt (by omega)]; omega
  obtain ⟨cc, hcc⟩ : ∃ cc, cmp3 (M : Int) (D : Int) = cc := ⟨_, rfl⟩
  rw [hcc] at hcm
  have kz : ((k : Int) == 0) = false := beq_eq_false_iff_ne.2 (by omega)
  have k1 : ((k : Int) == 1) = false := beq_eq_false_iff_ne.2 (by omega)
  have hn2' : ¬ (n : Int) ≤ 2 := by omega
  have HLen : Hid (∀ q, Calls Tryz.prog 74 #[.slice b k cb] (w.drewN q) fun e w' => e = .returned (.int .i64 (L : Int)) ∧ w' = w.drewN q) := fun q => (length_any b k cb D _ (hb.drewN q) (by omega)).mono (by
    rintro e w' ⟨rfl, L', rfl, hL', _⟩
    rw [bitsOf_uniq hL' hL]
    exact ⟨rfl, rfl⟩)
  have hLm : ((L : Int) - 1) % 32 = 31 - (s : Int) := by omega
  have hLp : 0 < L := by omega
  have hll := left_len ha.len hs
  have HV : Hid ((dig (D * 2 ^ s)).length = k) := by rw [hD, high31_len]; exact (by omega : k - 1 + 1 = k)
  have HLA : Hid (∀ w', Below w.heap.size w w' → Calls Tryz.prog 111 #[.slice a n ca, .int .u64 (s : Int)] w' fun e w'' => Gives w' (M * 2 ^ s) e w'') := fun w' hb => left0_any a n ca s M w' (HA.out.below hb) (by omega) hs
  have HLB : Hid (∀ w', Below w.heap.size w w' → Calls Tryz.prog 111 #[.slice b k cb, .int .u64 (s : Int)] w' fun e w'' => Gives w' (D * 2 ^ s) e w'') := fun w' hb => left0_any b k cb s D w' (HBB.out.below hb) (by omega) hs
  have HEND : Hid (∀ m U Q, LongInv (M * 2 ^ s) m k 0 U Q → nv ((List.range (m + 1)).map Q) = M / D ∧ nv ((List.range (m + k + 1)).map U) / 2 ^ s = M % D) := fun m U Q h => long_end hD hk2 h
  have HD31 : Hid (D * 2 ^ s = 4294967296 ^ (k - 1) * 2147483648) := hD
  have hD0 : 0 < D := by
    rcases Nat.eq_zero_or_pos D with h | h
    · rw [h, Nat.zero_mul] at hD
      exact absurd hD.symm (Nat.ne_of_gt (Nat.mul_pos (Nat.pow_pos (by decide)) (by decide)))
    · exact h
  have hMS0 : 0 < M * 2 ^ s := Nat.mul_pos (by omega) (Nat.two_pow_pos _)
  obtain ⟨m, hm⟩ : ∃ m, m + k + 1 = n + 2 := ⟨n + 1 - k, by omega⟩
  obtain ⟨k1', hk1⟩ : ∃ k1', k1' + 1 = k := ⟨k - 1, by omega⟩
  obtain ⟨k2', hk2'⟩ : ∃ k2', k2' + 2 = k := ⟨k - 2, by omega⟩
  have em : (n : Int) + 2 - (k : Int) - 1 = (m : Int) := by omega
  have ek1 : (k : Int) - 1 = (k1' : Int) := by omega
  have ek2 : (k : Int) - 2 = (k2' : Int) := by omega
  clear ha hb HC hD hL hle
  generalize hMS : M * 2 ^ s = MS at *
  generalize hDS : D * 2 ^ s = DS at *
  go_enter Tryz.func75, Tryz.ntmps75
  go_wp2_with fail
  refine HC'.out.mono ?_
  rintro e w1 ⟨rfl, q, rfl⟩
  rw [hcc]
  clear hcc
  go_wp2_with fail
  refine (HLen.out q).mono ?_
  rintro e w2 ⟨rfl, rfl⟩
  go_wp2_with fail
  have es : (32 : Int) - (31 - (s : Int)) - 1 = (s : Int) := by omega
  simp only [es]
  clear es hLm hLp
  refine (HLB.out _ (below_drewN (Below.refl _ w) q)).mono ?_
  rintro e w3 ⟨av, nv3, cv, rfl, hr3, hb3⟩
  have enk : nv3 = k := by rw [← hr3.len]; exact HV.out
  subst enk
  have HRV : Hid (Ru w3 av nv3 cv (dig DS)) := hr3
  have HB3 : Hid (Below w.heap.size w w3) := (below_drewN (Below.refl _ w) q).trans hb3
  have hav : ∀ b off, av = some ⟨b, off, none⟩ → b ≠ w3.heap.size := fun b off e => by have := hr3.lies (by omega) b off e; omega
  clear hr3 hb3 HLB HLen HC'
  go_wp2_with (first
    | (at_make; refine wpList_make_full _ rfl _ _ 22 rfl w3.heap.size 51 i0 (.int .u32 0) 1 Tryz.underlying22 hi hz0 hz1 _ _ _ _ (n + 2) rfl rfl ?c0 ?c1 ?c2 ?c3 ?c4 ?_))
  try (case c0 => first | rfl | (congr 1; omega))
  try (case c1 => first | rfl | (congr 1; omega))
  case c2 => first | omega | (rw [hz2]; omega)
  case c3 => unfold maxLen; omega
  try (case c4 => simp)
  intro w4 hown hgr
  have HU4 : Hid (RowU w4 w3.heap.size (n + 2) (fun _ => 0)) := rowU_made hown
  have hB34 : Below w3.heap.size w3 w4 := (Below.refl _ _).grown hgr (Nat.le_refl _) (fun k hk => by cases hk)
  have HB4 : Hid (Below w.heap.size w w4) := HB3.out.trans (hB34.mono HB3.out.size)
  have HV4 : Hid (Ru w4 av nv3 cv (dig DS)) := HRV.out.below hB34
  have hG3 : w.heap.size ≤ w3.heap.size := HB3.out.size
  clear hown hgr hB34 HRV HB3
  generalize hGU : w3.heap.size = GU at *
  clear hGU
  go_wp2_with fail
  refine (HLA.out _ HB4.out).mono ?_
  rintro e w5 ⟨al, nl, cl, rfl, hr5, hb5⟩
  have hnl0 : nl ≠ 0 := dig_none hr5.len hMS0
  have hnl : nl ≤ n + 1 := by rw [← hr5.len]; exact hll
  have HRL : Hid (Ru w5 al nl cl (dig MS)) := hr5
  have HB5 : Hid (Below w.heap.size w w5) := HB4.out.trans (hb5.mono HB4.out.size)
  have HV5 : Hid (Ru w5 av nv3 cv (dig DS)) := HV4.out.below hb5
  have hgu5 : GU < w4.heap.size := heap_lt HU4.out
  have HU5 : Hid (RowU w5 GU (n + 2) (fun _ => 0)) := by
    have goal : RowU w5 GU (n + 2) (fun _ => 0) := by
      have h := HU4.out
      unfold RowU at *
      rw [hb5.block GU hgu5]
      exact h
    exact goal
  clear hr5 hb5 HU4 HB4 HV4 HLA
  obtain ⟨w6, hcopy, hu6, hex6⟩ := copy_words al nl cl (n + 2) GU (dig MS) w5 HRL.out (by omega) (by omega) HU5.out
  have HU6 : Hid (RowU w6 GU (n + 2) (fun i => (dig MS).getD i 0)) := hu6
  have HB6 : Hid (Below w.heap.size w w6) := hex6.below HB5.out hG3
  have HV6 : Hid (Ru w6 av nv3 cv (dig DS)) := HV5.out.apart hex6 hav
  clear hu6 hex6 HU5 HB5 HV5 HRL
  go_wp2_with (first
    | (at_make; refine wpList_make_full _ rfl _ _ 22 rfl w6.heap.size 51 i0 (.int .u32 0) 1 Tryz.underlying22 hi hz0 hz1 _ _ _ _ (m + 1) rfl rfl ?e0 ?e1 ?e2 ?e3 ?e4 ?_))
  try (case e0 => first | rfl | (congr 1; omega) | omega | simp)
  try (case e1 => first | rfl | (congr 1; omega) | omega | simp)
  case e2 => first | omega | (rw [hz2]; omega)
  case e3 => unfold maxLen; omega
  try (case e4 => simp)
  intro w7 hown7 hgr7
  have HQ7 : Hid (RowU w7 w6.heap.size (m + 1) (fun _ => 0)) := rowU_made hown7
  have hB67 : Below w6.heap.size w6 w7 := (Below.refl _ _).grown hgr7 (Nat.le_refl _) (fun k hk => by cases hk)
  have hgu7 : GU < w6.heap.size := heap_lt HU6.out
  have HB7 : Hid (Below w.heap.size w w7) := HB6.out.trans (hB67.mono HB6.out.size)
  have HV7 : Hid (Ru w7 av nv3 cv (dig DS)) := HV6.out.below hB67
  have hG6 : w.heap.size ≤ w6.heap.size := HB6.out.size
  have HU7 : Hid (RowU w7 GU (n + 2) (fun i => (dig MS).getD i 0)) := by
    have goal : RowU w7 GU (n + 2) (fun i => (dig MS).getD i 0) := by
      have h := HU6.out
      unfold RowU at *
      rw [hB67.block GU hgu7]
      exact h
    exact goal
  have HST : Hid (LongInv MS m nv3 (m + 1) (fun i => (dig MS).getD i 0) (fun _ => 0)) := by
    have hz : ∀ i, n + 1 ≤ i → (dig MS).getD i 0 = 0 := fun i hi => by simp [List.getD, List.getElem?_eq_none (show (dig MS).length ≤ i by omega)]
    have goal : LongInv MS m nv3 (m + 1) (fun i => (dig MS).getD i 0) (fun _ => 0) := by
      refine ⟨fun j _ => dig_word MS j, fun j h1 h2 => by omega, ?_, fun _ _ => (by decide : 0 < 4294967296), ?_⟩
      · show (dig MS).getD (m + 1 + nv3 - 1) 0 < 2147483648
        rw [hz _ (by omega)]
        decide
      · rw [hf_top, Nat.mul_zero, Nat.mul_zero, Nat.add_zero, ← nv_more (dig MS) (by omega), nv_dig]
    exact goal
  obtain ⟨bv, ov, rfl, hvt⟩ := HV7.out.at (i := k1') (by omega)
  obtain ⟨bv', ov', hvv, hvn⟩ := HV7.out.at (i := k2') (by omega)
  simp only [Option.some.injEq, Addr.mk.injEq, and_true] at hvv
  obtain ⟨rfl, rfl⟩ := hvv
  have htop : (dig DS).getD k1' 0 = 2147483648 := by rw [HD31.out, show nv3 - 1 = k1' by omega]; exact high31_top _
  have hnxt : (dig DS).getD k2' 0 = 0 := by rw [HD31.out, show nv3 - 1 = k1' by omega]; exact high31_low (by omega)
  have HLOW : Hid (∀ i, i < k1' → (dig DS).getD i 0 = 0) := fun i hi => by rw [HD31.out, show nv3 - 1 = k1' by omega]; exact high31_low hi
  have HTOP : Hid ((dig DS).getD k1' 0 = 2147483648) := htop
  rw [htop] at hvt
  rw [hnxt] at hvn
  have hbq : bv ≠ w6.heap.size := by have := HV6.out.lies (by omega) bv ov rfl; omega
  clear hown7 hgr7 hB67 HU6 HB6 HV6 hi hz0 hz1 hz2 hcopy htop hnxt
  generalize hGQ : w6.heap.size = GQ at *
  clear hGQ
  go_wp2_with fail
  go_quiet (fail)
  go_wp2_with fail
  go_loopw [18] (fun jv wr => ∃ (kk : Nat) (U Q : Nat → Nat), kk ≤ m + 1 ∧ jv = .int .i64 ((kk : Int) - 1) ∧ RowU wr GU (n + 2) U ∧ RowU wr GQ (m + 1) Q ∧ Ru wr (some ⟨bv, ov, none⟩) nv3 cv (dig DS) ∧ Below w.heap.size w wr ∧ LongInv MS m nv3 kk U Q) (fun jv _ => (intOf jv + 1).toNat)
  case atStart => exact ⟨m + 1, _, _, Nat.le_refl _, by congr 1; omega, HU7.out, HQ7.out, HV7.out.drewN _, below_drewN HB7.out _, HST.out⟩
  case round =>
    obtain ⟨kk, U, Q, hkm, rfl, hU, hQ, hV, hB, hI⟩ := hrel
    by_cases hk0 : kk = 0
    · subst hk0
      obtain ⟨hq1, hq2⟩ := HEND.out m U Q hI
      have HRQ : Hid (Ru wr (some ⟨GQ, 0, none⟩) (m + 1) (m + 1) ((List.range (m + 1)).map Q)) := hQ.ru hI.2.2.2.1
      have HRU : Hid (Ru wr (some ⟨GU, 0, none⟩) (n + 2) (n + 2) ((List.range (n + 2)).map U)) := hU.ru (by rw [← hm]; exact hI.1)
      have HB8 : Hid (Below w.heap.size w wr) := hB
      have HE1 : Hid (nv ((List.range (m + 1)).map Q) = M / D) := hq1
      have HE2 : Hid (nv ((List.range (n + 2)).map U) / 2 ^ s = M % D) := by rw [← hm]; exact hq2
      clear hU hQ hV hB hI hq1 hq2
      go_wp2_with fail
      refine (trim_any _ _ _ _ _ HRQ.out (by omega)).mono ?_
      rintro e w8 ⟨a8, n8, c8, rfl, hr8, hb8⟩
      rw [HE1.out] at hr8
      have HR8 : Hid (Ru w8 a8 n8 c8 (dig (M / D))) := hr8
      have HRU8 : Hid (Ru w8 (some ⟨GU, 0, none⟩) (n + 2) (n + 2) ((List.range (n + 2)).map U)) := HRU.out.below hb8
      have HB9 : Hid (Below w.heap.size w w8) := HB8.out.trans (hb8.mono HB8.out.size)
      clear hr8 hb8
      go_wp2_with fail
      refine (trim_any _ _ _ _ _ HRU8.out (by omega)).mono ?_
      rintro e w9 ⟨a9, n9, c9, rfl, hr9, hb9⟩
      have HR9 : Hid (Ru w9 a8 n8 c8 (dig (M / D))) := HR8.out.below hb9
      have HB10 : Hid (Below w.heap.size w w9) := HB9.out.trans (hb9.mono HB9.out.size)
      have hn9 : n9 ≤ 200 := by
        rw [← hr9.len]
        have h1 : nv ((List.range (n + 2)).map U) < 4294967296 ^ (n + 2) := by rw [nv_range]; exact nf_lt fun i hi => by have := HRU.out.word i; simpa [List.getD, hi] using this
        have := dig_len (n + 2) h1
        omega
      have hrt := right_any a9 n9 c9 0 s _ w9 hr9 hn9 (by omega) hs
      rw [nv_dig, Nat.mul_zero, Nat.zero_add, HE2.out] at hrt
      have HRT : Hid (Calls Tryz.prog 112 #[.slice a9 n9 c9, .int .u64 (s : Int)] w9 fun e w' => Gives w9 (M % D) e w') := hrt
      clear hr9 hb9 hrt
      go_wp2_with fail
      refine HRT.out.mono ?_
      rintro e w10 ⟨a10, n10, c10, rfl, hr10, hb10⟩
      have HG : Hid (DivGives w (M / D) (M % D) (.returned (.tuple #[.slice a8 n8 c8, .slice a10 n10 c10])) w10) := ⟨a8, n8, c8, a10, n10, c10, rfl, HR9.out.below hb10, hr10, HB10.out.trans (hb10.mono HB10.out.size)⟩
      clear hr10 hb10
      go_wp2_with fail
      refine bodyPost_ret (v := .tuple #[.slice a8 n8 c8, .slice a10 n10 c10]) (by simp [results, Tryz.results75, go_sem]) rfl HG.out
    · obtain ⟨j, rfl⟩ : ∃ j, kk = j + 1 := ⟨kk - 1, by omega⟩
      have ej : ((j + 1 : Nat) : Int) - 1 = (j : Int) := by omega
      rw [ej]
      have HNX := long_next hk2 (by omega) hI
      have hx : U (j + nv3) < 2147483648 := by rw [show j + nv3 = j + 1 + nv3 - 1 by omega]; exact hI.2.2.1
      have hy := hI.1 (j + nv3 - 1) (by omega)
      have hzb := hI.1 (j + nv3 - 2) (by omega)
      have cx := hU.cell (i := j + nv3) (by omega)
      have cy := hU.cell (i := j + nv3 - 1) (by omega)
      have cz := hU.cell (i := j + nv3 - 2) (by omega)
      obtain ⟨p0, hp0⟩ : ∃ p0, j + nv3 = p0 := ⟨_, rfl⟩
      obtain ⟨p1, hp1⟩ : ∃ p1, j + nv3 - 1 = p1 := ⟨_, rfl⟩
      obtain ⟨p2, hp2⟩ : ∃ p2, j + nv3 - 2 = p2 := ⟨_, rfl⟩
      rw [hp1, hp0] at HNX
      rw [hp0] at hx cx
      rw [hp1] at hy cy
      rw [hp2] at hzb cz
      have HUW : Hid (∀ i, i < m + nv3 + 1 → U i < 4294967296) := hI.1
      obtain ⟨x, hxx⟩ : ∃ x, U p0 = x := ⟨_, rfl⟩
      obtain ⟨y, hyy⟩ : ∃ y, U p1 = y := ⟨_, rfl⟩
      obtain ⟨z, hzz⟩ : ∃ z, U p2 = z := ⟨_, rfl⟩
      rw [hxx, hyy] at HNX
      rw [hxx] at hx cx
      rw [hyy] at hy cy
      rw [hzz] at hzb cz
      have HUX : Hid (U p0 = x ∧ U p1 = y) := ⟨hxx, hyy⟩
      obtain ⟨g, hg⟩ : ∃ g, x * 2 + y / 2147483648 = g := ⟨_, rfl⟩
      obtain ⟨yr, hyr⟩ : ∃ yr, y % 2147483648 = yr := ⟨_, rfl⟩
      rw [hg, hyr] at HNX
      have HNX' : Hid (LongInv MS m nv3 j (updU (updU U p1 yr) p0 0) (updU Q j g)) := HNX
      have HU8 : Hid (RowU wr GU (n + 2) U) := hU
      have HQ8 : Hid (RowU wr GQ (m + 1) Q) := hQ
      have HV8 : Hid (Ru wr (some ⟨bv, ov, none⟩) nv3 cv (dig DS)) := hV
      have HB8 : Hid (Below w.heap.size w wr) := hB
      have e0 : (j : Int) + (nv3 : Int) = (p0 : Int) := by omega
      have e1 : (p0 : Int) - 1 = (p1 : Int) := by omega
      have e2 : (p0 : Int) - 2 = (p2 : Int) := by omega
      have hor := or_words x y (by omega) (by omega) (by omega) (by omega)
      obtain ⟨h, hh⟩ : ∃ h, x * 4294967296 + y = h := ⟨_, rfl⟩
      have eh : (x : Int) * 4294967296 + (y : Int) = (h : Int) := by omega
      rw [eh] at hor
      have hhl : h < 9223372036854775808 := by omega
      have eg : (h : Int) / 2147483648 = (g : Int) := by omega
      have er : (h : Int) % 2147483648 = (yr : Int) := by omega
      have hgl : g < 4294967296 := by omega
      have hgn : ¬ (4294967295 : Int) < (g : Int) := by omega
      have hyrl : yr < 2147483648 := by omega
      have hor2 := or_words yr z (by omega) (by omega) (by omega) (by omega)
      have hoz : ¬ (yr : Int) * 4294967296 + (z : Int) < 0 := by omega
      obtain ⟨C, hC⟩ : ∃ C, g * 2147483648 = C := ⟨_, rfl⟩
      have eC : (g : Int) * 2147483648 = (C : Int) := by omega
      obtain ⟨lo, hlo⟩ : ∃ lo, C % 4294967296 = lo := ⟨_, rfl⟩
      have elo : (C : Int) % 4294967296 = (lo : Int) := by omega
      have ehi : (C : Int) / 4294967296 = (x : Int) := by omega
      have eyl : (y : Int) - (lo : Int) = (yr : Int) := by omega
      have hCl : C < 9223372036854775808 := by omega
      have hp0n : p0 < n + 2 := by omega
      have hp1n : p1 < n + 2 := by omega
      have hp2n : p2 < n + 2 := by omega
      have hpp : p1 + 1 = p0 := by omega
      have hpj : k1' + j = p1 := by omega
      clear HNX hI hU hQ hV hB hxx hyy hzz hg hyr hh eh hC hlo hp0 hp1 hp2 ej hk0
      go_wp2_with fail
      go_quiet (fail)
      go_wp2_with fail
      go_quiet (fail)
      go_wp2_with fail
      refine wp_loop_rounds 1 ?_
      rw [rounds_succ]
      go_wp2_with fail
      have hbn : bv ≠ GU := hav bv ov rfl
      have hqn : GU ≠ GQ := by omega
      go_loopw [22, 23, 24] (fun gc gd gi wr => ∃ (i : Nat) (U2 : Nat → Nat) (c : Nat), gi = .int .i64 (i : Int) ∧ i ≤ nv3 ∧ gc = .int .u64 (c : Int) ∧ gd = .int .u64 0 ∧ ((i < nv3 ∧ c = 0 ∧ U2 = U) ∨ (i = nv3 ∧ c = x ∧ U2 = updU U p1 yr)) ∧ RowU wr GU (n + 2) U2 ∧ RowU wr GQ (m + 1) Q ∧ Ru wr (some ⟨bv, ov, none⟩) nv3 cv (dig DS) ∧ Below w.heap.size w wr) (fun _ _ gi _ => nv3 - (intOf gi).toNat)
      case atStart => exact ⟨0, U, 0, rfl, Nat.zero_le _, rfl, rfl, .inl ⟨by omega, rfl, rfl⟩, HU8.out, HQ8.out, HV8.out.drewN _, below_drewN HB8.out _⟩
      case round =>
        obtain ⟨i, U2, c, rfl, hin, rfl, rfl, hcase, hU, hQ, hV, hB⟩ := hrel
        rcases hcase with ⟨hi, rfl, rfl⟩ | ⟨rfl, rfl, rfl⟩
        · obtain ⟨bw, ow, hvw, hcv⟩ := hV.at (i := i) hi
          simp only [Option.some.injEq, Addr.mk.injEq, and_true] at hvw
          obtain ⟨rfl, rfl⟩ := hvw
          by_cases hik : i < k1'
          · rw [HLOW.out i hik] at hcv
            have cu := hU.cell (i := i + j) (by omega)
            have fu := hU.free (i + j)
            have hul := HUW.out (i + j) (by omega)
            have hst := hU.set (i + j) (U2 (i + j))
            rw [updU_same] at hst
            obtain ⟨uv, huv⟩ : ∃ uv, U2 (i + j) = uv := ⟨_, rfl⟩
            rw [huv] at cu hul hst
            have HN : Hid (RowU (wr.setCell ⟨GU, i + j, none⟩ (.int .u32 (uv : Int))) GU (n + 2) U2) := hst
            have HQN : Hid (RowU (wr.setCell ⟨GU, i + j, none⟩ (.int .u32 (uv : Int))) GQ (m + 1) Q) := hQ.other _ _ hqn
            have HVN : Hid (Ru (wr.setCell ⟨GU, i + j, none⟩ (.int .u32 (uv : Int))) (some ⟨bv, ov, none⟩) nv3 cv (dig DS)) := hV.apart (ex_set _ _ _ _) hav
            have HBN : Hid (Below w.heap.size w (wr.setCell ⟨GU, i + j, none⟩ (.int .u32 (uv : Int)))) := below_set hB _ _ _ hG3
            have e63 : (uv : Int) / 9223372036854775808 = 0 := by omega
            have hpn : i + j < n + 2 := by omega
            clear hU hQ hV hB hst huv HNX' HU8 HQ8 HV8 HB8 HUX eC elo ehi eyl eg er e0 e1 e2 hor hor2
            go_wp2_with fail
            go_roundw
            case rel => exact ⟨i + 1, U2, 0, by go_num, by omega, rfl, rfl, .inl ⟨by omega, rfl, rfl⟩, HN.out, HQN.out, HVN.out, HBN.out⟩
            case measure => simp [intOf]; omega
          · obtain rfl : i = k1' := by omega
            rw [HTOP.out] at hcv
            have cu := hU.cell (i := i + j) (by omega)
            have fu := hU.free (i + j)
            have hst := hU.set (i + j) yr
            rw [hpj, HUX.out.2] at cu
            rw [hpj] at hst fu
            have cu' : wr.cell? ⟨GU, i + j, none⟩ = some (.int .u32 (y : Int)) := by rw [hpj]; exact cu
            have fu' : wr.frozen? ⟨GU, i + j, none⟩ = false := by rw [hpj]; exact fu
            have HN : Hid (RowU (wr.setCell ⟨GU, i + j, none⟩ (.int .u32 (yr : Int))) GU (n + 2) (updU U2 p1 yr)) := by rw [hpj]; exact hst
            have HQN : Hid (RowU (wr.setCell ⟨GU, i + j, none⟩ (.int .u32 (yr : Int))) GQ (m + 1) Q) := hQ.other _ _ hqn
            have HVN : Hid (Ru (wr.setCell ⟨GU, i + j, none⟩ (.int .u32 (yr : Int))) (some ⟨bv, ov, none⟩) nv3 cv (dig DS)) := hV.apart (ex_set _ _ _ _) hav
            have HBN : Hid (Below w.heap.size w (wr.setCell ⟨GU, i + j, none⟩ (.int .u32 (yr : Int)))) := below_set hB _ _ _ hG3
            have e63 : (yr : Int) / 9223372036854775808 = 0 := by omega
            have hpn : i + j < n + 2 := by omega
            clear hU hQ hV hB hst cu fu HNX' HU8 HQ8 HV8 HB8 HUX e0 e1 e2 hor hor2 eg er hpj
            go_wp2_with fail
            go_roundw
            case rel => exact ⟨i + 1, _, x, by go_num, by omega, rfl, rfl, .inr ⟨by omega, rfl, rfl⟩, HN.out, HQN.out, HVN.out, HBN.out⟩
            case measure => simp [intOf]; omega
        · have cu := hU.cell (i := p0) (by omega)
          have fu := hU.free p0
          have eu : updU U p1 yr p0 = c := by
            unfold updU
            rw [if_neg (by omega)]
            exact HUX.out.1
          rw [eu] at cu
          have hst := hU.set p0 0
          have hQ' := hQ.other (z := GU) p0 (.int .u32 0) hqn
          have cq := hQ'.cell (i := j) (by omega)
          have fq := hQ'.free j
          have hst2 := hst.other (z := GQ) j (.int .u32 (g : Int)) (Ne.symm hqn)
          have hqs := hQ'.set j g
          obtain ⟨qv, hqv⟩ : ∃ qv : Int, ((Q j : Nat) : Int) = qv := ⟨_, rfl⟩
          rw [hqv] at cq
          have HN : Hid (RowU ((wr.setCell ⟨GU, p0, none⟩ (.int .u32 0)).setCell ⟨GQ, j, none⟩ (.int .u32 (g : Int))) GU (n + 2) (updU (updU U p1 yr) p0 0)) := hst2
          have HQN : Hid (RowU ((wr.setCell ⟨GU, p0, none⟩ (.int .u32 0)).setCell ⟨GQ, j, none⟩ (.int .u32 (g : Int))) GQ (m + 1) (updU Q j g)) := hqs
          have HVN : Hid (Ru ((wr.setCell ⟨GU, p0, none⟩ (.int .u32 0)).setCell ⟨GQ, j, none⟩ (.int .u32 (g : Int))) (some ⟨bv, ov, none⟩) i cv (dig DS)) := (hV.apart (ex_set _ _ _ _) hav).apart (ex_set _ _ _ _) (fun b off e => by
            simp only [Option.some.injEq, Addr.mk.injEq, and_true] at e
            rw [← e.1]
            exact hbq)
          have HBN : Hid (Below w.heap.size w ((wr.setCell ⟨GU, p0, none⟩ (.int .u32 0)).setCell ⟨GQ, j, none⟩ (.int .u32 (g : Int)))) := below_set (below_set hB _ _ _ hG3) _ _ _ hG6
          have hjm : j < m + 1 := by omega
          clear hU hQ hV hB hst hQ' hst2 hqs hqv eu HU8 HQ8 HV8 HB8 HUX e1 e2 hor hor2 eg er eC elo ehi eyl
          go_wp2_with fail
          go_roundw
          case rel => exact ⟨j, _, _, by omega, by go_num, HN.out, HQN.out, HVN.out, HBN.out, HNX'.out⟩
          case measure => first | (simp [intOf]; done) | (simp [intOf]; omega)

end Go.Proofs.YtgipkpkjoicehaaGreatDoor.words

/- A meter at work lies in a block of its own: what calls change of it, and that they change nothing else. -/
namespace Go.Proofs.YtgipkpkjoicehaaGreatDoor.met
open Go.RowKit
set_option maxRecDepth 100000
set_option linter.unusedVariables false
set_option linter.unusedSimpArgs false

/-- Nothing that was there is changed but the block g. -/
structure Chg (w W : World) (g : Nat) : Prop where
  os : W.os = w.os
  tape : W.tape = w.tape
  output : W.output = w.output
  size : w.heap.size ≤ W.heap.size
  oth : ∀ k, k < w.heap.size → k ≠ g → W.heap[k]? = w.heap[k]?
theorem Chg.refl (w : World) (g : Nat) : Chg w w g := ⟨rfl, rfl, rfl, Nat.le_refl _, fun _ _ _ => rfl⟩
theorem Chg.trans {w W V : World} {g : Nat} (h : Chg w W g) (h' : Chg W V g) : Chg w V g :=
  ⟨h'.os.trans h.os, h'.tape.trans h.tape, h'.output.trans h.output, Nat.le_trans h.size h'.size, fun k hk hne => (h'.oth k (Nat.lt_of_lt_of_le hk h.size) hne).trans (h.oth k hk hne)⟩
theorem Chg.of {w W : World} {g : Nat} (hb : Below w.heap.size w W) : Chg w W g := ⟨hb.os, hb.tape, hb.output, hb.size, fun k hk _ => hb.block k hk⟩
theorem Chg.upd {w W : World} {g : Nat} {cs : Array Value} {t : TypeId} (hu : Upd w W g cs t) : Chg w W g := by
  have h := hu.bel 0 w (Nat.zero_le _) (Below.refl _ _)
  exact ⟨h.os, h.tape, h.output, h.size, fun k _ hne => hu.oth k hne⟩
theorem Chg.keep {w W : World} {g G : Nat} {cs : Array Value} {t : TypeId} (h : Chg w W g) (hb : Blk w G cs t) (hne : G ≠ g) : Blk W G cs t := by
  have hl := hb.lt
  unfold Blk at *
  rw [h.oth G hl hne]; exact hb
theorem Chg.bel {w0 w W : World} {g B : Nat} (h : Chg w W g) (hb : Below B w0 w) (hB : B ≤ g) (hs : B ≤ w.heap.size) : Below B w0 W :=
  ⟨h.os.trans hb.os, h.tape.trans hb.tape, h.output.trans hb.output, Nat.le_trans hb.size h.size, fun k hk => (h.oth k (by omega) (by omega)).trans (hb.block k hk)⟩
/-- The meter m is at work in the block g. -/
def Wk (w : World) (g : Nat) (m : Mt) : Prop := Blk w g m.cells 69
theorem Wk.next {w W : World} {g : Nat} {m : Mt} (h : Wk w g m) (hb : Below w.heap.size w W) : Wk W g m := Blk.next h hb
theorem Wk.alloc {w : World} {g : Nat} {m : Mt} (h : Wk w g m) (o : Obj) : Wk (w.alloc o) g m := Blk.alloc h o
theorem chg_set {w : World} {g : Nat} (i : Nat) (u : Value) : Chg w (w.setCell ⟨g, i, none⟩ u) g := by
  refine ⟨rfl, rfl, rfl, by simp [World.setCell], fun k _ hne => ?_⟩
  simp only [World.setCell, Array.getElem?_modify]
  rw [if_neg (fun e => hne e.symm)]
theorem chg_drew {w W : World} {g : Nat} (h : Chg w W g) (q : Nat) : Chg w (W.drewN q) g := ⟨h.os, h.tape, h.output, h.size, h.oth⟩

end Go.Proofs.YtgipkpkjoicehaaGreatDoor.met

/- A meter at work: a bad try, and the deeds of tokens. -/
namespace Go.Proofs.YtgipkpkjoicehaaGreatDoor.met
open Go.RowKit
set_option maxRecDepth 100000
set_option linter.unusedVariables false
set_option linter.unusedSimpArgs false

/-- What a deed gives. -/
def Deed (w : World) (g : Nat) (m : Mt) (no : Prop) (f x : Int) (m' : Mt) (e : Ending) (w' : World) : Prop :=
  Chg w w' g ∧ ((no ∧ e = .returned (.tuple #[.int .i64 0, .int .i64 f]) ∧ Wk w' g m) ∨ (¬ no ∧ e = .returned (.tuple #[.int .i64 x, .int .i64 0]) ∧ Wk w' g m'))
set_option maxHeartbeats 1000000 in
theorem pbad (g : Nat) (m : Mt) (w : World) (hw : Wk w g m) (h0 : 0 ≤ m.bad ∧ m.bad ≤ 4) : Calls Tryz.prog 99 #[.pointer (some ⟨g, 0, none⟩)] w fun e w' => e = .returned (.tuple #[]) ∧ Wk w' g (badTry m) ∧ Chg w w' g := by
  obtain ⟨me, rev, cr, h, b, bad, lock⟩ := m
  simp only [] at h0
  have HI : Hid (Blk w g #[.int .i64 me, .int .i64 rev, .int .i64 cr, .int .i64 h, .int .u64 (b : Int), .int .i64 bad, .int .i64 lock] 69) := hw
  have q5 : w.cell? ⟨g, 5, none⟩ = some (.int .i64 bad) := HI.out.cell 5
  obtain ⟨B, hB⟩ : ∃ B, B = bad + 1 := ⟨_, rfl⟩
  have hwr : IntKind.i64.wrap (bad + 1) = B := by rw [hB, IntKind.wrap_i64]; omega
  have HE : Hid (B = bad + 1) := hB
  have HL : Hid (bad ≤ 4) := h0.2
  clear hw h0 hB
  go_enter Tryz.func99, Tryz.ntmps99
  go_wp2_with (first | (refine wp_let1 rfl 3 _ _ rfl g 5 rfl .i64 B rfl (by kernel_rfl) #[.int .i64 me, .int .i64 rev, .int .i64 cr, .int .i64 h, .int .u64 (b : Int), .int .i64 bad, .int .i64 lock] 69 HI.out (by simp) ?_) | fail)
  intro W1 hU1
  have HI1 : Hid (Blk W1 g #[.int .i64 me, .int .i64 rev, .int .i64 cr, .int .i64 h, .int .u64 (b : Int), .int .i64 B, .int .i64 lock] 69) := hU1.blk
  have HC1 : Hid (Chg w W1 g) := .upd hU1
  have q5' : W1.cell? ⟨g, 5, none⟩ = some (.int .i64 B) := HI1.out.cell 5
  clear hU1 q5 HI hwr
  by_cases h5 : B = 5
  · have hq : (B == 5) = true := by simp [h5]
    have HT : Hid (badTry ⟨me, rev, cr, h, b, bad, lock⟩ = ⟨me, rev, cr, h, b, 0, 30⟩) := by
      show _ = _
      have := HE.out
      unfold badTry; simp only []; rw [if_pos (by omega)]
    clear h5 HE
    go_wp2_with (first | (refine wp_let1 rfl 3 _ _ rfl g 5 rfl .i64 0 rfl (by kernel_rfl) #[.int .i64 me, .int .i64 rev, .int .i64 cr, .int .i64 h, .int .u64 (b : Int), .int .i64 B, .int .i64 lock] 69 HI1.out (by simp) ?_) | fail)
    intro W2 hU2
    have HI2 : Hid (Blk W2 g #[.int .i64 me, .int .i64 rev, .int .i64 cr, .int .i64 h, .int .u64 (b : Int), .int .i64 0, .int .i64 lock] 69) := hU2.blk
    have HC2 : Hid (Chg w W2 g) := HC1.out.trans (.upd hU2)
    clear hU2 q5' HI1 HC1
    go_wp2_with (first | (refine wp_let1 rfl 3 _ _ rfl g 6 rfl .i64 30 rfl (by kernel_rfl) #[.int .i64 me, .int .i64 rev, .int .i64 cr, .int .i64 h, .int .u64 (b : Int), .int .i64 0, .int .i64 lock] 69 HI2.out (by simp) ?_) | fail)
    intro W3 hU3
    have HI3 : Hid (Blk W3 g #[.int .i64 me, .int .i64 rev, .int .i64 cr, .int .i64 h, .int .u64 (b : Int), .int .i64 0, .int .i64 30] 69) := hU3.blk
    have HC3 : Hid (Chg w W3 g) := HC2.out.trans (.upd hU3)
    clear hU3 HI2 HC2
    go_wp2_with fail
    go_end0
    exact ⟨rfl, by rw [HT.out]; exact HI3.out, HC3.out⟩
  · have hq : (B == 5) = false := by simp [h5]
    have HT : Hid (badTry ⟨me, rev, cr, h, b, bad, lock⟩ = ⟨me, rev, cr, h, b, B, lock⟩) := by
      show _ = _
      have := HE.out
      unfold badTry; simp only []; rw [if_neg (by have := HL.out; omega), ← this]
    clear h5 HE
    go_wp2_with fail
    go_end0
    exact ⟨rfl, by rw [HT.out]; exact HI1.out, HC1.out⟩
set_option maxHeartbeats 1000000 in
theorem pfill (g : Nat) (m : Mt) (am : Int) (w : World) (hw : Wk w g m) (h0 : 0 ≤ m.cr ∧ m.cr ≤ 99999999) (h1 : 0 ≤ am ∧ am ≤ 2097151) : Calls Tryz.prog 115 #[.pointer (some ⟨g, 0, none⟩), .int .i64 am] w fun e w' => Deed w g m (99999999 - m.cr < am) 15 am { m with cr := m.cr + am } e w' := by
  obtain ⟨me, rev, cr, h, b, bad, lock⟩ := m
  simp only [] at h0 ⊢
  have HI : Hid (Blk w g #[.int .i64 me, .int .i64 rev, .int .i64 cr, .int .i64 h, .int .u64 (b : Int), .int .i64 bad, .int .i64 lock] 69) := hw
  have q2 : w.cell? ⟨g, 2, none⟩ = some (.int .i64 cr) := HI.out.cell 2
  obtain ⟨S, hS⟩ : ∃ S, S = cr + am := ⟨_, rfl⟩
  have hwr : IntKind.i64.wrap (cr + am) = S := by rw [hS, IntKind.wrap_i64]; omega
  by_cases hx : 99999999 - cr < am
  · have HX : Hid (99999999 - cr < am) := hx
    have hd : decide (99999999 < S) = true := by simp; omega
    clear hw h0 h1 hS hx
    go_enter Tryz.func115, Tryz.ntmps115
    go_wp2_with fail
    go_ret2
    exact ⟨Chg.refl _ _, .inl ⟨HX.out, rfl, HI.out⟩⟩
  · have HX : Hid (¬ 99999999 - cr < am) := hx
    have hd : decide (99999999 < S) = false := by simp; omega
    have HE : Hid (S = cr + am) := hS
    clear hw h0 h1 hS hx
    go_enter Tryz.func115, Tryz.ntmps115
    go_wp2_with (first | (refine wp_let1 rfl 3 _ _ rfl g 2 rfl .i64 S rfl (by kernel_rfl) #[.int .i64 me, .int .i64 rev, .int .i64 cr, .int .i64 h, .int .u64 (b : Int), .int .i64 bad, .int .i64 lock] 69 HI.out (by simp) ?_) | fail)
    intro W1 hU1
    have HI1 : Hid (Blk W1 g #[.int .i64 me, .int .i64 rev, .int .i64 S, .int .i64 h, .int .u64 (b : Int), .int .i64 bad, .int .i64 lock] 69) := hU1.blk
    have HC1 : Hid (Chg w W1 g) := .upd hU1
    clear hU1 q2 HI hwr hd
    go_wp2_with fail
    go_ret2
    exact ⟨HC1.out, .inr ⟨(by have := HX.out; omega), rfl, by rw [← HE.out]; exact HI1.out⟩⟩
set_option maxHeartbeats 1000000 in
theorem pempty (g : Nat) (m : Mt) (am : Int) (w : World) (hw : Wk w g m) : Calls Tryz.prog 116 #[.pointer (some ⟨g, 0, none⟩), .int .i64 am] w fun e w' => Deed w g m False 1 0 { m with cr := 0 } e w' := by
  obtain ⟨me, rev, cr, h, b, bad, lock⟩ := m
  have HI : Hid (Blk w g #[.int .i64 me, .int .i64 rev, .int .i64 cr, .int .i64 h, .int .u64 (b : Int), .int .i64 bad, .int .i64 lock] 69) := hw
  clear hw
  go_enter Tryz.func116, Tryz.ntmps116
  go_wp2_with (first | (refine wp_let1 rfl 3 _ _ rfl g 2 rfl .i64 0 rfl (by kernel_rfl) #[.int .i64 me, .int .i64 rev, .int .i64 cr, .int .i64 h, .int .u64 (b : Int), .int .i64 bad, .int .i64 lock] 69 HI.out (by simp) ?_) | fail)
  intro W1 hU1
  have HI1 : Hid (Blk W1 g #[.int .i64 me, .int .i64 rev, .int .i64 0, .int .i64 h, .int .u64 (b : Int), .int .i64 bad, .int .i64 lock] 69) := hU1.blk
  have HC1 : Hid (Chg w W1 g) := .upd hU1
  clear hU1 HI
  go_wp2_with fail
  go_ret2
  exact ⟨HC1.out, .inr ⟨id, rfl, HI1.out⟩⟩
set_option maxHeartbeats 1000000 in
theorem prekey (g : Nat) (m : Mt) (am : Int) (w : World) (hw : Wk w g m) : Calls Tryz.prog 117 #[.pointer (some ⟨g, 0, none⟩), .int .i64 am] w fun e w' => Deed w g m (am ≤ m.rev) 24 0 { m with rev := am } e w' := by
  obtain ⟨me, rev, cr, h, b, bad, lock⟩ := m
  simp only []
  have HI : Hid (Blk w g #[.int .i64 me, .int .i64 rev, .int .i64 cr, .int .i64 h, .int .u64 (b : Int), .int .i64 bad, .int .i64 lock] 69) := hw
  have q1 : w.cell? ⟨g, 1, none⟩ = some (.int .i64 rev) := HI.out.cell 1
  clear hw
  by_cases hx : am ≤ rev
  · have HX : Hid (am ≤ rev) := hx
    have hd : decide (am ≤ rev) = true := by simp [hx]
    clear hx
    go_enter Tryz.func117, Tryz.ntmps117
    go_wp2_with fail
    go_ret2
    exact ⟨Chg.refl _ _, .inl ⟨HX.out, rfl, HI.out⟩⟩
  · have HX : Hid (¬ am ≤ rev) := hx
    have hd : decide (am ≤ rev) = false := by simp; omega
    clear hx
    go_enter Tryz.func117, Tryz.ntmps117
    go_wp2_with (first | (refine wp_let1 rfl 3 _ _ rfl g 1 rfl .i64 am rfl (by kernel_rfl) #[.int .i64 me, .int .i64 rev, .int .i64 cr, .int .i64 h, .int .u64 (b : Int), .int .i64 bad, .int .i64 lock] 69 HI.out (by simp) ?_) | fail)
    intro W1 hU1
    have HI1 : Hid (Blk W1 g #[.int .i64 me, .int .i64 am, .int .i64 cr, .int .i64 h, .int .u64 (b : Int), .int .i64 bad, .int .i64 lock] 69) := hU1.blk
    have HC1 : Hid (Chg w W1 g) := .upd hU1
    clear hU1 q1 HI hd
    go_wp2_with fail
    go_ret2
    exact ⟨HC1.out, .inr ⟨(by have := HX.out; omega), rfl, HI1.out⟩⟩
theorem pdeed0 (g : Nat) (w : World) : Calls Tryz.prog 101 #[.pointer (some ⟨g, 0, none⟩), .int .i64 0] w fun e w' => e = .returned (.func (.func 115) #[.pointer (some ⟨g, 0, none⟩)] #[]) ∧ w' = w := by
  go_enter Tryz.func101, Tryz.ntmps101
  go_wp2_with fail
  go_ret
  exact ⟨rfl, rfl⟩
theorem pdeed1 (g : Nat) (w : World) : Calls Tryz.prog 101 #[.pointer (some ⟨g, 0, none⟩), .int .i64 1] w fun e w' => e = .returned (.func (.func 116) #[.pointer (some ⟨g, 0, none⟩)] #[]) ∧ w' = w := by
  go_enter Tryz.func101, Tryz.ntmps101
  go_wp2_with fail
  go_ret
  exact ⟨rfl, rfl⟩
theorem pdeed2 (g : Nat) (w : World) : Calls Tryz.prog 101 #[.pointer (some ⟨g, 0, none⟩), .int .i64 2] w fun e w' => e = .returned (.func (.func 117) #[.pointer (some ⟨g, 0, none⟩)] #[]) ∧ w' = w := by
  go_enter Tryz.func101, Tryz.ntmps101
  go_wp2_with fail
  go_ret
  exact ⟨rfl, rfl⟩

end Go.Proofs.YtgipkpkjoicehaaGreatDoor.met

/- The program's windows: taking. -/
namespace Go.Proofs.YtgipkpkjoicehaaGreatDoor.win
open Go.RowKit
set_option maxRecDepth 100000
set_option linter.unusedVariables false
set_option linter.unusedSimpArgs false

theorem took_low {h : Int} {b : Nat} {id : Int} (hb : b < 2 ^ 64) (h1 : id < h) (h2 : ¬ id ≤ h - 64) (hn : id ∉ mem h b 64) : took h b id = b ||| 2 ^ (h - id).toNat := by
  have hk : 2 ^ (h - id).toNat < 2 ^ 64 := Nat.pow_lt_pow_right (by decide) (by omega)
  refine bits_ext (took_lt hn) (Nat.or_lt_two_pow hb hk) fun t ht => ?_
  rw [took_bit hn t ht, Nat.testBit_or, Nat.testBit_two_pow, show max h id = h by omega]
  have e1 : (h - (t : Int) ∈ mem h b 64) ↔ b.testBit t = true := by
    rw [mem_all, show (h - (h - (t : Int))).toNat = t by omega]
    exact ⟨fun hx => hx.2.2, fun hx => ⟨by omega, by omega, hx⟩⟩
  have e2 : (h - (t : Int) = id) ↔ ((h - id).toNat = t) := by omega
  rw [Bool.eq_iff_iff, decide_eq_true_eq, Bool.or_eq_true, decide_eq_true_eq, e1, e2]
theorem took_high {h : Int} {b : Nat} {id : Int} (hb : b < 2 ^ 64) (h1 : h < id) (hn : id ∉ mem h b 64) : took h b id = b * 2 ^ min (id - h).toNat 64 % 2 ^ 64 ||| 1 := by
  have hk : b * 2 ^ min (id - h).toNat 64 % 2 ^ 64 < 2 ^ 64 := Nat.mod_lt _ (by decide)
  refine bits_ext (took_lt hn) (Nat.or_lt_two_pow hk (by decide)) fun t ht => ?_
  rw [took_bit hn t ht, Nat.testBit_or, Nat.testBit_mod_two_pow, Nat.testBit_mul_two_pow, show max h id = id by omega, decide_eq_true ht, Bool.true_and]
  have e2 : (id - (t : Int) = id) ↔ Nat.testBit 1 t = true := by
    rw [show (1 : Nat) = 2 ^ 0 from rfl, Nat.testBit_two_pow, decide_eq_true_eq]; omega
  have e1 : (id - (t : Int) ∈ mem h b 64) ↔ (decide (min (id - h).toNat 64 ≤ t) && b.testBit (t - min (id - h).toNat 64)) = true := by
    rw [mem_all, Bool.and_eq_true, decide_eq_true_eq]
    constructor
    · rintro ⟨a1, a2, a3⟩
      have e : min (id - h).toNat 64 = (id - h).toNat := by omega
      refine ⟨by omega, ?_⟩
      rw [e, show t - (id - h).toNat = (h - (id - (t : Int))).toNat by omega]; exact a3
    · rintro ⟨a1, a2⟩
      have e : min (id - h).toNat 64 = (id - h).toNat := by omega
      refine ⟨by omega, by omega, ?_⟩
      rw [show (h - (id - (t : Int))).toNat = t - (id - h).toNat by omega, ← e]; exact a2
  rw [Bool.eq_iff_iff, decide_eq_true_eq, Bool.or_eq_true, e1, e2]
theorem low_put {h : Int} {b : Nat} {id : Int} (hb : b < 2 ^ 64) (h1 : id < h) (h2 : ¬ id ≤ h - 64) (hn : id ∉ mem h b 64) :
    ∃ D : Int, Op.shift .shl .u64 1 .i64 (h - id) = pure (.int .u64 D) ∧ bits .or .u64 (b : Int) D = ((took h b id : Nat) : Int) := by
  have hk : 2 ^ (h - id).toNat < 2 ^ 64 := Nat.pow_lt_pow_right (by decide) (by omega)
  refine ⟨((2 ^ (h - id).toNat : Nat) : Int), ?_, ?_⟩
  · have := shl_any 1 (h - id) (by omega)
    rw [show min (h - id).toNat 64 = (h - id).toNat by omega] at this
    have e : IntKind.u64.wrap (((1 : Nat) : Int) * 2 ^ (h - id).toNat) = ((2 ^ (h - id).toNat : Nat) : Int) := by
      rw [show (((1 : Nat) : Int) * 2 ^ (h - id).toNat) = ((2 ^ (h - id).toNat : Nat) : Int) by simp, IntKind.wrap_u64]
      generalize 2 ^ (h - id).toNat = X at hk ⊢
      omega
    rw [e] at this
    exact this
  · rw [or64 _ _ hb hk, took_low hb h1 h2 hn]
theorem high_put {h : Int} {b : Nat} {id : Int} (hb : b < 2 ^ 64) (h1 : h < id) (hn : id ∉ mem h b 64) :
    ∃ D : Int, Op.shift .shl .u64 (b : Int) .i64 (id - h) = pure (.int .u64 D) ∧ bits .or .u64 D 1 = ((took h b id : Nat) : Int) := by
  refine ⟨((b * 2 ^ min (id - h).toNat 64 % 2 ^ 64 : Nat) : Int), ?_, ?_⟩
  · have := shl_any b (id - h) (by omega)
    have e : IntKind.u64.wrap ((b : Int) * 2 ^ min (id - h).toNat 64) = ((b * 2 ^ min (id - h).toNat 64 % 2 ^ 64 : Nat) : Int) := by
      rw [show ((b : Int) * 2 ^ min (id - h).toNat 64) = ((b * 2 ^ min (id - h).toNat 64 : Nat) : Int) by simp, IntKind.wrap_u64]
      omega
    rw [e] at this
    exact this
  · have := or64 (b * 2 ^ min (id - h).toNat 64 % 2 ^ 64) 1 (Nat.mod_lt _ (by decide)) (by decide)
    rw [← took_high hb h1 hn] at this
    exact this

set_option maxHeartbeats 4000000 in
theorem ptake (h : Int) (b : Nat) (id : Int) (w : World) (hb : b < 18446744073709551616) :
    Calls Tryz.prog 100 #[.agg #[.int .i64 h, .int .u64 (b : Int)], .int .i64 id] w fun e w' => TakePost w h b id e w' := by
  have HJ : Hid (∀ W, Calls Tryz.prog 62 #[.agg #[.int .i64 h, .int .u64 (b : Int)], .int .i64 id] W fun e w' => JudgePost W h b id e w') := fun W => pjudge h b id W hb
  have HX : Hid (Bxs w ((w.alloc (.cells #[.int .i64 h, .int .u64 (b : Int)] 38)).alloc (.cells #[.int .i64 0, .int .u64 0] 38)) h b) := Bxs.new w h b
  have c0 := HX.out.inn.cell 0
  have c1 := HX.out.inn.cell 1
  go_enter Tryz.func100, Tryz.ntmps100
  go_wp2_with fail
  refine (HJ.out _).mono ?_
  rintro e w1 ⟨c, rfl, hj, hb1⟩
  have HX1 : Hid (Bxs w w1 h b) := HX.out.next hb1
  have HJI : Hid (JudgeIs h b id c) := hj
  clear hb1 hj c0 c1 HX HJ
  have d0 := HX1.out.inn.cell 0
  have d1 := HX1.out.inn.cell 1
  have z0 := HX1.out.out.cell 0
  have z1 := HX1.out.out.cell 1
  have y0 := HX1.out.out.free 0
  have y1 := HX1.out.out.free 1
  by_cases hc : c = 0
  · subst hc
    have hin : May h b ∧ (1 ≤ id ∧ id ≤ 1048575) ∧ ¬ id ≤ h - 64 ∧ id ∉ mem h b 64 := by
      rcases HJI.out with ⟨_, h⟩ | ⟨_, _, h⟩ | ⟨_, _, _, h⟩ | ⟨_, _, _, _, h⟩ | ⟨a1, a2, a3, a4, _⟩
      · exact absurd h (by decide)
      · exact absurd h (by decide)
      · exact absurd h (by decide)
      · exact absurd h (by decide)
      · exact ⟨a1, a2, a3, a4⟩
    obtain ⟨hm, ⟨i1, i2⟩, h3, hnm⟩ := hin
    obtain ⟨l1, l2⟩ := may_low hm
    by_cases hlt : id < h
    · obtain ⟨D, hs, ho⟩ := low_put hb hlt h3 hnm
      have HTK : Hid (h = max h id) := by show _ = _; omega
      obtain ⟨N, hN⟩ : ∃ N, took h b id = N := ⟨_, rfl⟩
      have HN : Hid (N = took h b id) := hN.symm
      rw [hN] at ho
      have y2 := HX1.out.inn.free 1
      have x1 := HX1.out.inn.set 1 (.int .u64 (N : Int))
      have x2 : Blk (w1.setCell ⟨w.heap.size, 1, none⟩ (.int .u64 (N : Int))) (w.heap.size + 1) #[.int .i64 0, .int .u64 0] 38 := HX1.out.out.other 1 _ (by omega)
      clear hm hnm hN h3
      go_wp2_with fail
      go_region
      have HP : Hid (Blk (w1.setCell ⟨w.heap.size, 1, none⟩ (.int .u64 (N : Int))).drew w.heap.size #[.int .i64 h, .int .u64 (N : Int)] 38) := x1
      have HQ : Hid (Blk (w1.setCell ⟨w.heap.size, 1, none⟩ (.int .u64 (N : Int))).drew (w.heap.size + 1) #[.int .i64 0, .int .u64 0] 38) := x2
      have HR : Hid (Below w.heap.size w (w1.setCell ⟨w.heap.size, 1, none⟩ (.int .u64 (N : Int))).drew) := bel_drew (bel_set HX1.out.bel w.heap.size 1 (.int .u64 (N : Int)) (Nat.le_refl _)) 1
      clear x1 x2 HX1 y2 d0 d1 z0 z1 y0 y1 hs ho
      generalize (w1.setCell ⟨w.heap.size, 1, none⟩ (.int .u64 (N : Int))).drew = W2 at *
      have d0 := HP.out.cell 0
      have d1 := HP.out.cell 1
      have z0 := HQ.out.cell 0
      have z1 := HQ.out.cell 1
      have y0 := HQ.out.free 0
      have y1 := HQ.out.free 1
      have HXX := (HQ.out.set 0 (.int .i64 h)).set 1 (.int .u64 (N : Int))
      have R0 : Hid (_ = _) := HXX.cell 0
      have R1 : Hid (_ = _) := HXX.cell 1
      have HB : Hid (Below w.heap.size w ((W2.setCell ⟨w.heap.size + 1, 0, none⟩ (.int .i64 h)).setCell ⟨w.heap.size + 1, 1, none⟩ (.int .u64 (N : Int)))) := bel_set (bel_set HR.out _ _ _ (Nat.le_succ _)) _ _ _ (Nat.le_succ _)
      clear HXX HP HQ HR
      go_wp2_with fail
      exact bodyPost_ret (v := .tuple #[.agg #[.int .i64 h, .int .u64 (N : Int)], .int .i64 0]) (by simp [results, Tryz.results100, R0.out, R1.out, go_sem]) rfl ⟨h, N, 0, rfl, HJI.out, fun h => absurd rfl h, fun _ => ⟨HTK.out, HN.out⟩, HB.out⟩
    · have hgt : h < id := by
        rcases hm with ⟨hx, _⟩ | ⟨_, _, hx, _⟩
        · omega
        · by_cases e : h < id
          · exact e
          · exfalso
            have e' : id = h := by omega
            exact hnm ((mem_all h b id).2 ⟨by omega, by omega, by rw [e', Int.sub_self]; exact hx⟩)
      obtain ⟨D, hs, ho⟩ := high_put hb hgt hnm
      have HTK : Hid (id = max h id) := by show _ = _; omega
      obtain ⟨N, hN⟩ : ∃ N, took h b id = N := ⟨_, rfl⟩
      have HN : Hid (N = took h b id) := hN.symm
      rw [hN] at ho
      have HXX := (HX1.out.out.set 0 (.int .i64 id)).set 1 (.int .u64 (N : Int))
      have R0 : Hid (_ = _) := HXX.cell 0
      have R1 : Hid (_ = _) := HXX.cell 1
      have HB : Hid (Below w.heap.size w ((w1.setCell ⟨w.heap.size + 1, 0, none⟩ (.int .i64 id)).setCell ⟨w.heap.size + 1, 1, none⟩ (.int .u64 (N : Int)))) := bel_set (bel_set HX1.out.bel _ _ _ (Nat.le_succ _)) _ _ _ (Nat.le_succ _)
      have dl : decide (id < h) = false := by simp; omega
      clear HXX hm hnm hN h3 hlt
      go_wp2_with fail
      exact bodyPost_ret (v := .tuple #[.agg #[.int .i64 id, .int .u64 (N : Int)], .int .i64 0]) (by simp [results, Tryz.results100, R0.out, R1.out, go_sem]) rfl ⟨id, N, 0, rfl, HJI.out, fun h => absurd rfl h, fun _ => ⟨HTK.out, HN.out⟩, HB.out⟩
  · have HNZ : Hid (c ≠ 0) := hc
    have hq : (c != 0) = true := by simp [hc]
    have HXX := (HX1.out.out.set 0 (.int .i64 0)).set 1 (.int .u64 0)
    have R0 : Hid (_ = _) := HXX.cell 0
    have R1 : Hid (_ = _) := HXX.cell 1
    have HB : Hid (Below w.heap.size w ((w1.setCell ⟨w.heap.size + 1, 0, none⟩ (.int .i64 0)).setCell ⟨w.heap.size + 1, 1, none⟩ (.int .u64 0))) := bel_set (bel_set HX1.out.bel _ _ _ (Nat.le_succ _)) _ _ _ (Nat.le_succ _)
    clear HXX HX1 hc
    go_wp2_with fail
    exact bodyPost_ret (v := .tuple #[.agg #[.int .i64 0, .int .u64 0], .int .i64 c]) (by simp [results, Tryz.results100, R0.out, R1.out, go_sem]) rfl ⟨0, 0, c, rfl, HJI.out, fun _ => ⟨rfl, rfl⟩, fun h => absurd h HNZ.out, HB.out⟩
end Go.Proofs.YtgipkpkjoicehaaGreatDoor.win

/- A meter at work takes a token that was sold here. -/
namespace Go.Proofs.YtgipkpkjoicehaaGreatDoor.met
open Go.RowKit
set_option maxRecDepth 100000
set_option linter.unusedVariables false
set_option linter.unusedSimpArgs false

/-- What taking gives. -/
def TakeQ (w : World) (g : Nat) (m : Mt) (i : Int) (no : Prop) (f x : Int) (m' : Mt) (e : Ending) (w' : World) : Prop :=
  Chg w w' g ∧ ((∃ j, win.JudgeIs m.h m.b i j ∧ j ≠ 0 ∧ e = .returned (.tuple #[.int .i64 0, .int .i64 j]) ∧ Wk w' g m) ∨ (win.JudgeIs m.h m.b i 0 ∧ no ∧ e = .returned (.tuple #[.int .i64 0, .int .i64 f]) ∧ Wk w' g m) ∨
    (win.JudgeIs m.h m.b i 0 ∧ ¬ no ∧ e = .returned (.tuple #[.int .i64 x, .int .i64 0]) ∧ Wk w' g { m' with h := max m.h i, b := win.took m.h m.b i, bad := 0 }))
set_option maxHeartbeats 4000000 in
theorem take_abs (K : Nat) (g : Nat) (m : Mt) (c i am t : Int) (no : Prop) (f x : Int) (m' : Mt) (w : World) (hw : Wk w g m) (hb : m.b < 18446744073709551616) (hf : f ≠ 0)
    (hK : ∀ args w, (callFunc K args).run Tryz.prog w = .ok (.enter K args) w)
    (hd : ∀ W, Calls Tryz.prog 101 #[.pointer (some ⟨g, 0, none⟩), .int .i64 c] W fun e w' => e = .returned (.func (.func K) #[.pointer (some ⟨g, 0, none⟩)] #[]) ∧ w' = W)
    (ha : ∀ W, Wk W g m → Calls Tryz.prog K #[.pointer (some ⟨g, 0, none⟩), .int .i64 am] W fun e w' => Deed W g m no f x m' e w') :
    Calls Tryz.prog 66 #[.pointer (some ⟨g, 0, none⟩), .agg #[.int .i64 c, .int .i64 i, .int .i64 am, .int .i64 t]] w fun e w' => TakeQ w g m i no f x m' e w' := by
  have HT : Hid (∀ W, Calls Tryz.prog 100 #[.agg #[.int .i64 m.h, .int .u64 (m.b : Int)], .int .i64 i] W fun e w' => win.TakePost W m.h m.b i e w') := fun W => win.ptake m.h m.b i W hb
  have HD : Hid (∀ W, Calls Tryz.prog 101 #[.pointer (some ⟨g, 0, none⟩), .int .i64 c] W fun e w' => e = .returned (.func (.func K) #[.pointer (some ⟨g, 0, none⟩)] #[]) ∧ w' = W) := hd
  have HA : Hid (∀ W, Wk W g m → Calls Tryz.prog K #[.pointer (some ⟨g, 0, none⟩), .int .i64 am] W fun e w' => Deed W g m no f x m' e w') := ha
  have HGL : Hid (g < w.heap.size) := Blk.lt hw
  have HW0 : Hid (Wk (w.alloc (.cells #[.int .i64 c, .int .i64 i, .int .i64 am, .int .i64 t] 44)).drew g m) := Blk.drew (Blk.alloc hw _) 1
  have HK0 : Hid (Blk (w.alloc (.cells #[.int .i64 c, .int .i64 i, .int .i64 am, .int .i64 t] 44)).drew (w.heap.size) #[.int .i64 c, .int .i64 i, .int .i64 am, .int .i64 t] 44) := Blk.drew (Blk.new _ _ _) 1
  have HB0 : Hid (Below w.heap.size w (w.alloc (.cells #[.int .i64 c, .int .i64 i, .int .i64 am, .int .i64 t] 44)).drew) := bel_drew ((Below.refl _ _).alloc (Nat.le_refl _) _) 1
  have hfq : (f != 0) = true := by simp [hf]
  clear hw hb hf hd ha
  obtain ⟨me, rev, cr, h, b, bad, lock⟩ := m
  obtain ⟨me2, rev2, cr2, h2, b2, bad2, lock2⟩ := m'
  unfold Wk Mt.cells at HW0
  simp only [] at HT HW0
  go_enter Tryz.func66, Tryz.ntmps66
  go_wp2_with fail
  go_cut [6, 7] (fun v6 v7 wc => ∃ (G : Nat) (h1 : Int) (b1 : Nat) (j : Int), v6 = .pointer (some ⟨G, 0, none⟩) ∧ v7 = .int .i64 j ∧ G ≠ g ∧ Blk wc g #[.int .i64 me, .int .i64 rev, .int .i64 cr, .int .i64 h, .int .u64 (b : Int), .int .i64 bad, .int .i64 lock] 69 ∧ Blk wc (w.heap.size) #[.int .i64 c, .int .i64 i, .int .i64 am, .int .i64 t] 44 ∧ Blk wc G #[.int .i64 h1, .int .u64 (b1 : Int)] 38 ∧ Below w.heap.size w wc ∧ win.JudgeIs h b i j ∧ (j = 0 → h1 = max h i ∧ b1 = win.took h b i))
  case first =>
    clear HD HA hK hfq
    refine wp_region_held_drew (S := fun v => Blk v g #[.int .i64 me, .int .i64 rev, .int .i64 cr, .int .i64 h, .int .u64 (b : Int), .int .i64 bad, .int .i64 lock] 69 ∧ Blk v (w.heap.size) #[.int .i64 c, .int .i64 i, .int .i64 am, .int .i64 t] 44) (by kernel_rfl) ⟨HW0.out, HK0.out⟩ (fun hHeld => ?_)
    refine take_at 0 11 (.pointer (some ⟨g, 0, none⟩)) _ rfl rfl (by kernel_rfl) (by kernel_rfl) (by kernel_rfl) (fun _ _ _ h => h) (Or.inl ⟨by rfl, fun v hv => by skip; clear hv; go_simp⟩) hHeld ?_
    simp only [Act.put, List.setIfInBounds_toArray, List.set_cons_zero, List.set_cons_succ]
    refine take_at 1 12 (.pointer (some ⟨g, 0, none⟩)) _ rfl rfl (by kernel_rfl) (by kernel_rfl) (by kernel_rfl) (fun _ _ _ h => h) (Or.inl ⟨by rfl, fun v hv => by skip; clear hv; go_simp⟩) hHeld ?_
    simp only [Act.put, List.setIfInBounds_toArray, List.set_cons_zero, List.set_cons_succ]
    refine take_at 2 13 (.pointer (some ⟨g, 0, none⟩)) _ rfl rfl (by kernel_rfl) (by kernel_rfl) (by kernel_rfl) (fun _ _ _ h => h) (Or.inl ⟨by rfl, fun v hv => by skip; clear hv; go_simp⟩) hHeld ?_
    simp only [Act.put, List.setIfInBounds_toArray, List.set_cons_zero, List.set_cons_succ]
    refine take_at 3 14 (.pointer (some ⟨g, 3, none⟩)) _ rfl rfl (by kernel_rfl) (by kernel_rfl) (by kernel_rfl) (fun _ _ _ h => h) (Or.inl ⟨by rfl, fun v hv => by skip; clear hv; go_simp⟩) hHeld ?_
    simp only [Act.put, List.setIfInBounds_toArray, List.set_cons_zero, List.set_cons_succ]
    refine take_at 4 15 (.agg #[.int .i64 h, .int .u64 (b : Int)]) _ rfl rfl (by kernel_rfl) (by kernel_rfl) (by kernel_rfl) (fun _ _ _ h => h) (Or.inl ⟨by rfl, fun v hv => by have h2 : v.cell? ⟨g, 3, none⟩ = some (.int .i64 h) := Blk.cell hv.1 3; have h3 : v.cell? ⟨g, 4, none⟩ = some (.int .u64 (b : Int)) := Blk.cell hv.1 4; clear hv; go_simp⟩) hHeld ?_
    simp only [Act.put, List.setIfInBounds_toArray, List.set_cons_zero, List.set_cons_succ]
    refine take_at 5 16 (.pointer (some ⟨w.heap.size, 1, none⟩)) _ rfl rfl (by kernel_rfl) (by kernel_rfl) (by kernel_rfl) (fun _ _ _ h => h) (Or.inl ⟨by rfl, fun v hv => by skip; clear hv; go_simp⟩) hHeld ?_
    simp only [Act.put, List.setIfInBounds_toArray, List.set_cons_zero, List.set_cons_succ]
    refine take_at 6 17 (.int .i64 i) _ rfl rfl (by kernel_rfl) (by kernel_rfl) (by kernel_rfl) (fun _ _ _ h => h) (Or.inl ⟨by rfl, fun v hv => by have h2 : v.cell? ⟨w.heap.size, 1, none⟩ = some (.int .i64 i) := Blk.cell hv.2 1; clear hv; go_simp⟩) hHeld ?_
    simp only [Act.put, List.setIfInBounds_toArray, List.set_cons_zero, List.set_cons_succ]
    generalize (w.alloc (.cells #[.int .i64 c, .int .i64 i, .int .i64 am, .int .i64 t] 44)).drew = V at *
    refine wpAnyH_ready (rs := [7, 11]) (by kernel_rfl) (by simp) (AllReadyH.cons rfl (fun K hK => ?_) (AllReadyH.cons rfl (fun K hK => ?_) AllReadyH.nil))
    · rw [if_pos (by rfl)]
      refine wp_callOp 18 rfl (by clear hK; go_simp) (HT.out _) ?_
      rintro e w1 ⟨h1, b1, j, rfl, hj, hne, heq, hb1⟩
      have HW1 : Hid (Blk w1 g #[.int .i64 me, .int .i64 rev, .int .i64 cr, .int .i64 h, .int .u64 (b : Int), .int .i64 bad, .int .i64 lock] 69) := HW0.out.next hb1
      have HK1 : Hid (Blk w1 (w.heap.size) #[.int .i64 c, .int .i64 i, .int .i64 am, .int .i64 t] 44) := HK0.out.next hb1
      have HB1 : Hid (Below w.heap.size w w1) := bel_step HB0.out hb1
      have HJ : Hid (win.JudgeIs h b i j) := hj
      have HQ : Hid (j = 0 → h1 = max h i ∧ b1 = win.took h b i) := heq
      refine ⟨_, rfl, hK.out _ _ ⟨HW1.out, HK1.out⟩ (fun hHeld => ?_)⟩
      clear hK hj hne heq hb1 HT
      simp only [Act.put, List.setIfInBounds_toArray, List.set_cons_zero, List.set_cons_succ]
      refine take_at 8 10 (.tuple #[.agg #[.int .i64 h1, .int .u64 (b1 : Int)], .int .i64 j]) _ rfl rfl (by kernel_rfl) (by kernel_rfl) (by kernel_rfl) (fun _ _ _ h => h) (Or.inl ⟨by rfl, fun v hv => by skip; clear hv; go_simp⟩) hHeld ?_
      simp only [Act.put, List.setIfInBounds_toArray, List.set_cons_zero, List.set_cons_succ]
      refine take_at 9 19 (.agg #[.int .i64 h1, .int .u64 (b1 : Int)]) _ rfl rfl (by kernel_rfl) (by kernel_rfl) (by kernel_rfl) (fun _ _ _ h => h) (Or.inl ⟨by rfl, fun v hv => by skip; clear hv; go_simp⟩) hHeld ?_
      simp only [Act.put, List.setIfInBounds_toArray, List.set_cons_zero, List.set_cons_succ]
      refine take_at 10 20 (.int .i64 j) _ rfl rfl (by kernel_rfl) (by kernel_rfl) (by kernel_rfl) (fun _ _ _ h => h) (Or.inl ⟨by rfl, fun v hv => by skip; clear hv; go_simp⟩) hHeld ?_
      simp only [Act.put, List.setIfInBounds_toArray, List.set_cons_zero, List.set_cons_succ]
      have HL : Hid (g < w1.heap.size ∧ w.heap.size < w1.heap.size) := ⟨HW1.out.lt, HK1.out.lt⟩
      have HW2 : Hid (Blk (w1.alloc (.cells #[.int .i64 0, .int .u64 0] 38)) g #[.int .i64 me, .int .i64 rev, .int .i64 cr, .int .i64 h, .int .u64 (b : Int), .int .i64 bad, .int .i64 lock] 69) := HW1.out.alloc _
      have HK2 : Hid (Blk (w1.alloc (.cells #[.int .i64 0, .int .u64 0] 38)) (w.heap.size) #[.int .i64 c, .int .i64 i, .int .i64 am, .int .i64 t] 44) := HK1.out.alloc _
      have HG2 : Hid (Blk (w1.alloc (.cells #[.int .i64 0, .int .u64 0] 38)) w1.heap.size #[.int .i64 0, .int .u64 0] 38) := Blk.new _ _ _
      have HB2 : Hid (Below w.heap.size w (w1.alloc (.cells #[.int .i64 0, .int .u64 0] 38))) := HB1.out.alloc HB1.out.size _
      refine wpAnyH_ready (rs := [11]) (by kernel_rfl) (by simp) (AllReadyH.cons rfl (fun K hK => ?_) AllReadyH.nil)
      rw [if_pos (by rfl)]
      refine wp_runOp (v := .pointer (some ⟨w1.heap.size, 0, none⟩)) (w' := w1.alloc (.cells #[.int .i64 0, .int .u64 0] 38)) 6 rfl (by clear hK; go_simp) ?_
      refine hK.out _ _ ⟨HW2.out, HK2.out⟩ (fun hHeld => ?_)
      clear hK
      simp only [Act.put, List.setIfInBounds_toArray, List.set_cons_zero, List.set_cons_succ]
      refine wpAnyH_ready (rs := [12]) (by kernel_rfl) (by simp) (AllReadyH.cons rfl (fun K hK => ?_) AllReadyH.nil)
      rw [if_pos (by rfl)]
      refine wp_letOp 38 _ _ rfl w1.heap.size rfl #[.int .i64 h1, .int .u64 (b1 : Int)] rfl (by kernel_rfl) (by simp [Value.oneCell']) #[.int .i64 0, .int .u64 0] 38 HG2.out rfl rfl ?_
      intro W3 hU3
      have hl := HL.out
      have HW3 : Hid (Blk W3 g #[.int .i64 me, .int .i64 rev, .int .i64 cr, .int .i64 h, .int .u64 (b : Int), .int .i64 bad, .int .i64 lock] 69) := hU3.keep HW2.out (by omega)
      have HK3 : Hid (Blk W3 (w.heap.size) #[.int .i64 c, .int .i64 i, .int .i64 am, .int .i64 t] 44) := hU3.keep HK2.out (by omega)
      have HG3 : Hid (Blk W3 w1.heap.size #[.int .i64 h1, .int .u64 (b1 : Int)] 38) := hU3.blk
      have HB3 : Hid (Below w.heap.size w W3) := hU3.bel _ _ (by omega) HB2.out
      have HGN : Hid (w1.heap.size ≠ g) := by show _ ≠ _; omega
      refine hK.out _ _ ⟨HW3.out, HK3.out⟩ (fun hHeld => ?_)
      clear hK hU3 hl
      refine take_at 13 7 (.int .i64 j) _ rfl rfl (by kernel_rfl) (by kernel_rfl) (by kernel_rfl) (fun _ _ _ h => h) (Or.inl ⟨by rfl, fun v hv => by skip; clear hv; go_simp⟩) hHeld ?_
      simp only [Act.put, List.setIfInBounds_toArray, List.set_cons_zero, List.set_cons_succ]
      refine wpAnyH_done (by kernel_rfl) ?_ _
      clear hHeld
      go_wp2_with fail
      go_meet
      case rel => exact ⟨_, h1, b1, j, rfl, rfl, HGN.out, HW3.out, HK3.out, HG3.out, HB3.out, HJ.out, HQ.out⟩
    · rw [if_pos (by rfl)]
      have HL : Hid (g < V.heap.size ∧ w.heap.size < V.heap.size) := ⟨HW0.out.lt, HK0.out.lt⟩
      have HW2 : Hid (Blk (V.alloc (.cells #[.int .i64 0, .int .u64 0] 38)) g #[.int .i64 me, .int .i64 rev, .int .i64 cr, .int .i64 h, .int .u64 (b : Int), .int .i64 bad, .int .i64 lock] 69) := HW0.out.alloc _
      have HK2 : Hid (Blk (V.alloc (.cells #[.int .i64 0, .int .u64 0] 38)) (w.heap.size) #[.int .i64 c, .int .i64 i, .int .i64 am, .int .i64 t] 44) := HK0.out.alloc _
      have HG2 : Hid (Blk (V.alloc (.cells #[.int .i64 0, .int .u64 0] 38)) V.heap.size #[.int .i64 0, .int .u64 0] 38) := Blk.new _ _ _
      have HB2 : Hid (Below w.heap.size w (V.alloc (.cells #[.int .i64 0, .int .u64 0] 38))) := HB0.out.alloc HB0.out.size _
      refine wp_runOp (v := .pointer (some ⟨V.heap.size, 0, none⟩)) (w' := V.alloc (.cells #[.int .i64 0, .int .u64 0] 38)) 6 rfl (by clear hK; go_simp) ?_
      refine hK.out _ _ ⟨HW2.out, HK2.out⟩ (fun hHeld => ?_)
      clear hK
      simp only [Act.put, List.setIfInBounds_toArray, List.set_cons_zero, List.set_cons_succ]
      refine wpAnyH_ready (rs := [7]) (by kernel_rfl) (by simp) (AllReadyH.cons rfl (fun K hK => ?_) AllReadyH.nil)
      rw [if_pos (by rfl)]
      refine wp_callOp 18 rfl (by clear hK; go_simp) (HT.out _) ?_
      rintro e w1 ⟨h1, b1, j, rfl, hj, hne, heq, hb1⟩
      have HW1 : Hid (Blk w1 g #[.int .i64 me, .int .i64 rev, .int .i64 cr, .int .i64 h, .int .u64 (b : Int), .int .i64 bad, .int .i64 lock] 69) := HW2.out.next hb1
      have HK1 : Hid (Blk w1 (w.heap.size) #[.int .i64 c, .int .i64 i, .int .i64 am, .int .i64 t] 44) := HK2.out.next hb1
      have HB1 : Hid (Below w.heap.size w w1) := bel_step HB2.out hb1
      have HJ : Hid (win.JudgeIs h b i j) := hj
      have HQ : Hid (j = 0 → h1 = max h i ∧ b1 = win.took h b i) := heq
      have HG4 : Hid (Blk w1 V.heap.size #[.int .i64 0, .int .u64 0] 38) := HG2.out.next hb1
      refine ⟨_, rfl, hK.out _ _ ⟨HW1.out, HK1.out⟩ (fun hHeld => ?_)⟩
      clear hK hj hne heq hb1 HT
      simp only [Act.put, List.setIfInBounds_toArray, List.set_cons_zero, List.set_cons_succ]
      refine take_at 8 10 (.tuple #[.agg #[.int .i64 h1, .int .u64 (b1 : Int)], .int .i64 j]) _ rfl rfl (by kernel_rfl) (by kernel_rfl) (by kernel_rfl) (fun _ _ _ h => h) (Or.inl ⟨by rfl, fun v hv => by skip; clear hv; go_simp⟩) hHeld ?_
      simp only [Act.put, List.setIfInBounds_toArray, List.set_cons_zero, List.set_cons_succ]
      refine take_at 9 19 (.agg #[.int .i64 h1, .int .u64 (b1 : Int)]) _ rfl rfl (by kernel_rfl) (by kernel_rfl) (by kernel_rfl) (fun _ _ _ h => h) (Or.inl ⟨by rfl, fun v hv => by skip; clear hv; go_simp⟩) hHeld ?_
      simp only [Act.put, List.setIfInBounds_toArray, List.set_cons_zero, List.set_cons_succ]
      refine take_at 10 20 (.int .i64 j) _ rfl rfl (by kernel_rfl) (by kernel_rfl) (by kernel_rfl) (fun _ _ _ h => h) (Or.inl ⟨by rfl, fun v hv => by skip; clear hv; go_simp⟩) hHeld ?_
      simp only [Act.put, List.setIfInBounds_toArray, List.set_cons_zero, List.set_cons_succ]
      refine wpAnyH_ready (rs := [12]) (by kernel_rfl) (by simp) (AllReadyH.cons rfl (fun K hK => ?_) AllReadyH.nil)
      rw [if_pos (by rfl)]
      refine wp_letOp 38 _ _ rfl V.heap.size rfl #[.int .i64 h1, .int .u64 (b1 : Int)] rfl (by kernel_rfl) (by simp [Value.oneCell']) #[.int .i64 0, .int .u64 0] 38 HG4.out rfl rfl ?_
      intro W3 hU3
      have hl := HL.out
      have HW3 : Hid (Blk W3 g #[.int .i64 me, .int .i64 rev, .int .i64 cr, .int .i64 h, .int .u64 (b : Int), .int .i64 bad, .int .i64 lock] 69) := hU3.keep HW1.out (by omega)
      have HK3 : Hid (Blk W3 (w.heap.size) #[.int .i64 c, .int .i64 i, .int .i64 am, .int .i64 t] 44) := hU3.keep HK1.out (by omega)
      have HG3 : Hid (Blk W3 V.heap.size #[.int .i64 h1, .int .u64 (b1 : Int)] 38) := hU3.blk
      have HB3 : Hid (Below w.heap.size w W3) := hU3.bel _ _ (by omega) HB1.out
      have HGN : Hid (V.heap.size ≠ g) := by show _ ≠ _; omega
      refine hK.out _ _ ⟨HW3.out, HK3.out⟩ (fun hHeld => ?_)
      clear hK hU3 hl
      refine take_at 13 7 (.int .i64 j) _ rfl rfl (by kernel_rfl) (by kernel_rfl) (by kernel_rfl) (fun _ _ _ h => h) (Or.inl ⟨by rfl, fun v hv => by skip; clear hv; go_simp⟩) hHeld ?_
      simp only [Act.put, List.setIfInBounds_toArray, List.set_cons_zero, List.set_cons_succ]
      refine wpAnyH_done (by kernel_rfl) ?_ _
      clear hHeld
      go_wp2_with fail
      go_meet
      case rel => exact ⟨_, h1, b1, j, rfl, rfl, HGN.out, HW3.out, HK3.out, HG3.out, HB3.out, HJ.out, HQ.out⟩
  case rest =>
    obtain ⟨G, h1, b1, j, rfl, rfl, hGn, hw3, hk3, hg3, hb3, hj3, hq3⟩ := hcut
    have HGN : Hid (G ≠ g) := hGn
    have HW3 : Hid (Blk wc g #[.int .i64 me, .int .i64 rev, .int .i64 cr, .int .i64 h, .int .u64 (b : Int), .int .i64 bad, .int .i64 lock] 69) := hw3
    have HK3 : Hid (Blk wc (w.heap.size) #[.int .i64 c, .int .i64 i, .int .i64 am, .int .i64 t] 44) := hk3
    have HG3 : Hid (Blk wc G #[.int .i64 h1, .int .u64 (b1 : Int)] 38) := hg3
    have HB3 : Hid (Below w.heap.size w wc) := hb3
    have HJ : Hid (win.JudgeIs h b i j) := hj3
    have HQ : Hid (j = 0 → h1 = max h i ∧ b1 = win.took h b i) := hq3
    clear hGn hw3 hk3 hg3 hb3 hj3 hq3 HT HW0 HK0 HB0
    by_cases hj : j = 0
    · subst hj
      have HE : Hid (h1 = max h i ∧ b1 = win.took h b i) := HQ.out rfl
      clear HQ
      have k0 : wc.cell? ⟨w.heap.size, 0, none⟩ = some (.int .i64 c) := HK3.out.cell 0
      have k2 : wc.cell? ⟨w.heap.size, 2, none⟩ = some (.int .i64 am) := HK3.out.cell 2
      go_wp2_with fail
      refine (HD.out _).mono ?_
      rintro e w4 ⟨rfl, rfl⟩
      clear HD
      go_wp2_with fail
      refine (HA.out _ HW3.out).mono ?_
      rintro e w5 ⟨hc5, ⟨hno, rfl, hw5⟩ | ⟨hno, rfl, hw5⟩⟩
      · have HF : Hid (Chg w w5 g ∧ no ∧ Wk w5 g ⟨me, rev, cr, h, b, bad, lock⟩) := ⟨(Chg.of HB3.out).trans hc5, hno, hw5⟩
        clear hc5 hno hw5 k0 k2
        go_wp2_with fail
        go_ret2
        exact ⟨HF.out.1, .inr (.inl ⟨HJ.out, HF.out.2.1, rfl, HF.out.2.2⟩)⟩
      · have HN : Hid (¬ no) := hno
        have HG5 : Hid (Blk w5 G #[.int .i64 h1, .int .u64 (b1 : Int)] 38) := hc5.keep HG3.out HGN.out
        have HC5 : Hid (Chg w w5 g) := (Chg.of HB3.out).trans hc5
        have HW5 : Hid (Blk w5 g #[.int .i64 me2, .int .i64 rev2, .int .i64 cr2, .int .i64 h2, .int .u64 (b2 : Int), .int .i64 bad2, .int .i64 lock2] 69) := hw5
        clear hc5 hno hw5 k0 k2 HW3 HK3 HG3 HB3
        have z0 : w5.cell? ⟨G, 0, none⟩ = some (.int .i64 h1) := HG5.out.cell 0
        have z1 : w5.cell? ⟨G, 1, none⟩ = some (.int .u64 (b1 : Int)) := HG5.out.cell 1
        go_wp2_with (first
          | (refine wp_let rfl 38 _ _ rfl g 3 rfl (.agg #[.int .i64 h1, .int .u64 (b1 : Int)]) rfl #[.int .i64 h1, .int .u64 (b1 : Int)] rfl (by kernel_rfl) (by simp [Value.oneCell']) #[.int .i64 me2, .int .i64 rev2, .int .i64 cr2, .int .i64 h2, .int .u64 (b2 : Int), .int .i64 bad2, .int .i64 lock2] 69 HW5.out (by simp) #[.int .i64 me2, .int .i64 rev2, .int .i64 cr2, .int .i64 h1, .int .u64 (b1 : Int), .int .i64 bad2, .int .i64 lock2] rfl ?_)
          | fail)
        intro W6 hU6
        have HW6 : Hid (Blk W6 g #[.int .i64 me2, .int .i64 rev2, .int .i64 cr2, .int .i64 h1, .int .u64 (b1 : Int), .int .i64 bad2, .int .i64 lock2] 69) := hU6.blk
        have HC6 : Hid (Chg w W6 g) := HC5.out.trans (.upd hU6)
        clear hU6 z0 z1 HG5 HC5 HW5
        go_wp2_with (first
          | (refine wp_let1 rfl 3 _ _ rfl g 5 rfl .i64 0 rfl (by kernel_rfl) #[.int .i64 me2, .int .i64 rev2, .int .i64 cr2, .int .i64 h1, .int .u64 (b1 : Int), .int .i64 bad2, .int .i64 lock2] 69 HW6.out (by simp) ?_)
          | fail)
        intro W7 hU7
        have HW7 : Hid (Blk W7 g #[.int .i64 me2, .int .i64 rev2, .int .i64 cr2, .int .i64 h1, .int .u64 (b1 : Int), .int .i64 0, .int .i64 lock2] 69) := hU7.blk
        have HC7 : Hid (Chg w W7 g) := HC6.out.trans (.upd hU7)
        clear hU7 HW6 HC6
        go_wp2_with fail
        go_ret2
        exact ⟨HC7.out, .inr (.inr ⟨HJ.out, HN.out, rfl, by rw [← HE.out.1, ← HE.out.2]; exact HW7.out⟩)⟩
    · have hq : (j != 0) = true := by simp [hj]
      have HF : Hid (Chg w wc g ∧ j ≠ 0 ∧ Wk wc g ⟨me, rev, cr, h, b, bad, lock⟩) := ⟨.of HB3.out, hj, HW3.out⟩
      clear hj HW3 HK3 HG3 HB3
      go_wp2_with fail
      go_ret2
      exact ⟨HF.out.1, .inl ⟨j, HJ.out, HF.out.2.1, rfl, HF.out.2.2⟩⟩

end Go.Proofs.YtgipkpkjoicehaaGreatDoor.met

/- Two wide numbers are compared. -/
namespace Go.Proofs.YtgipkpkjoicehaaGreatDoor.words
open Go.RowKit

theorem eq1 (d : Nat) (a a' : Int) (w : World) : (Op.equalIn (d + 1) 51 (.int .u32 a) (.int .u32 a')).run Tryz.prog w = .ok (a == a') w := by
  simp [Op.equalIn, run_underlying Tryz.underlying51, go_sem]

theorem part0 (a b c : Int) (w : World) : (part 51 #[.int .u32 a, .int .u32 b, .int .u32 c] 0).run Tryz.prog w = .ok (.int .u32 a) w := by kernel_rfl
theorem part1 (a b c : Int) (w : World) : (part 51 #[.int .u32 a, .int .u32 b, .int .u32 c] 1).run Tryz.prog w = .ok (.int .u32 b) w := by kernel_rfl
theorem part2 (a b c : Int) (w : World) : (part 51 #[.int .u32 a, .int .u32 b, .int .u32 c] 2).run Tryz.prog w = .ok (.int .u32 c) w := by kernel_rfl

set_option maxRecDepth 100000 in
theorem eq3 (a b c a' b' c' : Int) (w : World) :
    (Op.equalIn 10000 59 (.agg #[.int .u32 a, .int .u32 b, .int .u32 c]) (.agg #[.int .u32 a', .int .u32 b', .int .u32 c'])).run Tryz.prog w = .ok (a == a' && (b == b' && c == c')) w := by
  obtain ⟨i0, hi⟩ : ∃ i, Tryz.prog.info? 51 = some i := ⟨_, rfl⟩
  rw [show (10000 : Nat) = 9999 + 1 from rfl, run_equalIn_array (w := w) 9999 _ _ Tryz.underlying59 hi, cells_word, show List.range 3 = [0, 1, 2] from rfl]
  simp only [Op.eqItems, Sem.run_bind, Nat.mul_one, part0, Result.andThen_ok, show (9999 : Nat) = 9998 + 1 from rfl, eq1]
  by_cases ha : a = a'
  · by_cases hb : b = b'
    · by_cases hc : c = c'
      · simp [part1, part2, Sem.run_bind, eq1, ha, hb, hc]
      · simp [part1, part2, Sem.run_bind, eq1, ha, hb, hc]
    · simp [part1, Sem.run_bind, eq1, ha, hb]
  · simp [ha]

theorem eq3_same (x : W3) (w : World) : (Op.equalIn 10000 59 (wv x) (wv x)).run Tryz.prog w = .ok true w := by
  rw [eq3]; simp
theorem eq3_other {x y : W3} (h : x ≠ y) (w : World) : (Op.equalIn 10000 59 (wv x) (wv y)).run Tryz.prog w = .ok false w := by
  rw [eq3]
  have := agg_ne h
  congr 1
  simp
  intro h1 h2 h3
  exact this ⟨h1, h2, h3⟩

end Go.Proofs.YtgipkpkjoicehaaGreatDoor.words

/- What words.Cmp gives back. -/
namespace Go.Proofs.YtgipkpkjoicehaaGreatDoor.words
open Go.RowKit

theorem nan_any (x : Int) (w : World) : Calls Tryz.prog 88 #[.int .u32 x] w fun e w' => e = .returned (.bool false) ∧ w' = w := by
  have h : (x != x) = false := by simp
  go_enter Tryz.func88, Tryz.ntmps88
  go_wp2
  go_ret
  exact ⟨rfl, rfl⟩

theorem compare_any (p q : Int) (w : World) : Calls Tryz.prog 57 #[.int .u32 p, .int .u32 q] w fun e w' => e = .returned (.int .i64 (cmp3 p q)) ∧ w' = w := by
  unfold cmp3
  by_cases h1 : p < q
  · rw [if_pos h1]
    go_enter Tryz.func57, Tryz.ntmps57
    go_wp2_with fail
    refine (nan_any _ _).mono ?_
    rintro e w ⟨rfl, rfl⟩
    go_wp2_with fail
    refine (nan_any _ _).mono ?_
    rintro e w ⟨rfl, rfl⟩
    go_wp2_with fail
    go_ret
    exact ⟨rfl, rfl⟩
  · rw [if_neg h1]
    by_cases h2 : q < p
    · rw [if_pos h2]
      go_enter Tryz.func57, Tryz.ntmps57
      go_wp2_with fail
      refine (nan_any _ _).mono ?_
      rintro e w ⟨rfl, rfl⟩
      go_wp2_with fail
      refine (nan_any _ _).mono ?_
      rintro e w ⟨rfl, rfl⟩
      go_wp2_with fail
      go_ret
      exact ⟨rfl, rfl⟩
    · rw [if_neg h2]
      go_enter Tryz.func57, Tryz.ntmps57
      go_wp2_with fail
      refine (nan_any _ _).mono ?_
      rintro e w ⟨rfl, rfl⟩
      go_wp2_with fail
      refine (nan_any _ _).mono ?_
      rintro e w ⟨rfl, rfl⟩
      go_wp2_with fail
      go_ret
      exact ⟨rfl, rfl⟩

theorem cmp3_self (x : Int) : cmp3 x x = 0 := by unfold cmp3; rw [if_neg (by omega), if_neg (by omega)]

/-- The first words, from above, that are unlike tell which number is greater. -/
theorem cmp_2 {x y : W3} (hx : x.ok) (hy : y.ok) (h : x.c ≠ y.c) : cmp3 x.val y.val = cmp3 x.c y.c := by
  obtain ⟨x1, x2, x3⟩ := hx
  obtain ⟨y1, y2, y3⟩ := hy
  unfold cmp3 W3.val
  repeat' split
  all_goals omega
theorem cmp_1 {x y : W3} (hx : x.ok) (hy : y.ok) (h2 : x.c = y.c) (h : x.b ≠ y.b) : cmp3 x.val y.val = cmp3 x.b y.b := by
  obtain ⟨x1, x2, x3⟩ := hx
  obtain ⟨y1, y2, y3⟩ := hy
  unfold cmp3 W3.val
  repeat' split
  all_goals omega
theorem cmp_0 {x y : W3} (h2 : x.c = y.c) (h1 : x.b = y.b) : cmp3 x.val y.val = cmp3 x.a y.a := by
  unfold cmp3 W3.val
  repeat' split
  all_goals omega

theorem bel2d (w : World) (o1 o2 : Obj) (n : Nat) : Below w.heap.size w (((w.alloc o1).alloc o2).drewN n) := below_drewN (bel2 w o1 o2) n

set_option maxHeartbeats 1000000 in
theorem cmp_any (x y : W3) (w : World) (hx : x.ok) (hy : y.ok) :
    Calls Tryz.prog 23 #[wv x, wv y] w fun e w' => e = .returned (.int .i64 (cmp3 x.val y.val)) ∧ Below w.heap.size w w' := by
  by_cases he : x = y
  · subst he
    rw [cmp3_self]
    have q := eq3_same x
    obtain ⟨x0, x1, x2⟩ := x
    clear hx hy
    go_enter Tryz.func23, Tryz.ntmps23
    go_wp2_with fail
    go_ret
    exact ⟨rfl, bel2 _ _ _⟩
  · have q := eq3_other he
    have k2 := cmp_2 hx hy
    have k1 := cmp_1 hx hy
    have k0 := cmp_0 (x := x) (y := y)
    have hne := agg_ne he
    obtain ⟨x0, x1, x2⟩ := x
    obtain ⟨y0, y1, y2⟩ := y
    simp only at q k2 k1 k0 hne
    generalize W3.val ⟨x0, x1, x2⟩ = X at *
    generalize W3.val ⟨y0, y1, y2⟩ = Y at *
    clear hx hy he
    by_cases h2 : x2 = y2
    · subst h2
      have d2 : (x2 == x2) = true := by simp
      by_cases h1 : x1 = y1
      · subst h1
        have d1 : (x1 == x1) = true := by simp
        have h0 : x0 ≠ y0 := fun e => hne ⟨e, rfl, rfl⟩
        have d0 : (x0 == y0) = false := by simpa using h0
        rw [k0 rfl rfl]
        clear k0 k1 k2 hne h0
        go_enter Tryz.func23, Tryz.ntmps23
        go_wp2_with fail
        refine wp_loop_rounds 3 ?_
        rw [rounds_succ]
        go_wp2_with fail
        go_quiet (fail)
        go_wp2_with fail
        rw [rounds_succ]
        go_wp2_with fail
        go_quiet (fail)
        go_wp2_with fail
        rw [rounds_succ]
        go_wp2_with fail
        go_quiet (fail)
        go_wp2_with fail
        go_quiet (first | (go_at_call 57; exact (compare_any _ _ _).mono fun _ _ h => ⟨h.1, _, h.2⟩))
        go_wp2_with fail
        go_ret
        exact ⟨rfl, by first | exact below_drewN (bel2d _ _ _ _) _ | exact below_drewN (below_drewN (bel2d _ _ _ _) _) _⟩
      · have d1 : (x1 == y1) = false := by simpa using h1
        rw [k1 rfl h1]
        clear k0 k1 k2 hne h1
        go_enter Tryz.func23, Tryz.ntmps23
        go_wp2_with fail
        refine wp_loop_rounds 3 ?_
        rw [rounds_succ]
        go_wp2_with fail
        go_quiet (fail)
        go_wp2_with fail
        rw [rounds_succ]
        go_wp2_with fail
        go_quiet (fail)
        go_wp2_with fail
        go_quiet (first | (go_at_call 57; exact (compare_any _ _ _).mono fun _ _ h => ⟨h.1, _, h.2⟩))
        go_wp2_with fail
        go_ret
        exact ⟨rfl, by first | exact below_drewN (bel2d _ _ _ _) _ | exact below_drewN (below_drewN (bel2d _ _ _ _) _) _⟩
    · have d2 : (x2 == y2) = false := by simpa using h2
      rw [k2 h2]
      clear k0 k1 k2 hne h2
      go_enter Tryz.func23, Tryz.ntmps23
      go_wp2_with fail
      refine wp_loop_rounds 3 ?_
      rw [rounds_succ]
      go_wp2_with fail
      go_quiet (fail)
      go_wp2_with fail
      go_quiet (first | (go_at_call 57; exact (compare_any _ _ _).mono fun _ _ h => ⟨h.1, _, h.2⟩))
      go_wp2_with fail
      go_ret
      exact ⟨rfl, by first | exact below_drewN (bel2d _ _ _ _) _ | exact below_drewN (below_drewN (bel2d _ _ _ _) _) _⟩

end Go.Proofs.YtgipkpkjoicehaaGreatDoor.words

/- What is made of each word, the greatest first. -/
namespace Go.Proofs.YtgipkpkjoicehaaGreatDoor.words
open Go.RowKit

/-- What is made of each word, the greatest first, while the number at B goes from v0 to v1, v2 and v3. -/
theorem downward_any (K : Nat) (caps : Array Value) (B : Nat) (v0 v1 v2 v3 : Value) (x0 x1 x2 y0 y1 y2 : Int) (w : World) (h : Acc w w B v0) (hK : ∀ args w, (callFunc K args).run Tryz.prog w = .ok (.enter K args) w)
    (s0 : ∀ w', Acc w w' B v0 → Calls Tryz.prog K (#[.int .u32 x2] ++ caps) w' fun e w'' => e = .returned (.int .u32 y2) ∧ Acc w' w'' B v1)
    (s1 : ∀ w', Acc w w' B v1 → Calls Tryz.prog K (#[.int .u32 x1] ++ caps) w' fun e w'' => e = .returned (.int .u32 y1) ∧ Acc w' w'' B v2)
    (s2 : ∀ w', Acc w w' B v2 → Calls Tryz.prog K (#[.int .u32 x0] ++ caps) w' fun e w'' => e = .returned (.int .u32 y0) ∧ Acc w' w'' B v3) :
    Calls Tryz.prog 58 #[.agg #[.int .u32 x0, .int .u32 x1, .int .u32 x2], .func (.func K) #[] caps] w fun e w' => e = .returned (.agg #[.int .u32 y0, .int .u32 y1, .int .u32 y2]) ∧ Acc w w' B v3 := by
  have HS0 : Hid (∀ w', Acc w w' B v0 → Calls Tryz.prog K (#[.int .u32 x2] ++ caps) w' fun e w'' => e = .returned (.int .u32 y2) ∧ Acc w' w'' B v1) := s0
  have HS1 : Hid (∀ w', Acc w w' B v1 → Calls Tryz.prog K (#[.int .u32 x1] ++ caps) w' fun e w'' => e = .returned (.int .u32 y1) ∧ Acc w' w'' B v2) := s1
  have HS2 : Hid (∀ w', Acc w w' B v2 → Calls Tryz.prog K (#[.int .u32 x0] ++ caps) w' fun e w'' => e = .returned (.int .u32 y0) ∧ Acc w' w'' B v3) := s2
  have HA : Hid (Acc w w B v0) := h
  clear s0 s1 s2 h
  go_enter Tryz.func58, Tryz.ntmps58
  go_wp2_with fail
  refine wp_loop_rounds 4 ?_
  rw [rounds_succ]
  go_wp2_with fail
  refine (HS0.out _ ((HA.out.alloc _).alloc _)).mono ?_
  rintro e w1 ⟨rfl, h1⟩
  have hB := HA.out.old
  have T1 : Trio w1 w.heap.size (.int .u32 x0) (.int .u32 x1) (.int .u32 x2) := (trio_a _ _ _ _ _).acc h1 (by omega)
  have R1 : Trio w1 (w.heap.size + 1) (.int .u32 0) (.int .u32 0) (.int .u32 0) := (trio_b _ _ _ _ _).acc h1 (by omega)
  have A1 := ((HA.out.alloc _).alloc _).trans h1
  have c2 := T1.c2
  have f2 := T1.free 2
  have T1' := T1.set2 (.int .u32 y2)
  have d1 := T1'.c1
  have HT : Hid (Trio (w1.setCell ⟨w.heap.size, 2, none⟩ (.int .u32 y2)) w.heap.size (.int .u32 x0) (.int .u32 x1) (.int .u32 y2)) := T1'
  have HR : Hid (Trio (w1.setCell ⟨w.heap.size, 2, none⟩ (.int .u32 y2)) (w.heap.size + 1) (.int .u32 0) (.int .u32 0) (.int .u32 0)) := R1.other _ _ (by omega)
  have HA1 : Hid (Acc w (w1.setCell ⟨w.heap.size, 2, none⟩ (.int .u32 y2)) B v1) := A1.setNew _ _ _ (Nat.le_refl _)
  clear h1 T1 R1 A1 T1' HA HS0
  go_wp2_with fail
  rw [rounds_succ]
  go_wp2_with fail
  refine (HS1.out _ HA1.out).mono ?_
  rintro e w2 ⟨rfl, h2⟩
  have T2 := HT.out.acc h2 (by omega)
  have R2 := HR.out.acc h2 (by omega)
  have A2 := HA1.out.trans h2
  clear c2 f2 d1 HT HR HA1 HS1 h2
  have c1 := T2.c1
  have f1 := T2.free 1
  have T2' := T2.set1 (.int .u32 y1)
  have d2 := T2'.c0
  have HT : Hid (Trio (w2.setCell ⟨w.heap.size, 1, none⟩ (.int .u32 y1)) w.heap.size (.int .u32 x0) (.int .u32 y1) (.int .u32 y2)) := T2'
  have HR : Hid (Trio (w2.setCell ⟨w.heap.size, 1, none⟩ (.int .u32 y1)) (w.heap.size + 1) (.int .u32 0) (.int .u32 0) (.int .u32 0)) := R2.other _ _ (by omega)
  have HA2 : Hid (Acc w (w2.setCell ⟨w.heap.size, 1, none⟩ (.int .u32 y1)) B v2) := A2.setNew _ _ _ (Nat.le_refl _)
  clear T2 R2 A2 T2'
  go_wp2_with fail
  rw [rounds_succ]
  go_wp2_with fail
  refine (HS2.out _ HA2.out).mono ?_
  rintro e w3 ⟨rfl, h3⟩
  have T3 := HT.out.acc h3 (by omega)
  have R3 := HR.out.acc h3 (by omega)
  have A3 := HA2.out.trans h3
  clear c1 f1 d2 HT HR HA2 HS2 h3
  have c0 := T3.c0
  have f0 := T3.free 0
  have T3' := T3.set0 (.int .u32 y0)
  have R3' := R3.other (G' := w.heap.size) 0 (.int .u32 y0) (by omega)
  have e0 := T3'.c0
  have e1 := T3'.c1
  have e2 := T3'.c2
  have r0 := R3'.c0
  have r1 := R3'.c1
  have r2 := R3'.c2
  have g0 := R3'.free 0
  have g1 := R3'.free 1
  have g2 := R3'.free 2
  have HR3 : Hid (Trio (w3.setCell ⟨w.heap.size, 0, none⟩ (.int .u32 y0)) (w.heap.size + 1) (.int .u32 0) (.int .u32 0) (.int .u32 0)) := R3'
  have HA3 : Hid (Acc w (w3.setCell ⟨w.heap.size, 0, none⟩ (.int .u32 y0)) B v3) := A3.setNew _ _ _ (Nat.le_refl _)
  clear T3 R3 A3 T3' R3'
  go_wp2_with fail
  rw [rounds_succ]
  go_wp2_with fail
  have RR := ((HR3.out.set0 (.int .u32 y0)).set1 (.int .u32 y1)).set2 (.int .u32 y2)
  have AA := ((HA3.out.setNew (w.heap.size + 1) 0 (.int .u32 y0) (by omega)).setNew (w.heap.size + 1) 1 (.int .u32 y1) (by omega)).setNew (w.heap.size + 1) 2 (.int .u32 y2) (by omega)
  refine bodyPost_ret (v := .agg #[.int .u32 y0, .int .u32 y1, .int .u32 y2]) (by simp [results, Tryz.results58, RR.c0, RR.c1, RR.c2, go_sem]) rfl ⟨rfl, AA⟩

end Go.Proofs.YtgipkpkjoicehaaGreatDoor.words

/- What words.Over gives back. -/
namespace Go.Proofs.YtgipkpkjoicehaaGreatDoor.words
open Go.RowKit

/-- A number's word, carried on by Over. -/
theorem overStep_any (B M : Nat) (n x d : Int) (w : World) (hc : w.cell? ⟨B, 0, none⟩ = some (.int .u64 n)) (hf : w.frozen? ⟨B, 0, none⟩ = false) (hm : w.cell? ⟨M, 0, none⟩ = some (.int .u32 d)) (hBM : M ≠ B) (n0 : 0 ≤ n) (n1 : n < d) (x0 : 0 ≤ x) (x1 : x < 4294967296) (d0 : 0 < d) (d1 : d < 4294967296) :
    Calls Tryz.prog 59 #[.int .u32 x, .pointer (some ⟨B, 0, none⟩), .pointer (some ⟨M, 0, none⟩)] w fun e w' => e = .returned (.int .u32 ((n * 4294967296 + x) / d)) ∧ Acc w w' B (.int .u64 ((n * 4294967296 + x) % d)) := by
  have hA : Acc w w B (.int .u64 n) := Acc.refl hc hf
  have HA : Hid (Acc w w B (.int .u64 n)) := hA
  have hor := or_words n x n0 (by omega) x0 x1
  have q := word_div d0 n0 n1 x0 x1
  obtain ⟨q0, q1⟩ := q
  have r0 : 0 ≤ (n * 4294967296 + x) % d := Int.emod_nonneg _ (by omega)
  have r1 : (n * 4294967296 + x) % d < d := Int.emod_lt_of_pos _ d0
  clear hA
  go_enter Tryz.func59, Tryz.ntmps59
  go_wp2_with fail
  go_ret
  exact ⟨rfl, HA.out.set _⟩

theorem trio_e (w : World) (o1 o2 : Obj) (x y z : Value) : Trio (((w.alloc o1).alloc o2).alloc (.cells #[x, y, z] 59)) (w.heap.size + 1 + 1) x y z := by
  show (((w.heap.push o1).push o2).push _)[w.heap.size + 1 + 1]? = _
  have : w.heap.size + 1 + 1 = ((w.heap.push o1).push o2).size := by simp
  rw [this, Array.getElem?_push_size]

theorem run_overStep (args : Array Value) (w : World) : (callFunc 59 args).run Tryz.prog w = .ok (.enter 59 args) w := by kernel_rfl

theorem over_zero (x : W3) (w : World) :
    Calls Tryz.prog 24 #[wv x, .int .u32 0] w fun e w' => e = .returned (.tuple #[wv ⟨0, 0, 0⟩, .int .u32 0, .int .i64 4]) ∧ Below w.heap.size w w' := by
  obtain ⟨x0, x1, x2⟩ := x
  have hb := bel3 w (.cells #[.int .u32 x0, .int .u32 x1, .int .u32 x2] 59) (.cells #[.int .u32 0] 51) (.cells #[.int .u32 0, .int .u32 0, .int .u32 0] 59)
  have HB : Hid (Below w.heap.size w (((w.alloc (.cells #[.int .u32 x0, .int .u32 x1, .int .u32 x2] 59)).alloc (.cells #[.int .u32 0] 51)).alloc (.cells #[.int .u32 0, .int .u32 0, .int .u32 0] 59))) := hb
  clear hb
  go_enter Tryz.func24, Tryz.ntmps24
  go_wp2_with fail
  have RR := trio_e w (.cells #[.int .u32 x0, .int .u32 x1, .int .u32 x2] 59) (.cells #[.int .u32 0] 51) (.int .u32 0) (.int .u32 0) (.int .u32 0)
  refine bodyPost_ret (v := .tuple #[.agg #[.int .u32 0, .int .u32 0, .int .u32 0], .int .u32 0, .int .i64 4]) (by simp [results, Tryz.results24, RR.c0, RR.c1, RR.c2, go_sem]) rfl ⟨rfl, HB.out⟩

set_option maxHeartbeats 1000000 in
theorem over_any (x : W3) (d : Int) (w : World) (hx : x.ok) (d0 : 0 < d) (d1 : d < 4294967296) :
    Calls Tryz.prog 24 #[wv x, .int .u32 d] w fun e w' => e = .returned (.tuple #[wv (overW x d), .int .u32 (overR x d), .int .i64 0]) ∧ Below w.heap.size w w' := by
  obtain ⟨x0, x1, x2⟩ := x
  obtain ⟨⟨h0, h0'⟩, ⟨h1, h1'⟩, h2, h2'⟩ := hx
  simp only at h0 h0' h1 h1' h2 h2'
  have hd0 : (d == 0) = false := by simp; omega
  go_enter Tryz.func24, Tryz.ntmps24
  go_wp2_with fail
  have hc := trio_d w #[.int .u32 x0, .int .u32 x1, .int .u32 x2] (.int .u32 d) 51 (.int .u32 0) (.int .u32 0) (.int .u32 0) (.int .u64 0) 36
  have hb3 := bel4 w (.cells #[.int .u32 x0, .int .u32 x1, .int .u32 x2] 59) (.cells #[.int .u32 d] 51) (.cells #[.int .u32 0, .int .u32 0, .int .u32 0] 59) (.cells #[.int .u64 0] 36)
  have e0 : (0 : Int) * 4294967296 + x2 = x2 := by omega
  have r2 : 0 ≤ x2 % d := Int.emod_nonneg _ (by omega)
  have r2' : x2 % d < d := Int.emod_lt_of_pos _ d0
  have r1 : 0 ≤ ((x2 % d) * 4294967296 + x1) % d := Int.emod_nonneg _ (by omega)
  have r1' : ((x2 % d) * 4294967296 + x1) % d < d := Int.emod_lt_of_pos _ d0
  refine (downward_any 59 #[.pointer (some ⟨w.heap.size + 1 + 1 + 1, 0, none⟩), .pointer (some ⟨w.heap.size + 1, 0, none⟩)] (w.heap.size + 1 + 1 + 1) (.int .u64 0) (.int .u64 (x2 % d)) (.int .u64 (((x2 % d) * 4294967296 + x1) % d)) (.int .u64 (((((x2 % d) * 4294967296 + x1) % d) * 4294967296 + x0) % d)) x0 x1 x2
    (((((x2 % d) * 4294967296 + x1) % d) * 4294967296 + x0) / d) (((x2 % d) * 4294967296 + x1) / d) (x2 / d) _ (Acc.refl hc.1 hc.2.1) run_overStep
    (fun w' h => by have := overStep_any (w.heap.size + 1 + 1 + 1) (w.heap.size + 1) 0 x2 d w' h.cell h.free (h.keep hc.2.2.2 (by omega)) (by omega) (by omega) (by omega) h2 h2' d0 d1; rw [e0] at this; exact this)
    (fun w' h => overStep_any _ _ _ _ _ w' h.cell h.free (h.keep hc.2.2.2 (by omega)) (by omega) r2 r2' h1 h1' d0 d1)
    (fun w' h => overStep_any _ _ _ _ _ w' h.cell h.free (h.keep hc.2.2.2 (by omega)) (by omega) r1 r1' h0 h0' d0 d1)).mono ?_
  rintro e w1 ⟨he, hA⟩
  have hR : Trio w1 (w.heap.size + 1 + 1) (.int .u32 0) (.int .u32 0) (.int .u32 0) := hc.2.2.1.acc hA (by omega)
  have HB : Hid (Below w.heap.size w w1) := hA.below hb3 (by omega)
  have hcell := hA.cell
  have hsz : w.heap.size + 1 + 1 + 1 < w1.heap.size := Nat.lt_of_lt_of_le hA.old hA.size
  have z0 : 0 ≤ ((((x2 % d) * 4294967296 + x1) % d) * 4294967296 + x0) % d := Int.emod_nonneg _ (by omega)
  have z1 : ((((x2 % d) * 4294967296 + x1) % d) * 4294967296 + x0) % d < d := Int.emod_lt_of_pos _ d0
  have HE : Hid (Ending.returned (.tuple #[wv (overW ⟨x0, x1, x2⟩ d), .int .u32 (overR ⟨x0, x1, x2⟩ d), .int .i64 0]) = Ending.returned (.tuple #[.agg #[.int .u32 (((((x2 % d) * 4294967296 + x1) % d) * 4294967296 + x0) / d), .int .u32 (((x2 % d) * 4294967296 + x1) / d), .int .u32 (x2 / d)], .int .u32 (((((x2 % d) * 4294967296 + x1) % d) * 4294967296 + x0) % d), .int .i64 0])) := by
    have : Ending.returned (.tuple #[wv (overW ⟨x0, x1, x2⟩ d), .int .u32 (overR ⟨x0, x1, x2⟩ d), .int .i64 0]) = Ending.returned (.tuple #[.agg #[.int .u32 (((((x2 % d) * 4294967296 + x1) % d) * 4294967296 + x0) / d), .int .u32 (((x2 % d) * 4294967296 + x1) / d), .int .u32 (x2 / d)], .int .u32 (((((x2 % d) * 4294967296 + x1) % d) * 4294967296 + x0) % d), .int .i64 0]) := rfl
    exact this
  clear hA hc hb3 e0 r1 r1' r2 r2'
  have HE2 : Hid (e = .returned (.agg #[.int .u32 (((((x2 % d) * 4294967296 + x1) % d) * 4294967296 + x0) / d), .int .u32 (((x2 % d) * 4294967296 + x1) / d), .int .u32 (x2 / d)])) := he
  clear he
  generalize hz : ((((x2 % d) * 4294967296 + x1) % d) * 4294967296 + x0) % d = z at hcell z0 z1 HE HE2
  generalize hy0 : ((((x2 % d) * 4294967296 + x1) % d) * 4294967296 + x0) / d = y0 at HE HE2
  generalize hy1 : ((x2 % d) * 4294967296 + x1) / d = y1 at HE HE2
  generalize hy2 : x2 / d = y2 at HE HE2
  clear hz hy0 hy1 hy2
  obtain rfl := HE2.out
  clear HE2
  have hR := hR.alloc (.cells #[.int .u32 y0, .int .u32 y1, .int .u32 y2] 59)
  have r0 := hR.c0
  have r1 := hR.c1
  have r2 := hR.c2
  have g0 := hR.free 0
  have g1 := hR.free 1
  have g2 := hR.free 2
  have HR : Hid (Trio (w1.alloc (.cells #[.int .u32 y0, .int .u32 y1, .int .u32 y2] 59)) (w.heap.size + 1 + 1) (.int .u32 0) (.int .u32 0) (.int .u32 0)) := hR
  clear hR
  go_wp2_with fail
  go_region
  all_goals go_wp2_with fail
  have RR := ((HR.out.set0 (.int .u32 y0)).set1 (.int .u32 y1)).set2 (.int .u32 y2)
  refine bodyPost_ret (v := .tuple #[.agg #[.int .u32 y0, .int .u32 y1, .int .u32 y2], .int .u32 z, .int .i64 0]) (by simp [results, Tryz.results24, RR.c0, RR.c1, RR.c2, go_sem]) rfl ⟨HE.out.symm, ?_⟩
  exact below_put (HB.out.alloc HB.out.size _) _ _ _ _ _ _ _ (by omega)

end Go.Proofs.YtgipkpkjoicehaaGreatDoor.words

/- Blocks of memory: an iterator over a text; three cells that are stored. -/
namespace Go.Proofs.YtgipkpkjoicehaaGreatDoor
open Go.RowKit

/-- The iterator I of the text s stands at k. -/
def It (w : World) (I : Nat) (s : ByteArray) (k : Nat) : Prop := w.heap[I]? = some (.stringIter s k)
theorem It.lt {w : World} {I : Nat} {s : ByteArray} {k : Nat} (h : It w I s k) : I < w.heap.size := by
  unfold It at h
  by_cases hh : I < w.heap.size
  · exact hh
  · rw [Array.getElem?_eq_none (by omega)] at h; cases h
theorem It.next {w w' : World} {I : Nat} {s : ByteArray} {k : Nat} (h : It w I s k) (hb : Below w.heap.size w w') : It w' I s k := by
  have hl := h.lt
  unfold It at *
  rw [hb.block I hl]; exact h
theorem It.set {w : World} {I G : Nat} {s : ByteArray} {k : Nat} (h : It w I s k) (i : Nat) (u : Value) (hne : G ≠ I) : It (w.setCell ⟨G, i, none⟩ u) I s k := by
  unfold It at *
  simp only [World.setCell, Array.getElem?_modify]; rw [if_neg hne]; exact h
theorem It.pos {w : World} {I : Nat} {s : ByteArray} {k : Nat} (h : It w I s k) : w.iterPos I = k := by unfold It at h; simp [World.iterPos, h]
theorem Blk.iter {w : World} {G : Nat} {cs : Array Value} {t : TypeId} (h : Blk w G cs t) {I : Nat} (s : ByteArray) (k : Nat) (hne : G ≠ I) : Blk (w.iterAt I s k) G cs t := by
  unfold Blk at *
  rw [Lib.iterAt_other _ _ _ _ _ hne]; exact h

def set3 (w : World) (G : Nat) (a b c : Int) : World := ((w.setCell ⟨G, 0, none⟩ (.int .u32 a)).setCell ⟨G, 1, none⟩ (.int .u32 b)).setCell ⟨G, 2, none⟩ (.int .u32 c)
theorem bel_set3 {B : Nat} {w w' : World} (h : Below B w w') (G : Nat) (a b c : Int) (hG : B ≤ G) : Below B w (set3 w' G a b c) := bel_set (bel_set (bel_set h _ _ _ hG) _ _ _ hG) _ _ _ hG
theorem Blk.put3 {w : World} {G : Nat} {x y z : Value} {t : TypeId} (h : Blk w G #[x, y, z] t) (a b c : Int) : Blk (set3 w G a b c) G #[.int .u32 a, .int .u32 b, .int .u32 c] t := ((h.set 0 _).set 1 _).set 2 _
theorem Blk.off3 {w : World} {G G' : Nat} {cs : Array Value} {t : TypeId} (h : Blk w G cs t) (hne : G' ≠ G) (a b c : Int) : Blk (set3 w G' a b c) G cs t := ((h.other _ _ hne).other _ _ hne).other _ _ hne
theorem It.off3 {w : World} {I G : Nat} {s : ByteArray} {k : Nat} (h : It w I s k) (hne : G ≠ I) (a b c : Int) : It (set3 w G a b c) I s k := ((h.set _ _ hne).set _ _ hne).set _ _ hne

end Go.Proofs.YtgipkpkjoicehaaGreatDoor

/- What words.shift, words.ones and words.isField give back. -/
namespace Go.Proofs.YtgipkpkjoicehaaGreatDoor.words
open Go.RowKit

theorem pow_min {j : Nat} (hj : ¬ j ≤ 64) : ∃ d, 2 ^ j = 2 ^ 64 * 2 ^ d := ⟨j - 64, by rw [← Nat.pow_add]; congr 1; omega⟩

theorem sh_down (v j : Nat) (hj : 0 < j) (hv : v < 2 ^ 64) : ((sh v (-(j : Int)) : Nat) : Int) = (v : Int) / 2 ^ min j 64 := by
  unfold sh
  rw [if_pos (by omega), show (-(-(j : Int))).toNat = j by omega]
  by_cases h : j ≤ 64
  · rw [Nat.min_eq_left h]; simp
  · rw [Nat.min_eq_right (by omega)]
    have h1 : v / 2 ^ j = 0 := Nat.div_eq_of_lt (Nat.lt_of_lt_of_le hv (Nat.pow_le_pow_right (by decide) (by omega)))
    rw [h1]
    omega
theorem sh_up (v : Nat) (k : Int) (hk : 0 ≤ k) : ((sh v k : Nat) : Int) = IntKind.u64.wrap ((v : Int) * 2 ^ min k.toNat 64) := by
  unfold sh
  rw [if_neg (by omega), IntKind.wrap_u64]
  by_cases h : k.toNat ≤ 64
  · rw [Nat.min_eq_left h]; simp
  · rw [Nat.min_eq_right (by omega)]
    obtain ⟨d, hd⟩ := pow_min h
    rw [hd, Nat.mul_left_comm, Nat.mul_mod_right]
    omega

theorem ones_shift (n : Nat) (h0 : 1 ≤ n) (h1 : n ≤ 64) : ((onesN n : Nat) : Int) = 18446744073709551615 / 2 ^ (64 - n) := by
  have e : (18446744073709551615 : Int) / 2 ^ (64 - n) = ((18446744073709551615 / 2 ^ (64 - n) : Nat) : Int) := by simp
  rw [e]
  congr 1
  unfold onesN
  have hp : 2 ^ 64 = 2 ^ n * 2 ^ (64 - n) := by rw [← Nat.pow_add]; congr 1; omega
  have h2 : 0 < 2 ^ (64 - n) := Nat.two_pow_pos _
  have h3 : 0 < 2 ^ n := Nat.two_pow_pos _
  symm
  apply Nat.div_eq_of_lt_le
  · have : (2 ^ n - 1) * 2 ^ (64 - n) = 2 ^ 64 - 2 ^ (64 - n) := by rw [hp, Nat.sub_mul, Nat.one_mul]
    omega
  · have : (2 ^ n - 1 + 1) * 2 ^ (64 - n) = 2 ^ 64 := by rw [hp, Nat.sub_add_cancel h3]
    omega

theorem shift_any (v : Nat) (k : Int) (w : World) (hv : v < 2 ^ 64) (k0 : -96 ≤ k) (k1 : k ≤ 96) :
    Calls Tryz.prog 90 #[.int .u64 (v : Int), .int .i64 k] w fun e w' => e = .returned (.int .u64 (sh v k : Nat)) ∧ w' = w := by
  by_cases h : k < 0
  · obtain ⟨j, rfl⟩ : ∃ j : Nat, k = -(j : Int) := ⟨(-k).toNat, by omega⟩
    have hj : 0 < j := by omega
    have e := sh_down v j hj hv
    have e2 : -(-(j : Int)) = (j : Int) := by omega
    rw [e]
    clear e
    go_enter Tryz.func90, Tryz.ntmps90
    go_wp2
    go_ret
    exact ⟨rfl, rfl⟩
  · have e := sh_up v k (by omega)
    rw [e]
    clear e
    go_enter Tryz.func90, Tryz.ntmps90
    go_wp2
    go_ret
    exact ⟨rfl, rfl⟩

theorem ones_any (n : Nat) (w : World) (h0 : 1 ≤ n) (h1 : n ≤ 64) :
    Calls Tryz.prog 91 #[.int .i64 (n : Int)] w fun e w' => e = .returned (.int .u64 (onesN n : Nat)) ∧ w' = w := by
  rw [ones_shift n h0 h1]
  go_enter Tryz.func91, Tryz.ntmps91
  go_wp2
  go_ret
  exact ⟨rfl, rfl⟩

theorem isField_yes (lo n : Int) (w : World) (h0 : 0 ≤ lo) (h1 : 1 ≤ n) (h2 : n ≤ 64) (h3 : lo ≤ 96 - n) :
    Calls Tryz.prog 89 #[.int .i64 lo, .int .i64 n] w fun e w' => e = .returned (.bool true) ∧ w' = w := by
  go_enter Tryz.func89, Tryz.ntmps89
  go_wp2
  go_ret
  exact ⟨rfl, rfl⟩

end Go.Proofs.YtgipkpkjoicehaaGreatDoor.words

/- What words.Bits gives back. -/
namespace Go.Proofs.YtgipkpkjoicehaaGreatDoor.words
open Go.RowKit

theorem sh_lt (v : Nat) (k : Int) (hv : v < 2 ^ 64) : sh v k < 2 ^ 64 := by
  unfold sh
  split
  · exact Nat.lt_of_le_of_lt (Nat.div_le_self _ _) hv
  · exact Nat.mod_lt _ (by decide)

theorem ones_lt (n : Nat) (h : n ≤ 64) : onesN n < 2 ^ 64 := by
  unfold onesN
  have := Nat.pow_le_pow_right (show 0 < 2 by decide) h
  have h2 : 0 < 2 ^ n := Nat.two_pow_pos _
  omega

theorem idx0 (x y z : Int) (w : World) : (Instr.index 59 (.agg #[.int .u32 x, .int .u32 y, .int .u32 z]) (.int .i64 0)).run Tryz.prog w = .ok (.int .u32 x) w := by kernel_rfl
theorem idx1 (x y z : Int) (w : World) : (Instr.index 59 (.agg #[.int .u32 x, .int .u32 y, .int .u32 z]) (.int .i64 1)).run Tryz.prog w = .ok (.int .u32 y) w := by kernel_rfl
theorem idx2 (x y z : Int) (w : World) : (Instr.index 59 (.agg #[.int .u32 x, .int .u32 y, .int .u32 z]) (.int .i64 2)).run Tryz.prog w = .ok (.int .u32 z) w := by kernel_rfl

set_option maxHeartbeats 1000000 in
theorem bits_any (a b c lo n : Nat) (w : World) (ha : a < 2 ^ 32) (hb : b < 2 ^ 32) (hc : c < 2 ^ 32) (n0 : 1 ≤ n) (n1 : n ≤ 64) (hl : lo + n ≤ 96) :
    Calls Tryz.prog 60 #[.agg #[.int .u32 (a : Int), .int .u32 (b : Int), .int .u32 (c : Int)], .int .i64 (lo : Int), .int .i64 (n : Int)] w fun e w' => e = .returned (.tuple #[.int .u64 (bitsN a b c lo n : Nat), .int .i64 0]) ∧ Below w.heap.size w w' := by
  have a1 : (a : Int) < 4294967296 := by omega
  have b1 : (b : Int) < 4294967296 := by omega
  have c1 : (c : Int) < 4294967296 := by omega
  have HB : Hid (Below w.heap.size w (w.alloc (.cells #[.int .u32 (a : Int), .int .u32 (b : Int), .int .u32 (c : Int)] 59))) := (Below.refl _ w).alloc (Nat.le_refl _) _
  have hE : bitsN a b c lo n = (sh a (-(lo : Int)) ||| sh b (32 - (lo : Int)) ||| sh c (64 - (lo : Int))) &&& onesN n := by unfold bitsN; rw [Int.zero_sub]
  have HE : Hid (bitsN a b c lo n = (sh a (-(lo : Int)) ||| sh b (32 - (lo : Int)) ||| sh c (64 - (lo : Int))) &&& onesN n) := hE
  clear hE
  have i0 := idx0 (a : Int) (b : Int) (c : Int)
  have i1 := idx1 (a : Int) (b : Int) (c : Int)
  have i2 := idx2 (a : Int) (b : Int) (c : Int)
  go_enter Tryz.func60, Tryz.ntmps60
  go_wp2_with fail
  refine (isField_yes _ _ _ (by omega) (by omega) (by omega) (by omega)).mono ?_
  rintro e wr ⟨rfl, rfl⟩
  go_wp2_with fail
  refine wp_loop_rounds 4 ?_
  rw [rounds_succ]
  go_wp2_with fail
  refine (shift_any a _ _ (by omega) (by omega) (by omega)).mono ?_
  rintro e wr ⟨rfl, rfl⟩
  have o1 : bits .or .u64 0 ((sh a (-(lo : Int)) : Nat) : Int) = ((sh a (-(lo : Int)) : Nat) : Int) := by
    have := or64 0 (sh a (-(lo : Int))) (by decide) (sh_lt _ _ (by omega))
    simpa using this
  have l0 : sh a (-(lo : Int)) < 2 ^ 64 := sh_lt _ _ (by omega)
  generalize sh a (-(lo : Int)) = s0 at *
  go_wp2_with fail
  rw [rounds_succ]
  go_wp2_with fail
  refine (shift_any b _ _ (by omega) (by omega) (by omega)).mono ?_
  rintro e wr ⟨rfl, rfl⟩
  have l1 : sh b (32 - (lo : Int)) < 2 ^ 64 := sh_lt _ _ (by omega)
  have o2 := or64 s0 (sh b (32 - (lo : Int))) l0 l1
  have l01 := Nat.or_lt_two_pow l0 l1
  clear o1
  generalize sh b (32 - (lo : Int)) = s1 at *
  go_wp2_with fail
  rw [rounds_succ]
  go_wp2_with fail
  refine (shift_any c _ _ (by omega) (by omega) (by omega)).mono ?_
  rintro e wr ⟨rfl, rfl⟩
  have l2 : sh c (64 - (lo : Int)) < 2 ^ 64 := sh_lt _ _ (by omega)
  have o3 := or64 (s0 ||| s1) (sh c (64 - (lo : Int))) l01 l2
  have l02 := Nat.or_lt_two_pow l01 l2
  clear o2
  generalize sh c (64 - (lo : Int)) = s2 at *
  go_wp2_with fail
  rw [rounds_succ]
  go_wp2_with fail
  refine (ones_any n _ (by omega) (by omega)).mono ?_
  rintro e wr ⟨rfl, rfl⟩
  have ln : onesN n < 2 ^ 64 := ones_lt n (by omega)
  have o4 := and64 (s0 ||| s1 ||| s2) (onesN n) l02 ln
  clear o3
  go_wp2_with fail
  go_ret2
  exact ⟨by rw [HE.out]; rfl, HB.out⟩

end Go.Proofs.YtgipkpkjoicehaaGreatDoor.words

/- What words.Put gives back. -/
namespace Go.Proofs.YtgipkpkjoicehaaGreatDoor.words
open Go.RowKit

theorem run_putStep (args : Array Value) (w : World) : (callFunc 118 args).run Tryz.prog w = .ok (.enter 118 args) w := by kernel_rfl

theorem low32 (s : Nat) : ((s : Nat) : Int) % 4294967296 = ((s % 2 ^ 32 : Nat) : Int) := by omega

theorem putStep_abs (N At V : Nat) (x v n k M s r f g z y : Int) (w : World) (hn : w.cell? ⟨N, 0, none⟩ = some (.int .i64 n)) (hat : w.cell? ⟨At, 0, none⟩ = some (.int .i64 k)) (hf : w.frozen? ⟨At, 0, none⟩ = false) (hv : w.cell? ⟨V, 0, none⟩ = some (.int .u64 v))
    (HO : Hid (∀ w, Calls Tryz.prog 91 #[.int .i64 n] w fun e w' => e = .returned (.int .u64 M) ∧ w' = w))
    (HS : Hid (∀ w, Calls Tryz.prog 90 #[.int .u64 M, .int .i64 k] w fun e w' => e = .returned (.int .u64 s) ∧ w' = w))
    (HT : Hid (∀ w, Calls Tryz.prog 90 #[.int .u64 v, .int .i64 k] w fun e w' => e = .returned (.int .u64 r) ∧ w' = w))
    (q1 : s % 4294967296 = f) (q2 : r % 4294967296 = g) (o1 : bits .andNot .u32 x f = z) (o2 : bits .or .u32 z g = y) (k0 : -64 ≤ k) (k1 : k ≤ 96) :
    Calls Tryz.prog 118 #[.int .u32 x, .pointer (some ⟨N, 0, none⟩), .pointer (some ⟨At, 0, none⟩), .pointer (some ⟨V, 0, none⟩)] w fun e w' => e = .returned (.int .u32 y) ∧ Acc w w' At (.int .i64 (k - 32)) := by
  have hA : Acc w w At (.int .i64 k) := Acc.refl hat hf
  have HA : Hid (Acc w w At (.int .i64 k)) := hA
  clear hA
  go_enter Tryz.func118, Tryz.ntmps118
  go_wp2_with fail
  go_quiet (first
    | (go_at_call 91; exact (HO.out _).mono fun _ _ h => ⟨h.1, _, h.2⟩)
    | (go_at_call_of 90 (Value.int .u64 M); exact (HS.out _).mono fun _ _ h => ⟨h.1, _, h.2⟩)
    | (go_at_call_of 90 (Value.int .u64 v); exact (HT.out _).mono fun _ _ h => ⟨h.1, _, h.2⟩))
  go_wp2_with fail
  go_ret
  exact ⟨rfl, (HA.out.drewN _).set _⟩

theorem putStep_any (N At V : Nat) (x v n : Nat) (k : Int) (w : World) (hn : w.cell? ⟨N, 0, none⟩ = some (.int .i64 (n : Int))) (hat : w.cell? ⟨At, 0, none⟩ = some (.int .i64 k)) (hf : w.frozen? ⟨At, 0, none⟩ = false) (hv : w.cell? ⟨V, 0, none⟩ = some (.int .u64 (v : Int)))
    (x1 : x < 2 ^ 32) (v1 : v < 2 ^ 64) (n0 : 1 ≤ n) (n1 : n ≤ 64) (k0 : -64 ≤ k) (k1 : k ≤ 96) :
    Calls Tryz.prog 118 #[.int .u32 (x : Int), .pointer (some ⟨N, 0, none⟩), .pointer (some ⟨At, 0, none⟩), .pointer (some ⟨V, 0, none⟩)] w fun e w' => e = .returned (.int .u32 (putN x v n k : Nat)) ∧ Acc w w' At (.int .i64 (k - 32)) := by
  have l1 : sh (onesN n) k % 2 ^ 32 < 2 ^ 32 := Nat.mod_lt _ (by decide)
  have l2 : sh v k % 2 ^ 32 < 2 ^ 32 := Nat.mod_lt _ (by decide)
  have l3 : x &&& (2 ^ 32 - 1 - sh (onesN n) k % 2 ^ 32) < 2 ^ 32 := Nat.lt_of_le_of_lt Nat.and_le_left x1
  exact putStep_abs N At V x v n k (onesN n : Nat) (sh (onesN n) k : Nat) (sh v k : Nat) _ _ _ _ w hn hat hf hv
    (fun w => ones_any n w n0 n1) (fun w => shift_any _ _ w (ones_lt n n1) (by omega) k1) (fun w => shift_any _ _ w v1 (by omega) k1)
    (low32 _) (low32 _) (andNot32 x _ x1 l1) (or32 _ _ l3 l2) k0 k1

/-- Five variables of a call, the fourth a wide number. -/
theorem five (w : World) (cs : Array Value) (T1 T2 T3 T5 : TypeId) (m v x y z u : Value) (q : Nat) :
    (((((((w.alloc (.cells cs T1)).alloc (.cells #[m] T2)).alloc (.cells #[v] T3)).alloc (.cells #[x, y, z] 59)).drewN q).alloc (.cells #[u] T5)).cell? ⟨w.heap.size + 1, 0, none⟩ = some m) ∧
    (((((((w.alloc (.cells cs T1)).alloc (.cells #[m] T2)).alloc (.cells #[v] T3)).alloc (.cells #[x, y, z] 59)).drewN q).alloc (.cells #[u] T5)).cell? ⟨w.heap.size + 1 + 1, 0, none⟩ = some v) ∧
    Trio ((((((w.alloc (.cells cs T1)).alloc (.cells #[m] T2)).alloc (.cells #[v] T3)).alloc (.cells #[x, y, z] 59)).drewN q).alloc (.cells #[u] T5)) (w.heap.size + 1 + 1 + 1) x y z ∧
    (((((((w.alloc (.cells cs T1)).alloc (.cells #[m] T2)).alloc (.cells #[v] T3)).alloc (.cells #[x, y, z] 59)).drewN q).alloc (.cells #[u] T5)).cell? ⟨w.heap.size + 1 + 1 + 1 + 1, 0, none⟩ = some u) ∧
    (((((((w.alloc (.cells cs T1)).alloc (.cells #[m] T2)).alloc (.cells #[v] T3)).alloc (.cells #[x, y, z] 59)).drewN q).alloc (.cells #[u] T5)).frozen? ⟨w.heap.size + 1 + 1 + 1 + 1, 0, none⟩ = false) := by
  have hh : ((((((w.alloc (.cells cs T1)).alloc (.cells #[m] T2)).alloc (.cells #[v] T3)).alloc (.cells #[x, y, z] 59)).drewN q).alloc (.cells #[u] T5)).heap = ((((w.heap.push (.cells cs T1)).push (.cells #[m] T2)).push (.cells #[v] T3)).push (.cells #[x, y, z] 59)).push (.cells #[u] T5) := rfl
  have s1 : w.heap.size + 1 = (w.heap.push (.cells cs T1)).size := by simp
  have s2 : w.heap.size + 1 + 1 = ((w.heap.push (.cells cs T1)).push (.cells #[m] T2)).size := by simp
  have s3 : w.heap.size + 1 + 1 + 1 = (((w.heap.push (.cells cs T1)).push (.cells #[m] T2)).push (.cells #[v] T3)).size := by simp
  have s4 : w.heap.size + 1 + 1 + 1 + 1 = ((((w.heap.push (.cells cs T1)).push (.cells #[m] T2)).push (.cells #[v] T3)).push (.cells #[x, y, z] 59)).size := by simp
  generalize ((((((w.alloc (.cells cs T1)).alloc (.cells #[m] T2)).alloc (.cells #[v] T3)).alloc (.cells #[x, y, z] 59)).drewN q).alloc (.cells #[u] T5)) = W at *
  have e1 : W.heap[w.heap.size + 1]? = some (.cells #[m] T2) := by
    rw [hh, Array.getElem?_push, if_neg (by simp), Array.getElem?_push, if_neg (by simp), Array.getElem?_push, if_neg (by simp), s1, Array.getElem?_push_size]
  have e2 : W.heap[w.heap.size + 1 + 1]? = some (.cells #[v] T3) := by
    rw [hh, Array.getElem?_push, if_neg (by simp), Array.getElem?_push, if_neg (by simp), s2, Array.getElem?_push_size]
  have e3 : W.heap[w.heap.size + 1 + 1 + 1]? = some (.cells #[x, y, z] 59) := by
    rw [hh, Array.getElem?_push, if_neg (by simp), s3, Array.getElem?_push_size]
  have e4 : W.heap[w.heap.size + 1 + 1 + 1 + 1]? = some (.cells #[u] T5) := by
    rw [hh, s4, Array.getElem?_push_size]
  refine ⟨?_, ?_, e3, ?_, ?_⟩
  · simp only [World.cell?, e1]; rfl
  · simp only [World.cell?, e2]; rfl
  · simp only [World.cell?, e4]; rfl
  · simp only [World.frozen?, e4]; rfl

theorem bel5 (w : World) (o1 o2 o3 o4 o5 : Obj) (q : Nat) : Below w.heap.size w (((((w.alloc o1).alloc o2).alloc o3).alloc o4).drewN q |>.alloc o5) :=
  (below_drewN (bel4 w o1 o2 o3 o4) q).alloc (by show _ ≤ ((((w.heap.push o1).push o2).push o3).push o4).size; simp; omega) _

set_option maxHeartbeats 1000000 in
theorem put_any (a b c v lo n : Nat) (w : World) (ha : a < 2 ^ 32) (hb : b < 2 ^ 32) (hc : c < 2 ^ 32) (hv : v < 2 ^ n) (n0 : 1 ≤ n) (n1 : n ≤ 64) (hl : lo + n ≤ 96) :
    Calls Tryz.prog 114 #[.agg #[.int .u32 (a : Int), .int .u32 (b : Int), .int .u32 (c : Int)], .int .i64 (lo : Int), .int .i64 (n : Int), .int .u64 (v : Int)] w fun e w' =>
      e = .returned (.tuple #[.agg #[.int .u32 (putN a v n lo : Nat), .int .u32 (putN b v n ((lo : Int) - 32) : Nat), .int .u32 (putN c v n ((lo : Int) - 64) : Nat)], .int .i64 0]) ∧ Below w.heap.size w w' := by
  have v1 : v < 2 ^ 64 := Nat.lt_of_lt_of_le hv (Nat.pow_le_pow_right (by decide) n1)
  have HI : Hid (∀ w, Calls Tryz.prog 89 #[.int .i64 (lo : Int), .int .i64 (n : Int)] w fun e w' => e = .returned (.bool true) ∧ w' = w) := fun w => isField_yes _ _ w (by omega) (by omega) (by omega) (by omega)
  have HO : Hid (∀ w, Calls Tryz.prog 91 #[.int .i64 (n : Int)] w fun e w' => e = .returned (.int .u64 (onesN n : Nat)) ∧ w' = w) := fun w => ones_any n w n0 n1
  have hd : decide (((onesN n : Nat) : Int) < (v : Int)) = false := decide_eq_false (by unfold onesN; omega)
  have e64 : (lo : Int) - 32 - 32 = (lo : Int) - 64 := by omega
  generalize ((onesN n : Nat) : Int) = M at *
  rw [← e64]
  go_enter Tryz.func114, Tryz.ntmps114
  go_wp2_with fail
  go_quiet (first
    | (go_at_call 89; exact (HI.out _).mono fun _ _ h => ⟨h.1, _, h.2⟩)
    | (go_at_call 91; exact (HO.out _).mono fun _ _ h => ⟨h.1, _, h.2⟩))
  go_wp2_with fail
  obtain ⟨f1, f2, f3, f4, f5⟩ := five w #[.int .u32 (a : Int), .int .u32 (b : Int), .int .u32 (c : Int)] 59 3 36 3 (.int .i64 (n : Int)) (.int .u64 (v : Int)) (.int .u32 0) (.int .u32 0) (.int .u32 0) (.int .i64 (lo : Int)) nq
  have hb5 := bel5 w (.cells #[.int .u32 (a : Int), .int .u32 (b : Int), .int .u32 (c : Int)] 59) (.cells #[.int .i64 (n : Int)] 3) (.cells #[.int .u64 (v : Int)] 36) (.cells #[.int .u32 0, .int .u32 0, .int .u32 0] 59) (.cells #[.int .i64 (lo : Int)] 3) nq
  refine (upward_any 118 #[.pointer (some ⟨w.heap.size + 1, 0, none⟩), .pointer (some ⟨w.heap.size + 1 + 1 + 1 + 1, 0, none⟩), .pointer (some ⟨w.heap.size + 1 + 1, 0, none⟩)] (w.heap.size + 1 + 1 + 1 + 1) (.int .i64 (lo : Int)) (.int .i64 ((lo : Int) - 32)) (.int .i64 ((lo : Int) - 32 - 32)) (.int .i64 ((lo : Int) - 32 - 32 - 32)) a b c
    (putN a v n lo : Nat) (putN b v n ((lo : Int) - 32) : Nat) (putN c v n ((lo : Int) - 32 - 32) : Nat) _ (Acc.refl f4 f5) run_putStep
    (fun w' h => putStep_any _ _ _ _ _ _ _ w' (h.keep f1 (by omega)) h.cell h.free (h.keep f2 (by omega)) ha v1 n0 n1 (by omega) (by omega))
    (fun w' h => putStep_any _ _ _ _ _ _ _ w' (h.keep f1 (by omega)) h.cell h.free (h.keep f2 (by omega)) hb v1 n0 n1 (by omega) (by omega))
    (fun w' h => putStep_any _ _ _ _ _ _ _ w' (h.keep f1 (by omega)) h.cell h.free (h.keep f2 (by omega)) hc v1 n0 n1 (by omega) (by omega))).mono ?_
  rintro e w1 ⟨he, hA⟩
  have hR := f3.acc hA (by omega)
  have HB : Hid (Below w.heap.size w w1) := hA.below hb5 (by omega)
  clear hA f1 f2 f3 f4 f5 hb5
  have HE2 : Hid (e = .returned (.agg #[.int .u32 (putN a v n lo : Nat), .int .u32 (putN b v n ((lo : Int) - 32) : Nat), .int .u32 (putN c v n ((lo : Int) - 32 - 32) : Nat)])) := he
  clear he
  obtain ⟨y0, h0⟩ : ∃ y0 : Int, y0 = (putN a v n lo : Nat) := ⟨_, rfl⟩
  obtain ⟨y1, h1⟩ : ∃ y1 : Int, y1 = (putN b v n ((lo : Int) - 32) : Nat) := ⟨_, rfl⟩
  obtain ⟨y2, h2⟩ : ∃ y2 : Int, y2 = (putN c v n ((lo : Int) - 32 - 32) : Nat) := ⟨_, rfl⟩
  have HH : Hid (y0 = (putN a v n lo : Nat) ∧ y1 = (putN b v n ((lo : Int) - 32) : Nat) ∧ y2 = (putN c v n ((lo : Int) - 32 - 32) : Nat)) := ⟨h0, h1, h2⟩
  rw [← h0, ← h1, ← h2] at HE2
  obtain rfl := HE2.out
  clear HE2 h0 h1 h2
  have r0 := hR.c0
  have r1 := hR.c1
  have r2 := hR.c2
  have g0 := hR.free 0
  have g1 := hR.free 1
  have g2 := hR.free 2
  have HR : Hid (Trio w1 (w.heap.size + 1 + 1 + 1) (.int .u32 0) (.int .u32 0) (.int .u32 0)) := hR
  clear hR
  go_wp2_with fail
  have RR := HR.out.put (.int .u32 y0) (.int .u32 y1) (.int .u32 y2)
  refine bodyPost_ret (v := .tuple #[.agg #[.int .u32 y0, .int .u32 y1, .int .u32 y2], .int .i64 0]) (by simp [results, Tryz.results114, RR.c0, RR.c1, RR.c2, go_sem]) rfl ⟨?_, ?_⟩
  · rw [HH.out.1, HH.out.2.1, HH.out.2.2]
  · exact below_put3 HB.out _ _ _ _ (by omega)

end Go.Proofs.YtgipkpkjoicehaaGreatDoor.words

/- A token that came in: its four numbers, out of its reading and back into it; the tables of the places and of the amounts, in memory. -/
namespace Go.Proofs.YtgipkpkjoicehaaGreatDoor.token
open Go.ChangeShapes Go.WideShapes Go.ChangeAt Go.RowKit Go.Deep
set_option maxRecDepth 100000

def wf4 (x y z u : Int) : Prop := (Lit.int .i64 x).wf = true ∧ (Lit.int .i64 y).wf = true ∧ (Lit.int .i64 z).wf = true ∧ (Lit.int .i64 u).wf = true

theorem open_tok {H : Type} {enc : TypeId × Value → H} {W : World} {r : Reach} {b0 b1 : Nat} {spare : Nat → Bool} {held : Bool} {v : Value} {d : DataW H} {ps : List MemPlace}
    (hval : Value.okWide Tryz.prog W r b0 44 v) (h : DataW.Trod enc Tryz.prog W b1 spare held 44 v d ps) :
    ∃ x y z u, v = .agg #[.int .i64 x, .int .i64 y, .int .i64 z, .int .i64 u] ∧ d = .agg [.lit (.int .i64 x), .lit (.int .i64 y), .lit (.int .i64 z), .lit (.int .i64 u)] ∧ ps = [] ∧ wf4 x y z u := by
  obtain ⟨v0, v1, v2, v3, y0, y1, y2, y3, n, rfl, rfl, rfl, h0, h1, h2, h3⟩ := Joins.open_agg4 Tryz.underlying44 (by kernel_rfl) (by kernel_rfl) hval h
  obtain ⟨x0, e0, rfl, w0⟩ := DataW.trod_int Tryz.underlying3 h0
  obtain ⟨x1, e1, rfl, w1⟩ := DataW.trod_int Tryz.underlying3 h1
  obtain ⟨x2, e2, rfl, w2⟩ := DataW.trod_int Tryz.underlying3 h2
  obtain ⟨x3, e3, rfl, w3⟩ := DataW.trod_int Tryz.underlying3 h3
  simp at e0 e1 e2 e3
  subst e0 e1 e2 e3
  exact ⟨x0, x1, x2, x3, rfl, rfl, rfl, w0, w1, w2, w3⟩

theorem int_field {H : Type} {enc : TypeId × Value → H} {W : World} {b1 : Nat} {spare : Nat → Bool} {held : Bool} {x : Int} (h : (Lit.int .i64 x).wf = true) :
    ∃ n, DataW.trod enc Tryz.prog W b1 spare held n 3 [.int .i64 x] = some (.lit (.int .i64 x), []) :=
  Joins.field_of_Trod (shut_int Tryz.underlying3 h) rfl

theorem shut_tok {H : Type} {enc : TypeId × Value → H} {W : World} {b1 : Nat} {spare : Nat → Bool} {held : Bool} {x y z u : Int} (hw : wf4 x y z u) :
    DataW.Trod enc Tryz.prog W b1 spare held 44 (.agg #[.int .i64 x, .int .i64 y, .int .i64 z, .int .i64 u]) (.agg [.lit (.int .i64 x), .lit (.int .i64 y), .lit (.int .i64 z), .lit (.int .i64 u)]) [] :=
  Joins.shut_agg4 Tryz.underlying44 (by kernel_rfl) (by kernel_rfl) (int_field hw.1) (int_field hw.2.1) (int_field hw.2.2.1) (int_field hw.2.2.2)

/-- Eight numbers in a row. -/
def Eight (w : World) (g : Nat) (a0 a1 a2 a3 a4 a5 a6 a7 : Int) : Prop :=
  ∃ t fr, w.heap[g]? = some (.cells #[.int .i64 a0, .int .i64 a1, .int .i64 a2, .int .i64 a3, .int .i64 a4, .int .i64 a5, .int .i64 a6, .int .i64 a7] t fr)
/-- Both tables, in memory. -/
structure TTab (w : World) : Prop where
  places : Eight w 0 57 3 37 20 16 21 0 16
  amounts : Eight w 1 1 2097151 0 0 1 15 0 0
theorem Eight.lt {w : World} {g : Nat} {a0 a1 a2 a3 a4 a5 a6 a7 : Int} (h : Eight w g a0 a1 a2 a3 a4 a5 a6 a7) : g < w.heap.size := by
  obtain ⟨t, fr, h⟩ := h
  by_cases hh : g < w.heap.size
  · exact hh
  · rw [Array.getElem?_eq_none (by omega)] at h; cases h
theorem Eight.below {w w' : World} {g : Nat} {a0 a1 a2 a3 a4 a5 a6 a7 : Int} (h : Eight w g a0 a1 a2 a3 a4 a5 a6 a7) (hb : Below w.heap.size w w') : Eight w' g a0 a1 a2 a3 a4 a5 a6 a7 := by
  have hl := h.lt
  obtain ⟨t, fr, h⟩ := h
  exact ⟨t, fr, by rw [hb.block g hl]; exact h⟩
theorem TTab.below {w w' : World} (h : TTab w) (hb : Below w.heap.size w w') : TTab w' := ⟨h.places.below hb, h.amounts.below hb⟩

theorem drop2 {α : Type} (a b : α) (l : List α) (i : Nat) : (a :: b :: l).drop (i + 2) = l.drop i := rfl
theorem list8 {α : Type} (l : List α) (h : l.length = 8) : ∃ a b c d e f g i, l = [a, b, c, d, e, f, g, i] := by
  match l, h with
  | [a, b, c, d, e, f, g, i], _ => exact ⟨a, b, c, d, e, f, g, i, rfl⟩

/-- Two numbers of a struct, out of its reading. -/
theorem two_of {H : Type} {enc : TypeId × Value → H} {P : Program} {w : World} {base : Nat} {spare : Nat → Bool} {held : Bool} {fuel : Nat} {t e : TypeId} {f0 f1 : Field} {c0 c1 : Value} {a0 a1 : Int} {p : List MemPlace}
    (ht : P.underlying t = some (.struct #[f0, f1])) (hone : oneCellFields P #[f0, f1] = true) (he : P.underlying e = some (.int .i64)) (e0 : f0.type = e) (e1 : f1.type = e)
    (h : DataW.trod enc P w base spare held fuel t [c0, c1] = some (.agg [.lit (.int .i64 a0), .lit (.int .i64 a1)], p)) : c0 = .int .i64 a0 ∧ c1 = .int .i64 a1 := by
  obtain ⟨y0, y1, n, hx, _, h0, h1⟩ := trod_struct2 ht h
  obtain ⟨o0, k0⟩ := hone_of hone 0 f0 rfl
  obtain ⟨o1, k1⟩ := hone_of hone 1 f1 rfl
  rw [o0, k0, e0] at h0
  rw [o1, k1, e1] at h1
  obtain ⟨x0, u0, rfl, _⟩ := DataW.trod_int he h0
  obtain ⟨x1, u1, rfl, _⟩ := DataW.trod_int he h1
  simp at u0 u1 hx
  obtain ⟨⟨rfl, rfl⟩, _⟩ := hx
  exact ⟨u0, u1⟩

theorem trod_array4w {H : Type} {enc : TypeId × Value → H} {P : Program} {w : World} {base : Nat} {spare : Nat → Bool} {held : Bool} {t e : TypeId} {fuel : Nat} {cs : List Value} {x : DataW H × List MemPlace} (ht : P.underlying t = some (.array 4 e)) (hce : P.cellsOf e = 2) (hct : P.cellsOf t = 8)
    (h : DataW.trod enc P w base spare held fuel t cs = some x) :
    cs.length = 8 ∧ ∃ y0 y1 y2 y3 n, x = (.agg [y0.1, y1.1, y2.1, y3.1], y0.2 ++ (y1.2 ++ (y2.2 ++ y3.2))) ∧ DataW.trod enc P w base spare held n e (cs.take 2) = some y0 ∧ DataW.trod enc P w base spare held n e ((cs.drop 2).take 2) = some y1 ∧ DataW.trod enc P w base spare held n e ((cs.drop 4).take 2) = some y2 ∧ DataW.trod enc P w base spare held n e ((cs.drop 6).take 2) = some y3 := by
  cases fuel with
  | zero => simp [DataW.trod] at h
  | succ n =>
    unfold DataW.trod at h
    rw [ht] at h
    have r4 : List.range 4 = [0, 1, 2, 3] := rfl
    simp [r4, hce, hct] at h
    obtain ⟨hl, h⟩ := h
    refine ⟨hl, ?_⟩
    cases h0 : DataW.trod enc P w base spare held n e (cs.take 2) with
    | none => simp [h0] at h
    | some y0 =>
      cases h1 : DataW.trod enc P w base spare held n e ((cs.drop 2).take 2) with
      | none => simp [h0, h1] at h
      | some y1 =>
        cases h2 : DataW.trod enc P w base spare held n e ((cs.drop 4).take 2) with
        | none => simp [h0, h1, h2] at h
        | some y2 =>
          cases h3 : DataW.trod enc P w base spare held n e ((cs.drop 6).take 2) with
          | none => simp [h0, h1, h2, h3] at h
          | some y3 =>
            simp [h0, h1, h2, h3] at h
            exact ⟨y0, y1, y2, y3, n, by rw [← h], h0, h1, h2, h3⟩

/-- A variable of four structs of two numbers each, out of what the row says of it. -/
theorem eight_of {W : World} {name : String} {rest : List (String × DataW Unit)} {g : Nat} {t e z : TypeId} {f0 f1 : Field} {a0 a1 a2 a3 a4 a5 a6 a7 : Int}
    (hg : Tryz.prog.globalNamed name = some g) (hty : (Tryz.prog.globals[g]?).map (·.type) = some t) (ht : Tryz.prog.underlying t = some (.array 4 e)) (hce : Tryz.prog.cellsOf e = 2) (hct : Tryz.prog.cellsOf t = 8)
    (hs : Tryz.prog.underlying e = some (.struct #[f0, f1])) (hone : oneCellFields Tryz.prog #[f0, f1] = true) (hz : Tryz.prog.underlying z = some (.int .i64)) (e0 : f0.type = z) (e1 : f1.type = z)
    (h : laidMet Tryz.prog ((name, .agg [.agg [.lit (.int .i64 a0), .lit (.int .i64 a1)], .agg [.lit (.int .i64 a2), .lit (.int .i64 a3)], .agg [.lit (.int .i64 a4), .lit (.int .i64 a5)], .agg [.lit (.int .i64 a6), .lit (.int .i64 a7)]]) :: rest) W) : Eight W g a0 a1 a2 a3 a4 a5 a6 a7 := by
  obtain ⟨ps, ⟨g', t', cs, fuel, p, q, hg', ht', hvar, hd, _, _⟩, _⟩ := h
  obtain rfl := Option.some.inj (hg.symm.trans hg')
  obtain rfl := Option.some.inj (hty.symm.trans ht')
  obtain ⟨hl, y0, y1, y2, y3, n, hx, h0, h1, h2, h3⟩ := trod_array4w ht hce hct hd
  simp only [Prod.mk.injEq, DataW.agg.injEq, List.cons.injEq, and_true] at hx
  obtain ⟨⟨x0, x1, x2, x3⟩, _⟩ := hx
  obtain ⟨y0, q0⟩ := y0
  obtain ⟨y1, q1⟩ := y1
  obtain ⟨y2, q2⟩ := y2
  obtain ⟨y3, q3⟩ := y3
  simp only at x0 x1 x2 x3
  subst x0 x1 x2 x3
  obtain ⟨c0, c1, c2, c3, c4, c5, c6, c7, hcs⟩ := list8 _ hl
  rw [hcs] at h0 h1 h2 h3
  obtain ⟨rfl, rfl⟩ := two_of hs hone hz e0 e1 h0
  obtain ⟨rfl, rfl⟩ := two_of hs hone hz e0 e1 h1
  obtain ⟨rfl, rfl⟩ := two_of hs hone hz e0 e1 h2
  obtain ⟨rfl, rfl⟩ := two_of hs hone hz e0 e1 h3
  unfold World.var? at hvar
  rw [hg] at hvar
  simp only [Option.bind_some] at hvar
  split at hvar
  · rename_i cs' t' fr hc
    have hcs' := Option.some.inj hvar
    refine ⟨t', fr, ?_⟩
    rw [hc, hcs']
    congr 2
    first
    | (cases cs; simp_all)
    | simp_all
  · cases hvar

end Go.Proofs.YtgipkpkjoicehaaGreatDoor.token

/- Why a token may not be. -/
namespace Go.Proofs.YtgipkpkjoicehaaGreatDoor.token
open Go.RowKit

theorem Eight.cell {w : World} {g : Nat} {a0 a1 a2 a3 a4 a5 a6 a7 : Int} (h : Eight w g a0 a1 a2 a3 a4 a5 a6 a7) :
    w.cell? ⟨g, 0, none⟩ = some (.int .i64 a0) ∧ w.cell? ⟨g, 1, none⟩ = some (.int .i64 a1) ∧ w.cell? ⟨g, 2, none⟩ = some (.int .i64 a2) ∧ w.cell? ⟨g, 3, none⟩ = some (.int .i64 a3) ∧
    w.cell? ⟨g, 4, none⟩ = some (.int .i64 a4) ∧ w.cell? ⟨g, 5, none⟩ = some (.int .i64 a5) ∧ w.cell? ⟨g, 6, none⟩ = some (.int .i64 a6) ∧ w.cell? ⟨g, 7, none⟩ = some (.int .i64 a7) := by
  obtain ⟨t, fr, h⟩ := h
  simp [World.cell?, h]

theorem has_any (lo hi n : Int) (w : World) :
    Calls Tryz.prog 61 #[.agg #[.int .i64 lo, .int .i64 hi], .int .i64 n] w fun e w' => e = .returned (.bool (hasI lo hi n)) ∧ Below w.heap.size w w' := by
  have hb : Below w.heap.size w (w.alloc (.cells #[.int .i64 lo, .int .i64 hi] 107)) := (Below.refl _ _).alloc (Nat.le_refl _) _
  by_cases h : lo ≤ n
  · have e : hasI lo hi n = decide (n ≤ hi) := by simp [hasI, h]
    rw [e]
    go_enter Tryz.func61, Tryz.ntmps61
    go_wp2
    go_ret
    exact ⟨rfl, hb⟩
  · have e : hasI lo hi n = false := by simp [hasI, h]
    have h' : n < lo := by omega
    rw [e]
    go_enter Tryz.func61, Tryz.ntmps61
    go_wp2
    go_ret
    exact ⟨rfl, hb⟩

end Go.Proofs.YtgipkpkjoicehaaGreatDoor.token

/- A token's fields, packed. -/
namespace Go.Proofs.YtgipkpkjoicehaaGreatDoor.token
open Go.Proofs.YtgipkpkjoicehaaGreatDoor.words
open Go.RowKit
set_option linter.unusedSimpArgs false

/-- Three words, and the number that they are. -/
structure WN (a b c V : Nat) : Prop where
  a1 : a < 2 ^ 32
  b1 : b < 2 ^ 32
  c1 : c < 2 ^ 32
  val : bigV a b c = V
theorem wn_zero : WN 0 0 0 0 := ⟨by decide, by decide, by decide, rfl⟩

theorem put_wn (a b c v lo n V : Nat) (w : World) (h : WN a b c V) (hv : v < 2 ^ n) (n0 : 1 ≤ n) (n1 : n ≤ 64) (hl : lo + n ≤ 96) (h0 : V / 2 ^ lo % 2 ^ n = 0) :
    Calls Tryz.prog 114 #[.agg #[.int .u32 (a : Int), .int .u32 (b : Int), .int .u32 (c : Int)], .int .i64 (lo : Int), .int .i64 (n : Int), .int .u64 (v : Int)] w fun e w' =>
      ∃ a' b' c' : Nat, e = .returned (.tuple #[.agg #[.int .u32 (a' : Int), .int .u32 (b' : Int), .int .u32 (c' : Int)], .int .i64 0]) ∧ WN a' b' c' (V + v * 2 ^ lo) ∧ Below w.heap.size w w' := by
  refine (put_any a b c v lo n w h.a1 h.b1 h.c1 hv n0 n1 hl).mono ?_
  rintro e w' ⟨he, hb⟩
  refine ⟨_, _, _, he, ⟨put_lt _ _ _ _ h.a1, put_lt _ _ _ _ h.b1, put_lt _ _ _ _ h.c1, ?_⟩, hb⟩
  rw [put_num h.a1 h.b1 h.c1 hv n1 hl (by rw [h.val]; exact h0), h.val]

/-- Where each field lies; its value; what is packed till then. -/
def loP : Nat → Nat
  | 0 => 57
  | 1 => 37
  | 2 => 16
  | _ => 0
def nP : Nat → Nat
  | 0 => 3
  | 1 => 20
  | 2 => 21
  | _ => 16
def vP (k : Tok) : Nat → Nat
  | 0 => k.c
  | 1 => k.i
  | 2 => k.a
  | _ => k.t
def pP (k : Tok) : Nat → Nat
  | 0 => 0
  | 1 => k.c * 144115188075855872
  | 2 => k.c * 144115188075855872 + k.i * 137438953472
  | 3 => k.c * 144115188075855872 + k.i * 137438953472 + k.a * 65536
  | _ => k.num
theorem step_P {k : Tok} (h : k.ok) (j : Nat) (hj : j < 4) : vP k j < 2 ^ nP j ∧ 1 ≤ nP j ∧ nP j ≤ 64 ∧ loP j + nP j ≤ 96 ∧ pP k j / 2 ^ loP j % 2 ^ nP j = 0 ∧ pP k (j + 1) = pP k j + vP k j * 2 ^ loP j ∧ vP k j < 9223372036854775808 := by
  have := h.c3; have := h.i2; have := h.t2; have := h.a2
  match j, hj with
  | 0, _ => exact ⟨by show k.c < 8; omega, by decide, by decide, by decide, by show 0 / _ % _ = 0; simp, by show k.c * 144115188075855872 = 0 + k.c * 144115188075855872; omega, by show k.c < _; omega⟩
  | 1, _ => exact ⟨by show k.i < 1048576; omega, by decide, by decide, by decide, by show k.c * 144115188075855872 / 137438953472 % 1048576 = 0; omega, by show k.c * 144115188075855872 + k.i * 137438953472 = k.c * 144115188075855872 + k.i * 137438953472; rfl, by show k.i < _; omega⟩
  | 2, _ => exact ⟨by show k.a < 2097152; omega, by decide, by decide, by decide, by show (k.c * 144115188075855872 + k.i * 137438953472) / 65536 % 2097152 = 0; omega, by show k.c * 144115188075855872 + k.i * 137438953472 + k.a * 65536 = k.c * 144115188075855872 + k.i * 137438953472 + k.a * 65536; rfl, by show k.a < _; omega⟩
  | 3, _ => exact ⟨by show k.t < 65536; omega, by decide, by decide, by decide, by show (k.c * 144115188075855872 + k.i * 137438953472 + k.a * 65536) / 1 % 65536 = 0; omega, by show k.num = k.c * 144115188075855872 + k.i * 137438953472 + k.a * 65536 + k.t * 1; unfold Tok.num; omega, by show k.t < _; omega⟩

theorem wrap_u (v : Nat) (h : v < 9223372036854775808) : IntKind.u64.wrap (v : Int) = (v : Int) := by rw [IntKind.wrap_u64]; omega

theorem idxP (j : Nat) (hj : j < 4) (w : World) :
    (Instr.index 103 (.agg #[.int .i64 57, .int .i64 3, .int .i64 37, .int .i64 20, .int .i64 16, .int .i64 21, .int .i64 0, .int .i64 16]) (.int .i64 (j : Int))).run Tryz.prog w = .ok (.agg #[.int .i64 (loP j : Int), .int .i64 (nP j : Int)]) w := by
  rcases (by omega : j = 0 ∨ j = 1 ∨ j = 2 ∨ j = 3) with rfl | rfl | rfl | rfl
  · kernel_rfl
  · kernel_rfl
  · kernel_rfl
  · kernel_rfl

/-- While the fields are packed: j of them are. -/
structure Pk (w wr : World) (k : Tok) (j a b c : Nat) : Prop where
  below : Below w.heap.size w wr
  fld : Blk wr (w.heap.size + 1 + 1) #[.int .i64 (k.c : Int), .int .i64 (k.i : Int), .int .i64 (k.a : Int), .int .i64 (k.t : Int)] 100
  res : Blk wr (w.heap.size + 1) #[.int .u32 0, .int .u32 0, .int .u32 0] 59
  num : Blk wr (w.heap.size + 1 + 1 + 1) #[.int .u32 (a : Int), .int .u32 (b : Int), .int .u32 (c : Int)] 59
  wn : WN a b c (pP k j)

theorem Pk.mk3 {w w2 : World} {k : Tok} {j a b c a' b' c' : Nat} (hB : Below w.heap.size w w2) (hF : Blk w2 (w.heap.size + 1 + 1) #[.int .i64 (k.c : Int), .int .i64 (k.i : Int), .int .i64 (k.a : Int), .int .i64 (k.t : Int)] 100) (hR : Blk w2 (w.heap.size + 1) #[.int .u32 0, .int .u32 0, .int .u32 0] 59)
    (hN : Blk w2 (w.heap.size + 1 + 1 + 1) #[.int .u32 (a : Int), .int .u32 (b : Int), .int .u32 (c : Int)] 59) (hwn : WN a' b' c' (pP k j)) :
    Pk w (((w2.setCell ⟨w.heap.size + 1 + 1 + 1, 0, none⟩ (.int .u32 (a' : Int))).setCell ⟨w.heap.size + 1 + 1 + 1, 1, none⟩ (.int .u32 (b' : Int))).setCell ⟨w.heap.size + 1 + 1 + 1, 2, none⟩ (.int .u32 (c' : Int))) k j a' b' c' :=
  ⟨bel_set (bel_set (bel_set hB _ _ _ (by omega)) _ _ _ (by omega)) _ _ _ (by omega), ((hF.other _ _ (by omega)).other _ _ (by omega)).other _ _ (by omega), ((hR.other _ _ (by omega)).other _ _ (by omega)).other _ _ (by omega), ((hN.set 0 _).set 1 _).set 2 _, hwn⟩

/-- What pack gives back. -/
def PackPost (w : World) (k : Tok) (e : Ending) (w' : World) : Prop := ∃ a b c : Nat, e = .returned (.agg #[.int .u32 (a : Int), .int .u32 (b : Int), .int .u32 (c : Int)]) ∧ WN a b c k.num ∧ Below w.heap.size w w'

set_option maxHeartbeats 1000000 in
theorem pack_any (k : Tok) (w : World) (hk : k.ok) (ht : TTab w) :
    Calls Tryz.prog 97 #[k.v] w fun e w' => PackPost w k e w' := by
  have hb0 : Below w.heap.size w ((((w.alloc (.cells #[.int .i64 (k.c : Int), .int .i64 (k.i : Int), .int .i64 (k.a : Int), .int .i64 (k.t : Int)] 44)).alloc (.cells #[.int .u32 0, .int .u32 0, .int .u32 0] 59)).alloc (.cells #[.int .i64 (k.c : Int), .int .i64 (k.i : Int), .int .i64 (k.a : Int), .int .i64 (k.t : Int)] 100)).alloc (.cells #[.int .u32 0, .int .u32 0, .int .u32 0] 59)) :=
    ((((Below.refl _ _).alloc (Nat.le_refl _) _).alloc (by simp) _).alloc (by simp; omega) _).alloc (by simp; omega) _
  obtain ⟨q0, q1, q2, q3, q4, q5, q6, q7⟩ := (ht.places.below hb0).cell
  have HP : Hid (Pk w ((((w.alloc (.cells #[.int .i64 (k.c : Int), .int .i64 (k.i : Int), .int .i64 (k.a : Int), .int .i64 (k.t : Int)] 44)).alloc (.cells #[.int .u32 0, .int .u32 0, .int .u32 0] 59)).alloc (.cells #[.int .i64 (k.c : Int), .int .i64 (k.i : Int), .int .i64 (k.a : Int), .int .i64 (k.t : Int)] 100)).alloc (.cells #[.int .u32 0, .int .u32 0, .int .u32 0] 59)) k 0 0 0 0) :=
    ⟨hb0, (Blk.new2 _ _ _ _ _).alloc _, ((Blk.new1 _ _ _ _).alloc _).alloc _, Blk.new3 _ _ _ _ _ _, wn_zero⟩
  have HK : Hid k.ok := hk
  clear hk ht hb0
  unfold Tok.v
  go_enter Tryz.func97, Tryz.ntmps97
  go_wp2_with fail
  generalize ((((w.alloc (.cells #[.int .i64 (k.c : Int), .int .i64 (k.i : Int), .int .i64 (k.a : Int), .int .i64 (k.t : Int)] 44)).alloc (.cells #[.int .u32 0, .int .u32 0, .int .u32 0] 59)).alloc (.cells #[.int .i64 (k.c : Int), .int .i64 (k.i : Int), .int .i64 (k.a : Int), .int .i64 (k.t : Int)] 100)).alloc (.cells #[.int .u32 0, .int .u32 0, .int .u32 0] 59)) = W0 at *
  clear q0 q1 q2 q3 q4 q5 q6 q7
  go_loopw [17] (fun v wr => ∃ j a b c : Nat, j ≤ 4 ∧ v = .int .i64 (j : Int) ∧ Pk w wr k j a b c) (fun v _ => 4 - (intOf v).toNat)
  case atStart => exact ⟨0, 0, 0, 0, by omega, rfl, HP.out⟩
  case round =>
    obtain ⟨j, a, b, c, hj, rfl, hp⟩ := hrel
    by_cases hlt : j < 4
    · have hst := step_P HK.out j hlt
      have HC : Hid (∀ W, Calls Tryz.prog 114 #[.agg #[.int .u32 (a : Int), .int .u32 (b : Int), .int .u32 (c : Int)], .int .i64 (loP j : Int), .int .i64 (nP j : Int), .int .u64 (IntKind.u64.wrap (vP k j : Int))] W fun e w' =>
          ∃ a' b' c' : Nat, e = .returned (.tuple #[.agg #[.int .u32 (a' : Int), .int .u32 (b' : Int), .int .u32 (c' : Int)], .int .i64 0]) ∧ WN a' b' c' (pP k (j + 1)) ∧ Below W.heap.size W w') := fun W => by
        rw [hst.2.2.2.2.2.1, wrap_u _ hst.2.2.2.2.2.2]
        exact put_wn a b c (vP k j) (loP j) (nP j) (pP k j) W hp.wn hst.1 hst.2.1 hst.2.2.1 hst.2.2.2.1 hst.2.2.2.2.1
      have hix := idxP j hlt
      have hv := hst.2.2.2.2.2.2
      have hf : ∀ W : World, Blk W (w.heap.size + 1 + 1) #[.int .i64 (k.c : Int), .int .i64 (k.i : Int), .int .i64 (k.a : Int), .int .i64 (k.t : Int)] 100 → W.cell? ⟨w.heap.size + 1 + 1, j, none⟩ = some (.int .i64 (vP k j : Int)) := fun W hB => by
        rw [hB.cell]
        rcases (by omega : j = 0 ∨ j = 1 ∨ j = 2 ∨ j = 3) with rfl | rfl | rfl | rfl <;> rfl
      generalize vP k j = v at *
      generalize loP j = lo at *
      generalize nP j = n at *
      clear hst
      have hjj : (j : Int) < 4 := by omega
      have hPl := Blk.new wr #[.int .i64 (lo : Int), .int .i64 (n : Int)] 102
      have hNu := hp.num.alloc (.cells #[.int .i64 (lo : Int), .int .i64 (n : Int)] 102)
      have hFi := hp.fld.alloc (.cells #[.int .i64 (lo : Int), .int .i64 (n : Int)] 102)
      have hRe := hp.res.alloc (.cells #[.int .i64 (lo : Int), .int .i64 (n : Int)] 102)
      have hBe := hp.below.alloc hp.below.size (.cells #[.int .i64 (lo : Int), .int .i64 (n : Int)] 102)
      have hne : wr.heap.size ≠ w.heap.size + 1 + 1 + 1 := by have := hp.num.lt; omega
      clear hp
      go_wp2_with fail
      generalize wr.alloc (.cells #[.int .i64 (lo : Int), .int .i64 (n : Int)] 102) = W1 at *
      have k0 : W1.drew.cell? ⟨w.heap.size + 1 + 1 + 1, 0, none⟩ = some (.int .u32 (a : Int)) := hNu.cell 0
      have k1 : W1.drew.cell? ⟨w.heap.size + 1 + 1 + 1, 1, none⟩ = some (.int .u32 (b : Int)) := hNu.cell 1
      have k2 : W1.drew.cell? ⟨w.heap.size + 1 + 1 + 1, 2, none⟩ = some (.int .u32 (c : Int)) := hNu.cell 2
      have KW : Hid (W1.drew.cell? ⟨wr.heap.size, 0, none⟩ = some (.int .i64 (lo : Int)) ∧ W1.drew.cell? ⟨wr.heap.size, 1, none⟩ = some (.int .i64 (n : Int)) ∧ W1.drew.cell? ⟨w.heap.size + 1 + 1, j, none⟩ = some (.int .i64 (v : Int))) := ⟨hPl.cell 0, hPl.cell 1, hf _ hFi⟩
      refine wp_region_held_drew (S := (fun v' => v'.cell? ⟨wr.heap.size, 0, none⟩ = some (.int .i64 (lo : Int)) ∧ v'.cell? ⟨wr.heap.size, 1, none⟩ = some (.int .i64 (n : Int)) ∧ v'.cell? ⟨w.heap.size + 1 + 1, j, none⟩ = some (.int .i64 (v : Int)))) (by kernel_rfl) KW.out (fun hHeld => ?_)
      refine wpAnyH_take (i := 1) (v := ?v1) rfl (by kernel_rfl) (by kernel_rfl) (by kernel_rfl) (fun _ _ _ h => h) (Or.inl ⟨by rfl, ?y1⟩) KW.out ?r1
      case y1 => (intro wz hSw; (try dsimp only at hSw); go_simp; try (with_reducible rfl))
      simp only [Act.put, List.setIfInBounds_toArray, List.set_cons_zero, List.set_cons_succ]
      refine wpAnyH_take (i := 2) (v := ?v2) rfl (by kernel_rfl) (by kernel_rfl) (by kernel_rfl) (fun _ _ _ h => h) (Or.inl ⟨by rfl, ?y2⟩) KW.out ?r2
      case y2 => (intro wz hSw; (try dsimp only at hSw); go_simp; try (with_reducible rfl))
      simp only [Act.put, List.setIfInBounds_toArray, List.set_cons_zero, List.set_cons_succ]
      refine wpAnyH_take (i := 3) (v := ?v3) rfl (by kernel_rfl) (by kernel_rfl) (by kernel_rfl) (fun _ _ _ h => h) (Or.inl ⟨by rfl, ?y3⟩) KW.out ?r3
      case y3 => (intro wz hSw; (try dsimp only at hSw); go_simp; try (with_reducible rfl))
      simp only [Act.put, List.setIfInBounds_toArray, List.set_cons_zero, List.set_cons_succ]
      refine wpAnyH_take (i := 4) (v := ?v4) rfl (by kernel_rfl) (by kernel_rfl) (by kernel_rfl) (fun _ _ _ h => h) (Or.inl ⟨by rfl, ?y4⟩) KW.out ?r4
      case y4 => (intro wz hSw; (try dsimp only at hSw); go_simp; try (with_reducible rfl))
      simp only [Act.put, List.setIfInBounds_toArray, List.set_cons_zero, List.set_cons_succ]
      refine wpAnyH_take (i := 5) (v := ?v5) rfl (by kernel_rfl) (by kernel_rfl) (by kernel_rfl) (fun _ _ _ h => h) (Or.inl ⟨by rfl, ?y5⟩) KW.out ?r5
      case y5 => (intro wz hSw; (try dsimp only at hSw); go_simp; try (with_reducible rfl))
      simp only [Act.put, List.setIfInBounds_toArray, List.set_cons_zero, List.set_cons_succ]
      refine wpAnyH_take (i := 6) (v := ?v6) rfl (by kernel_rfl) (by kernel_rfl) (by kernel_rfl) (fun _ _ _ h => h) (Or.inl ⟨by rfl, ?y6⟩) KW.out ?r6
      case y6 => (intro wz hSw; (try dsimp only at hSw); go_simp; try (with_reducible rfl))
      simp only [Act.put, List.setIfInBounds_toArray, List.set_cons_zero, List.set_cons_succ]
      refine wpAnyH_take (i := 7) (v := ?v7) rfl (by kernel_rfl) (by kernel_rfl) (by kernel_rfl) (fun _ _ _ h => h) (Or.inl ⟨by rfl, ?y7⟩) KW.out ?r7
      case y7 => (intro wz hSw; (try dsimp only at hSw); go_simp; try (with_reducible rfl))
      simp only [Act.put, List.setIfInBounds_toArray, List.set_cons_zero, List.set_cons_succ]
      refine wpAnyH_take (i := 8) (v := ?v8) rfl (by kernel_rfl) (by kernel_rfl) (by kernel_rfl) (fun _ _ _ h => h) (Or.inl ⟨by rfl, ?y8⟩) KW.out ?r8
      case y8 => (intro wz hSw; (try dsimp only at hSw); go_simp; try (with_reducible rfl))
      simp only [Act.put, List.setIfInBounds_toArray, List.set_cons_zero, List.set_cons_succ]
      refine wpAnyH_ready (rs := [0]) (by kernel_rfl) (by simp) ?_
      refine AllReadyH.cons rfl (fun K hK => ?_) AllReadyH.nil
      go_simp
      refine hK.out _ _ KW.out (fun _ => ?_)
      refine wpAnyH_ready (rs := [9]) (by kernel_rfl) (by simp) ?_
      refine AllReadyH.cons rfl (fun K hK => ?_) AllReadyH.nil
      go_simp
      refine (HC.out _).mono ?_
      rintro e w2 ⟨a', b', c', rfl, hwn, hb2⟩
      have hN2 : Blk w2 (w.heap.size + 1 + 1 + 1) #[.int .u32 (a : Int), .int .u32 (b : Int), .int .u32 (c : Int)] 59 := Blk.next (w := W1.drew) hNu hb2
      have hP2 : Blk w2 wr.heap.size #[.int .i64 (lo : Int), .int .i64 (n : Int)] 102 := Blk.next (w := W1.drew) hPl hb2
      have hF2 : Blk w2 (w.heap.size + 1 + 1) #[.int .i64 (k.c : Int), .int .i64 (k.i : Int), .int .i64 (k.a : Int), .int .i64 (k.t : Int)] 100 := Blk.next (w := W1.drew) hFi hb2
      have hR2 : Blk w2 (w.heap.size + 1) #[.int .u32 0, .int .u32 0, .int .u32 0] 59 := Blk.next (w := W1.drew) hRe hb2
      have hB2 : Below w.heap.size w w2 := bel_step (w := W1.drew) hBe.drew hb2
      have r0 := hN2.cell 0
      have r1 := hN2.cell 1
      have r2 := hN2.cell 2
      have f0 := hN2.free 0
      have f1 := hN2.free 1
      have f2 := hN2.free 2
      have K2 : Hid (w2.cell? ⟨wr.heap.size, 0, none⟩ = some (.int .i64 (lo : Int)) ∧ w2.cell? ⟨wr.heap.size, 1, none⟩ = some (.int .i64 (n : Int)) ∧ w2.cell? ⟨w.heap.size + 1 + 1, j, none⟩ = some (.int .i64 (v : Int))) := ⟨hP2.cell 0, hP2.cell 1, hf _ hF2⟩
      have HQ : Hid (Pk w (((w2.setCell ⟨w.heap.size + 1 + 1 + 1, 0, none⟩ (.int .u32 (a' : Int))).setCell ⟨w.heap.size + 1 + 1 + 1, 1, none⟩ (.int .u32 (b' : Int))).setCell ⟨w.heap.size + 1 + 1 + 1, 2, none⟩ (.int .u32 (c' : Int))) k (j + 1) a' b' c') := Pk.mk3 hB2 hF2 hR2 hN2 hwn
      have K3 : Hid ((((w2.setCell ⟨w.heap.size + 1 + 1 + 1, 0, none⟩ (.int .u32 (a' : Int))).setCell ⟨w.heap.size + 1 + 1 + 1, 1, none⟩ (.int .u32 (b' : Int))).setCell ⟨w.heap.size + 1 + 1 + 1, 2, none⟩ (.int .u32 (c' : Int))).cell? ⟨wr.heap.size, 0, none⟩ = some (.int .i64 (lo : Int)) ∧ (((w2.setCell ⟨w.heap.size + 1 + 1 + 1, 0, none⟩ (.int .u32 (a' : Int))).setCell ⟨w.heap.size + 1 + 1 + 1, 1, none⟩ (.int .u32 (b' : Int))).setCell ⟨w.heap.size + 1 + 1 + 1, 2, none⟩ (.int .u32 (c' : Int))).cell? ⟨wr.heap.size, 1, none⟩ = some (.int .i64 (n : Int)) ∧ (((w2.setCell ⟨w.heap.size + 1 + 1 + 1, 0, none⟩ (.int .u32 (a' : Int))).setCell ⟨w.heap.size + 1 + 1 + 1, 1, none⟩ (.int .u32 (b' : Int))).setCell ⟨w.heap.size + 1 + 1 + 1, 2, none⟩ (.int .u32 (c' : Int))).cell? ⟨w.heap.size + 1 + 1, j, none⟩ = some (.int .i64 (v : Int))) :=
        ⟨(((hP2.other _ _ (Ne.symm hne)).other _ _ (Ne.symm hne)).other _ _ (Ne.symm hne)).cell 0, (((hP2.other _ _ (Ne.symm hne)).other _ _ (Ne.symm hne)).other _ _ (Ne.symm hne)).cell 1, hf _ HQ.out.fld⟩
      clear hN2 hP2 hF2 hR2 hB2 hb2 hwn
      go_simp
      refine hK.out _ _ K2.out (fun _ => ?_)
      refine wpAnyH_take (i := 10) (v := ?v10) rfl (by kernel_rfl) (by kernel_rfl) (by kernel_rfl) (fun _ _ _ h => h) (Or.inl ⟨by rfl, ?y10⟩) K2.out ?r10
      case y10 => (intro wz hSw; (try dsimp only at hSw); go_simp; try (with_reducible rfl))
      simp only [Act.put, List.setIfInBounds_toArray, List.set_cons_zero, List.set_cons_succ]
      refine wpAnyH_take (i := 11) (v := ?v11) rfl (by kernel_rfl) (by kernel_rfl) (by kernel_rfl) (fun _ _ _ h => h) (Or.inl ⟨by rfl, ?y11⟩) K2.out ?r11
      case y11 => (intro wz hSw; (try dsimp only at hSw); go_simp; try (with_reducible rfl))
      simp only [Act.put, List.setIfInBounds_toArray, List.set_cons_zero, List.set_cons_succ]
      refine wpAnyH_take (i := 12) (v := ?v12) rfl (by kernel_rfl) (by kernel_rfl) (by kernel_rfl) (fun _ _ _ h => h) (Or.inl ⟨by rfl, ?y12⟩) K2.out ?r12
      case y12 => (intro wz hSw; (try dsimp only at hSw); go_simp; try (with_reducible rfl))
      simp only [Act.put, List.setIfInBounds_toArray, List.set_cons_zero, List.set_cons_succ]
      refine wpAnyH_ready (rs := [13]) (by kernel_rfl) (by simp) ?_
      refine AllReadyH.cons rfl (fun K hK => ?_) AllReadyH.nil
      go_simp
      refine hK.out _ _ K3.out (fun _ => ?_)
      refine wpAnyH_done (by kernel_rfl) ?_ _
      all_goals
        go_wp2_with fail
        go_roundw
        case rel => exact ⟨j + 1, a', b', c', by omega, by go_num, HQ.out⟩
        case measure => simp [intOf]; omega
    · obtain rfl : j = 4 := by omega
      have r0 := hp.num.cell 0
      have r1 := hp.num.cell 1
      have r2 := hp.num.cell 2
      have s0 := hp.res.cell 0
      have s1 := hp.res.cell 1
      have s2 := hp.res.cell 2
      have f0 := hp.res.free 0
      have f1 := hp.res.free 1
      have f2 := hp.res.free 2
      have HB : Hid (Below w.heap.size w (((wr.setCell ⟨w.heap.size + 1, 0, none⟩ (.int .u32 (a : Int))).setCell ⟨w.heap.size + 1, 1, none⟩ (.int .u32 (b : Int))).setCell ⟨w.heap.size + 1, 2, none⟩ (.int .u32 (c : Int)))) := bel_set (bel_set (bel_set hp.below _ _ _ (by omega)) _ _ _ (by omega)) _ _ _ (by omega)
      have HW : Hid (WN a b c k.num) := hp.wn
      have RR : Blk (((wr.setCell ⟨w.heap.size + 1, 0, none⟩ (.int .u32 (a : Int))).setCell ⟨w.heap.size + 1, 1, none⟩ (.int .u32 (b : Int))).setCell ⟨w.heap.size + 1, 2, none⟩ (.int .u32 (c : Int))) (w.heap.size + 1) #[.int .u32 (a : Int), .int .u32 (b : Int), .int .u32 (c : Int)] 59 := ((hp.res.set 0 _).set 1 _).set 2 _
      have R0 : Hid (_ = _) := RR.cell 0
      have R1 : Hid (_ = _) := RR.cell 1
      have R2 : Hid (_ = _) := RR.cell 2
      clear hp RR
      go_wp2_with fail
      refine bodyPost_ret (v := .agg #[.int .u32 (a : Int), .int .u32 (b : Int), .int .u32 (c : Int)]) (by simp [results, Tryz.results97, R0.out, R1.out, R2.out, go_sem]) rfl ⟨a, b, c, rfl, HW.out, HB.out⟩

end Go.Proofs.YtgipkpkjoicehaaGreatDoor.token

/- A field of a wide number. -/
namespace Go.Proofs.YtgipkpkjoicehaaGreatDoor.token
open Go.Proofs.YtgipkpkjoicehaaGreatDoor.words
open Go.RowKit
set_option linter.unusedSimpArgs false

theorem bits_wn (a b c lo n V : Nat) (w : World) (h : WN a b c V) (n0 : 1 ≤ n) (n1 : n ≤ 64) (hl : lo + n ≤ 96) :
    Calls Tryz.prog 60 #[.agg #[.int .u32 (a : Int), .int .u32 (b : Int), .int .u32 (c : Int)], .int .i64 (lo : Int), .int .i64 (n : Int)] w fun e w' => e = .returned (.tuple #[.int .u64 (V / 2 ^ lo % 2 ^ n : Nat), .int .i64 0]) ∧ Below w.heap.size w w' := by
  have := bits_any a b c lo n w h.a1 h.b1 h.c1 n0 n1 hl
  rwa [bits_num h.a1 h.b1 h.c1 n1, h.val] at this

theorem wrap_i (v : Nat) (h : v < 9223372036854775808) : IntKind.i64.wrap (v : Int) = (v : Int) := by rw [IntKind.wrap_i64]; omega

end Go.Proofs.YtgipkpkjoicehaaGreatDoor.token

/- Quiet regions, their operations one at a time: what follows is shut away. -/
namespace Go.Proofs.YtgipkpkjoicehaaGreatDoor
open Go.RowKit

/-- What is asked of the operations that are left, shut away. -/
structure WQ (P : Program) (ops : Array Oper) (C : World → Prop) (Q : Act → Prop) (l : List Oper) (a : Act) : Prop where
  out : wpQuiet P ops C Q l a
theorem wq_nil {P : Program} {ops : Array Oper} {C : World → Prop} {Q : Act → Prop} {a : Act} (h : Q a) : WQ P ops C Q [] a := ⟨h⟩
theorem wq_step {P : Program} {ops : Array Oper} {C : World → Prop} {Q : Act → Prop} {a : Act} {o : Oper} {rest : List Oper}
    (h : ∀ K : Act → Prop, (∀ a, WQ P ops C Q rest a → K a) → if Region.wanted o (yielded ops a.tmps) then o.quiet P a C K else K (a.put o.dst undef)) : WQ P ops C Q (o :: rest) a :=
  ⟨wpQuiet_step fun K hK => h K fun a ha => hK a ha.out⟩
theorem wq_skip {P : Program} {ops : Array Oper} {C : World → Prop} {Q : Act → Prop} {a : Act} {o : Oper} {rest : List Oper} (hw : Region.wanted o (yielded ops a.tmps) = false) (h : WQ P ops C Q rest (a.put o.dst undef)) : WQ P ops C Q (o :: rest) a := by
  refine ⟨?_⟩
  unfold wpQuiet
  rw [if_neg (by rw [hw]; decide)]
  exact h.out
theorem wq_below {P : Program} {id : Nat} {Q : Exit → Act → World → Prop} {a : Act} {w : World} {l : List Oper} (hm : P.follows .mixedOrders = true) (hB : Region.lexB .any l.toArray = true)
    (h : WQ P l.toArray (fun w' => ∃ p : Regrown, w' = Sort.grow (redrawn w p.d) p.os) (fun a' => ∀ w', (∃ p : Regrown, w' = Sort.grow (redrawn w p.d) p.os) → Q .normal a' w') l a) : (Code.region id l.toArray true).wp P Q a w :=
  wp_region_quiet_below hm hB h.out

end Go.Proofs.YtgipkpkjoicehaaGreatDoor

/- Why a token may not be: what flaw gives back. -/
namespace Go.Proofs.YtgipkpkjoicehaaGreatDoor.token
open Go.RowKit
set_option linter.unusedSimpArgs false

/-- What lies ready when the bounds are looked at. -/
structure Rdy (w W : World) (c i a t : Int) : Prop where
  below : Below w.heap.size w W
  b0 : W.cell? ⟨w.heap.size, 0, none⟩ = some (.int .i64 c)
  b1 : W.cell? ⟨w.heap.size, 1, none⟩ = some (.int .i64 i)
  b2 : W.cell? ⟨w.heap.size, 2, none⟩ = some (.int .i64 a)
  b3 : W.cell? ⟨w.heap.size, 3, none⟩ = some (.int .i64 t)
  i0 : W.cell? ⟨w.heap.size + 1, 0, none⟩ = some (.int .i64 1)
  i1 : W.cell? ⟨w.heap.size + 1, 1, none⟩ = some (.int .i64 1048575)
  t0 : W.cell? ⟨w.heap.size + 1 + 1, 0, none⟩ = some (.int .i64 0)
  t1 : W.cell? ⟨w.heap.size + 1 + 1, 1, none⟩ = some (.int .i64 65535)

theorem rdy_of (w : World) (c i a t : Int) : Rdy w (((w.alloc (.cells #[.int .i64 c, .int .i64 i, .int .i64 a, .int .i64 t] 44)).alloc (.cells #[.int .i64 1, .int .i64 1048575] 107)).alloc (.cells #[.int .i64 0, .int .i64 65535] 107)) c i a t := by
  have h0 := ((Blk.new w #[.int .i64 c, .int .i64 i, .int .i64 a, .int .i64 t] 44).alloc (.cells #[.int .i64 1, .int .i64 1048575] 107)).alloc (.cells #[.int .i64 0, .int .i64 65535] 107)
  have h1 := (Blk.new1 w (.cells #[.int .i64 c, .int .i64 i, .int .i64 a, .int .i64 t] 44) #[.int .i64 1, .int .i64 1048575] 107).alloc (.cells #[.int .i64 0, .int .i64 65535] 107)
  have h2 := Blk.new2 w (.cells #[.int .i64 c, .int .i64 i, .int .i64 a, .int .i64 t] 44) (.cells #[.int .i64 1, .int .i64 1048575] 107) #[.int .i64 0, .int .i64 65535] 107
  exact ⟨((((Below.refl _ _).alloc (Nat.le_refl _) _).alloc (by simp) _).alloc (by simp; omega) _), h0.cell 0, h0.cell 1, h0.cell 2, h0.cell 3, h1.cell 0, h1.cell 1, h2.cell 0, h2.cell 1⟩

theorem flaw_class (c i a t : Int) (w : World) (h : c < 0 ∨ 3 < c) :
    Calls Tryz.prog 26 #[.agg #[.int .i64 c, .int .i64 i, .int .i64 a, .int .i64 t]] w fun e w' => e = .returned (.int .i64 9) ∧ Below w.heap.size w w' := by
  have hb : Below w.heap.size w (w.alloc (.cells #[.int .i64 c, .int .i64 i, .int .i64 a, .int .i64 t] 44)) := (Below.refl _ _).alloc (Nat.le_refl _) _
  by_cases h0 : c < 0
  · clear h
    go_enter Tryz.func26, Tryz.ntmps26
    go_wp2
    go_ret
    exact ⟨rfl, hb⟩
  · have h1 : 0 ≤ c := by omega
    have h2 : 4 ≤ c := by omega
    clear h
    go_enter Tryz.func26, Tryz.ntmps26
    go_wp2
    go_ret
    exact ⟨rfl, hb⟩

set_option maxHeartbeats 4000000 in
theorem flaw_in (c : Nat) (lo hi i a t : Int) (w : World) (hc : c < 4) (g0 : w.cell? ⟨1, c * 2, none⟩ = some (.int .i64 lo)) (g1 : w.cell? ⟨1, c * 2 + 1, none⟩ = some (.int .i64 hi)) :
    Calls Tryz.prog 26 #[.agg #[.int .i64 (c : Int), .int .i64 i, .int .i64 a, .int .i64 t]] w fun e w' => e = .returned (.int .i64 (if hasI 1 1048575 i && (hasI lo hi a && hasI 0 65535 t) then 0 else 2)) ∧ Below w.heap.size w w' := by
  have HR : Hid (Rdy w (((w.alloc (.cells #[.int .i64 (c : Int), .int .i64 i, .int .i64 a, .int .i64 t] 44)).alloc (.cells #[.int .i64 1, .int .i64 1048575] 107)).alloc (.cells #[.int .i64 0, .int .i64 65535] 107)) c i a t) := rdy_of w c i a t
  have g0' := HR.out.below.cell (World.block_lt_of_cell? w _ g0)
  rw [g0] at g0'
  have g1' := HR.out.below.cell (World.block_lt_of_cell? w _ g1)
  rw [g1] at g1'
  have HI : Hid (∀ W, Calls Tryz.prog 61 #[.agg #[.int .i64 1, .int .i64 1048575], .int .i64 i] W fun e w' => e = .returned (.bool (hasI 1 1048575 i)) ∧ Below W.heap.size W w') := fun W => has_any _ _ _ W
  have HA : Hid (∀ W, Calls Tryz.prog 61 #[.agg #[.int .i64 lo, .int .i64 hi], .int .i64 a] W fun e w' => e = .returned (.bool (hasI lo hi a)) ∧ Below W.heap.size W w') := fun W => has_any _ _ _ W
  have HU : Hid (∀ W, Calls Tryz.prog 61 #[.agg #[.int .i64 0, .int .i64 65535], .int .i64 t] W fun e w' => e = .returned (.bool (hasI 0 65535 t)) ∧ Below W.heap.size W w') := fun W => has_any _ _ _ W
  clear g0 g1
  have c0 : ¬ (c : Int) < 0 := by omega
  have c1 : ¬ 4 ≤ (c : Int) := by omega
  have c2 : (c : Int) < 4 := by omega
  generalize hasI 1 1048575 i = bi at *
  generalize hasI lo hi a = ba at *
  generalize hasI 0 65535 t = bt at *
  cases bi with
  | false =>
    go_enter Tryz.func26, Tryz.ntmps26
    go_wp2_with fail
    generalize (((w.alloc (.cells #[.int .i64 (c : Int), .int .i64 i, .int .i64 a, .int .i64 t] 44)).alloc (.cells #[.int .i64 1, .int .i64 1048575] 107)).alloc (.cells #[.int .i64 0, .int .i64 65535] 107)) = W at *
    have k0 := cell_regrown HR.out.b0
    have k1 := cell_regrown HR.out.b1
    have k2 := cell_regrown HR.out.b2
    have k3 := cell_regrown HR.out.b3
    have k4 := cell_regrown HR.out.i0
    have k5 := cell_regrown HR.out.i1
    have k6 := cell_regrown HR.out.t0
    have k7 := cell_regrown HR.out.t1
    have k8 := cell_regrown g0'
    have k9 := cell_regrown g1'
    have HB : Hid (Below w.heap.size w W) := HR.out.below
    clear HR g0' g1'
    refine wq_below (by kernel_rfl) (by kernel_rfl) ?_
    iterate 3 (refine wq_step (fun K hK => ?_); go_simp; refine hK _ ?_; clear hK K)
    refine wq_step (fun K hK => ?_)
    go_simp
    apply Exists.intro
    refine ⟨fun _ => ?_, hK _ ?_⟩
    exact Calls.regrown_of (HI.out _)
    clear hK K
    iterate 2 (refine wq_step (fun K hK => ?_); go_simp; refine hK _ ?_; clear hK K)
    iterate 8 (refine wq_skip (by kernel_rfl) ?_; simp only [Act.put, List.setIfInBounds_toArray, List.set_cons_zero, List.set_cons_succ])
    iterate 2 (refine wq_step (fun K hK => ?_); go_simp; refine hK _ ?_; clear hK K)
    iterate 5 (refine wq_skip (by kernel_rfl) ?_; simp only [Act.put, List.setIfInBounds_toArray, List.set_cons_zero, List.set_cons_succ])
    iterate 1 (refine wq_step (fun K hK => ?_); go_simp; refine hK _ ?_; clear hK K)
    refine wq_nil ?_
    intro _ hw'
    obtain ⟨⟨dq, osq⟩, hw''⟩ := hw'
    subst hw''
    go_wp2_with fail
    go_ret
    exact ⟨rfl, HB.out.trans ((below_regrown W dq osq).mono HB.out.size)⟩
  | true =>
    cases ba with
    | false =>
      go_enter Tryz.func26, Tryz.ntmps26
      go_wp2_with fail
      generalize (((w.alloc (.cells #[.int .i64 (c : Int), .int .i64 i, .int .i64 a, .int .i64 t] 44)).alloc (.cells #[.int .i64 1, .int .i64 1048575] 107)).alloc (.cells #[.int .i64 0, .int .i64 65535] 107)) = W at *
      have k0 := cell_regrown HR.out.b0
      have k1 := cell_regrown HR.out.b1
      have k2 := cell_regrown HR.out.b2
      have k3 := cell_regrown HR.out.b3
      have k4 := cell_regrown HR.out.i0
      have k5 := cell_regrown HR.out.i1
      have k6 := cell_regrown HR.out.t0
      have k7 := cell_regrown HR.out.t1
      have k8 := cell_regrown g0'
      have k9 := cell_regrown g1'
      have HB : Hid (Below w.heap.size w W) := HR.out.below
      clear HR g0' g1'
      refine wq_below (by kernel_rfl) (by kernel_rfl) ?_
      iterate 3 (refine wq_step (fun K hK => ?_); go_simp; refine hK _ ?_; clear hK K)
      refine wq_step (fun K hK => ?_)
      go_simp
      apply Exists.intro
      refine ⟨fun _ => ?_, hK _ ?_⟩
      exact Calls.regrown_of (HI.out _)
      clear hK K
      iterate 8 (refine wq_step (fun K hK => ?_); go_simp; refine hK _ ?_; clear hK K)
      refine wq_step (fun K hK => ?_)
      go_simp
      apply Exists.intro
      refine ⟨fun _ => ?_, hK _ ?_⟩
      exact Calls.regrown_of (HA.out _)
      clear hK K
      iterate 3 (refine wq_step (fun K hK => ?_); go_simp; refine hK _ ?_; clear hK K)
      iterate 5 (refine wq_skip (by kernel_rfl) ?_; simp only [Act.put, List.setIfInBounds_toArray, List.set_cons_zero, List.set_cons_succ])
      iterate 1 (refine wq_step (fun K hK => ?_); go_simp; refine hK _ ?_; clear hK K)
      refine wq_nil ?_
      intro _ hw'
      obtain ⟨⟨dq, osq⟩, hw''⟩ := hw'
      subst hw''
      go_wp2_with fail
      go_ret
      exact ⟨rfl, HB.out.trans ((below_regrown W dq osq).mono HB.out.size)⟩
    | true =>
      cases bt with
      | false =>
        go_enter Tryz.func26, Tryz.ntmps26
        go_wp2_with fail
        generalize (((w.alloc (.cells #[.int .i64 (c : Int), .int .i64 i, .int .i64 a, .int .i64 t] 44)).alloc (.cells #[.int .i64 1, .int .i64 1048575] 107)).alloc (.cells #[.int .i64 0, .int .i64 65535] 107)) = W at *
        have k0 := cell_regrown HR.out.b0
        have k1 := cell_regrown HR.out.b1
        have k2 := cell_regrown HR.out.b2
        have k3 := cell_regrown HR.out.b3
        have k4 := cell_regrown HR.out.i0
        have k5 := cell_regrown HR.out.i1
        have k6 := cell_regrown HR.out.t0
        have k7 := cell_regrown HR.out.t1
        have k8 := cell_regrown g0'
        have k9 := cell_regrown g1'
        have HB : Hid (Below w.heap.size w W) := HR.out.below
        clear HR g0' g1'
        refine wq_below (by kernel_rfl) (by kernel_rfl) ?_
        iterate 3 (refine wq_step (fun K hK => ?_); go_simp; refine hK _ ?_; clear hK K)
        refine wq_step (fun K hK => ?_)
        go_simp
        apply Exists.intro
        refine ⟨fun _ => ?_, hK _ ?_⟩
        exact Calls.regrown_of (HI.out _)
        clear hK K
        iterate 8 (refine wq_step (fun K hK => ?_); go_simp; refine hK _ ?_; clear hK K)
        refine wq_step (fun K hK => ?_)
        go_simp
        apply Exists.intro
        refine ⟨fun _ => ?_, hK _ ?_⟩
        exact Calls.regrown_of (HA.out _)
        clear hK K
        iterate 6 (refine wq_step (fun K hK => ?_); go_simp; refine hK _ ?_; clear hK K)
        refine wq_step (fun K hK => ?_)
        go_simp
        apply Exists.intro
        refine ⟨fun _ => ?_, hK _ ?_⟩
        exact Calls.regrown_of (HU.out _)
        clear hK K
        iterate 2 (refine wq_step (fun K hK => ?_); go_simp; refine hK _ ?_; clear hK K)
        refine wq_nil ?_
        intro _ hw'
        obtain ⟨⟨dq, osq⟩, hw''⟩ := hw'
        subst hw''
        go_wp2_with fail
        go_ret
        exact ⟨rfl, HB.out.trans ((below_regrown W dq osq).mono HB.out.size)⟩
      | true =>
        go_enter Tryz.func26, Tryz.ntmps26
        go_wp2_with fail
        generalize (((w.alloc (.cells #[.int .i64 (c : Int), .int .i64 i, .int .i64 a, .int .i64 t] 44)).alloc (.cells #[.int .i64 1, .int .i64 1048575] 107)).alloc (.cells #[.int .i64 0, .int .i64 65535] 107)) = W at *
        have k0 := cell_regrown HR.out.b0
        have k1 := cell_regrown HR.out.b1
        have k2 := cell_regrown HR.out.b2
        have k3 := cell_regrown HR.out.b3
        have k4 := cell_regrown HR.out.i0
        have k5 := cell_regrown HR.out.i1
        have k6 := cell_regrown HR.out.t0
        have k7 := cell_regrown HR.out.t1
        have k8 := cell_regrown g0'
        have k9 := cell_regrown g1'
        have HB : Hid (Below w.heap.size w W) := HR.out.below
        clear HR g0' g1'
        refine wq_below (by kernel_rfl) (by kernel_rfl) ?_
        iterate 3 (refine wq_step (fun K hK => ?_); go_simp; refine hK _ ?_; clear hK K)
        refine wq_step (fun K hK => ?_)
        go_simp
        apply Exists.intro
        refine ⟨fun _ => ?_, hK _ ?_⟩
        exact Calls.regrown_of (HI.out _)
        clear hK K
        iterate 8 (refine wq_step (fun K hK => ?_); go_simp; refine hK _ ?_; clear hK K)
        refine wq_step (fun K hK => ?_)
        go_simp
        apply Exists.intro
        refine ⟨fun _ => ?_, hK _ ?_⟩
        exact Calls.regrown_of (HA.out _)
        clear hK K
        iterate 6 (refine wq_step (fun K hK => ?_); go_simp; refine hK _ ?_; clear hK K)
        refine wq_step (fun K hK => ?_)
        go_simp
        apply Exists.intro
        refine ⟨fun _ => ?_, hK _ ?_⟩
        exact Calls.regrown_of (HU.out _)
        clear hK K
        iterate 2 (refine wq_step (fun K hK => ?_); go_simp; refine hK _ ?_; clear hK K)
        refine wq_nil ?_
        intro _ hw'
        obtain ⟨⟨dq, osq⟩, hw''⟩ := hw'
        subst hw''
        go_wp2_with fail
        go_ret
        exact ⟨rfl, HB.out.trans ((below_regrown W dq osq).mono HB.out.size)⟩

theorem flaw_any (c i a t : Int) (w : World) (ht : TTab w) :
    Calls Tryz.prog 26 #[.agg #[.int .i64 c, .int .i64 i, .int .i64 a, .int .i64 t]] w fun e w' => e = .returned (.int .i64 (flawT c i a t)) ∧ Below w.heap.size w w' := by
  by_cases h : c < 0 ∨ 3 < c
  · rw [flawT_class h]; exact flaw_class c i a t w h
  · have h8 := ht.amounts.cell
    rw [flawT_in h]
    rcases (by omega : c = 0 ∨ c = 1 ∨ c = 2 ∨ c = 3) with rfl | rfl | rfl | rfl
    · exact flaw_in 0 1 2097151 i a t w (by omega) h8.1 h8.2.1
    · exact flaw_in 1 0 0 i a t w (by omega) h8.2.2.1 h8.2.2.2.1
    · exact flaw_in 2 1 15 i a t w (by omega) h8.2.2.2.2.1 h8.2.2.2.2.2.1
    · exact flaw_in 3 0 0 i a t w (by omega) h8.2.2.2.2.2.2.1 h8.2.2.2.2.2.2.2

end Go.Proofs.YtgipkpkjoicehaaGreatDoor.token

/- What Body gives back. -/
namespace Go.Proofs.YtgipkpkjoicehaaGreatDoor.token
open Go.Proofs.YtgipkpkjoicehaaGreatDoor.words
open Go.RowKit
set_option linter.unusedSimpArgs false

theorem bel_box (w : World) (o : Obj) : Below w.heap.size w (w.alloc o) := (Below.refl _ _).alloc (Nat.le_refl _) o

set_option maxHeartbeats 400000 in
theorem body_no (c i a t : Int) (w : World) (ht : TTab w) (h : flawT c i a t ≠ 0) :
    Calls Tryz.prog 64 #[.agg #[.int .i64 c, .int .i64 i, .int .i64 a, .int .i64 t]] w fun e w' => e = .returned (.tuple #[.int .i64 0, .int .i64 (flawT c i a t)]) ∧ Below w.heap.size w w' := by
  have HF : Hid (∀ W, TTab W → Calls Tryz.prog 26 #[.agg #[.int .i64 c, .int .i64 i, .int .i64 a, .int .i64 t]] W fun e w' => e = .returned (.int .i64 (flawT c i a t)) ∧ Below W.heap.size W w') := fun W hW => flaw_any c i a t W hW
  have hd : (flawT c i a t != 0) = true := by simpa using h
  have HB : Hid (Below w.heap.size w (w.alloc (.cells #[.int .i64 c, .int .i64 i, .int .i64 a, .int .i64 t] 44))) := bel_box _ _
  have HT : Hid (TTab (w.alloc (.cells #[.int .i64 c, .int .i64 i, .int .i64 a, .int .i64 t] 44))) := ht.below (bel_box _ _)
  clear ht h
  generalize flawT c i a t = f at *
  go_enter Tryz.func64, Tryz.ntmps64
  go_wp2_with fail
  refine (HF.out _ HT.out).mono ?_
  rintro e w1 ⟨rfl, hb1⟩
  have HB1 : Hid (Below w.heap.size w w1) := bel_step HB.out hb1
  clear hb1 HF HB HT
  go_wp2_with fail
  refine bodyPost_ret (v := .tuple #[.int .i64 0, .int .i64 f]) (by simp [results, Tryz.results64, go_sem]) rfl ⟨rfl, HB1.out⟩

set_option maxHeartbeats 400000 in
theorem body_ok (k : Tok) (w : World) (ht : TTab w) (hk : k.ok) :
    Calls Tryz.prog 64 #[k.v] w fun e w' => e = .returned (.tuple #[.int .i64 (k.body : Int), .int .i64 0]) ∧ Below w.heap.size w w' := by
  have HF : Hid (∀ W, TTab W → Calls Tryz.prog 26 #[.agg #[.int .i64 (k.c : Int), .int .i64 (k.i : Int), .int .i64 (k.a : Int), .int .i64 (k.t : Int)]] W fun e w' => e = .returned (.int .i64 0) ∧ Below W.heap.size W w') := fun W hW => by
    have := flaw_any k.c k.i k.a k.t W hW
    rwa [flaw_tok.2 hk] at this
  have HP : Hid (∀ W, TTab W → Calls Tryz.prog 97 #[.agg #[.int .i64 (k.c : Int), .int .i64 (k.i : Int), .int .i64 (k.a : Int), .int .i64 (k.t : Int)]] W fun e w' => PackPost W k e w') := fun W hW => pack_any k W hk hW
  have HQ : Hid (∀ (x y z : Nat) W, WN x y z k.num → Calls Tryz.prog 60 #[.agg #[.int .u32 (x : Int), .int .u32 (y : Int), .int .u32 (z : Int)], .int .i64 16, .int .i64 43] W fun e w' => e = .returned (.tuple #[.int .u64 (k.body : Int), .int .i64 0]) ∧ Below W.heap.size W w') := fun x y z W hW => by
    have := bits_wn x y z 16 43 k.num W hW (by omega) (by omega) (by omega)
    rwa [show k.num / 2 ^ 16 % 2 ^ 43 = k.body from body_num hk] at this
  have hwr : IntKind.i64.wrap (k.body : Int) = (k.body : Int) := wrap_i _ (by have := body_bd hk; omega)
  have HT : Hid (TTab (w.alloc (.cells #[.int .i64 (k.c : Int), .int .i64 (k.i : Int), .int .i64 (k.a : Int), .int .i64 (k.t : Int)] 44))) := ht.below (bel_box _ _)
  have HB : Hid (Below w.heap.size w (w.alloc (.cells #[.int .i64 (k.c : Int), .int .i64 (k.i : Int), .int .i64 (k.a : Int), .int .i64 (k.t : Int)] 44))) := bel_box _ _
  have HX : Hid (Blk (w.alloc (.cells #[.int .i64 (k.c : Int), .int .i64 (k.i : Int), .int .i64 (k.a : Int), .int .i64 (k.t : Int)] 44)) w.heap.size #[.int .i64 (k.c : Int), .int .i64 (k.i : Int), .int .i64 (k.a : Int), .int .i64 (k.t : Int)] 44) := Blk.new _ _ _
  clear ht hk
  unfold Tok.v
  generalize (k.body : Int) = bd at *
  go_enter Tryz.func64, Tryz.ntmps64
  go_wp2_with fail
  refine (HF.out _ HT.out).mono ?_
  rintro e w1 ⟨rfl, hb1⟩
  have HB1 : Hid (Below w.heap.size w w1) := bel_step HB.out hb1
  have HT1 : Hid (TTab w1) := HT.out.below hb1
  have hX := HX.out.next hb1
  have x0 := hX.cell 0
  have x1 := hX.cell 1
  have x2 := hX.cell 2
  have x3 := hX.cell 3
  clear hb1 HF HB HT HX hX
  go_wp2_with fail
  refine (HP.out _ HT1.out).mono ?_
  rintro e w2 ⟨x, y, z, rfl, hwn, hb2⟩
  have HB2 : Hid (Below w.heap.size w w2) := bel_step HB1.out hb2
  have HN : Hid (WN x y z k.num) := hwn
  clear hb2 hwn HB1 HT1 HP x0 x1 x2 x3
  go_wp2_with fail
  refine (HQ.out _ _ _ _ HN.out).mono ?_
  rintro e w3 ⟨rfl, hb3⟩
  have HB3 : Hid (Below w.heap.size w w3) := bel_step HB2.out hb3
  clear hb3 HB2 HQ
  go_wp2_with fail
  refine bodyPost_ret (v := .tuple #[.int .i64 bd, .int .i64 0]) (by simp [results, Tryz.results64, go_sem]) rfl ⟨rfl, HB3.out⟩

end Go.Proofs.YtgipkpkjoicehaaGreatDoor.token

/- A number, unpacked into a token's fields. -/
namespace Go.Proofs.YtgipkpkjoicehaaGreatDoor.token
open Go.Proofs.YtgipkpkjoicehaaGreatDoor.words
open Go.RowKit
set_option linter.unusedSimpArgs false

/-- The fields of a number. -/
def fP (V : Nat) : Nat → Nat
  | 0 => (tokOf V).c
  | 1 => (tokOf V).i
  | 2 => (tokOf V).a
  | _ => (tokOf V).t
theorem step_F (V j : Nat) (hj : j < 4) : 1 ≤ nP j ∧ nP j ≤ 64 ∧ loP j + nP j ≤ 96 ∧ V / 2 ^ loP j % 2 ^ nP j = fP V j ∧ fP V j < 9223372036854775808 := by
  match j, hj with
  | 0, _ => exact ⟨by decide, by decide, by decide, rfl, by show V / 144115188075855872 % 8 < _; omega⟩
  | 1, _ => exact ⟨by decide, by decide, by decide, rfl, by show V / 137438953472 % 1048576 < _; omega⟩
  | 2, _ => exact ⟨by decide, by decide, by decide, rfl, by show V / 65536 % 2097152 < _; omega⟩
  | 3, _ => exact ⟨by decide, by decide, by decide, by show V / 1 % 65536 = V % 65536; rw [Nat.div_one], by show V % 65536 < _; omega⟩
/-- The field that is unpacked, and those that are not yet. -/
def gP (V j i : Nat) : Nat := if i < j then fP V i else 0
/-- While the fields are unpacked: j of them are. -/
structure Uk (w wr : World) (V j a b c : Nat) : Prop where
  below : Below w.heap.size w wr
  num : Blk wr w.heap.size #[.int .u32 (a : Int), .int .u32 (b : Int), .int .u32 (c : Int)] 59
  res : Blk wr (w.heap.size + 1) #[.int .i64 0, .int .i64 0, .int .i64 0, .int .i64 0] 44
  fld : Blk wr (w.heap.size + 1 + 1) #[.int .i64 (gP V j 0 : Int), .int .i64 (gP V j 1 : Int), .int .i64 (gP V j 2 : Int), .int .i64 (gP V j 3 : Int)] 100

theorem uk_next {w wr : World} {V j a b c : Nat} (hj : j < 4) (hB : Below w.heap.size w wr) (hN : Blk wr w.heap.size #[.int .u32 (a : Int), .int .u32 (b : Int), .int .u32 (c : Int)] 59) (hR : Blk wr (w.heap.size + 1) #[.int .i64 0, .int .i64 0, .int .i64 0, .int .i64 0] 44)
    (hF : Blk wr (w.heap.size + 1 + 1) #[.int .i64 (gP V j 0 : Int), .int .i64 (gP V j 1 : Int), .int .i64 (gP V j 2 : Int), .int .i64 (gP V j 3 : Int)] 100) : Uk w (wr.setCell ⟨w.heap.size + 1 + 1, j, none⟩ (.int .i64 (fP V j : Int))) V (j + 1) a b c := by
  refine ⟨bel_set hB _ _ _ (by omega), hN.other _ _ (by omega), hR.other _ _ (by omega), ?_⟩
  have h := hF.set j (.int .i64 (fP V j : Int))
  rcases (by omega : j = 0 ∨ j = 1 ∨ j = 2 ∨ j = 3) with rfl | rfl | rfl | rfl <;> exact h

set_option maxHeartbeats 1000000 in
theorem unpack_any (a b c V : Nat) (w : World) (hw : WN a b c V) (ht : TTab w) :
    Calls Tryz.prog 25 #[.agg #[.int .u32 (a : Int), .int .u32 (b : Int), .int .u32 (c : Int)]] w fun e w' => e = .returned (tokOf V).v ∧ Below w.heap.size w w' := by
  have hb0 : Below w.heap.size w (((w.alloc (.cells #[.int .u32 (a : Int), .int .u32 (b : Int), .int .u32 (c : Int)] 59)).alloc (.cells #[.int .i64 0, .int .i64 0, .int .i64 0, .int .i64 0] 44)).alloc (.cells #[.int .i64 0, .int .i64 0, .int .i64 0, .int .i64 0] 100)) :=
    (((Below.refl _ _).alloc (Nat.le_refl _) _).alloc (by simp) _).alloc (by simp; omega) _
  obtain ⟨q0, q1, q2, q3, q4, q5, q6, q7⟩ := (ht.places.below hb0).cell
  have HP : Hid (Uk w (((w.alloc (.cells #[.int .u32 (a : Int), .int .u32 (b : Int), .int .u32 (c : Int)] 59)).alloc (.cells #[.int .i64 0, .int .i64 0, .int .i64 0, .int .i64 0] 44)).alloc (.cells #[.int .i64 0, .int .i64 0, .int .i64 0, .int .i64 0] 100)) V 0 a b c) :=
    ⟨hb0, ((Blk.new _ _ _).alloc _).alloc _, (Blk.new1 _ _ _ _).alloc _, Blk.new2 _ _ _ _ _⟩
  have HW : Hid (WN a b c V) := hw
  clear hw ht hb0
  go_enter Tryz.func25, Tryz.ntmps25
  go_wp2_with fail
  generalize (((w.alloc (.cells #[.int .u32 (a : Int), .int .u32 (b : Int), .int .u32 (c : Int)] 59)).alloc (.cells #[.int .i64 0, .int .i64 0, .int .i64 0, .int .i64 0] 44)).alloc (.cells #[.int .i64 0, .int .i64 0, .int .i64 0, .int .i64 0] 100)) = W0 at *
  clear q0 q1 q2 q3 q4 q5 q6 q7
  go_loopw [9] (fun v wr => ∃ j : Nat, j ≤ 4 ∧ v = .int .i64 (j : Int) ∧ Uk w wr V j a b c) (fun v _ => 4 - (intOf v).toNat)
  case atStart => exact ⟨0, by omega, rfl, HP.out⟩
  case round =>
    obtain ⟨j, hj, rfl, hp⟩ := hrel
    by_cases hlt : j < 4
    · have hst := step_F V j hlt
      have HC : Hid (∀ W, Calls Tryz.prog 60 #[.agg #[.int .u32 (a : Int), .int .u32 (b : Int), .int .u32 (c : Int)], .int .i64 (loP j : Int), .int .i64 (nP j : Int)] W fun e w' => e = .returned (.tuple #[.int .u64 (fP V j : Nat), .int .i64 0]) ∧ Below W.heap.size W w') := fun W => by
        have := bits_wn a b c (loP j) (nP j) V W HW.out hst.1 hst.2.1 hst.2.2.1
        rwa [hst.2.2.2.1] at this
      have hix := idxP j hlt
      have hwr : IntKind.i64.wrap (fP V j : Int) = (fP V j : Int) := wrap_i _ hst.2.2.2.2
      have HU : Hid (∀ W, Below wr.heap.size wr W → Uk w (W.setCell ⟨w.heap.size + 1 + 1, j, none⟩ (.int .i64 (fP V j : Int))) V (j + 1) a b c) := fun W hb => uk_next hlt (bel_step hp.below hb) (hp.num.next hb) (hp.res.next hb) (hp.fld.next hb)
      have HF : Hid (∀ W, Below wr.heap.size wr W → W.cell? ⟨w.heap.size + 1 + 1, j, none⟩ = some (.int .i64 (gP V j j : Int)) ∧ W.frozen? ⟨w.heap.size + 1 + 1, j, none⟩ = false) := fun W hb => by
        have h := hp.fld.next hb
        refine ⟨?_, h.free j⟩
        rw [h.cell]
        rcases (by omega : j = 0 ∨ j = 1 ∨ j = 2 ∨ j = 3) with rfl | rfl | rfl | rfl <;> rfl
      generalize fP V j = v at *
      generalize gP V j j = v0 at *
      generalize loP j = lo at *
      generalize nP j = n at *
      clear hst
      have hjj : (j : Int) < 4 := by omega
      have hPl := Blk.new wr #[.int .i64 (lo : Int), .int .i64 (n : Int)] 102
      have hNu := hp.num.alloc (.cells #[.int .i64 (lo : Int), .int .i64 (n : Int)] 102)
      have hBe : Below wr.heap.size wr (wr.alloc (.cells #[.int .i64 (lo : Int), .int .i64 (n : Int)] 102)) := (Below.refl _ _).alloc (Nat.le_refl _) _
      have k0 := hNu.cell 0
      have k1 := hNu.cell 1
      have k2 := hNu.cell 2
      have k3 := hPl.cell 0
      have k4 := hPl.cell 1
      have HB : Hid (Below wr.heap.size wr (wr.alloc (.cells #[.int .i64 (lo : Int), .int .i64 (n : Int)] 102))) := hBe
      clear hp hPl hNu hBe
      go_wp2_with fail
      refine (HC.out _).mono ?_
      rintro e w2 ⟨rfl, hb2⟩
      have hB2 := bel_step HB.out hb2
      obtain ⟨c0, f0⟩ := HF.out w2 hB2
      have HQ : Hid _ := HU.out w2 hB2
      clear hB2 hb2 HB k0 k1 k2 k3 k4 HC HF HU
      go_wp2_with fail
      go_roundw
      case rel => exact ⟨j + 1, by omega, by go_num, HQ.out⟩
      case measure => simp [intOf]; omega
    · obtain rfl : j = 4 := by omega
      have r0 := hp.fld.cell 0
      have r1 := hp.fld.cell 1
      have r2 := hp.fld.cell 2
      have r3 := hp.fld.cell 3
      have s0 := hp.res.cell 0
      have s1 := hp.res.cell 1
      have s2 := hp.res.cell 2
      have s3 := hp.res.cell 3
      have f0 := hp.res.free 0
      have f1 := hp.res.free 1
      have f2 := hp.res.free 2
      have f3 := hp.res.free 3
      have HV : Hid ((tokOf V).v = .agg #[.int .i64 (gP V 4 0 : Int), .int .i64 (gP V 4 1 : Int), .int .i64 (gP V 4 2 : Int), .int .i64 (gP V 4 3 : Int)]) := rfl
      generalize ((gP V 4 0 : Nat) : Int) = v0 at *
      generalize ((gP V 4 1 : Nat) : Int) = v1 at *
      generalize ((gP V 4 2 : Nat) : Int) = v2 at *
      generalize ((gP V 4 3 : Nat) : Int) = v3 at *
      have HB : Hid (Below w.heap.size w ((((wr.setCell ⟨w.heap.size + 1, 0, none⟩ (.int .i64 v0)).setCell ⟨w.heap.size + 1, 1, none⟩ (.int .i64 v1)).setCell ⟨w.heap.size + 1, 2, none⟩ (.int .i64 v2)).setCell ⟨w.heap.size + 1, 3, none⟩ (.int .i64 v3))) := bel_set (bel_set (bel_set (bel_set hp.below _ _ _ (by omega)) _ _ _ (by omega)) _ _ _ (by omega)) _ _ _ (by omega)
      have RR : Blk ((((wr.setCell ⟨w.heap.size + 1, 0, none⟩ (.int .i64 v0)).setCell ⟨w.heap.size + 1, 1, none⟩ (.int .i64 v1)).setCell ⟨w.heap.size + 1, 2, none⟩ (.int .i64 v2)).setCell ⟨w.heap.size + 1, 3, none⟩ (.int .i64 v3)) (w.heap.size + 1) #[.int .i64 v0, .int .i64 v1, .int .i64 v2, .int .i64 v3] 44 := (((hp.res.set 0 _).set 1 _).set 2 _).set 3 _
      have R0 : Hid (_ = _) := RR.cell 0
      have R1 : Hid (_ = _) := RR.cell 1
      have R2 : Hid (_ = _) := RR.cell 2
      have R3 : Hid (_ = _) := RR.cell 3
      clear hp RR
      go_wp2_with fail
      refine bodyPost_ret (v := .agg #[.int .i64 v0, .int .i64 v1, .int .i64 v2, .int .i64 v3]) (by simp [results, Tryz.results25, R0.out, R1.out, R2.out, R3.out, go_sem]) rfl ⟨by rw [HV.out], HB.out⟩

end Go.Proofs.YtgipkpkjoicehaaGreatDoor.token

/- Wide numbers, times a small one. -/
namespace Go.Proofs.YtgipkpkjoicehaaGreatDoor.token
open Go.Proofs.YtgipkpkjoicehaaGreatDoor.words
open Go.RowKit
set_option linter.unusedSimpArgs false

/-- Three words as a wide number, and back. -/
theorem wn_ok {a b c V : Nat} (h : WN a b c V) : W3.ok ⟨a, b, c⟩ ∧ W3.val ⟨a, b, c⟩ = V := by
  have h1 := h.a1; have h2 := h.b1; have h3 := h.c1
  have h4 := h.val
  refine ⟨⟨⟨by show (0 : Int) ≤ a; omega, by show (a : Int) < _; omega⟩, ⟨by show (0 : Int) ≤ b; omega, by show (b : Int) < _; omega⟩, by show (0 : Int) ≤ c; omega, by show (c : Int) < _; omega⟩, ?_⟩
  unfold bigV at h4
  unfold W3.val
  simp only
  omega
theorem wn_of {X : W3} (h : X.ok) {V : Nat} (hV : X.val = V) : ∃ a b c : Nat, X = ⟨a, b, c⟩ ∧ WN a b c V := by
  obtain ⟨x, y, z⟩ := X
  obtain ⟨⟨h0, h0'⟩, ⟨h1, h1'⟩, h2, h2'⟩ := h
  simp only at *
  obtain ⟨a, rfl⟩ := Int.eq_ofNat_of_zero_le h0
  obtain ⟨b, rfl⟩ := Int.eq_ofNat_of_zero_le h1
  obtain ⟨c, rfl⟩ := Int.eq_ofNat_of_zero_le h2
  refine ⟨a, b, c, rfl, by omega, by omega, by omega, ?_⟩
  unfold W3.val at hV
  unfold bigV
  simp only at hV
  omega
theorem times_wn (a b c V m : Nat) (w : World) (h : WN a b c V) (hm : m < 4294967296) (hv : V * m < 79228162514264337593543950336) :
    Calls Tryz.prog 55 #[.agg #[.int .u32 (a : Int), .int .u32 (b : Int), .int .u32 (c : Int)], .int .u32 (m : Int)] w fun e w' =>
      ∃ (a' b' c' : Nat) (o : Int), e = .returned (.tuple #[.agg #[.int .u32 (a' : Int), .int .u32 (b' : Int), .int .u32 (c' : Int)], .int .u32 o]) ∧ WN a' b' c' (V * m) ∧ Below w.heap.size w w' := by
  have hk := wn_ok h
  have ht := times_any ⟨a, b, c⟩ m w hk.1 (by omega) (by omega)
  obtain ⟨a', b', c', he, hn⟩ := wn_of (X := timesW ⟨a, b, c⟩ m) (carry3_ok _ _ _) (V := V * m) (by
    rw [times_mod, hk.2]
    unfold top
    rw [← Int.natCast_mul, Int.emod_eq_of_lt (by omega) (by omega)])
  refine ht.mono ?_
  rintro e w' ⟨rfl, hb⟩
  exact ⟨a', b', c', _, by rw [he], hn, hb⟩

end Go.Proofs.YtgipkpkjoicehaaGreatDoor.token

/- Twenty digits, read. -/
namespace Go.Proofs.YtgipkpkjoicehaaGreatDoor.token
open Go.Proofs.YtgipkpkjoicehaaGreatDoor.words Go.Proofs.YtgipkpkjoicehaaGreatDoor.check
open Go.RowKit
set_option linter.unusedSimpArgs false

theorem plus_wn (a b c V m : Nat) (w : World) (h : WN a b c V) (hm : m < 4294967296) (hv : V + m < 79228162514264337593543950336) :
    Calls Tryz.prog 56 #[.agg #[.int .u32 (a : Int), .int .u32 (b : Int), .int .u32 (c : Int)], .int .u32 (m : Int)] w fun e w' =>
      ∃ (a' b' c' : Nat) (o : Int), e = .returned (.tuple #[.agg #[.int .u32 (a' : Int), .int .u32 (b' : Int), .int .u32 (c' : Int)], .int .u32 o]) ∧ WN a' b' c' (V + m) ∧ Below w.heap.size w w' := by
  have hk := wn_ok h
  have ht := plus_any ⟨a, b, c⟩ m w hk.1 (by omega) (by omega)
  obtain ⟨a', b', c', he, hn⟩ := wn_of (X := plusW ⟨a, b, c⟩ m) (carry3_ok _ _ _) (V := V + m) (by
    have h1 := plus_val ⟨a, b, c⟩ m
    have h2 := plus_over hk.1 (x := (m : Int)) (by omega) (by omega)
    have h3 := W3.bd (carry3_ok ((m : Int) + (a : Int)) b c)
    rw [hk.2] at h1
    have h4 : 0 ≤ (plusW ⟨a, b, c⟩ m).val := h3.1
    unfold top at h1
    omega)
  refine ht.mono ?_
  rintro e w' ⟨rfl, hb⟩
  exact ⟨a', b', c', _, by rw [he], hn, hb⟩

/-- While digits are read: k of them are. -/
structure Rd (w wr : World) (s : ByteArray) (k a b c : Nat) : Prop where
  below : Below w.heap.size w wr
  res : Blk wr w.heap.size #[.int .u32 0, .int .u32 0, .int .u32 0] 59
  num : Blk wr (w.heap.size + 1) #[.int .u32 (a : Int), .int .u32 (b : Int), .int .u32 (c : Int)] 59
  it : It wr (w.heap.size + 1 + 1) s k
  wn : WN a b c (dv (s.data.toList.take k))

/-- What read gives back for twenty bytes. -/
def ReadPost (w : World) (s : ByteArray) (e : Ending) (w' : World) : Prop :=
  Below w.heap.size w w' ∧ ((allD s.data.toList = true ∧ ∃ a b c : Nat, e = .returned (.tuple #[.agg #[.int .u32 (a : Int), .int .u32 (b : Int), .int .u32 (c : Int)], .int .i64 0]) ∧ WN a b c (dv s.data.toList)) ∨
    (allD s.data.toList = false ∧ e = .returned (.tuple #[.agg #[.int .u32 0, .int .u32 0, .int .u32 0], .int .i64 7])))

set_option maxHeartbeats 400000 in
theorem read_len (s : ByteArray) (w : World) (h : s.size ≠ 20) :
    Calls Tryz.prog 22 #[.string s] w fun e w' => e = .returned (.tuple #[.agg #[.int .u32 0, .int .u32 0, .int .u32 0], .int .i64 6]) ∧ Below w.heap.size w w' := by
  have hd : ((s.size : Int) != 20) = true := by simp; omega
  have hX := Blk.new w #[.int .u32 0, .int .u32 0, .int .u32 0] 59
  have HB : Hid (Below w.heap.size w (w.alloc (.cells #[.int .u32 0, .int .u32 0, .int .u32 0] 59))) := bel_box _ _
  have R0 : Hid (_ = _) := hX.cell 0
  have R1 : Hid (_ = _) := hX.cell 1
  have R2 : Hid (_ = _) := hX.cell 2
  clear h hX
  go_enter Tryz.func22, Tryz.ntmps22
  go_wp2_with fail
  refine bodyPost_ret (v := .tuple #[.agg #[.int .u32 0, .int .u32 0, .int .u32 0], .int .i64 6]) (by simp [results, Tryz.results22, R0.out, R1.out, R2.out, go_sem]) rfl ⟨rfl, HB.out⟩

set_option maxHeartbeats 2000000 in
theorem read_any (s : ByteArray) (w : World) (h : s.size = 20) :
    Calls Tryz.prog 22 #[.string s] w fun e w' => ReadPost w s e w' := by
  have hd : ((s.size : Int) != 20) = false := by simp; omega
  have hb0 : Below w.heap.size w (((w.alloc (.cells #[.int .u32 0, .int .u32 0, .int .u32 0] 59)).alloc (.cells #[.int .u32 0, .int .u32 0, .int .u32 0] 59)).iter s 0) := ((bel_box _ _).alloc (by simp) _).alloc (by simp; omega) _
  have HR0 : Hid (Rd w (((w.alloc (.cells #[.int .u32 0, .int .u32 0, .int .u32 0] 59)).alloc (.cells #[.int .u32 0, .int .u32 0, .int .u32 0] 59)).iter s 0) s 0 0 0 0) :=
    ⟨hb0, ((Blk.new _ _ _).alloc _).alloc _, (Blk.new1 _ _ _ _).alloc _, by
      have := World.iter_heap ((w.alloc (.cells #[.int .u32 0, .int .u32 0, .int .u32 0] 59)).alloc (.cells #[.int .u32 0, .int .u32 0, .int .u32 0] 59)) s 0
      rwa [show ((w.alloc (.cells #[.int .u32 0, .int .u32 0, .int .u32 0] 59)).alloc (.cells #[.int .u32 0, .int .u32 0, .int .u32 0] 59)).heap.size = w.heap.size + 1 + 1 by simp] at this, wn_zero⟩
  have HS : Hid (s.size = 20) := h
  clear h hb0
  go_enter Tryz.func22, Tryz.ntmps22
  go_wp2_with fail
  generalize (((w.alloc (.cells #[.int .u32 0, .int .u32 0, .int .u32 0] 59)).alloc (.cells #[.int .u32 0, .int .u32 0, .int .u32 0] 59)).iter s 0) = W0 at *
  go_loopw [] (fun wr => ∃ k a b c : Nat, k ≤ s.size ∧ allD (s.data.toList.take k) = true ∧ Rd w wr s k a b c) (fun wr => s.size - wr.iterPos (w.heap.size + 1 + 1))
  case atStart => exact ⟨0, 0, 0, 0, Nat.zero_le _, rfl, HR0.out⟩
  case round =>
    obtain ⟨k, a, b, c, hk, hok, hl⟩ := hrel
    have HK : Hid (allD (s.data.toList.take k) = true) := hok
    have HP0 : Hid (wr.iterPos (w.heap.size + 1 + 1) = k) := hl.it.pos
    clear hok
    by_cases hp : k < s.size
    · by_cases ha : (s[k]'hp).toNat < 128
      · have hnx : ∀ ty, (Instr.next (.pointer (some ⟨w.heap.size + 1 + 1, 0, none⟩)) true ty).run Tryz.prog wr = _ := fun ty => Lib.run_next_ascii_at wr (w.heap.size + 1 + 1) s k ty hl.it hp ha
        have HN : Hid (isD s[k] = false → allD s.data.toList = false) := allD_take_no s k hp
        have HL : Hid (((s[k].toNat : Nat) : Int) < 48 → isD s[k] = false) := fun a => isD_lo a
        have HH : Hid (57 < ((s[k].toNat : Nat) : Int) → isD s[k] = false) := fun a => isD_hi a
        have BN := Lib.below_iterAt hl.below (k := w.heap.size + 1 + 1) (by omega) s (k + 1)
        have IT : It (wr.iterAt (w.heap.size + 1 + 1) s (k + 1)) (w.heap.size + 1 + 1) s (k + 1) := Lib.iterAt_heap wr (w.heap.size + 1 + 1) s k (k + 1) hl.it
        have RN := hl.res.iter (I := w.heap.size + 1 + 1) s (k + 1) (by omega)
        have NN := hl.num.iter (I := w.heap.size + 1 + 1) s (k + 1) (by omega)
        have HW : Hid (WN a b c (dv (s.data.toList.take k))) := hl.wn
        have HD : Hid (dv (s.data.toList.take (k + 1)) = dv (s.data.toList.take k) * 10 + (s[k].toNat - 48)) := by
          show _ = _
          rw [take_snoc s k hp, dv_snoc]
        have HA : Hid (48 ≤ ((s[k].toNat : Nat) : Int) → ((s[k].toNat : Nat) : Int) ≤ 57 → allD (s.data.toList.take (k + 1)) = true) := fun h1 h2 => by
          rw [take_snoc s k hp, allD_append, HK.out]; simp [allD, isD_yes h1 h2]
        have HV : Hid (dv (s.data.toList.take k) < 100000000000000000000) := by
          have h1 := dv_lt _ HK.out
          have h2 : (s.data.toList.take k).length ≤ 20 := by
            rw [List.length_take, len_eq, HS.out]; omega
          exact Nat.lt_of_lt_of_le h1 (Nat.pow_le_pow_right (by decide) h2)
        clear ha hl
        generalize hwn : wr.iterAt (w.heap.size + 1 + 1) s (k + 1) = wn at *
        clear hwn
        have r0 := RN.cell 0
        have r1 := RN.cell 1
        have r2 := RN.cell 2
        have g0 := RN.free 0
        have g1 := RN.free 1
        have g2 := RN.free 2
        have HZ : Hid (Below w.heap.size w (set3 wn w.heap.size 0 0 0) ∧ Blk (set3 wn w.heap.size 0 0 0) w.heap.size #[.int .u32 0, .int .u32 0, .int .u32 0] 59) := ⟨bel_set3 BN _ _ _ _ (Nat.le_refl _), RN.put3 0 0 0⟩
        have c0 := NN.cell 0
        have c1 := NN.cell 1
        have c2 := NN.cell 2
        generalize s[k] = ch at *
        generalize dv (s.data.toList.take k) = V at *
        have HI : Hid (It wn (w.heap.size + 1 + 1) s (k + 1)) := IT
        have HRN : Hid (Blk wn w.heap.size #[.int .u32 0, .int .u32 0, .int .u32 0] 59) := RN
        have HNN : Hid (Blk wn (w.heap.size + 1) #[.int .u32 (a : Int), .int .u32 (b : Int), .int .u32 (c : Int)] 59) := NN
        have HBN : Hid (Below w.heap.size w wn) := BN
        clear IT RN NN BN
        generalize hcc : ch.toNat = z at *
        clear hcc
        by_cases h1 : (z : Int) < 48
        · have R0 : Hid (_ = _) := HZ.out.2.cell 0
          have R1 : Hid (_ = _) := HZ.out.2.cell 1
          have R2 : Hid (_ = _) := HZ.out.2.cell 2
          unfold set3 at *
          go_wp2_with fail
          refine bodyPost_ret (v := .tuple #[.agg #[.int .u32 0, .int .u32 0, .int .u32 0], .int .i64 7]) (by simp [results, Tryz.results22, R0.out, R1.out, R2.out, go_sem]) rfl ⟨HZ.out.1, .inr ⟨HN.out (HL.out h1), rfl⟩⟩
        · by_cases h2 : 57 < (z : Int)
          · have R0 : Hid (_ = _) := HZ.out.2.cell 0
            have R1 : Hid (_ = _) := HZ.out.2.cell 1
            have R2 : Hid (_ = _) := HZ.out.2.cell 2
            unfold set3 at *
            go_wp2_with fail
            refine bodyPost_ret (v := .tuple #[.agg #[.int .u32 0, .int .u32 0, .int .u32 0], .int .i64 7]) (by simp [results, Tryz.results22, R0.out, R1.out, R2.out, go_sem]) rfl ⟨HZ.out.1, .inr ⟨HN.out (HH.out h2), rfl⟩⟩
          · clear r0 r1 r2 g0 g1 g2 HZ HN HL HH
            obtain ⟨d, rfl⟩ : ∃ d : Nat, z = d + 48 := ⟨z - 48, by omega⟩
            have hd9 : (d : Int) ≤ 9 := by omega
            have ez : (((d + 48 : Nat) : Int)) = (d : Int) + 48 := by omega
            have ed : (d : Int) + 48 - 48 = (d : Int) := by omega
            have hwz : IntKind.u32.wrap (d : Int) = (d : Int) := by rw [IntKind.wrap_u32]; omega
            have HA' : Hid (allD (s.data.toList.take (k + 1)) = true) := HA.out (by omega) (by omega)
            have HD' : Hid (dv (s.data.toList.take (k + 1)) = V * 10 + d) := by
              have := HD.out
              rwa [show d + 48 - 48 = d by omega] at this
            have HT : Hid (∀ W, Calls Tryz.prog 55 #[.agg #[.int .u32 (a : Int), .int .u32 (b : Int), .int .u32 (c : Int)], .int .u32 10] W fun e w' => ∃ (a' b' c' : Nat) (o : Int), e = .returned (.tuple #[.agg #[.int .u32 (a' : Int), .int .u32 (b' : Int), .int .u32 (c' : Int)], .int .u32 o]) ∧ WN a' b' c' (V * 10) ∧ Below W.heap.size W w') := fun W => times_wn a b c V 10 W HW.out (by omega) (by have := HV.out; omega)
            have HPl : Hid (∀ (x y z : Nat) W, WN x y z (V * 10) → Calls Tryz.prog 56 #[.agg #[.int .u32 (x : Int), .int .u32 (y : Int), .int .u32 (z : Int)], .int .u32 (d : Int)] W fun e w' => ∃ (a' b' c' : Nat) (o : Int), e = .returned (.tuple #[.agg #[.int .u32 (a' : Int), .int .u32 (b' : Int), .int .u32 (c' : Int)], .int .u32 o]) ∧ WN a' b' c' (V * 10 + d) ∧ Below W.heap.size W w') := fun x y z W hW => plus_wn x y z (V * 10) d W hW (by omega) (by have := HV.out; omega)
            rw [ez] at h1 h2
            simp only [ez] at hnx
            clear HA HD HW HV ez
            go_wp2_with fail
            refine (HT.out _).mono ?_
            clear c0 c1 c2
            rintro e w2 ⟨a2, b2, c2, o2, rfl, hw2, hb2⟩
            have HW2 : Hid (WN a2 b2 c2 (V * 10)) := hw2
            have HB2 : Hid (Below w.heap.size w w2) := bel_step HBN.out hb2
            have HI2 : Hid (It w2 (w.heap.size + 1 + 1) s (k + 1)) := HI.out.next hb2
            have HR2 : Hid (Blk w2 w.heap.size #[.int .u32 0, .int .u32 0, .int .u32 0] 59) := HRN.out.next hb2
            have hN2 := HNN.out.next hb2
            have HN3 : Hid (Blk (set3 w2 (w.heap.size + 1) a2 b2 c2) (w.heap.size + 1) #[.int .u32 (a2 : Int), .int .u32 (b2 : Int), .int .u32 (c2 : Int)] 59) := hN2.put3 a2 b2 c2
            have HB3 : Hid (Below w.heap.size w (set3 w2 (w.heap.size + 1) a2 b2 c2)) := bel_set3 HB2.out _ _ _ _ (by omega)
            have HI3 : Hid (It (set3 w2 (w.heap.size + 1) a2 b2 c2) (w.heap.size + 1 + 1) s (k + 1)) := HI2.out.off3 (by omega) _ _ _
            have HR3 : Hid (Blk (set3 w2 (w.heap.size + 1) a2 b2 c2) w.heap.size #[.int .u32 0, .int .u32 0, .int .u32 0] 59) := HR2.out.off3 (by omega) _ _ _
            have t0 := hN2.cell 0
            have t1 := hN2.cell 1
            have t2 := hN2.cell 2
            have u0 := hN2.free 0
            have u1 := hN2.free 1
            have u2 := hN2.free 2
            clear hw2 hb2 hN2 HBN HI HRN HNN HB2 HI2 HR2 HT
            unfold set3 at HN3 HB3 HI3 HR3
            go_wp2_with fail
            generalize (((w2.setCell ⟨w.heap.size + 1, 0, none⟩ (.int .u32 (a2 : Int))).setCell ⟨w.heap.size + 1, 1, none⟩ (.int .u32 (b2 : Int))).setCell ⟨w.heap.size + 1, 2, none⟩ (.int .u32 (c2 : Int))) = W3 at *
            clear t0 t1 t2 u0 u1 u2
            refine (HPl.out _ _ _ _ HW2.out).mono ?_
            rintro e w4 ⟨a4, b4, c4, o4, rfl, hw4, hb4⟩
            have HB4 : Hid (Below w.heap.size w w4) := bel_step HB3.out hb4
            have hN4 := HN3.out.next hb4
            have HL : Hid (Rd w (set3 w4 (w.heap.size + 1) a4 b4 c4) s (k + 1) a4 b4 c4) := by
              refine ⟨bel_set3 HB4.out _ _ _ _ (by omega), (HR3.out.next hb4).off3 (by omega) _ _ _, hN4.put3 _ _ _, (HI3.out.next hb4).off3 (by omega) _ _ _, ?_⟩
              rw [HD'.out]; exact hw4
            have t0 := hN4.cell 0
            have t1 := hN4.cell 1
            have t2 := hN4.cell 2
            have u0 := hN4.free 0
            have u1 := hN4.free 1
            have u2 := hN4.free 2
            clear hw4 hb4 hN4 HB3 HI3 HR3 HN3 HB4 HPl HW2
            unfold set3 at HL
            go_wp2_with fail
            go_roundw
            case rel => exact ⟨k + 1, a4, b4, c4, by omega, HA'.out, HL.out⟩
            case measure =>
              rw [HP0.out, HL.out.it.pos]
              omega
      · have hd := (decode_high s k hp (by omega)).1
        have hnx : ∀ ty, (Instr.next (.pointer (some ⟨w.heap.size + 1 + 1, 0, none⟩)) true ty).run Tryz.prog wr = _ := fun ty => Lib.run_next_any_at wr (w.heap.size + 1 + 1) s k ty hl.it hp
        have HN : Hid (allD s.data.toList = false) := allD_take_no s k hp (isD_hi (by omega))
        have BN := fun p => Lib.below_iterAt hl.below (k := w.heap.size + 1 + 1) (by omega) s p
        have RN := fun p => hl.res.iter (I := w.heap.size + 1 + 1) s p (by omega)
        clear ha hl
        have hd2 := decode_le s k
        generalize (Utf8.decode s k).1 = r at *
        generalize (Utf8.decode s k).2 = n at *
        have BN := BN (k + n)
        have RN := RN (k + n)
        generalize hwn : wr.iterAt (w.heap.size + 1 + 1) s (k + n) = wn at *
        clear hwn
        have r0 := RN.cell 0
        have r1 := RN.cell 1
        have r2 := RN.cell 2
        have g0 := RN.free 0
        have g1 := RN.free 1
        have g2 := RN.free 2
        have HZ : Hid (Below w.heap.size w (set3 wn w.heap.size 0 0 0) ∧ Blk (set3 wn w.heap.size 0 0 0) w.heap.size #[.int .u32 0, .int .u32 0, .int .u32 0] 59) := ⟨bel_set3 BN _ _ _ _ (Nat.le_refl _), RN.put3 0 0 0⟩
        have R0 : Hid (_ = _) := HZ.out.2.cell 0
        have R1 : Hid (_ = _) := HZ.out.2.cell 1
        have R2 : Hid (_ = _) := HZ.out.2.cell 2
        clear BN RN
        unfold set3 at *
        go_wp2_with fail
        refine bodyPost_ret (v := .tuple #[.agg #[.int .u32 0, .int .u32 0, .int .u32 0], .int .i64 7]) (by simp [results, Tryz.results22, R0.out, R1.out, R2.out, go_sem]) rfl ⟨HZ.out.1, .inr ⟨HN.out, rfl⟩⟩
    · have hnx : ∀ ty, (Instr.next (.pointer (some ⟨w.heap.size + 1 + 1, 0, none⟩)) true ty).run Tryz.prog wr = _ := fun ty => Lib.run_next_end_at wr (w.heap.size + 1 + 1) s k ty hl.it hp
      have hkt : s.data.toList.take k = s.data.toList := List.take_of_length_le (by rw [len_eq]; omega)
      have HP : Hid (allD s.data.toList = true ∧ WN a b c (dv s.data.toList)) := by
        have h1 := HK.out
        have h2 := hl.wn
        rw [hkt] at h1 h2
        exact ⟨h1, h2⟩
      have r0 := hl.res.cell 0
      have r1 := hl.res.cell 1
      have r2 := hl.res.cell 2
      have g0 := hl.res.free 0
      have g1 := hl.res.free 1
      have g2 := hl.res.free 2
      have c0 := hl.num.cell 0
      have c1 := hl.num.cell 1
      have c2 := hl.num.cell 2
      have HZ : Hid (Below w.heap.size w (set3 wr w.heap.size a b c) ∧ Blk (set3 wr w.heap.size a b c) w.heap.size #[.int .u32 (a : Int), .int .u32 (b : Int), .int .u32 (c : Int)] 59) := ⟨bel_set3 hl.below _ _ _ _ (Nat.le_refl _), hl.res.put3 a b c⟩
      have R0 : Hid (_ = _) := HZ.out.2.cell 0
      have R1 : Hid (_ = _) := HZ.out.2.cell 1
      have R2 : Hid (_ = _) := HZ.out.2.cell 2
      clear hl hkt
      unfold set3 at *
      go_wp2_with fail
      refine bodyPost_ret (v := .tuple #[.agg #[.int .u32 (a : Int), .int .u32 (b : Int), .int .u32 (c : Int)], .int .i64 0]) (by simp [results, Tryz.results22, R0.out, R1.out, R2.out, go_sem]) rfl ⟨HZ.out.1, .inl ⟨HP.out.1, a, b, c, rfl, HP.out.2⟩⟩

end Go.Proofs.YtgipkpkjoicehaaGreatDoor.token

/- What Parse gives back. -/
namespace Go.Proofs.YtgipkpkjoicehaaGreatDoor.token
open Go.Proofs.YtgipkpkjoicehaaGreatDoor.words Go.Proofs.YtgipkpkjoicehaaGreatDoor.check
open Go.RowKit
set_option linter.unusedSimpArgs false

theorem over_wn (a b c V : Nat) (w : World) (h : WN a b c V) :
    Calls Tryz.prog 24 #[.agg #[.int .u32 (a : Int), .int .u32 (b : Int), .int .u32 (c : Int)], .int .u32 97] w fun e w' =>
      ∃ a' b' c' : Nat, e = .returned (.tuple #[.agg #[.int .u32 (a' : Int), .int .u32 (b' : Int), .int .u32 (c' : Int)], .int .u32 ((V % 97 : Nat) : Int), .int .i64 0]) ∧ WN a' b' c' (V / 97) ∧ Below w.heap.size w w' := by
  have hk := wn_ok h
  have ho := over_any ⟨a, b, c⟩ 97 w hk.1 (by omega) (by omega)
  have h1 := over_val ⟨a, b, c⟩ 97
  have h2 := over_left (w := ⟨a, b, c⟩) 97 (by omega)
  rw [hk.2] at h1
  have hr : overR ⟨a, b, c⟩ 97 = ((V % 97 : Nat) : Int) := by omega
  obtain ⟨a', b', c', he, hn⟩ := wn_of (over_ok hk.1 (d := 97) (by omega)) (V := V / 97) (by omega)
  refine ho.mono ?_
  rintro e w' ⟨rfl, hb⟩
  exact ⟨a', b', c', by rw [he, hr], hn, hb⟩
theorem cmp_wn (a b c V : Nat) (w : World) (h : WN a b c V) :
    Calls Tryz.prog 23 #[.agg #[.int .u32 (a : Int), .int .u32 (b : Int), .int .u32 (c : Int)], .agg #[.int .u32 0, .int .u32 0, .int .u32 4]] w fun e w' => e = .returned (.int .i64 (cmp3 (V : Int) 73786976294838206464)) ∧ Below w.heap.size w w' := by
  have hk := wn_ok h
  have hc := cmp_any ⟨a, b, c⟩ ⟨0, 0, 4⟩ w hk.1 (by unfold W3.ok; decide)
  rwa [hk.2, show W3.val ⟨0, 0, 4⟩ = 73786976294838206464 by unfold W3.val; decide] at hc

theorem bel_set4 {w w' : World} (h : Below w.heap.size w w') (x y z u : Int) : Below w.heap.size w (((((w').setCell ⟨w.heap.size, 0, none⟩ (.int .i64 x)).setCell ⟨w.heap.size, 1, none⟩ (.int .i64 y)).setCell ⟨w.heap.size, 2, none⟩ (.int .i64 z)).setCell ⟨w.heap.size, 3, none⟩ (.int .i64 u)) := bel_set (bel_set (bel_set (bel_set h _ _ _ (Nat.le_refl _)) _ _ _ (Nat.le_refl _)) _ _ _ (Nat.le_refl _)) _ _ _ (Nat.le_refl _)
theorem blk_set4 {w w' : World} {p q r v : Value} (h : Blk w' w.heap.size #[p, q, r, v] 44) (x y z u : Int) : Blk (((((w').setCell ⟨w.heap.size, 0, none⟩ (.int .i64 x)).setCell ⟨w.heap.size, 1, none⟩ (.int .i64 y)).setCell ⟨w.heap.size, 2, none⟩ (.int .i64 z)).setCell ⟨w.heap.size, 3, none⟩ (.int .i64 u)) w.heap.size #[.int .i64 x, .int .i64 y, .int .i64 z, .int .i64 u] 44 := (((h.set 0 _).set 1 _).set 2 _).set 3 _

set_option maxHeartbeats 400000 in
theorem parse_6 (s : ByteArray) (w : World) (h : s.size ≠ 20) :
    Calls Tryz.prog 12 #[.string s] w fun e w' => e = .returned (.tuple #[noTok, .int .i64 6]) ∧ Below w.heap.size w w' := by
  have HF : Hid (∀ W, Calls Tryz.prog 22 #[.string s] W fun e w' => e = .returned (.tuple #[.agg #[.int .u32 0, .int .u32 0, .int .u32 0], .int .i64 6]) ∧ Below W.heap.size W w') := fun W => read_len s W h
  have hR0 := Blk.new w #[.int .i64 0, .int .i64 0, .int .i64 0, .int .i64 0] 44
  have HR0 : Hid (Blk (w.alloc (.cells #[.int .i64 0, .int .i64 0, .int .i64 0, .int .i64 0] 44)) w.heap.size #[.int .i64 0, .int .i64 0, .int .i64 0, .int .i64 0] 44) := hR0
  have HB0 : Hid (Below w.heap.size w (w.alloc (.cells #[.int .i64 0, .int .i64 0, .int .i64 0, .int .i64 0] 44))) := bel_box _ _
  clear hR0
  clear h
  go_enter Tryz.func12, Tryz.ntmps12
  go_wp2_with fail
  refine (HF.out _).mono ?_
  rintro e w1 ⟨rfl, hb1⟩
  have hR := (HR0.out.next hb1).alloc (.cells #[.int .u32 0, .int .u32 0, .int .u32 0] 59)
  have hB := (bel_step HB0.out hb1).alloc (bel_step HB0.out hb1).size (.cells #[.int .u32 0, .int .u32 0, .int .u32 0] 59)
  clear hb1 HF HR0 HB0
  have RR := blk_set4 (w := w) hR (0) (0) (0) (0)
  have HBB : Hid (Below w.heap.size w (((((w1.alloc (.cells #[.int .u32 0, .int .u32 0, .int .u32 0] 59)).setCell ⟨w.heap.size, 0, none⟩ (.int .i64 0)).setCell ⟨w.heap.size, 1, none⟩ (.int .i64 0)).setCell ⟨w.heap.size, 2, none⟩ (.int .i64 0)).setCell ⟨w.heap.size, 3, none⟩ (.int .i64 0))) := bel_set4 hB (0) (0) (0) (0)
  have R0 : Hid (_ = _) := RR.cell 0
  have R1 : Hid (_ = _) := RR.cell 1
  have R2 : Hid (_ = _) := RR.cell 2
  have R3 : Hid (_ = _) := RR.cell 3
  have p0 := hR.cell 0
  have p1 := hR.cell 1
  have p2 := hR.cell 2
  have p3 := hR.cell 3
  have f0 := hR.free 0
  have f1 := hR.free 1
  have f2 := hR.free 2
  have f3 := hR.free 3
  clear RR hR hB
  go_wp2_with fail
  refine bodyPost_ret (v := .tuple #[.agg #[.int .i64 0, .int .i64 0, .int .i64 0, .int .i64 0], .int .i64 6]) (by simp [results, Tryz.results12, R0.out, R1.out, R2.out, R3.out, go_sem]) rfl ⟨rfl, HBB.out⟩

set_option maxHeartbeats 400000 in
theorem parse_7 (s : ByteArray) (w : World) (h : s.size = 20) (h1 : allD s.data.toList = false) :
    Calls Tryz.prog 12 #[.string s] w fun e w' => e = .returned (.tuple #[noTok, .int .i64 7]) ∧ Below w.heap.size w w' := by
  have HF : Hid (∀ W, Calls Tryz.prog 22 #[.string s] W fun e w' => e = .returned (.tuple #[.agg #[.int .u32 0, .int .u32 0, .int .u32 0], .int .i64 7]) ∧ Below W.heap.size W w') := fun W => (read_any s W h).mono fun e w' hp => by
    rcases hp.2 with ⟨hx, _⟩ | ⟨_, hx⟩
    · rw [h1] at hx; cases hx
    · exact ⟨hx, hp.1⟩
  have hR0 := Blk.new w #[.int .i64 0, .int .i64 0, .int .i64 0, .int .i64 0] 44
  have HR0 : Hid (Blk (w.alloc (.cells #[.int .i64 0, .int .i64 0, .int .i64 0, .int .i64 0] 44)) w.heap.size #[.int .i64 0, .int .i64 0, .int .i64 0, .int .i64 0] 44) := hR0
  have HB0 : Hid (Below w.heap.size w (w.alloc (.cells #[.int .i64 0, .int .i64 0, .int .i64 0, .int .i64 0] 44))) := bel_box _ _
  clear hR0
  clear h h1
  go_enter Tryz.func12, Tryz.ntmps12
  go_wp2_with fail
  refine (HF.out _).mono ?_
  rintro e w1 ⟨rfl, hb1⟩
  have hR := (HR0.out.next hb1).alloc (.cells #[.int .u32 0, .int .u32 0, .int .u32 0] 59)
  have hB := (bel_step HB0.out hb1).alloc (bel_step HB0.out hb1).size (.cells #[.int .u32 0, .int .u32 0, .int .u32 0] 59)
  clear hb1 HF HR0 HB0
  have RR := blk_set4 (w := w) hR (0) (0) (0) (0)
  have HBB : Hid (Below w.heap.size w (((((w1.alloc (.cells #[.int .u32 0, .int .u32 0, .int .u32 0] 59)).setCell ⟨w.heap.size, 0, none⟩ (.int .i64 0)).setCell ⟨w.heap.size, 1, none⟩ (.int .i64 0)).setCell ⟨w.heap.size, 2, none⟩ (.int .i64 0)).setCell ⟨w.heap.size, 3, none⟩ (.int .i64 0))) := bel_set4 hB (0) (0) (0) (0)
  have R0 : Hid (_ = _) := RR.cell 0
  have R1 : Hid (_ = _) := RR.cell 1
  have R2 : Hid (_ = _) := RR.cell 2
  have R3 : Hid (_ = _) := RR.cell 3
  have p0 := hR.cell 0
  have p1 := hR.cell 1
  have p2 := hR.cell 2
  have p3 := hR.cell 3
  have f0 := hR.free 0
  have f1 := hR.free 1
  have f2 := hR.free 2
  have f3 := hR.free 3
  clear RR hR hB
  go_wp2_with fail
  refine bodyPost_ret (v := .tuple #[.agg #[.int .i64 0, .int .i64 0, .int .i64 0, .int .i64 0], .int .i64 7]) (by simp [results, Tryz.results12, R0.out, R1.out, R2.out, R3.out, go_sem]) rfl ⟨rfl, HBB.out⟩

set_option maxHeartbeats 1000000 in
theorem parse_big2 (s : ByteArray) (V : Nat) (w : World) (ht : TTab w) (h : s.size = 20) (h1 : allD s.data.toList = true) (hV : dv s.data.toList = V) (h2 : 73786976294838206464 ≤ V) :
    Calls Tryz.prog 12 #[.string s] w fun e w' => e = .returned (.tuple #[noTok, .int .i64 2]) ∧ Below w.heap.size w w' := by
  have HF : Hid (∀ W, Calls Tryz.prog 22 #[.string s] W fun e w' => ∃ a b c : Nat, e = .returned (.tuple #[.agg #[.int .u32 (a : Int), .int .u32 (b : Int), .int .u32 (c : Int)], .int .i64 0]) ∧ WN a b c V ∧ Below W.heap.size W w') := fun W => (read_any s W h).mono fun e w' hp => by
    rcases hp.2 with ⟨_, a, b, c, he, hw⟩ | ⟨hx, _⟩
    · rw [hV] at hw; exact ⟨a, b, c, he, hw, hp.1⟩
    · rw [h1] at hx; cases hx
  have hR0 := Blk.new w #[.int .i64 0, .int .i64 0, .int .i64 0, .int .i64 0] 44
  have HR0 : Hid (Blk (w.alloc (.cells #[.int .i64 0, .int .i64 0, .int .i64 0, .int .i64 0] 44)) w.heap.size #[.int .i64 0, .int .i64 0, .int .i64 0, .int .i64 0] 44) := hR0
  have HB0 : Hid (Below w.heap.size w (w.alloc (.cells #[.int .i64 0, .int .i64 0, .int .i64 0, .int .i64 0] 44))) := bel_box _ _
  clear hR0
  have HT0 : Hid (TTab w) := ht
  have HC : Hid (cmp3 (V : Int) 73786976294838206464 = (if (73786976294838206464 : Int) < V then 1 else 0) ∧ True) := ⟨by unfold cmp3; rw [if_neg (by omega)], trivial⟩
  have hcc : (0 : Int) ≤ (if (73786976294838206464 : Int) < V then 1 else 0) := by split <;> omega
  generalize (if (73786976294838206464 : Int) < (V : Int) then (1 : Int) else 0) = cc at *
  clear h2
  clear h h1 hV ht
  go_enter Tryz.func12, Tryz.ntmps12
  go_wp2_with fail
  refine (HF.out _).mono ?_
  rintro e w1 ⟨a, b, c, rfl, hw1, hb1⟩
  have HR1 : Hid (Blk (w1.alloc (.cells #[.int .u32 (a : Int), .int .u32 (b : Int), .int .u32 (c : Int)] 59)) w.heap.size #[.int .i64 0, .int .i64 0, .int .i64 0, .int .i64 0] 44) := (HR0.out.next hb1).alloc _
  have HB1 : Hid (Below w.heap.size w (w1.alloc (.cells #[.int .u32 (a : Int), .int .u32 (b : Int), .int .u32 (c : Int)] 59))) := (bel_step HB0.out hb1).alloc (bel_step HB0.out hb1).size _
  have hN1 := Blk.new w1 #[.int .u32 (a : Int), .int .u32 (b : Int), .int .u32 (c : Int)] 59
  have HN1 : Hid (Blk (w1.alloc (.cells #[.int .u32 (a : Int), .int .u32 (b : Int), .int .u32 (c : Int)] 59)) w1.heap.size #[.int .u32 (a : Int), .int .u32 (b : Int), .int .u32 (c : Int)] 59) := hN1
  have HW : Hid (WN a b c V) := hw1
  have c0 := hN1.cell 0
  have c1 := hN1.cell 1
  have c2 := hN1.cell 2
  clear hb1 HF HR0 HB0 hw1 hN1
  go_wp2_with fail
  refine (cmp_wn a b c V _ HW.out).mono ?_
  rintro e w2 ⟨rfl, hb2⟩
  have HR2 : Hid (Blk w2 w.heap.size #[.int .i64 0, .int .i64 0, .int .i64 0, .int .i64 0] 44) := HR1.out.next hb2
  have HB2 : Hid (Below w.heap.size w w2) := bel_step HB1.out hb2
  have hN2 := HN1.out.next hb2
  have n0 := hN2.cell 0
  have n1 := hN2.cell 1
  have n2 := hN2.cell 2
  clear hb2 c0 c1 c2 HR1 HB1 HN1 hN2
  rw [HC.out.1]
  have hR := HR2.out
  have hB := HB2.out
  clear HR2 HB2
  have RR := blk_set4 (w := w) hR (0) (0) (0) (0)
  have HBB : Hid (Below w.heap.size w (((((w2).setCell ⟨w.heap.size, 0, none⟩ (.int .i64 0)).setCell ⟨w.heap.size, 1, none⟩ (.int .i64 0)).setCell ⟨w.heap.size, 2, none⟩ (.int .i64 0)).setCell ⟨w.heap.size, 3, none⟩ (.int .i64 0))) := bel_set4 hB (0) (0) (0) (0)
  have R0 : Hid (_ = _) := RR.cell 0
  have R1 : Hid (_ = _) := RR.cell 1
  have R2 : Hid (_ = _) := RR.cell 2
  have R3 : Hid (_ = _) := RR.cell 3
  have p0 := hR.cell 0
  have p1 := hR.cell 1
  have p2 := hR.cell 2
  have p3 := hR.cell 3
  have f0 := hR.free 0
  have f1 := hR.free 1
  have f2 := hR.free 2
  have f3 := hR.free 3
  clear RR hR hB
  go_wp2_with fail
  refine bodyPost_ret (v := .tuple #[.agg #[.int .i64 0, .int .i64 0, .int .i64 0, .int .i64 0], .int .i64 2]) (by simp [results, Tryz.results12, R0.out, R1.out, R2.out, R3.out, go_sem]) rfl ⟨rfl, HBB.out⟩

set_option maxHeartbeats 1000000 in
theorem parse_8 (s : ByteArray) (V : Nat) (w : World) (ht : TTab w) (h : s.size = 20) (h1 : allD s.data.toList = true) (hV : dv s.data.toList = V) (h2 : V < 73786976294838206464) (h3 : V % 97 ≠ 0) :
    Calls Tryz.prog 12 #[.string s] w fun e w' => e = .returned (.tuple #[noTok, .int .i64 8]) ∧ Below w.heap.size w w' := by
  have HF : Hid (∀ W, Calls Tryz.prog 22 #[.string s] W fun e w' => ∃ a b c : Nat, e = .returned (.tuple #[.agg #[.int .u32 (a : Int), .int .u32 (b : Int), .int .u32 (c : Int)], .int .i64 0]) ∧ WN a b c V ∧ Below W.heap.size W w') := fun W => (read_any s W h).mono fun e w' hp => by
    rcases hp.2 with ⟨_, a, b, c, he, hw⟩ | ⟨hx, _⟩
    · rw [hV] at hw; exact ⟨a, b, c, he, hw, hp.1⟩
    · rw [h1] at hx; cases hx
  have hR0 := Blk.new w #[.int .i64 0, .int .i64 0, .int .i64 0, .int .i64 0] 44
  have HR0 : Hid (Blk (w.alloc (.cells #[.int .i64 0, .int .i64 0, .int .i64 0, .int .i64 0] 44)) w.heap.size #[.int .i64 0, .int .i64 0, .int .i64 0, .int .i64 0] 44) := hR0
  have HB0 : Hid (Below w.heap.size w (w.alloc (.cells #[.int .i64 0, .int .i64 0, .int .i64 0, .int .i64 0] 44))) := bel_box _ _
  clear hR0
  have HT0 : Hid (TTab w) := ht
  have HC : Hid (cmp3 (V : Int) 73786976294838206464 = -1) := (by unfold cmp3; rw [if_pos (by omega)] : cmp3 (V : Int) 73786976294838206464 = -1)
  obtain ⟨rr, hrr⟩ : ∃ rr : Int, ((V % 97 : Nat) : Int) = rr := ⟨_, rfl⟩
  have hr : (rr != 0) = true := by simp; omega
  have HRR : Hid (((V % 97 : Nat) : Int) = rr) := hrr
  clear h2 h3 hrr
  clear h h1 hV ht
  go_enter Tryz.func12, Tryz.ntmps12
  go_wp2_with fail
  refine (HF.out _).mono ?_
  rintro e w1 ⟨a, b, c, rfl, hw1, hb1⟩
  have HR1 : Hid (Blk (w1.alloc (.cells #[.int .u32 (a : Int), .int .u32 (b : Int), .int .u32 (c : Int)] 59)) w.heap.size #[.int .i64 0, .int .i64 0, .int .i64 0, .int .i64 0] 44) := (HR0.out.next hb1).alloc _
  have HB1 : Hid (Below w.heap.size w (w1.alloc (.cells #[.int .u32 (a : Int), .int .u32 (b : Int), .int .u32 (c : Int)] 59))) := (bel_step HB0.out hb1).alloc (bel_step HB0.out hb1).size _
  have hN1 := Blk.new w1 #[.int .u32 (a : Int), .int .u32 (b : Int), .int .u32 (c : Int)] 59
  have HN1 : Hid (Blk (w1.alloc (.cells #[.int .u32 (a : Int), .int .u32 (b : Int), .int .u32 (c : Int)] 59)) w1.heap.size #[.int .u32 (a : Int), .int .u32 (b : Int), .int .u32 (c : Int)] 59) := hN1
  have HW : Hid (WN a b c V) := hw1
  have c0 := hN1.cell 0
  have c1 := hN1.cell 1
  have c2 := hN1.cell 2
  clear hb1 HF HR0 HB0 hw1 hN1
  go_wp2_with fail
  refine (cmp_wn a b c V _ HW.out).mono ?_
  rintro e w2 ⟨rfl, hb2⟩
  have HR2 : Hid (Blk w2 w.heap.size #[.int .i64 0, .int .i64 0, .int .i64 0, .int .i64 0] 44) := HR1.out.next hb2
  have HB2 : Hid (Below w.heap.size w w2) := bel_step HB1.out hb2
  have hN2 := HN1.out.next hb2
  have n0 := hN2.cell 0
  have n1 := hN2.cell 1
  have n2 := hN2.cell 2
  clear hb2 c0 c1 c2 HR1 HB1 HN1 hN2
  rw [HC.out]
  go_wp2_with fail
  refine (over_wn a b c V _ HW.out).mono ?_
  rintro e w3 ⟨a', b', c', rfl, hw3, hb3⟩
  rw [HRR.out]
  have HR3 : Hid (Blk (w3.alloc (.cells #[.int .u32 (a' : Int), .int .u32 (b' : Int), .int .u32 (c' : Int)] 59)) w.heap.size #[.int .i64 0, .int .i64 0, .int .i64 0, .int .i64 0] 44) := (HR2.out.next hb3).alloc _
  have HB3 : Hid (Below w.heap.size w (w3.alloc (.cells #[.int .u32 (a' : Int), .int .u32 (b' : Int), .int .u32 (c' : Int)] 59))) := (bel_step HB2.out hb3).alloc (bel_step HB2.out hb3).size _
  have hN3 := Blk.new w3 #[.int .u32 (a' : Int), .int .u32 (b' : Int), .int .u32 (c' : Int)] 59
  have HW3 : Hid (WN a' b' c' (V / 97)) := hw3
  clear hb3 n0 n1 n2 HR2 HB2 HW HC hw3
  clear HW3 hN3 HRR
  have hR := HR3.out
  have hB := HB3.out
  clear HR3 HB3
  have RR := blk_set4 (w := w) hR (0) (0) (0) (0)
  have HBB : Hid (Below w.heap.size w (((((w3.alloc (.cells #[.int .u32 (a' : Int), .int .u32 (b' : Int), .int .u32 (c' : Int)] 59)).setCell ⟨w.heap.size, 0, none⟩ (.int .i64 0)).setCell ⟨w.heap.size, 1, none⟩ (.int .i64 0)).setCell ⟨w.heap.size, 2, none⟩ (.int .i64 0)).setCell ⟨w.heap.size, 3, none⟩ (.int .i64 0))) := bel_set4 hB (0) (0) (0) (0)
  have R0 : Hid (_ = _) := RR.cell 0
  have R1 : Hid (_ = _) := RR.cell 1
  have R2 : Hid (_ = _) := RR.cell 2
  have R3 : Hid (_ = _) := RR.cell 3
  have p0 := hR.cell 0
  have p1 := hR.cell 1
  have p2 := hR.cell 2
  have p3 := hR.cell 3
  have f0 := hR.free 0
  have f1 := hR.free 1
  have f2 := hR.free 2
  have f3 := hR.free 3
  clear RR hR hB
  go_wp2_with fail
  refine bodyPost_ret (v := .tuple #[.agg #[.int .i64 0, .int .i64 0, .int .i64 0, .int .i64 0], .int .i64 8]) (by simp [results, Tryz.results12, R0.out, R1.out, R2.out, R3.out, go_sem]) rfl ⟨rfl, HBB.out⟩

set_option maxHeartbeats 1000000 in
theorem parse_2 (s : ByteArray) (V : Nat) (w : World) (ht : TTab w) (h : s.size = 20) (h1 : allD s.data.toList = true) (hV : dv s.data.toList = V) (h2 : V < 73786976294838206464) (h3 : V % 97 = 0) (k : Tok) (hk : tokOf (V / 97) = k) (h4 : ¬ k.ok) :
    Calls Tryz.prog 12 #[.string s] w fun e w' => e = .returned (.tuple #[noTok, .int .i64 2]) ∧ Below w.heap.size w w' := by
  have HF : Hid (∀ W, Calls Tryz.prog 22 #[.string s] W fun e w' => ∃ a b c : Nat, e = .returned (.tuple #[.agg #[.int .u32 (a : Int), .int .u32 (b : Int), .int .u32 (c : Int)], .int .i64 0]) ∧ WN a b c V ∧ Below W.heap.size W w') := fun W => (read_any s W h).mono fun e w' hp => by
    rcases hp.2 with ⟨_, a, b, c, he, hw⟩ | ⟨hx, _⟩
    · rw [hV] at hw; exact ⟨a, b, c, he, hw, hp.1⟩
    · rw [h1] at hx; cases hx
  have hR0 := Blk.new w #[.int .i64 0, .int .i64 0, .int .i64 0, .int .i64 0] 44
  have HR0 : Hid (Blk (w.alloc (.cells #[.int .i64 0, .int .i64 0, .int .i64 0, .int .i64 0] 44)) w.heap.size #[.int .i64 0, .int .i64 0, .int .i64 0, .int .i64 0] 44) := hR0
  have HB0 : Hid (Below w.heap.size w (w.alloc (.cells #[.int .i64 0, .int .i64 0, .int .i64 0, .int .i64 0] 44))) := bel_box _ _
  clear hR0
  have HT0 : Hid (TTab w) := ht
  have HC : Hid (cmp3 (V : Int) 73786976294838206464 = -1) := (by unfold cmp3; rw [if_pos (by omega)] : cmp3 (V : Int) 73786976294838206464 = -1)
  have hff : (flawT k.c k.i k.a k.t != 0) = true := by
    simp only [bne_iff_ne, ne_eq]
    exact fun h => h4 (flaw_tok.1 h)
  have hrz : V % 97 = 0 := h3
  have HFL : Hid (∀ W, TTab W → Calls Tryz.prog 26 #[.agg #[.int .i64 (k.c : Int), .int .i64 (k.i : Int), .int .i64 (k.a : Int), .int .i64 (k.t : Int)]] W fun e w' => e = .returned (.int .i64 (flawT k.c k.i k.a k.t)) ∧ Below W.heap.size W w') := fun W hW => flaw_any k.c k.i k.a k.t W hW
  have HK : Hid (tokOf (V / 97) = k) := hk
  clear h2 h3 h4 hk
  generalize flawT k.c k.i k.a k.t = ff at *
  clear h h1 hV ht
  go_enter Tryz.func12, Tryz.ntmps12
  go_wp2_with fail
  refine (HF.out _).mono ?_
  rintro e w1 ⟨a, b, c, rfl, hw1, hb1⟩
  have HR1 : Hid (Blk (w1.alloc (.cells #[.int .u32 (a : Int), .int .u32 (b : Int), .int .u32 (c : Int)] 59)) w.heap.size #[.int .i64 0, .int .i64 0, .int .i64 0, .int .i64 0] 44) := (HR0.out.next hb1).alloc _
  have HB1 : Hid (Below w.heap.size w (w1.alloc (.cells #[.int .u32 (a : Int), .int .u32 (b : Int), .int .u32 (c : Int)] 59))) := (bel_step HB0.out hb1).alloc (bel_step HB0.out hb1).size _
  have hN1 := Blk.new w1 #[.int .u32 (a : Int), .int .u32 (b : Int), .int .u32 (c : Int)] 59
  have HN1 : Hid (Blk (w1.alloc (.cells #[.int .u32 (a : Int), .int .u32 (b : Int), .int .u32 (c : Int)] 59)) w1.heap.size #[.int .u32 (a : Int), .int .u32 (b : Int), .int .u32 (c : Int)] 59) := hN1
  have HW : Hid (WN a b c V) := hw1
  have c0 := hN1.cell 0
  have c1 := hN1.cell 1
  have c2 := hN1.cell 2
  clear hb1 HF HR0 HB0 hw1 hN1
  go_wp2_with fail
  refine (cmp_wn a b c V _ HW.out).mono ?_
  rintro e w2 ⟨rfl, hb2⟩
  have HR2 : Hid (Blk w2 w.heap.size #[.int .i64 0, .int .i64 0, .int .i64 0, .int .i64 0] 44) := HR1.out.next hb2
  have HB2 : Hid (Below w.heap.size w w2) := bel_step HB1.out hb2
  have hN2 := HN1.out.next hb2
  have n0 := hN2.cell 0
  have n1 := hN2.cell 1
  have n2 := hN2.cell 2
  clear hb2 c0 c1 c2 HR1 HB1 HN1 hN2
  rw [HC.out]
  go_wp2_with fail
  refine (over_wn a b c V _ HW.out).mono ?_
  rintro e w3 ⟨a', b', c', rfl, hw3, hb3⟩
  rw [hrz]
  have HR3 : Hid (Blk (w3.alloc (.cells #[.int .u32 (a' : Int), .int .u32 (b' : Int), .int .u32 (c' : Int)] 59)) w.heap.size #[.int .i64 0, .int .i64 0, .int .i64 0, .int .i64 0] 44) := (HR2.out.next hb3).alloc _
  have HB3 : Hid (Below w.heap.size w (w3.alloc (.cells #[.int .u32 (a' : Int), .int .u32 (b' : Int), .int .u32 (c' : Int)] 59))) := (bel_step HB2.out hb3).alloc (bel_step HB2.out hb3).size _
  have hN3 := Blk.new w3 #[.int .u32 (a' : Int), .int .u32 (b' : Int), .int .u32 (c' : Int)] 59
  have HW3 : Hid (WN a' b' c' (V / 97)) := hw3
  clear hb3 n0 n1 n2 HR2 HB2 HW HC hw3
  have HT3 : Hid (TTab (w3.alloc (.cells #[.int .u32 (a' : Int), .int .u32 (b' : Int), .int .u32 (c' : Int)] 59))) := HT0.out.below HB3.out
  have m0 := hN3.cell 0
  have m1 := hN3.cell 1
  have m2 := hN3.cell 2
  clear hN3
  go_wp2_with fail
  refine (unpack_any a' b' c' (V / 97) _ HW3.out HT3.out).mono ?_
  rintro e w4 ⟨he4, hb4⟩
  have HE4 : Hid (e = .returned (tokOf (V / 97)).v) := he4
  clear he4
  rw [HK.out] at HE4
  unfold Tok.v at HE4
  obtain rfl := HE4.out
  clear HE4
  have HR4 : Hid (Blk (w4.alloc (.cells #[.int .i64 (k.c : Int), .int .i64 (k.i : Int), .int .i64 (k.a : Int), .int .i64 (k.t : Int)] 44)) w.heap.size #[.int .i64 0, .int .i64 0, .int .i64 0, .int .i64 0] 44) := (HR3.out.next hb4).alloc _
  have HB4 : Hid (Below w.heap.size w (w4.alloc (.cells #[.int .i64 (k.c : Int), .int .i64 (k.i : Int), .int .i64 (k.a : Int), .int .i64 (k.t : Int)] 44))) := (bel_step HB3.out hb4).alloc (bel_step HB3.out hb4).size _
  have hK4 := Blk.new w4 #[.int .i64 (k.c : Int), .int .i64 (k.i : Int), .int .i64 (k.a : Int), .int .i64 (k.t : Int)] 44
  have HK4 : Hid (Blk (w4.alloc (.cells #[.int .i64 (k.c : Int), .int .i64 (k.i : Int), .int .i64 (k.a : Int), .int .i64 (k.t : Int)] 44)) w4.heap.size #[.int .i64 (k.c : Int), .int .i64 (k.i : Int), .int .i64 (k.a : Int), .int .i64 (k.t : Int)] 44) := hK4
  have HT4 : Hid (TTab (w4.alloc (.cells #[.int .i64 (k.c : Int), .int .i64 (k.i : Int), .int .i64 (k.a : Int), .int .i64 (k.t : Int)] 44))) := HT0.out.below HB4.out
  have k0 := hK4.cell 0
  have k1 := hK4.cell 1
  have k2 := hK4.cell 2
  have k3 := hK4.cell 3
  clear hb4 m0 m1 m2 HR3 HB3 HT3 HW3 hK4
  go_wp2_with fail
  refine (HFL.out _ HT4.out).mono ?_
  rintro e w5 ⟨rfl, hb5⟩
  have hR := HR4.out.next hb5
  have hB := bel_step HB4.out hb5
  have hK5 := HK4.out.next hb5
  clear hb5 k0 k1 k2 k3 HR4 HB4 HT4 HK4 HFL hK5
  have RR := blk_set4 (w := w) hR (0) (0) (0) (0)
  have HBB : Hid (Below w.heap.size w (((((w5).setCell ⟨w.heap.size, 0, none⟩ (.int .i64 0)).setCell ⟨w.heap.size, 1, none⟩ (.int .i64 0)).setCell ⟨w.heap.size, 2, none⟩ (.int .i64 0)).setCell ⟨w.heap.size, 3, none⟩ (.int .i64 0))) := bel_set4 hB (0) (0) (0) (0)
  have R0 : Hid (_ = _) := RR.cell 0
  have R1 : Hid (_ = _) := RR.cell 1
  have R2 : Hid (_ = _) := RR.cell 2
  have R3 : Hid (_ = _) := RR.cell 3
  have p0 := hR.cell 0
  have p1 := hR.cell 1
  have p2 := hR.cell 2
  have p3 := hR.cell 3
  have f0 := hR.free 0
  have f1 := hR.free 1
  have f2 := hR.free 2
  have f3 := hR.free 3
  clear RR hR hB
  go_wp2_with fail
  refine bodyPost_ret (v := .tuple #[.agg #[.int .i64 0, .int .i64 0, .int .i64 0, .int .i64 0], .int .i64 2]) (by simp [results, Tryz.results12, R0.out, R1.out, R2.out, R3.out, go_sem]) rfl ⟨rfl, HBB.out⟩

set_option maxHeartbeats 1000000 in
theorem parse_0 (s : ByteArray) (V : Nat) (w : World) (ht : TTab w) (h : s.size = 20) (h1 : allD s.data.toList = true) (hV : dv s.data.toList = V) (h2 : V < 73786976294838206464) (h3 : V % 97 = 0) (k : Tok) (hk : tokOf (V / 97) = k) (h4 : k.ok) :
    Calls Tryz.prog 12 #[.string s] w fun e w' => e = .returned (.tuple #[k.v, .int .i64 0]) ∧ Below w.heap.size w w' := by
  have HF : Hid (∀ W, Calls Tryz.prog 22 #[.string s] W fun e w' => ∃ a b c : Nat, e = .returned (.tuple #[.agg #[.int .u32 (a : Int), .int .u32 (b : Int), .int .u32 (c : Int)], .int .i64 0]) ∧ WN a b c V ∧ Below W.heap.size W w') := fun W => (read_any s W h).mono fun e w' hp => by
    rcases hp.2 with ⟨_, a, b, c, he, hw⟩ | ⟨hx, _⟩
    · rw [hV] at hw; exact ⟨a, b, c, he, hw, hp.1⟩
    · rw [h1] at hx; cases hx
  have hR0 := Blk.new w #[.int .i64 0, .int .i64 0, .int .i64 0, .int .i64 0] 44
  have HR0 : Hid (Blk (w.alloc (.cells #[.int .i64 0, .int .i64 0, .int .i64 0, .int .i64 0] 44)) w.heap.size #[.int .i64 0, .int .i64 0, .int .i64 0, .int .i64 0] 44) := hR0
  have HB0 : Hid (Below w.heap.size w (w.alloc (.cells #[.int .i64 0, .int .i64 0, .int .i64 0, .int .i64 0] 44))) := bel_box _ _
  clear hR0
  have HT0 : Hid (TTab w) := ht
  have HC : Hid (cmp3 (V : Int) 73786976294838206464 = -1) := (by unfold cmp3; rw [if_pos (by omega)] : cmp3 (V : Int) 73786976294838206464 = -1)
  have hrz : V % 97 = 0 := h3
  have HFL : Hid (∀ W, TTab W → Calls Tryz.prog 26 #[.agg #[.int .i64 (k.c : Int), .int .i64 (k.i : Int), .int .i64 (k.a : Int), .int .i64 (k.t : Int)]] W fun e w' => e = .returned (.int .i64 0) ∧ Below W.heap.size W w') := fun W hW => by
    have := flaw_any k.c k.i k.a k.t W hW
    rwa [flaw_tok.2 h4] at this
  have HK : Hid (tokOf (V / 97) = k) := hk
  clear h2 h3 h4 hk
  clear h h1 hV ht
  go_enter Tryz.func12, Tryz.ntmps12
  go_wp2_with fail
  refine (HF.out _).mono ?_
  rintro e w1 ⟨a, b, c, rfl, hw1, hb1⟩
  have HR1 : Hid (Blk (w1.alloc (.cells #[.int .u32 (a : Int), .int .u32 (b : Int), .int .u32 (c : Int)] 59)) w.heap.size #[.int .i64 0, .int .i64 0, .int .i64 0, .int .i64 0] 44) := (HR0.out.next hb1).alloc _
  have HB1 : Hid (Below w.heap.size w (w1.alloc (.cells #[.int .u32 (a : Int), .int .u32 (b : Int), .int .u32 (c : Int)] 59))) := (bel_step HB0.out hb1).alloc (bel_step HB0.out hb1).size _
  have hN1 := Blk.new w1 #[.int .u32 (a : Int), .int .u32 (b : Int), .int .u32 (c : Int)] 59
  have HN1 : Hid (Blk (w1.alloc (.cells #[.int .u32 (a : Int), .int .u32 (b : Int), .int .u32 (c : Int)] 59)) w1.heap.size #[.int .u32 (a : Int), .int .u32 (b : Int), .int .u32 (c : Int)] 59) := hN1
  have HW : Hid (WN a b c V) := hw1
  have c0 := hN1.cell 0
  have c1 := hN1.cell 1
  have c2 := hN1.cell 2
  clear hb1 HF HR0 HB0 hw1 hN1
  go_wp2_with fail
  refine (cmp_wn a b c V _ HW.out).mono ?_
  rintro e w2 ⟨rfl, hb2⟩
  have HR2 : Hid (Blk w2 w.heap.size #[.int .i64 0, .int .i64 0, .int .i64 0, .int .i64 0] 44) := HR1.out.next hb2
  have HB2 : Hid (Below w.heap.size w w2) := bel_step HB1.out hb2
  have hN2 := HN1.out.next hb2
  have n0 := hN2.cell 0
  have n1 := hN2.cell 1
  have n2 := hN2.cell 2
  clear hb2 c0 c1 c2 HR1 HB1 HN1 hN2
  rw [HC.out]
  go_wp2_with fail
  refine (over_wn a b c V _ HW.out).mono ?_
  rintro e w3 ⟨a', b', c', rfl, hw3, hb3⟩
  rw [hrz]
  have HR3 : Hid (Blk (w3.alloc (.cells #[.int .u32 (a' : Int), .int .u32 (b' : Int), .int .u32 (c' : Int)] 59)) w.heap.size #[.int .i64 0, .int .i64 0, .int .i64 0, .int .i64 0] 44) := (HR2.out.next hb3).alloc _
  have HB3 : Hid (Below w.heap.size w (w3.alloc (.cells #[.int .u32 (a' : Int), .int .u32 (b' : Int), .int .u32 (c' : Int)] 59))) := (bel_step HB2.out hb3).alloc (bel_step HB2.out hb3).size _
  have hN3 := Blk.new w3 #[.int .u32 (a' : Int), .int .u32 (b' : Int), .int .u32 (c' : Int)] 59
  have HW3 : Hid (WN a' b' c' (V / 97)) := hw3
  clear hb3 n0 n1 n2 HR2 HB2 HW HC hw3
  have HT3 : Hid (TTab (w3.alloc (.cells #[.int .u32 (a' : Int), .int .u32 (b' : Int), .int .u32 (c' : Int)] 59))) := HT0.out.below HB3.out
  have m0 := hN3.cell 0
  have m1 := hN3.cell 1
  have m2 := hN3.cell 2
  clear hN3
  go_wp2_with fail
  refine (unpack_any a' b' c' (V / 97) _ HW3.out HT3.out).mono ?_
  rintro e w4 ⟨he4, hb4⟩
  have HE4 : Hid (e = .returned (tokOf (V / 97)).v) := he4
  clear he4
  rw [HK.out] at HE4
  unfold Tok.v at HE4
  obtain rfl := HE4.out
  clear HE4
  have HR4 : Hid (Blk (w4.alloc (.cells #[.int .i64 (k.c : Int), .int .i64 (k.i : Int), .int .i64 (k.a : Int), .int .i64 (k.t : Int)] 44)) w.heap.size #[.int .i64 0, .int .i64 0, .int .i64 0, .int .i64 0] 44) := (HR3.out.next hb4).alloc _
  have HB4 : Hid (Below w.heap.size w (w4.alloc (.cells #[.int .i64 (k.c : Int), .int .i64 (k.i : Int), .int .i64 (k.a : Int), .int .i64 (k.t : Int)] 44))) := (bel_step HB3.out hb4).alloc (bel_step HB3.out hb4).size _
  have hK4 := Blk.new w4 #[.int .i64 (k.c : Int), .int .i64 (k.i : Int), .int .i64 (k.a : Int), .int .i64 (k.t : Int)] 44
  have HK4 : Hid (Blk (w4.alloc (.cells #[.int .i64 (k.c : Int), .int .i64 (k.i : Int), .int .i64 (k.a : Int), .int .i64 (k.t : Int)] 44)) w4.heap.size #[.int .i64 (k.c : Int), .int .i64 (k.i : Int), .int .i64 (k.a : Int), .int .i64 (k.t : Int)] 44) := hK4
  have HT4 : Hid (TTab (w4.alloc (.cells #[.int .i64 (k.c : Int), .int .i64 (k.i : Int), .int .i64 (k.a : Int), .int .i64 (k.t : Int)] 44))) := HT0.out.below HB4.out
  have k0 := hK4.cell 0
  have k1 := hK4.cell 1
  have k2 := hK4.cell 2
  have k3 := hK4.cell 3
  clear hb4 m0 m1 m2 HR3 HB3 HT3 HW3 hK4
  go_wp2_with fail
  refine (HFL.out _ HT4.out).mono ?_
  rintro e w5 ⟨rfl, hb5⟩
  have hR := HR4.out.next hb5
  have hB := bel_step HB4.out hb5
  have hK5 := HK4.out.next hb5
  have l0 := hK5.cell 0
  have l1 := hK5.cell 1
  have l2 := hK5.cell 2
  have l3 := hK5.cell 3
  clear hb5 k0 k1 k2 k3 HR4 HB4 HT4 HK4 HFL hK5
  have RR := blk_set4 (w := w) hR ((k.c : Int)) ((k.i : Int)) ((k.a : Int)) ((k.t : Int))
  have HBB : Hid (Below w.heap.size w (((((w5).setCell ⟨w.heap.size, 0, none⟩ (.int .i64 (k.c : Int))).setCell ⟨w.heap.size, 1, none⟩ (.int .i64 (k.i : Int))).setCell ⟨w.heap.size, 2, none⟩ (.int .i64 (k.a : Int))).setCell ⟨w.heap.size, 3, none⟩ (.int .i64 (k.t : Int)))) := bel_set4 hB ((k.c : Int)) ((k.i : Int)) ((k.a : Int)) ((k.t : Int))
  have R0 : Hid (_ = _) := RR.cell 0
  have R1 : Hid (_ = _) := RR.cell 1
  have R2 : Hid (_ = _) := RR.cell 2
  have R3 : Hid (_ = _) := RR.cell 3
  have p0 := hR.cell 0
  have p1 := hR.cell 1
  have p2 := hR.cell 2
  have p3 := hR.cell 3
  have f0 := hR.free 0
  have f1 := hR.free 1
  have f2 := hR.free 2
  have f3 := hR.free 3
  clear RR hR hB
  go_wp2_with fail
  refine bodyPost_ret (v := .tuple #[.agg #[.int .i64 (k.c : Int), .int .i64 (k.i : Int), .int .i64 (k.a : Int), .int .i64 (k.t : Int)], .int .i64 0]) (by simp [results, Tryz.results12, R0.out, R1.out, R2.out, R3.out, go_sem]) rfl ⟨rfl, HBB.out⟩

/-- What Parse answers, at every text. -/
theorem parse_any (s : ByteArray) (w : World) (ht : TTab w) :
    Calls Tryz.prog 12 #[.string s] w fun e w' => e = .returned (.tuple #[parseV s.data.toList, .int .i64 (parseE s.data.toList)]) ∧ Below w.heap.size w w' := by
  have hl := len_eq s
  by_cases h : s.size = 20
  · cases h1 : allD s.data.toList with
    | false =>
      obtain ⟨e1, e2⟩ := parse_dig (l := s.data.toList) (by omega) h1
      rw [e1, e2]; exact parse_7 s w h h1
    | true =>
      by_cases h2 : dv s.data.toList < 73786976294838206464
      · by_cases h3 : dv s.data.toList % 97 = 0
        · cases h4 : okB (tokOf (dv s.data.toList / 97)) with
          | false =>
            obtain ⟨e1, e2⟩ := parse_no (l := s.data.toList) (by omega) h1 h2 h3 h4
            rw [e1, e2]
            exact parse_2 s _ w ht h h1 rfl h2 h3 _ rfl (fun hk => by rw [okB_ok.2 hk] at h4; cases h4)
          | true =>
            obtain ⟨e1, e2⟩ := Go.Proofs.YtgipkpkjoicehaaGreatDoor.token.parse_ok (l := s.data.toList) (by omega) h1 h2 h3 h4
            rw [e1, e2]
            exact parse_0 s _ w ht h h1 rfl h2 h3 _ rfl (okB_ok.1 h4)
        · obtain ⟨e1, e2⟩ := parse_chk (l := s.data.toList) (by omega) h1 h2 h3
          rw [e1, e2]; exact parse_8 s _ w ht h h1 rfl h2 h3
      · obtain ⟨e1, e2⟩ := parse_big (l := s.data.toList) (by omega) h1 (by omega)
        rw [e1, e2]; exact parse_big2 s _ w ht h h1 rfl (by omega)
  · obtain ⟨e1, e2⟩ := parse_len (l := s.data.toList) (by omega)
    rw [e1, e2]; exact parse_6 s w h

end Go.Proofs.YtgipkpkjoicehaaGreatDoor.token
