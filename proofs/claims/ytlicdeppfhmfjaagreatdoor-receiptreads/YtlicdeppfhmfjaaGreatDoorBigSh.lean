/- Shifts of a number of any size. -/
import Derived.Test.YtlicdeppfhmfjaaGreatDoorBigLen
namespace Go.Proofs.YtlicdeppfhmfjaaGreatDoor.words
open Go.RowKit
set_option maxRecDepth 100000

theorem or_low {r q s : Nat} (hr : r < 2 ^ s) : r ||| q * 2 ^ s = r + q * 2 ^ s := by
  have h := Nat.shiftLeft_add_eq_or_of_lt hr q
  rw [Nat.shiftLeft_eq] at h
  rw [Nat.or_comm, ← h, Nat.add_comm]
theorem pow_parts {s : Nat} (hs : s < 32) : ∃ C, 4294967296 = 2 ^ s * C ∧ 0 < C := ⟨2 ^ (32 - s), by rw [← Nat.pow_add, show s + (32 - s) = 32 by omega], Nat.two_pow_pos _⟩

/-- A word times 2^s: its low word is a multiple of 2^s, its high word is below 2^s. -/
theorem shl_parts {x s : Nat} (hx : x < 4294967296) (hs : s < 32) : ∃ q hi, x * 2 ^ s % 4294967296 = q * 2 ^ s ∧ x * 2 ^ s / 4294967296 = hi ∧ hi < 2 ^ s ∧ q * 2 ^ s + 2 ^ s ≤ 4294967296 ∧ x * 2 ^ s < 18446744073709551616 := by
  obtain ⟨C, hC, hC0⟩ := pow_parts hs
  have hP : 0 < 2 ^ s := Nat.two_pow_pos _
  have hP2 : 2 ^ s ≤ 2 ^ 31 := Nat.pow_le_pow_right (by decide) (by omega)
  refine ⟨x % C, x * 2 ^ s / 4294967296, ?_, rfl, ?_, ?_, ?_⟩
  · rw [hC, Nat.mul_comm x, Nat.mul_mod_mul_left, Nat.mul_comm]
  · rw [Nat.div_lt_iff_lt_mul (by decide), Nat.mul_comm]
    exact Nat.mul_lt_mul_of_pos_left hx hP
  · have : x % C < C := Nat.mod_lt _ hC0
    rw [hC, ← Nat.succ_mul, Nat.mul_comm]
    exact Nat.mul_le_mul_left _ this
  · have : x * 2 ^ s ≤ x * 2 ^ 31 := Nat.mul_le_mul_left _ hP2
    omega

theorem or32_low {r q s : Nat} (hr : r < 2 ^ s) (hq : q * 2 ^ s + 2 ^ s ≤ 4294967296) : bits .or .u32 (r : Int) ((q * 2 ^ s : Nat) : Int) = ((r + q * 2 ^ s : Nat) : Int) := by
  rw [or32 r (q * 2 ^ s) (by omega) (by omega), or_low hr]
theorem or32_zero {r : Nat} (hr : r < 4294967296) : bits .or .u32 0 (r : Int) = (r : Int) := by
  have := or32 0 r (by omega) (by omega)
  rw [Nat.zero_or] at this
  exact this

/-- A word more, shifted up. -/
theorem left_step {N W P A I x lo hi r z : Nat} (h : N = W * P * A) (hv : lo + 4294967296 * hi = x * P) (hz : z = r + lo) {N0 : Nat} (hN : N = N0 + W * I * r) :
    (N0 + W * I * z) + W * I * 4294967296 * hi = W * P * (A + I * x) := by
  rw [hz, Nat.mul_add (W * I), Nat.mul_assoc (W * I) 4294967296 hi, Nat.mul_add (W * P), ← h, hN]
  have : W * P * (I * x) = W * I * (x * P) := by
    rw [Nat.mul_assoc, Nat.mul_assoc, Nat.mul_left_comm P I x, Nat.mul_comm P x]
  rw [this, ← hv, Nat.mul_add]
  omega

/-- The words so far of a number shifted up. -/
def LeftInv (la : List Nat) (n wd s i : Nat) (f : Nat → Nat) : Prop := (∀ j, j < n + wd + 1 → f j < 4294967296) ∧ (∀ j, i + wd < j → f j = 0) ∧ f (i + wd) < 2 ^ s ∧ nf f (i + wd + 1) = 4294967296 ^ wd * 2 ^ s * nf (fun j => la.getD j 0) i

theorem left_next {la : List Nat} {n wd s i : Nat} {f : Nat → Nat} (h : LeftInv la n wd s i f) {q hi : Nat} (hl : la.getD i 0 * 2 ^ s % 4294967296 = q * 2 ^ s) (hh : la.getD i 0 * 2 ^ s / 4294967296 = hi) (h1 : hi < 2 ^ s) (h2 : q * 2 ^ s + 2 ^ s ≤ 4294967296) :
    LeftInv la n wd s (i + 1) (updU (updU f (i + wd) (f (i + wd) + q * 2 ^ s)) (i + wd + 1) hi) := by
  obtain ⟨b1, b2, b3, b4⟩ := h
  have hs : 2 ^ s ≤ 4294967296 := by omega
  refine ⟨fun j hj => ?_, fun j hj => ?_, ?_, ?_⟩
  · unfold updU
    split
    · omega
    · split
      · omega
      · exact b1 j hj
  · unfold updU
    rw [if_neg (by omega), if_neg (by omega)]
    exact b2 j (by omega)
  · rw [show i + 1 + wd = i + wd + 1 by omega]
    unfold updU
    rw [if_pos rfl]
    exact h1
  · rw [show i + 1 + wd + 1 = (i + wd + 1) + 1 by omega, nf, nf, nf]
    have e1 : nf (updU (updU f (i + wd) (f (i + wd) + q * 2 ^ s)) (i + wd + 1) hi) (i + wd) = nf f (i + wd) := nf_congr fun j hj => by
      unfold updU
      rw [if_neg (by omega), if_neg (by omega)]
    have e2 : updU (updU f (i + wd) (f (i + wd) + q * 2 ^ s)) (i + wd + 1) hi (i + wd) = f (i + wd) + q * 2 ^ s := by
      unfold updU
      rw [if_neg (by omega), if_pos rfl]
    have e3 : updU (updU f (i + wd) (f (i + wd) + q * 2 ^ s)) (i + wd + 1) hi (i + wd + 1) = hi := by
      unfold updU
      rw [if_pos rfl]
    rw [e1, e2, e3]
    rw [nf] at b4
    have hp : 4294967296 ^ (i + wd) = 4294967296 ^ wd * 4294967296 ^ i := by rw [← Nat.pow_add, Nat.add_comm]
    have hp1 : 4294967296 ^ (i + wd + 1) = 4294967296 ^ wd * 4294967296 ^ i * 4294967296 := by rw [Nat.pow_succ, hp]
    rw [hp] at b4
    rw [hp, hp1]
    have hv : q * 2 ^ s + 4294967296 * hi = la.getD i 0 * 2 ^ s := by rw [← hl, ← hh]; omega
    exact left_step (N := nf f (i + wd) + 4294967296 ^ wd * 4294967296 ^ i * f (i + wd)) (A := nf (fun j => la.getD j 0) i) (I := 4294967296 ^ i) (x := la.getD i 0) (r := f (i + wd)) b4 hv rfl rfl

theorem left_end {la : List Nat} {n wd s : Nat} {f : Nat → Nat} (h : LeftInv la n wd s n f) (hl : la.length ≤ n) : nv ((List.range (n + wd + 1)).map f) = nv la * 2 ^ (32 * wd + s) := by
  rw [nv_range, h.2.2.2, ← nv_more la hl, pow32, ← Nat.pow_add, Nat.mul_comm]

set_option maxHeartbeats 2000000 in
theorem left_some (a : Option Addr) (n ca wd s : Nat) (la : List Nat) (w : World) (ha : Ru w a n ca la) (n0 : n ≠ 0) (hn : n ≤ 100) (hw : wd ≤ 100) (hs : s < 32) :
    Calls Tryz.prog 151 #[.slice a n ca, .int .u64 ((32 * wd + s : Nat) : Int)] w fun e w' => Gives w (nv la * 2 ^ (32 * wd + s)) e w' := by
  obtain ⟨i0, hi, hz0, hz1, hz2⟩ := info_parts info_u32
  have HA : Hid (Ru w a n ca la) := ha
  have z1 : ((n : Int) == 0) = false := beq_eq_false_iff_ne.2 (by omega)
  have ew : ((32 * wd + s : Nat) : Int) / 32 = (wd : Int) := by omega
  have es : ((32 * wd + s : Nat) : Int) % 32 = (s : Int) := by omega
  have HFin : Hid (∀ f, LeftInv la n wd s n f → nv ((List.range (n + wd + 1)).map f) = nv la * 2 ^ (32 * wd + s)) := fun f h => left_end h (by rw [HA.out.len]; exact Nat.le_refl _)
  generalize 2 ^ (32 * wd + s) = PP at *
  have hsh : 32 * wd + s < 4000 := by omega
  generalize 32 * wd + s = sft at *
  clear ha
  go_enter Tryz.func151, Tryz.ntmps151
  go_wp2_with (first
    | (at_make; refine wpList_make_full _ rfl _ _ 102 rfl w.heap.size 83 i0 (.int .u32 0) 1 Tryz.underlying102 hi hz0 hz1 _ _ _ _ (n + wd + 1) rfl rfl ?c0 ?c1 ?c2 ?c3 ?c4 ?_))
  try (case c0 => first | rfl | (congr 1; omega))
  try (case c1 => first | rfl | (congr 1; omega))
  case c2 => first | omega | (rw [hz2]; omega)
  case c3 => unfold maxLen; omega
  try (case c4 => simp)
  intro w1 hown hgr
  have HR1 : Hid (RowU w1 w.heap.size (n + wd + 1) (fun _ => 0)) := rowU_made hown
  have HB1 : Hid (Below w.heap.size w w1) := (Below.refl _ _).grown hgr (Nat.le_refl _) (fun k hk => by cases hk)
  clear hown hgr hi hz0 hz1 hz2
  go_wp2_with fail
  go_loopw [8] (fun iv wr => ∃ (i : Nat) (f : Nat → Nat), i ≤ n ∧ iv = .int .i64 i ∧ RowU wr w.heap.size (n + wd + 1) f ∧ Below w.heap.size w wr ∧ LeftInv la n wd s i f) (fun iv _ => n - (intOf iv).toNat)
  case atStart => exact ⟨0, fun _ => 0, Nat.zero_le _, rfl, HR1.out, HB1.out, fun _ _ => (by decide : 0 < 4294967296), fun _ _ => rfl, Nat.two_pow_pos _, by rw [nf_zero fun _ _ => rfl, nf, Nat.mul_zero]⟩
  case round =>
    obtain ⟨i, f, hin, rfl, hrow, hb, hinv⟩ := hrel
    by_cases hlt : i < n
    · obtain ⟨ba, oa, rfl, hca⟩ := (HA.out.below hb).at hlt
      have hx := HA.out.word i
      obtain ⟨q, hi, hq, hhi, hh1, hq2, hv⟩ := shl_parts hx hs
      have hnx := left_next hinv hq hhi hh1 hq2
      have r0 := hrow.cell (i := i + wd) (by omega)
      have f0 := hrow.free (i + wd)
      have rr := hrow.set (i + wd) (f (i + wd) + q * 2 ^ s)
      have r1 := rr.cell (i := i + wd + 1) (by omega)
      have f1 := rr.free (i + wd + 1)
      have HN : Hid (RowU ((wr.setCell ⟨w.heap.size, i + wd, none⟩ (.int .u32 ((f (i + wd) + q * 2 ^ s : Nat) : Int))).setCell ⟨w.heap.size, i + wd + 1, none⟩ (.int .u32 (hi : Int))) w.heap.size (n + wd + 1) (updU (updU f (i + wd) (f (i + wd) + q * 2 ^ s)) (i + wd + 1) hi)) := rr.set _ _
      have HBN : Hid (Below w.heap.size w ((wr.setCell ⟨w.heap.size, i + wd, none⟩ (.int .u32 ((f (i + wd) + q * 2 ^ s : Nat) : Int))).setCell ⟨w.heap.size, i + wd + 1, none⟩ (.int .u32 (hi : Int)))) := below_set (below_set hb _ _ _ (Nat.le_refl _)) _ _ _ (Nat.le_refl _)
      have HI : Hid (LeftInv la n wd s (i + 1) (updU (updU f (i + wd) (f (i + wd) + q * 2 ^ s)) (i + wd + 1) hi)) := hnx
      have eu : updU f (i + wd) (f (i + wd) + q * 2 ^ s) (i + wd + 1) = 0 := by
        unfold updU
        rw [if_neg (by omega)]
        exact hinv.2.1 _ (by omega)
      rw [eu] at r1
      have hor := or32_low hinv.2.2.1 hq2
      have hhl : hi < 4294967296 := by omega
      have hor2 := or32_zero hhl
      obtain ⟨x, hxx⟩ : ∃ x, la.getD i 0 = x := ⟨_, rfl⟩
      rw [hxx] at hca hx hq hhi hv
      have hshl : IntKind.u64.wrap ((x : Int) * 2 ^ s) = ((x * 2 ^ s : Nat) : Int) := by
        rw [IntKind.wrap_u64]
        have : (x : Int) * 2 ^ s = ((x * 2 ^ s : Nat) : Int) := by simp
        rw [this]
        omega
      have hz : f (i + wd) + q * 2 ^ s < 4294967296 := by have := hinv.2.2.1; omega
      have fb := hinv.1 (i + wd) (by omega)
      clear hnx hinv rr hrow hb eu hxx hq2 hh1
      obtain ⟨z, hzz⟩ : ∃ z, f (i + wd) + q * 2 ^ s = z := ⟨_, rfl⟩
      rw [hzz] at HN HBN HI hor hz r1 f1
      obtain ⟨lo, hlo⟩ : ∃ lo, q * 2 ^ s = lo := ⟨_, rfl⟩
      rw [hlo] at hq hor
      obtain ⟨v, hvv⟩ : ∃ v, x * 2 ^ s = v := ⟨_, rfl⟩
      rw [hvv] at hq hhi hv hshl
      obtain ⟨r, hrr⟩ : ∃ r, f (i + wd) = r := ⟨_, rfl⟩
      rw [hrr] at r0 hor fb
      clear hzz hlo hvv hrr
      have e1 : ((v : Nat) : Int) % 4294967296 = (lo : Int) := by omega
      have e2 : ((v : Nat) : Int) / 4294967296 = (hi : Int) := by omega
      have e3 : ((hi : Nat) : Int) % 4294967296 = (hi : Int) := by omega
      clear hq hhi
      go_wp2_with fail
      go_roundw
      case rel => exact ⟨i + 1, _, by omega, by go_num, HN.out, HBN.out, HI.out⟩
      case measure => simp [intOf]; omega
    · obtain rfl : i = n := by omega
      have HN : Hid (Ru wr (some ⟨w.heap.size, 0, none⟩) (i + wd + 1) (i + wd + 1) ((List.range (i + wd + 1)).map f)) := hrow.ru hinv.1
      have HB : Hid (Below w.heap.size w wr) := hb
      have HE : Hid (nv ((List.range (i + wd + 1)).map f) = nv la * PP) := HFin.out f hinv
      clear hrow hb hinv hlt
      go_wp2_with fail
      refine (trim_any _ _ _ _ _ HN.out (by omega)).mono ?_
      rintro e w3 ⟨a3, n3, c3, rfl, hr3, hb3⟩
      rw [HE.out] at hr3
      have HG : Hid (Gives w (nv la * PP) (.returned (.slice a3 n3 c3)) w3) := Gives.mk hr3 (HB.out.trans (hb3.mono HB.out.size))
      clear hr3 hb3
      go_wp2_with fail
      go_ret
      exact HG.out

theorem left_any (a : Option Addr) (n ca wd s : Nat) (la : List Nat) (w : World) (ha : Ru w a n ca la) (hn : n ≤ 100) (hw : wd ≤ 100) (hs : s < 32) :
    Calls Tryz.prog 151 #[.slice a n ca, .int .u64 ((32 * wd + s : Nat) : Int)] w fun e w' => Gives w (nv la * 2 ^ (32 * wd + s)) e w' := by
  by_cases n0 : n = 0
  · subst n0
    have el : la = [] := List.eq_nil_of_length_eq_zero ha.len
    have HG : Hid (Gives w (nv la * 2 ^ (32 * wd + s)) (.returned (.slice none 0 0)) w) := Gives.mk (by rw [el, nv, Nat.zero_mul, dig_zero]; exact ru_nil w) (Below.refl _ _)
    clear ha el
    generalize nv la * 2 ^ (32 * wd + s) = M at *
    generalize ((32 * wd + s : Nat) : Int) = sft at *
    go_enter Tryz.func151, Tryz.ntmps151
    go_wp2_with fail
    go_ret
    exact HG.out
  · exact left_some a n ca wd s la w ha n0 hn hw hs

end Go.Proofs.YtlicdeppfhmfjaaGreatDoor.words
