/- Division of numbers of any size: the short ways. Long division by a power of 2 with two words or more: plain facts. Words laid over the head of a row by copy; what the long division's walk needs of left. Long division by a power of 2 with two words or more: the walk. -/
import Derived.Test.YtmpjmcfgikmgnaaDoorBigM2
import Derived.Test.YtmpjmcfgikmgnaaDoorBigM1
import Derived.Laws.CopyOwn
namespace Go.Proofs.YtmpjmcfgikmgnaaDoor.words
open Go.RowKit
set_option maxRecDepth 100000

theorem plain_val {m : Nat} (h : (dig m).length ≤ 2) : m = (dig m).getD 0 0 + 4294967296 * (dig m).getD 1 0 := by
  have e := dig_nf m
  have h2 : nf (fun i => (dig m).getD i 0) 2 = m := by
    rw [← nv_more (dig m) h, nv_dig]
  rw [nf, nf, nf] at h2
  simp at h2
  rw [List.getD_eq_getElem?_getD, List.getD_eq_getElem?_getD]
  omega

theorem plain_any (a : Option Addr) (n ca m : Nat) (w : World) (ha : Ru w a n ca (dig m)) (hn : n ≤ 2) :
    Calls Tryd.prog 87 #[.slice a n ca] w fun e w' => e = .returned (.int .u64 (m : Int)) ∧ w' = w := by
  have el := ha.len
  have hp := plain_val (m := m) (by omega)
  have hx := ha.word 0
  have hy := ha.word 1
  have h1 : n < 2 → (dig m).getD 1 0 = 0 := fun h => by simp [List.getD, List.getElem?_eq_none (show (dig m).length ≤ 1 by omega)]
  have h0 : n < 1 → (dig m).getD 0 0 = 0 := fun h => by simp [List.getD, List.getElem?_eq_none (show (dig m).length ≤ 0 by omega)]
  rcases (by omega : n = 0 ∨ n = 1 ∨ n = 2) with rfl | rfl | rfl
  · have hm : m = 0 := by rw [h0 (by omega), h1 (by omega)] at hp; omega
    subst hm
    clear ha el hp hx hy h0 h1
    go_enter Tryd.func87, Tryd.ntmps87
    go_wp2_with fail
    go_ret
    exact ⟨rfl, rfl⟩
  · obtain ⟨ba, oa, rfl, hca⟩ := ha.at (i := 0) (by omega)
    rw [h1 (by omega)] at hp
    have hp' : (dig m).getD 0 0 = m := by omega
    rw [hp', Nat.add_zero] at hca
    rw [hp'] at hx
    clear ha el hp hy h0 h1 hp'
    go_enter Tryd.func87, Tryd.ntmps87
    go_wp2_with fail
    go_ret
    exact ⟨rfl, rfl⟩
  · obtain ⟨ba, oa, rfl, hca⟩ := ha.at (i := 0) (by omega)
    obtain ⟨bb, ob, hab, hcb⟩ := ha.at (i := 1) (by omega)
    simp only [Option.some.injEq, Addr.mk.injEq, and_true] at hab
    obtain ⟨rfl, rfl⟩ := hab
    obtain ⟨x, hxx⟩ : ∃ x, (dig m).getD 0 0 = x := ⟨_, rfl⟩
    obtain ⟨y, hyy⟩ : ∃ y, (dig m).getD 1 0 = y := ⟨_, rfl⟩
    rw [hxx, Nat.add_zero] at hca
    rw [hxx] at hx hp
    rw [hyy] at hcb hy hp
    have hor := or_words' y x (by omega) (by omega) (by omega) (by omega)
    have ev : (y : Int) * 4294967296 + (x : Int) = (m : Int) := by omega
    rw [ev] at hor
    clear ha el hp h0 h1 hxx hyy ev
    go_enter Tryd.func87, Tryd.ntmps87
    go_wp2_with fail
    go_ret
    exact ⟨rfl, rfl⟩

theorem dig_le {M m : Nat} (h : M ≤ m) : (dig M).length ≤ (dig m).length := by
  rcases Nat.lt_or_ge (dig m).length (dig M).length with h1 | h1
  · have := len_less h1; omega
  · exact h1

/-- A quotient and a rest were given back, both of any size. -/
def DivGives (w : World) (q r : Nat) (e : Ending) (w' : World) : Prop := ∃ a n c a' n' c', e = .returned (.tuple #[.slice a n c, .slice a' n' c']) ∧ Ru w' a n c (dig q) ∧ Ru w' a' n' c' (dig r) ∧ Below w.heap.size w w'

theorem Ru.drewN {w : World} {a : Option Addr} {n cap : Nat} {l : List Nat} (h : Ru w a n cap l) (q : Nat) : Ru (w.drewN q) a n cap l := ⟨h.len, h.lt, h.nil, h.room, h.cell, h.typ⟩
theorem dig_none {m n : Nat} (h : (dig m).length = n) (hm : 0 < m) : n ≠ 0 := by
  intro e
  rw [e] at h
  have := dig_nil (List.eq_nil_of_length_eq_zero h)
  omega

set_option maxRecDepth 100000 in
set_option maxHeartbeats 2000000 in
theorem div_less (a b : Option Addr) (n k ca cb m d : Nat) (w : World) (ha : Ru w a n ca (dig m)) (hb : Ru w b k cb (dig d)) (hn : n ≤ 100) (hk : k ≤ 100) (hlt : m < d) :
    Calls Tryd.prog 70 #[.slice a n ca, .slice b k cb] w fun e w' => DivGives w 0 m e w' := by
  have k0 := dig_none hb.len (by omega)
  have kz : ((k : Int) == 0) = false := beq_eq_false_iff_ne.2 (by omega)
  have HA : Hid (Ru w a n ca (dig m)) := ha
  have HC := bigcmp_any a b n k ca cb m d w ha hb hn hk
  have HC' : Hid (Calls Tryd.prog 85 #[.slice a n ca, .slice b k cb] w fun e w' => CmpPost w m d e w') := HC
  have hcm : cmp3 (m : Int) (d : Int) = -1 := cmp3_lt (by omega)
  clear ha hb HC hlt
  go_enter Tryd.func70, Tryd.ntmps70
  go_wp2_with fail
  refine HC'.out.mono ?_
  rintro e w1 ⟨rfl, q, rfl⟩
  rw [hcm]
  go_wp2_with fail
  refine (twin_any a n ca m _ (HA.out.drewN q) hn).mono ?_
  rintro e w2 ⟨a2, n2, c2, rfl, hr2, hb2⟩
  have HG : Hid (DivGives w 0 m (.returned (.tuple #[.slice none 0 0, .slice a2 n2 c2])) w2) := ⟨none, 0, 0, a2, n2, c2, rfl, by rw [dig_zero]; exact ru_nil w2, hr2, (below_drewN (Below.refl _ w) q).trans hb2⟩
  clear hr2 hb2
  go_wp2_with fail
  refine bodyPost_ret (v := .tuple #[.slice none 0 0, .slice a2 n2 c2]) (by simp [results, Tryd.results70, go_sem]) rfl HG.out

theorem ru_one (w : World) (x : Nat) (hx : x < 4294967296) : Ru (w.alloc (.cells #[.int .u32 (x : Int)] 28)) (some ⟨w.heap.size, 0, none⟩) 1 1 [x] := by
  refine ⟨rfl, ?_, (fun h => by cases h), Nat.le_refl _, .inr ⟨w.heap.size, 0, rfl, fun i hi => ?_⟩, fun b off s e _ => by obtain ⟨rfl, -, -⟩ := (by simpa using e : w.heap.size = b ∧ 0 = off ∧ none = s); exact ty_new _ _⟩
  · intro z hz; simp at hz; omega
  · match i, hi with
    | 0, _ => simp

set_option maxRecDepth 100000 in
set_option maxHeartbeats 2000000 in
theorem div_one (a b : Option Addr) (n ca cb m d : Nat) (w : World) (ha : Ru w a n ca (dig m)) (hb : Ru w b 1 cb (dig d)) (hn : n ≤ 100) (hn2 : 2 < n) :
    Calls Tryd.prog 70 #[.slice a n ca, .slice b 1 cb] w fun e w' => DivGives w (m / d) (m % d) e w' := by
  have HA : Hid (Ru w a n ca (dig m)) := ha
  have HC := bigcmp_any a b n 1 ca cb m d w ha hb hn (by omega)
  have HC' : Hid (Calls Tryd.prog 85 #[.slice a n ca, .slice b 1 cb] w fun e w' => CmpPost w m d e w') := HC
  have hgt : d < m := len_less (by rw [ha.len, hb.len]; omega)
  have hcm : cmp3 (m : Int) (d : Int) = 1 := cmp3_gt (by omega)
  obtain ⟨bb, ob, rfl, hcb⟩ := hb.at (i := 0) (by omega)
  have hd0 : d ≠ 0 := by
    intro e
    have h := hb.len
    rw [e, dig_zero] at h
    simp at h
  have hdd : (dig d).getD 0 0 = d := by
    have h := dig_nf d
    rw [hb.len, nf, nf] at h
    simpa using h
  have hdl : d < 4294967296 := by rw [← hdd]; exact hb.word 0
  rw [hdd] at hcb
  have hcb' : ∀ q, (w.drewN q).cell? ⟨bb, ob, none⟩ = some (.int .u32 (d : Int)) := fun q => hcb
  have hrl : m % d < 4294967296 := by have := Nat.mod_lt m (show 0 < d by omega); omega
  have hn2' : ¬ (n : Int) ≤ 2 := by omega
  clear ha hb HC hgt hdd
  go_enter Tryd.func70, Tryd.ntmps70
  go_wp2_with fail
  refine HC'.out.mono ?_
  rintro e w1 ⟨rfl, q, rfl⟩
  rw [hcm]
  have hcc := hcb' q
  go_wp2_with fail
  refine (small_any a n ca d (dig m) _ (HA.out.drewN q) hn (by omega) hdl).mono ?_
  rintro e w2 ⟨a2, n2, c2, rfl, hr2, hb2, _⟩
  rw [nv_dig] at hr2
  rw [nv_dig]
  have HR2 : Hid (Ru w2 a2 n2 c2 (dig (m / d))) := hr2
  have HB2 : Hid (Below w.heap.size w w2) := (below_drewN (Below.refl _ w) q).trans hb2
  clear hr2 hb2 hcb hcb' hcc
  generalize hrr : m % d = r at *
  go_wp2_with fail
  refine (trim_any _ _ _ [r] _ (ru_one w2 r hrl) (by omega)).mono ?_
  rintro e w3 ⟨a3, n3, c3, rfl, hr3, hb3⟩
  have e3 : nv [r] = r := by simp [nv]
  rw [e3] at hr3
  have hal := (Below.refl _ w2).alloc (Nat.le_refl _) (.cells #[.int .u32 (r : Int)] 28)
  have hb4 := hal.trans (hb3.mono hal.size)
  have HG : Hid (DivGives w (m / d) (m % d) (.returned (.tuple #[.slice a2 n2 c2, .slice a3 n3 c3])) w3) := by
    rw [hrr]
    exact ⟨a2, n2, c2, a3, n3, c3, rfl, HR2.out.below hb4, hr3, HB2.out.trans (hb4.mono HB2.out.size)⟩
  clear hr3 hb3 hal hb4
  go_wp2_with fail
  refine bodyPost_ret (v := .tuple #[.slice a2 n2 c2, .slice a3 n3 c3]) (by simp [results, Tryd.results70, go_sem]) rfl HG.out

set_option maxRecDepth 100000 in
set_option maxHeartbeats 2000000 in
theorem div_two (a b : Option Addr) (n k ca cb m d : Nat) (w : World) (ha : Ru w a n ca (dig m)) (hb : Ru w b k cb (dig d)) (hn2 : n ≤ 2) (d0 : 0 < d) (hle : d ≤ m) :
    Calls Tryd.prog 70 #[.slice a n ca, .slice b k cb] w fun e w' => DivGives w (m / d) (m % d) e w' := by
  have HA : Hid (Ru w a n ca (dig m)) := ha
  have HBB : Hid (Ru w b k cb (dig d)) := hb
  have hkn : k ≤ n := by
    have := dig_le hle
    rw [ha.len, hb.len] at this
    exact this
  have HC := bigcmp_any a b n k ca cb m d w ha hb (by omega) (by omega)
  have HC' : Hid (Calls Tryd.prog 85 #[.slice a n ca, .slice b k cb] w fun e w' => CmpPost w m d e w') := HC
  have hcm : ¬ cmp3 (m : Int) (d : Int) < 0 := by
    by_cases e : d = m
    · subst e; rw [cmp3_eq]; omega
    · rw [cmp3_gt (by omega)]; omega
  have k0 := dig_none hb.len d0
  have kz : ((k : Int) == 0) = false := beq_eq_false_iff_ne.2 (by omega)
  have hml : m < 18446744073709551616 := by
    have h := plain_val (m := m) (by rw [ha.len]; exact hn2)
    have := ha.word 0
    have := ha.word 1
    omega
  have hq : m / d ≤ m := Nat.div_le_self _ _
  have hr : m % d < d := Nat.mod_lt _ d0
  have eq1 : (m : Int) / (d : Int) = ((m / d : Nat) : Int) := by simp
  have eq2 : (m : Int) % (d : Int) = ((m % d : Nat) : Int) := by simp
  have eq3 : (m : Int).tmod (d : Int) = ((m % d : Nat) : Int) := by rw [Int.tmod_eq_emod_of_nonneg (by omega)]; exact eq2
  obtain ⟨cc, hcc⟩ : ∃ cc, cmp3 (m : Int) (d : Int) = cc := ⟨_, rfl⟩
  rw [hcc] at hcm
  generalize hQ : m / d = Q at *
  generalize hR : m % d = R at *
  have HWQ : Hid (∀ w, Calls Tryd.prog 83 #[.int .u64 (Q : Int)] w fun e w' => Gives w Q e w') := fun w => words_any Q w (by omega)
  have HWR : Hid (∀ w, Calls Tryd.prog 83 #[.int .u64 (R : Int)] w fun e w' => Gives w R e w') := fun w => words_any R w (by omega)
  have HWT : Hid (∀ w, Calls Tryd.prog 83 #[.int .u64 ((m : Int).tmod (d : Int))] w fun e w' => Gives w R e w') := fun w => by rw [eq3]; exact words_any R w (by omega)
  clear eq3
  have HWW : Hid (∀ w, Calls Tryd.prog 83 #[.int .u64 (IntKind.u64.wrap (Q : Int))] w fun e w' => Gives w Q e w') := fun w => by
    have hwq : IntKind.u64.wrap (Q : Int) = (Q : Int) := by rw [IntKind.wrap_u64]; omega
    rw [hwq]
    exact words_any Q w (by omega)
  have dz : ((d : Int) == 0) = false := beq_eq_false_iff_ne.2 (by omega)
  have dne : (d : Int) ≠ 0 := by omega
  have hn2' : (n : Int) ≤ 2 := by omega
  clear ha hb HC hQ hR
  go_enter Tryd.func70, Tryd.ntmps70
  go_wp2_with fail
  refine HC'.out.mono ?_
  rintro e w1 ⟨rfl, q, rfl⟩
  rw [hcc]
  clear hcc
  go_wp2_with fail
  refine (plain_any a n ca m _ (HA.out.drewN q) hn2).mono ?_
  rintro e w2 ⟨rfl, rfl⟩
  go_wp2_with fail
  refine (plain_any b k cb d _ (HBB.out.drewN q) (by omega)).mono ?_
  rintro e w2 ⟨rfl, rfl⟩
  go_wp2_with fail
  have BW : Hid (Below w.heap.size w (w.drewN q).drew) := (below_drewN (Below.refl _ w) q).drew
  go_region_held (fun _ => True) (trivial)
    (first
      | (go_at_call_of 83 (Value.int .u64 (Q : Int)); refine (HWQ.out _).mono ?_; rintro e w1 ⟨a1, n1, c1, rfl, hr1, hb1⟩
         have R1 : Hid (Ru w1 a1 n1 c1 (dig Q)) := hr1
         have B1 : Hid (Below w.heap.size w w1) := BW.out.trans (hb1.mono BW.out.size)
         clear hr1 hb1)
      | (go_at_call_of 83 (Value.int .u64 (IntKind.u64.wrap (Q : Int))); refine (HWW.out _).mono ?_; rintro e w1 ⟨a1, n1, c1, rfl, hr1, hb1⟩
         have R1 : Hid (Ru w1 a1 n1 c1 (dig Q)) := hr1
         have B1 : Hid (Below w.heap.size w w1) := BW.out.trans (hb1.mono BW.out.size)
         clear hr1 hb1)
      | (go_at_call_of 83 (Value.int .u64 (R : Int)); refine (HWR.out _).mono ?_; rintro e w2 ⟨a2, n2, c2, rfl, hr2, hb2⟩
         have R2 : Hid (Ru w2 a2 n2 c2 (dig R)) := hr2
         have R3 : Hid (Ru w2 a1 n1 c1 (dig Q)) := R1.out.below hb2
         have B2 : Hid (Below w.heap.size w w2) := B1.out.trans (hb2.mono B1.out.size)
         clear hr2 hb2)
      | (go_at_call_of 83 (Value.int .u64 ((m : Int).tmod (d : Int))); refine (HWT.out _).mono ?_; rintro e w2 ⟨a2, n2, c2, rfl, hr2, hb2⟩
         have R2 : Hid (Ru w2 a2 n2 c2 (dig R)) := hr2
         have R3 : Hid (Ru w2 a1 n1 c1 (dig Q)) := R1.out.below hb2
         have B2 : Hid (Below w.heap.size w w2) := B1.out.trans (hb2.mono B1.out.size)
         clear hr2 hb2))
  all_goals (go_wp2_with fail; refine bodyPost_ret (v := .tuple #[.slice a1 n1 c1, .slice a2 n2 c2]) (by simp [results, Tryd.results70, go_sem]) rfl ⟨a1, n1, c1, a2, n2, c2, rfl, R3.out, R2.out, B2.out⟩)

end Go.Proofs.YtmpjmcfgikmgnaaDoor.words
namespace Go.Proofs.YtmpjmcfgikmgnaaDoor.words
open Go.RowKit
set_option maxRecDepth 100000

/-- The words of 2^31 behind k noughts. -/
theorem dig_high31 (k : Nat) : dig (4294967296 ^ k * 2147483648) = List.replicate k 0 ++ [2147483648] := by
  induction k with
  | zero =>
    rw [Nat.pow_zero, Nat.one_mul, dig_pos (by decide)]
    have e : 2147483648 / 4294967296 = 0 := by decide
    rw [e, dig_zero]
    rfl
  | succ k ih =>
    have e : 4294967296 ^ (k + 1) * 2147483648 = 4294967296 ^ k * 2147483648 * 4294967296 + 0 := by rw [Nat.pow_succ, Nat.mul_right_comm, Nat.add_zero]
    have h0 : 4294967296 ^ k * 2147483648 ≠ 0 := Nat.ne_of_gt (Nat.mul_pos (Nat.pow_pos (by decide)) (by decide))
    rw [e, dig_shift _ 0 (by decide) (.inl h0), ih]
    rfl
theorem high31_len (k : Nat) : (dig (4294967296 ^ k * 2147483648)).length = k + 1 := by rw [dig_high31]; simp
theorem high31_low {k i : Nat} (h : i < k) : (dig (4294967296 ^ k * 2147483648)).getD i 0 = 0 := by
  rw [dig_high31]
  simp [List.getD, List.getElem?_append_left, h]
theorem high31_top (k : Nat) : (dig (4294967296 ^ k * 2147483648)).getD k 0 = 2147483648 := by
  rw [dig_high31]
  simp [List.getD]

/-- What is left of the number, and the quotient's words from k on: N = m + n + 1 words, the divisor B^(n-1) * 2^31. -/
def LongInv (A m n k : Nat) (U Q : Nat → Nat) : Prop :=
  (∀ j, j < m + n + 1 → U j < 4294967296) ∧ (∀ j, k + n ≤ j → j < m + n + 1 → U j = 0) ∧ U (k + n - 1) < 2147483648 ∧ (∀ j, j < m + 1 → Q j < 4294967296) ∧
  nf U (m + n + 1) + 4294967296 ^ (n - 1) * 2147483648 * (4294967296 ^ k * hf Q k (m + 1)) = A

theorem long_arith {N N1 N2 T x y g : Nat} (h1 : N1 + T * y = N + T * (y % 2147483648)) (h2 : N2 + T * 4294967296 * x = N1 + T * 4294967296 * 0) (hg : g = x * 2 + y / 2147483648) : N = N2 + T * 2147483648 * g := by
  have e1 : T * y = T * 2147483648 * (y / 2147483648) + T * (y % 2147483648) := by
    rw [Nat.mul_assoc, ← Nat.mul_add, Nat.div_add_mod]
  have e2 : T * 2147483648 * g = T * 4294967296 * x + T * 2147483648 * (y / 2147483648) := by
    have e3 : 2147483648 * (x * 2) = 4294967296 * x := by omega
    rw [hg, Nat.mul_add, Nat.mul_assoc T 2147483648 (x * 2), e3, ← Nat.mul_assoc]
  rw [e2]
  rw [Nat.mul_zero] at h2
  omega

theorem long_fold {N P J c g B H A : Nat} (h : N + P * J * c * g + P * c * (J * B * H) = A) : N + P * c * (J * (g + B * H)) = A := by
  rw [Nat.mul_add, Nat.mul_add, ← Nat.mul_assoc J B H, ← Nat.add_assoc, ← Nat.mul_assoc (P * c) J g, Nat.mul_right_comm P c J]
  exact h

theorem long_next {A m n j : Nat} {U Q : Nat → Nat} (hn : 2 ≤ n) (hj : j ≤ m) (h : LongInv A m n (j + 1) U Q) :
    LongInv A m n j (updU (updU U (j + n - 1) (U (j + n - 1) % 2147483648)) (j + n) 0) (updU Q j (U (j + n) * 2 + U (j + n - 1) / 2147483648)) := by
  obtain ⟨b1, b2, b3, b4, b5⟩ := h
  have hx : U (j + n) < 2147483648 := by rw [show j + n = j + 1 + n - 1 by omega]; exact b3
  have hy := b1 (j + n - 1) (by omega)
  refine ⟨fun i hi => ?_, fun i h1 h2 => ?_, ?_, fun i hi => ?_, ?_⟩
  · unfold updU
    split
    · omega
    · split
      · omega
      · exact b1 i hi
  · unfold updU
    split
    · rfl
    · rw [if_neg (by omega)]
      exact b2 i (by omega) h2
  · unfold updU
    rw [if_neg (by omega), if_pos rfl]
    omega
  · unfold updU
    split
    · omega
    · exact b4 i hi
  · have u1 := nf_upd U (j + n - 1) (U (j + n - 1) % 2147483648) (m + n + 1) (by omega)
    have u2 := nf_upd (updU U (j + n - 1) (U (j + n - 1) % 2147483648)) (j + n) 0 (m + n + 1) (by omega)
    have e0 : updU U (j + n - 1) (U (j + n - 1) % 2147483648) (j + n) = U (j + n) := by unfold updU; rw [if_neg (by omega)]
    rw [e0] at u2
    have hq : hf (updU Q j (U (j + n) * 2 + U (j + n - 1) / 2147483648)) j (m + 1) = (U (j + n) * 2 + U (j + n - 1) / 2147483648) + 4294967296 * hf Q (j + 1) (m + 1) := by
      rw [hf_step _ (by omega : j < m + 1)]
      congr 1
      · unfold updU; rw [if_pos rfl]
      · congr 1
        exact hf_congr fun i hi => by unfold updU; rw [if_neg (by omega)]
    rw [hq]
    generalize hg : U (j + n) * 2 + U (j + n - 1) / 2147483648 = g at *
    have p1 : 4294967296 ^ (j + n - 1) = 4294967296 ^ (n - 1) * 4294967296 ^ j := by rw [← Nat.pow_add]; congr 1; omega
    have p2 : 4294967296 ^ (j + n) = 4294967296 ^ (n - 1) * 4294967296 ^ j * 4294967296 := by rw [← p1, ← Nat.pow_succ]; congr 1; omega
    rw [p1] at u1
    rw [p2] at u2
    have hN := long_arith u1 u2 hg.symm
    rw [hN, Nat.pow_succ] at b5
    exact long_fold b5

theorem long_end {M s m n : Nat} {U Q : Nat → Nat} {D : Nat} (hD : D * 2 ^ s = 4294967296 ^ (n - 1) * 2147483648) (hn : 2 ≤ n) (h : LongInv (M * 2 ^ s) m n 0 U Q) :
    nv ((List.range (m + 1)).map Q) = M / D ∧ nv ((List.range (m + n + 1)).map U) / 2 ^ s = M % D := by
  obtain ⟨b1, b2, b3, b4, b5⟩ := h
  rw [nv_range, nv_range]
  rw [Nat.pow_zero, Nat.one_mul, hf_zero, ← hD] at b5
  have hp : 0 < 2 ^ s := Nat.two_pow_pos _
  have hU : nf U (m + n + 1) < D * 2 ^ s := by
    have e1 : nf U (m + n + 1) = nf U n := by
      have : ∀ k, n ≤ k → k ≤ m + n + 1 → nf U k = nf U n := by
        intro k h1
        induction k with
        | zero => intro _; have : n = 0 := by omega
                  omega
        | succ k ih =>
          intro h2
          by_cases e : n = k + 1
          · rw [e]
          · rw [nf, b2 k (by omega) (by omega), Nat.mul_zero, Nat.add_zero]
            exact ih (by omega) (by omega)
      exact this _ (by omega) (Nat.le_refl _)
    obtain ⟨k, rfl⟩ : ∃ k, n = k + 1 := ⟨n - 1, by omega⟩
    rw [e1, nf, hD, Nat.add_sub_cancel]
    have h1 := nf_lt (f := U) (n := k) fun i hi => b1 i (by omega)
    have h2 : U k < 2147483648 := by rw [show 0 + (k + 1) - 1 = k by omega] at b3; exact b3
    have h3 : 4294967296 ^ k * (U k + 1) ≤ 4294967296 ^ k * 2147483648 := Nat.mul_le_mul_left _ h2
    rw [Nat.mul_add, Nat.mul_one] at h3
    exact Nat.lt_of_lt_of_le (by rw [Nat.add_comm]; exact Nat.add_lt_add_left h1 _) h3
  have h2 := small_fin (Q := nf Q (m + 1)) (r := nf U (m + n + 1)) (d := D * 2 ^ s) (m := M * 2 ^ s) (by rw [← b5, Nat.add_comm, Nat.mul_comm (nf Q (m + 1))]) hU
  rw [Nat.mul_div_mul_right _ _ hp, Nat.mul_mod_mul_right] at h2
  exact ⟨h2.1, by rw [h2.2, Nat.mul_div_cancel _ hp]⟩

end Go.Proofs.YtmpjmcfgikmgnaaDoor.words
namespace Go.Proofs.YtmpjmcfgikmgnaaDoor.words
open Go.RowKit
set_option maxRecDepth 100000

theorem left0_any (a : Option Addr) (n ca s m : Nat) (w : World) (ha : Ru w a n ca (dig m)) (hn : n ≤ 100) (hs : s < 32) :
    Calls Tryd.prog 88 #[.slice a n ca, .int .u64 (s : Int)] w fun e w' => Gives w (m * 2 ^ s) e w' := by
  have := left_any a n ca 0 s (dig m) w ha hn (by omega) hs
  rwa [nv_dig, Nat.mul_zero, Nat.zero_add] at this

/-- How a row of words stands when others have been laid over its head. -/
theorem rowU_copied {w : World} {g N n : Nat} {l : List Nat} (hl : l.length = n) (hn : n ≤ N) (h : w.heap[g]? = some (.cells (((List.range N).map fun _ => Value.int .u32 0).take 0 ++ (l.map fun (x : Nat) => Value.int .u32 (x : Int)) ++ ((List.range N).map fun _ => Value.int .u32 0).drop (0 + (l.map fun (x : Nat) => Value.int .u32 (x : Int)).length)).toArray 28 (0, 0))) : RowU w g N (fun i => l.getD i 0) := by
  unfold RowU
  rw [h]
  congr 3
  apply List.ext_getElem?
  intro i
  by_cases hi : i < n
  · rw [List.take_zero, List.nil_append, List.getElem?_append_left (by simp; omega)]
    simp [List.getD, List.getElem?_eq_getElem (show i < l.length by omega), show i < N by omega]
  · rw [List.take_zero, List.nil_append, List.getElem?_append_right (by simp; omega)]
    by_cases hiN : i < N
    · have e : 0 + (l.map fun (x : Nat) => Value.int .u32 (x : Int)).length + (i - (l.map fun (x : Nat) => Value.int .u32 (x : Int)).length) = i := by simp; omega
      rw [List.getElem?_drop, e]
      simp [List.getD, List.getElem?_eq_none (show l.length ≤ i by omega), hiN]
    · rw [List.getElem?_eq_none (by simp; omega), List.getElem?_eq_none (by simp; omega)]

theorem left_len {M s n : Nat} (hn : (dig M).length = n) (hs : s < 32) : (dig (M * 2 ^ s)).length ≤ n + 1 := by
  apply dig_len
  have h1 := dig_low M
  rw [hn] at h1
  have h2 : 2 ^ s ≤ 2 ^ 32 := Nat.pow_le_pow_right (by decide) (by omega)
  rw [Nat.pow_succ]
  have h3 : M * 2 ^ s ≤ M * 4294967296 := Nat.mul_le_mul_left _ h2
  exact Nat.lt_of_le_of_lt h3 (Nat.mul_lt_mul_of_pos_right h1 (by decide))

/-- Words that lie in another block than the one that turns. -/
theorem Ru.apart {w w' : World} {z : Nat} {a : Option Addr} {n cap : Nat} {l : List Nat} (h : Ru w a n cap l) (he : Ex w w' z) (hne : ∀ b off, a = some ⟨b, off, none⟩ → b ≠ z) : Ru w' a n cap l := by
  refine ⟨h.len, h.lt, h.nil, h.room, ?_, fun b off s e hn => (h.typ b off s e hn).same (he.block b (h.typ b off s e hn).lt (by
    rcases h.cell with h0 | ⟨b', off', e', _⟩
    · exact absurd h0 hn
    · rw [e'] at e
      obtain ⟨rfl, rfl, rfl⟩ := (by simpa using e : b' = b ∧ off' = off ∧ none = s)
      exact hne _ _ e'))⟩
  rcases h.cell with h0 | ⟨b, off, rfl, hc⟩
  · exact .inl h0
  · refine .inr ⟨b, off, rfl, fun i hi => ?_⟩
    have h1 := hc i hi
    rw [World.cell?_of_block (w := w) (a := ⟨b, off + i, none⟩) (he.block b (World.block_lt_of_cell? w _ h1) (hne b off rfl))]
    exact h1
theorem Ru.lies {w : World} {a : Option Addr} {n cap : Nat} {l : List Nat} (h : Ru w a n cap l) (h0 : 0 < n) : ∀ b off, a = some ⟨b, off, none⟩ → b < w.heap.size := by
  intro b off e
  obtain ⟨b', off', e', hc⟩ := h.at (i := 0) h0
  rw [e] at e'
  simp only [Option.some.injEq, Addr.mk.injEq, and_true] at e'
  rw [e'.1]
  exact World.block_lt_of_cell? w _ hc

/-- copy of words over a row of noughts. -/
theorem copy_words (a : Option Addr) (n cap N g : Nat) (l : List Nat) (w : World) (h : Ru w a n cap l) (n0 : 0 < n) (hn : n ≤ N) (hr : RowU w g N (fun _ => 0)) :
    ∃ w', (Builtin.copy_ #[59, 59] 3 #[.slice (some ⟨g, 0, none⟩) N N, .slice a n cap]).run Tryd.prog w = .ok (.int .i64 (n : Int)) w' ∧ RowU w' g N (fun i => l.getD i 0) ∧ Ex w w' g := by
  obtain ⟨b, off, rfl, -⟩ := h.at n0
  have hc : ∀ i, i < n → w.cell? ⟨b, off + i, none⟩ = some (.int .u32 ((l.getD i 0 : Nat) : Int)) := by
    rcases h.cell with h0 | ⟨b', off', e, hc⟩
    · omega
    · simp only [Option.some.injEq, Addr.mk.injEq, and_true] at e
      obtain ⟨rfl, rfl⟩ := e
      exact hc
  have hrun := run_copy_row (P := Tryd.prog) w 59 59 3 28 g 0 N N ⟨b, off, none⟩ n cap ((List.range N).map fun _ => Value.int .u32 0).toArray 28 (l.map fun (x : Nat) => Value.int .u32 (x : Int)) Tryd.underlying59 (by kernel_rfl) hr (by
      rw [List.length_map, h.len]; exact (Nat.min_eq_left hn).symm) (by
      intro j u hu
      by_cases hj : j < l.length
      · simp [List.getElem?_eq_getElem hj] at hu
        subst hu
        have := hc j (by rw [h.len] at hj; exact hj)
        simpa [Addr.add_lit, List.getD, List.getElem?_eq_getElem hj] using this
      · rw [List.getElem?_eq_none (by simp; omega)] at hu; cases hu) (by simp [h.len]; omega) (by
      intro u hu; obtain ⟨z, _, rfl⟩ := List.mem_map.1 hu; rfl)
  refine ⟨_, ?_, rowU_copied (n := n) h.len hn (setRow_heap w g _ _ 28 _ hr), rfl, rfl, rfl, by simp [World.setRow], fun k _ hk => setRow_other w g k _ hk⟩
  rw [hrun]
  simp [goInt, h.len]

end Go.Proofs.YtmpjmcfgikmgnaaDoor.words
namespace Go.Proofs.YtmpjmcfgikmgnaaDoor.words
open Go.RowKit
set_option maxRecDepth 100000

theorem RowU.other {w : World} {g n z : Nat} {f : Nat → Nat} (h : RowU w g n f) (i : Nat) (u : Value) (hne : z ≠ g) : RowU (w.setCell ⟨z, i, none⟩ u) g n f := by
  unfold RowU at *
  simp only [World.setCell, Array.getElem?_modify]
  rw [if_neg hne]
  exact h
theorem ex_set (w : World) (z i : Nat) (u : Value) : Ex w (w.setCell ⟨z, i, none⟩ u) z :=
  ⟨rfl, rfl, rfl, by simp [World.setCell], fun k _ hk => by simp only [World.setCell, Array.getElem?_modify]; rw [if_neg (fun e => hk e.symm)]⟩
theorem updU_same (f : Nat → Nat) (i : Nat) : updU f i (f i) = f := by
  funext k
  unfold updU
  split
  · next e => rw [e]
  · rfl

set_option maxRecDepth 100000 in
set_option maxHeartbeats 4000000 in
theorem div_long (a b : Option Addr) (n k ca cb M D s L : Nat) (w : World) (ha : Ru w a n ca (dig M)) (hb : Ru w b k cb (dig D)) (hn : n ≤ 60) (hn2 : 2 < n) (hk2 : 2 ≤ k) (hkn : k ≤ n) (hs : s < 32)
    (hD : D * 2 ^ s = 4294967296 ^ (k - 1) * 2147483648) (hle : D ≤ M) (hL : BitsOf D L) (hLs : L + s = 32 * k) :
    Calls Tryd.prog 70 #[.slice a n ca, .slice b k cb] w fun e w' => DivGives w (M / D) (M % D) e w' := by
  obtain ⟨i0, hi, hz0, hz1, hz2⟩ := info_parts info_u32
  have HA : Hid (Ru w a n ca (dig M)) := ha
  have HBB : Hid (Ru w b k cb (dig D)) := hb
  have HC := bigcmp_any a b n k ca cb M D w ha hb (by omega) (by omega)
  have HC' : Hid (Calls Tryd.prog 85 #[.slice a n ca, .slice b k cb] w fun e w' => CmpPost w M D e w') := HC
  have hcm : ¬ cmp3 (M : Int) (D : Int) < 0 := by
    by_cases e : D = M
    · subst e; rw [cmp3_eq]; omega
    · rw [cmp3_gt (by omega)]; omega
  obtain ⟨cc, hcc⟩ : ∃ cc, cmp3 (M : Int) (D : Int) = cc := ⟨_, rfl⟩
  rw [hcc] at hcm
  have kz : ((k : Int) == 0) = false := beq_eq_false_iff_ne.2 (by omega)
  have k1 : ((k : Int) == 1) = false := beq_eq_false_iff_ne.2 (by omega)
  have hn2' : ¬ (n : Int) ≤ 2 := by omega
  have HLen : Hid (∀ q, Calls Tryd.prog 69 #[.slice b k cb] (w.drewN q) fun e w' => e = .returned (.int .i64 (L : Int)) ∧ w' = w.drewN q) := fun q => (length_any b k cb D _ (hb.drewN q) (by omega)).mono (by
    rintro e w' ⟨rfl, L', rfl, hL', _⟩
    rw [bitsOf_uniq hL' hL]
    exact ⟨rfl, rfl⟩)
  have hLm : ((L : Int) - 1) % 32 = 31 - (s : Int) := by omega
  have hLp : 0 < L := by omega
  have hll := left_len ha.len hs
  have HV : Hid ((dig (D * 2 ^ s)).length = k) := by rw [hD, high31_len]; exact (by omega : k - 1 + 1 = k)
  have HLA : Hid (∀ w', Below w.heap.size w w' → Calls Tryd.prog 88 #[.slice a n ca, .int .u64 (s : Int)] w' fun e w'' => Gives w' (M * 2 ^ s) e w'') := fun w' hb => left0_any a n ca s M w' (HA.out.below hb) (by omega) hs
  have HLB : Hid (∀ w', Below w.heap.size w w' → Calls Tryd.prog 88 #[.slice b k cb, .int .u64 (s : Int)] w' fun e w'' => Gives w' (D * 2 ^ s) e w'') := fun w' hb => left0_any b k cb s D w' (HBB.out.below hb) (by omega) hs
  have HEND : Hid (∀ m U Q, LongInv (M * 2 ^ s) m k 0 U Q → nv ((List.range (m + 1)).map Q) = M / D ∧ nv ((List.range (m + k + 1)).map U) / 2 ^ s = M % D) := fun m U Q h => long_end hD hk2 h
  have HD31 : Hid (D * 2 ^ s = 4294967296 ^ (k - 1) * 2147483648) := hD
  have hD0 : 0 < D := by
    rcases Nat.eq_zero_or_pos D with h | h
    · rw [h, Nat.zero_mul] at hD
      exact absurd hD.symm (Nat.ne_of_gt (Nat.mul_pos (Nat.pow_pos (by decide)) (by decide)))
    · exact h
  have hMS0 : 0 < M * 2 ^ s := Nat.mul_pos (by omega) (Nat.two_pow_pos _)
  obtain ⟨m, hm⟩ : ∃ m, m + k + 1 = n + 2 := ⟨n + 1 - k, by omega⟩
  obtain ⟨k1', hk1⟩ : ∃ k1', k1' + 1 = k := ⟨k - 1, by omega⟩
  obtain ⟨k2', hk2'⟩ : ∃ k2', k2' + 2 = k := ⟨k - 2, by omega⟩
  have em : (n : Int) + 2 - (k : Int) - 1 = (m : Int) := by omega
  have ek1 : (k : Int) - 1 = (k1' : Int) := by omega
  have ek2 : (k : Int) - 2 = (k2' : Int) := by omega
  clear ha hb HC hD hL hle
  generalize hMS : M * 2 ^ s = MS at *
  generalize hDS : D * 2 ^ s = DS at *
  go_enter Tryd.func70, Tryd.ntmps70
  go_wp2_with fail
  refine HC'.out.mono ?_
  rintro e w1 ⟨rfl, q, rfl⟩
  rw [hcc]
  clear hcc
  go_wp2_with fail
  refine (HLen.out q).mono ?_
  rintro e w2 ⟨rfl, rfl⟩
  go_wp2_with fail
  have es : (32 : Int) - (31 - (s : Int)) - 1 = (s : Int) := by omega
  simp only [es]
  clear es hLm hLp
  refine (HLB.out _ (below_drewN (Below.refl _ w) q)).mono ?_
  rintro e w3 ⟨av, nv3, cv, rfl, hr3, hb3⟩
  have enk : nv3 = k := by rw [← hr3.len]; exact HV.out
  subst enk
  have HRV : Hid (Ru w3 av nv3 cv (dig DS)) := hr3
  have HB3 : Hid (Below w.heap.size w w3) := (below_drewN (Below.refl _ w) q).trans hb3
  have hav : ∀ b off, av = some ⟨b, off, none⟩ → b ≠ w3.heap.size := fun b off e => by have := hr3.lies (by omega) b off e; omega
  clear hr3 hb3 HLB HLen HC'
  go_wp2_with (first
    | (at_make; refine wpList_make_full _ rfl _ _ 59 rfl w3.heap.size 28 i0 (.int .u32 0) 1 Tryd.underlying59 hi hz0 hz1 _ _ _ _ (n + 2) rfl rfl ?c0 ?c1 ?c2 ?c3 ?c4 ?_))
  try (case c0 => first | rfl | (congr 1; omega))
  try (case c1 => first | rfl | (congr 1; omega))
  case c2 => first | omega | (rw [hz2]; omega)
  case c3 => unfold maxLen; omega
  try (case c4 => simp)
  intro w4 hown hgr
  have HU4 : Hid (RowU w4 w3.heap.size (n + 2) (fun _ => 0)) := rowU_made hown
  have hB34 : Below w3.heap.size w3 w4 := (Below.refl _ _).grown hgr (Nat.le_refl _) (fun k hk => by cases hk)
  have HB4 : Hid (Below w.heap.size w w4) := HB3.out.trans (hB34.mono HB3.out.size)
  have HV4 : Hid (Ru w4 av nv3 cv (dig DS)) := HRV.out.below hB34
  have hG3 : w.heap.size ≤ w3.heap.size := HB3.out.size
  clear hown hgr hB34 HRV HB3
  generalize hGU : w3.heap.size = GU at *
  clear hGU
  go_wp2_with fail
  refine (HLA.out _ HB4.out).mono ?_
  rintro e w5 ⟨al, nl, cl, rfl, hr5, hb5⟩
  have hnl0 : nl ≠ 0 := dig_none hr5.len hMS0
  have hnl : nl ≤ n + 1 := by rw [← hr5.len]; exact hll
  have HRL : Hid (Ru w5 al nl cl (dig MS)) := hr5
  have HB5 : Hid (Below w.heap.size w w5) := HB4.out.trans (hb5.mono HB4.out.size)
  have HV5 : Hid (Ru w5 av nv3 cv (dig DS)) := HV4.out.below hb5
  have hgu5 : GU < w4.heap.size := heap_lt HU4.out
  have HU5 : Hid (RowU w5 GU (n + 2) (fun _ => 0)) := by
    have goal : RowU w5 GU (n + 2) (fun _ => 0) := by
      have h := HU4.out
      unfold RowU at *
      rw [hb5.block GU hgu5]
      exact h
    exact goal
  clear hr5 hb5 HU4 HB4 HV4 HLA
  obtain ⟨w6, hcopy, hu6, hex6⟩ := copy_words al nl cl (n + 2) GU (dig MS) w5 HRL.out (by omega) (by omega) HU5.out
  have HU6 : Hid (RowU w6 GU (n + 2) (fun i => (dig MS).getD i 0)) := hu6
  have HB6 : Hid (Below w.heap.size w w6) := hex6.below HB5.out hG3
  have HV6 : Hid (Ru w6 av nv3 cv (dig DS)) := HV5.out.apart hex6 hav
  clear hu6 hex6 HU5 HB5 HV5 HRL
  go_wp2_with (first
    | (at_make; refine wpList_make_full _ rfl _ _ 59 rfl w6.heap.size 28 i0 (.int .u32 0) 1 Tryd.underlying59 hi hz0 hz1 _ _ _ _ (m + 1) rfl rfl ?e0 ?e1 ?e2 ?e3 ?e4 ?_))
  try (case e0 => first | rfl | (congr 1; omega) | omega | simp)
  try (case e1 => first | rfl | (congr 1; omega) | omega | simp)
  case e2 => first | omega | (rw [hz2]; omega)
  case e3 => unfold maxLen; omega
  try (case e4 => simp)
  intro w7 hown7 hgr7
  have HQ7 : Hid (RowU w7 w6.heap.size (m + 1) (fun _ => 0)) := rowU_made hown7
  have hB67 : Below w6.heap.size w6 w7 := (Below.refl _ _).grown hgr7 (Nat.le_refl _) (fun k hk => by cases hk)
  have hgu7 : GU < w6.heap.size := heap_lt HU6.out
  have HB7 : Hid (Below w.heap.size w w7) := HB6.out.trans (hB67.mono HB6.out.size)
  have HV7 : Hid (Ru w7 av nv3 cv (dig DS)) := HV6.out.below hB67
  have hG6 : w.heap.size ≤ w6.heap.size := HB6.out.size
  have HU7 : Hid (RowU w7 GU (n + 2) (fun i => (dig MS).getD i 0)) := by
    have goal : RowU w7 GU (n + 2) (fun i => (dig MS).getD i 0) := by
      have h := HU6.out
      unfold RowU at *
      rw [hB67.block GU hgu7]
      exact h
    exact goal
  have HST : Hid (LongInv MS m nv3 (m + 1) (fun i => (dig MS).getD i 0) (fun _ => 0)) := by
    have hz : ∀ i, n + 1 ≤ i → (dig MS).getD i 0 = 0 := fun i hi => by simp [List.getD, List.getElem?_eq_none (show (dig MS).length ≤ i by omega)]
    have goal : LongInv MS m nv3 (m + 1) (fun i => (dig MS).getD i 0) (fun _ => 0) := by
      refine ⟨fun j _ => dig_word MS j, fun j h1 h2 => by omega, ?_, fun _ _ => (by decide : 0 < 4294967296), ?_⟩
      · show (dig MS).getD (m + 1 + nv3 - 1) 0 < 2147483648
        rw [hz _ (by omega)]
        decide
      · rw [hf_top, Nat.mul_zero, Nat.mul_zero, Nat.add_zero, ← nv_more (dig MS) (by omega), nv_dig]
    exact goal
  obtain ⟨bv, ov, rfl, hvt⟩ := HV7.out.at (i := k1') (by omega)
  obtain ⟨bv', ov', hvv, hvn⟩ := HV7.out.at (i := k2') (by omega)
  simp only [Option.some.injEq, Addr.mk.injEq, and_true] at hvv
  obtain ⟨rfl, rfl⟩ := hvv
  have htop : (dig DS).getD k1' 0 = 2147483648 := by rw [HD31.out, show nv3 - 1 = k1' by omega]; exact high31_top _
  have hnxt : (dig DS).getD k2' 0 = 0 := by rw [HD31.out, show nv3 - 1 = k1' by omega]; exact high31_low (by omega)
  have HLOW : Hid (∀ i, i < k1' → (dig DS).getD i 0 = 0) := fun i hi => by rw [HD31.out, show nv3 - 1 = k1' by omega]; exact high31_low hi
  have HTOP : Hid ((dig DS).getD k1' 0 = 2147483648) := htop
  rw [htop] at hvt
  rw [hnxt] at hvn
  have hbq : bv ≠ w6.heap.size := by have := HV6.out.lies (by omega) bv ov rfl; omega
  clear hown7 hgr7 hB67 HU6 HB6 HV6 hi hz0 hz1 hz2 hcopy htop hnxt
  generalize hGQ : w6.heap.size = GQ at *
  clear hGQ
  go_wp2_with fail
  go_quiet (fail)
  go_wp2_with fail
  go_loopw [18] (fun jv wr => ∃ (kk : Nat) (U Q : Nat → Nat), kk ≤ m + 1 ∧ jv = .int .i64 ((kk : Int) - 1) ∧ RowU wr GU (n + 2) U ∧ RowU wr GQ (m + 1) Q ∧ Ru wr (some ⟨bv, ov, none⟩) nv3 cv (dig DS) ∧ Below w.heap.size w wr ∧ LongInv MS m nv3 kk U Q) (fun jv _ => (intOf jv + 1).toNat)
  case atStart => exact ⟨m + 1, _, _, Nat.le_refl _, by congr 1; omega, HU7.out, HQ7.out, HV7.out.drewN _, below_drewN HB7.out _, HST.out⟩
  case round =>
    obtain ⟨kk, U, Q, hkm, rfl, hU, hQ, hV, hB, hI⟩ := hrel
    by_cases hk0 : kk = 0
    · subst hk0
      obtain ⟨hq1, hq2⟩ := HEND.out m U Q hI
      have HRQ : Hid (Ru wr (some ⟨GQ, 0, none⟩) (m + 1) (m + 1) ((List.range (m + 1)).map Q)) := hQ.ru hI.2.2.2.1
      have HRU : Hid (Ru wr (some ⟨GU, 0, none⟩) (n + 2) (n + 2) ((List.range (n + 2)).map U)) := hU.ru (by rw [← hm]; exact hI.1)
      have HB8 : Hid (Below w.heap.size w wr) := hB
      have HE1 : Hid (nv ((List.range (m + 1)).map Q) = M / D) := hq1
      have HE2 : Hid (nv ((List.range (n + 2)).map U) / 2 ^ s = M % D) := by rw [← hm]; exact hq2
      clear hU hQ hV hB hI hq1 hq2
      go_wp2_with fail
      refine (trim_any _ _ _ _ _ HRQ.out (by omega)).mono ?_
      rintro e w8 ⟨a8, n8, c8, rfl, hr8, hb8⟩
      rw [HE1.out] at hr8
      have HR8 : Hid (Ru w8 a8 n8 c8 (dig (M / D))) := hr8
      have HRU8 : Hid (Ru w8 (some ⟨GU, 0, none⟩) (n + 2) (n + 2) ((List.range (n + 2)).map U)) := HRU.out.below hb8
      have HB9 : Hid (Below w.heap.size w w8) := HB8.out.trans (hb8.mono HB8.out.size)
      clear hr8 hb8
      go_wp2_with fail
      refine (trim_any _ _ _ _ _ HRU8.out (by omega)).mono ?_
      rintro e w9 ⟨a9, n9, c9, rfl, hr9, hb9⟩
      have HR9 : Hid (Ru w9 a8 n8 c8 (dig (M / D))) := HR8.out.below hb9
      have HB10 : Hid (Below w.heap.size w w9) := HB9.out.trans (hb9.mono HB9.out.size)
      have hn9 : n9 ≤ 200 := by
        rw [← hr9.len]
        have h1 : nv ((List.range (n + 2)).map U) < 4294967296 ^ (n + 2) := by rw [nv_range]; exact nf_lt fun i hi => by have := HRU.out.word i; simpa [List.getD, hi] using this
        have := dig_len (n + 2) h1
        omega
      have hrt := right_any a9 n9 c9 0 s _ w9 hr9 hn9 (by omega) hs
      rw [nv_dig, Nat.mul_zero, Nat.zero_add, HE2.out] at hrt
      have HRT : Hid (Calls Tryd.prog 89 #[.slice a9 n9 c9, .int .u64 (s : Int)] w9 fun e w' => Gives w9 (M % D) e w') := hrt
      clear hr9 hb9 hrt
      go_wp2_with fail
      refine HRT.out.mono ?_
      rintro e w10 ⟨a10, n10, c10, rfl, hr10, hb10⟩
      have HG : Hid (DivGives w (M / D) (M % D) (.returned (.tuple #[.slice a8 n8 c8, .slice a10 n10 c10])) w10) := ⟨a8, n8, c8, a10, n10, c10, rfl, HR9.out.below hb10, hr10, HB10.out.trans (hb10.mono HB10.out.size)⟩
      clear hr10 hb10
      go_wp2_with fail
      refine bodyPost_ret (v := .tuple #[.slice a8 n8 c8, .slice a10 n10 c10]) (by simp [results, Tryd.results70, go_sem]) rfl HG.out
    · obtain ⟨j, rfl⟩ : ∃ j, kk = j + 1 := ⟨kk - 1, by omega⟩
      have ej : ((j + 1 : Nat) : Int) - 1 = (j : Int) := by omega
      rw [ej]
      have HNX := long_next hk2 (by omega) hI
      have hx : U (j + nv3) < 2147483648 := by rw [show j + nv3 = j + 1 + nv3 - 1 by omega]; exact hI.2.2.1
      have hy := hI.1 (j + nv3 - 1) (by omega)
      have hzb := hI.1 (j + nv3 - 2) (by omega)
      have cx := hU.cell (i := j + nv3) (by omega)
      have cy := hU.cell (i := j + nv3 - 1) (by omega)
      have cz := hU.cell (i := j + nv3 - 2) (by omega)
      obtain ⟨p0, hp0⟩ : ∃ p0, j + nv3 = p0 := ⟨_, rfl⟩
      obtain ⟨p1, hp1⟩ : ∃ p1, j + nv3 - 1 = p1 := ⟨_, rfl⟩
      obtain ⟨p2, hp2⟩ : ∃ p2, j + nv3 - 2 = p2 := ⟨_, rfl⟩
      rw [hp1, hp0] at HNX
      rw [hp0] at hx cx
      rw [hp1] at hy cy
      rw [hp2] at hzb cz
      have HUW : Hid (∀ i, i < m + nv3 + 1 → U i < 4294967296) := hI.1
      obtain ⟨x, hxx⟩ : ∃ x, U p0 = x := ⟨_, rfl⟩
      obtain ⟨y, hyy⟩ : ∃ y, U p1 = y := ⟨_, rfl⟩
      obtain ⟨z, hzz⟩ : ∃ z, U p2 = z := ⟨_, rfl⟩
      rw [hxx, hyy] at HNX
      rw [hxx] at hx cx
      rw [hyy] at hy cy
      rw [hzz] at hzb cz
      have HUX : Hid (U p0 = x ∧ U p1 = y) := ⟨hxx, hyy⟩
      obtain ⟨g, hg⟩ : ∃ g, x * 2 + y / 2147483648 = g := ⟨_, rfl⟩
      obtain ⟨yr, hyr⟩ : ∃ yr, y % 2147483648 = yr := ⟨_, rfl⟩
      rw [hg, hyr] at HNX
      have HNX' : Hid (LongInv MS m nv3 j (updU (updU U p1 yr) p0 0) (updU Q j g)) := HNX
      have HU8 : Hid (RowU wr GU (n + 2) U) := hU
      have HQ8 : Hid (RowU wr GQ (m + 1) Q) := hQ
      have HV8 : Hid (Ru wr (some ⟨bv, ov, none⟩) nv3 cv (dig DS)) := hV
      have HB8 : Hid (Below w.heap.size w wr) := hB
      have e0 : (j : Int) + (nv3 : Int) = (p0 : Int) := by omega
      have e1 : (p0 : Int) - 1 = (p1 : Int) := by omega
      have e2 : (p0 : Int) - 2 = (p2 : Int) := by omega
      have hor := or_words x y (by omega) (by omega) (by omega) (by omega)
      obtain ⟨h, hh⟩ : ∃ h, x * 4294967296 + y = h := ⟨_, rfl⟩
      have eh : (x : Int) * 4294967296 + (y : Int) = (h : Int) := by omega
      rw [eh] at hor
      have hhl : h < 9223372036854775808 := by omega
      have eg : (h : Int) / 2147483648 = (g : Int) := by omega
      have er : (h : Int) % 2147483648 = (yr : Int) := by omega
      have hgl : g < 4294967296 := by omega
      have hgn : ¬ (4294967295 : Int) < (g : Int) := by omega
      have hyrl : yr < 2147483648 := by omega
      have hor2 := or_words yr z (by omega) (by omega) (by omega) (by omega)
      have hoz : ¬ (yr : Int) * 4294967296 + (z : Int) < 0 := by omega
      obtain ⟨C, hC⟩ : ∃ C, g * 2147483648 = C := ⟨_, rfl⟩
      have eC : (g : Int) * 2147483648 = (C : Int) := by omega
      obtain ⟨lo, hlo⟩ : ∃ lo, C % 4294967296 = lo := ⟨_, rfl⟩
      have elo : (C : Int) % 4294967296 = (lo : Int) := by omega
      have ehi : (C : Int) / 4294967296 = (x : Int) := by omega
      have eyl : (y : Int) - (lo : Int) = (yr : Int) := by omega
      have hCl : C < 9223372036854775808 := by omega
      have hp0n : p0 < n + 2 := by omega
      have hp1n : p1 < n + 2 := by omega
      have hp2n : p2 < n + 2 := by omega
      have hpp : p1 + 1 = p0 := by omega
      have hpj : k1' + j = p1 := by omega
      clear HNX hI hU hQ hV hB hxx hyy hzz hg hyr hh eh hC hlo hp0 hp1 hp2 ej hk0
      go_wp2_with fail
      go_quiet (fail)
      go_wp2_with fail
      go_quiet (fail)
      go_wp2_with fail
      refine wp_loop_rounds 1 ?_
      rw [rounds_succ]
      go_wp2_with fail
      have hbn : bv ≠ GU := hav bv ov rfl
      have hqn : GU ≠ GQ := by omega
      go_loopw [22, 23, 24] (fun gc gd gi wr => ∃ (i : Nat) (U2 : Nat → Nat) (c : Nat), gi = .int .i64 (i : Int) ∧ i ≤ nv3 ∧ gc = .int .u64 (c : Int) ∧ gd = .int .u64 0 ∧ ((i < nv3 ∧ c = 0 ∧ U2 = U) ∨ (i = nv3 ∧ c = x ∧ U2 = updU U p1 yr)) ∧ RowU wr GU (n + 2) U2 ∧ RowU wr GQ (m + 1) Q ∧ Ru wr (some ⟨bv, ov, none⟩) nv3 cv (dig DS) ∧ Below w.heap.size w wr) (fun _ _ gi _ => nv3 - (intOf gi).toNat)
      case atStart => exact ⟨0, U, 0, rfl, Nat.zero_le _, rfl, rfl, .inl ⟨by omega, rfl, rfl⟩, HU8.out, HQ8.out, HV8.out.drewN _, below_drewN HB8.out _⟩
      case round =>
        obtain ⟨i, U2, c, rfl, hin, rfl, rfl, hcase, hU, hQ, hV, hB⟩ := hrel
        rcases hcase with ⟨hi, rfl, rfl⟩ | ⟨rfl, rfl, rfl⟩
        · obtain ⟨bw, ow, hvw, hcv⟩ := hV.at (i := i) hi
          simp only [Option.some.injEq, Addr.mk.injEq, and_true] at hvw
          obtain ⟨rfl, rfl⟩ := hvw
          by_cases hik : i < k1'
          · rw [HLOW.out i hik] at hcv
            have cu := hU.cell (i := i + j) (by omega)
            have fu := hU.free (i + j)
            have hul := HUW.out (i + j) (by omega)
            have hst := hU.set (i + j) (U2 (i + j))
            rw [updU_same] at hst
            obtain ⟨uv, huv⟩ : ∃ uv, U2 (i + j) = uv := ⟨_, rfl⟩
            rw [huv] at cu hul hst
            have HN : Hid (RowU (wr.setCell ⟨GU, i + j, none⟩ (.int .u32 (uv : Int))) GU (n + 2) U2) := hst
            have HQN : Hid (RowU (wr.setCell ⟨GU, i + j, none⟩ (.int .u32 (uv : Int))) GQ (m + 1) Q) := hQ.other _ _ hqn
            have HVN : Hid (Ru (wr.setCell ⟨GU, i + j, none⟩ (.int .u32 (uv : Int))) (some ⟨bv, ov, none⟩) nv3 cv (dig DS)) := hV.apart (ex_set _ _ _ _) hav
            have HBN : Hid (Below w.heap.size w (wr.setCell ⟨GU, i + j, none⟩ (.int .u32 (uv : Int)))) := below_set hB _ _ _ hG3
            have e63 : (uv : Int) / 9223372036854775808 = 0 := by omega
            have hpn : i + j < n + 2 := by omega
            clear hU hQ hV hB hst huv HNX' HU8 HQ8 HV8 HB8 HUX eC elo ehi eyl eg er e0 e1 e2 hor hor2
            go_wp2_with fail
            go_roundw
            case rel => exact ⟨i + 1, U2, 0, by go_num, by omega, rfl, rfl, .inl ⟨by omega, rfl, rfl⟩, HN.out, HQN.out, HVN.out, HBN.out⟩
            case measure => simp [intOf]; omega
          · obtain rfl : i = k1' := by omega
            rw [HTOP.out] at hcv
            have cu := hU.cell (i := i + j) (by omega)
            have fu := hU.free (i + j)
            have hst := hU.set (i + j) yr
            rw [hpj, HUX.out.2] at cu
            rw [hpj] at hst fu
            have cu' : wr.cell? ⟨GU, i + j, none⟩ = some (.int .u32 (y : Int)) := by rw [hpj]; exact cu
            have fu' : wr.frozen? ⟨GU, i + j, none⟩ = false := by rw [hpj]; exact fu
            have HN : Hid (RowU (wr.setCell ⟨GU, i + j, none⟩ (.int .u32 (yr : Int))) GU (n + 2) (updU U2 p1 yr)) := by rw [hpj]; exact hst
            have HQN : Hid (RowU (wr.setCell ⟨GU, i + j, none⟩ (.int .u32 (yr : Int))) GQ (m + 1) Q) := hQ.other _ _ hqn
            have HVN : Hid (Ru (wr.setCell ⟨GU, i + j, none⟩ (.int .u32 (yr : Int))) (some ⟨bv, ov, none⟩) nv3 cv (dig DS)) := hV.apart (ex_set _ _ _ _) hav
            have HBN : Hid (Below w.heap.size w (wr.setCell ⟨GU, i + j, none⟩ (.int .u32 (yr : Int)))) := below_set hB _ _ _ hG3
            have e63 : (yr : Int) / 9223372036854775808 = 0 := by omega
            have hpn : i + j < n + 2 := by omega
            clear hU hQ hV hB hst cu fu HNX' HU8 HQ8 HV8 HB8 HUX e0 e1 e2 hor hor2 eg er hpj
            go_wp2_with fail
            go_roundw
            case rel => exact ⟨i + 1, _, x, by go_num, by omega, rfl, rfl, .inr ⟨by omega, rfl, rfl⟩, HN.out, HQN.out, HVN.out, HBN.out⟩
            case measure => simp [intOf]; omega
        · have cu := hU.cell (i := p0) (by omega)
          have fu := hU.free p0
          have eu : updU U p1 yr p0 = c := by
            unfold updU
            rw [if_neg (by omega)]
            exact HUX.out.1
          rw [eu] at cu
          have hst := hU.set p0 0
          have hQ' := hQ.other (z := GU) p0 (.int .u32 0) hqn
          have cq := hQ'.cell (i := j) (by omega)
          have fq := hQ'.free j
          have hst2 := hst.other (z := GQ) j (.int .u32 (g : Int)) (Ne.symm hqn)
          have hqs := hQ'.set j g
          obtain ⟨qv, hqv⟩ : ∃ qv : Int, ((Q j : Nat) : Int) = qv := ⟨_, rfl⟩
          rw [hqv] at cq
          have HN : Hid (RowU ((wr.setCell ⟨GU, p0, none⟩ (.int .u32 0)).setCell ⟨GQ, j, none⟩ (.int .u32 (g : Int))) GU (n + 2) (updU (updU U p1 yr) p0 0)) := hst2
          have HQN : Hid (RowU ((wr.setCell ⟨GU, p0, none⟩ (.int .u32 0)).setCell ⟨GQ, j, none⟩ (.int .u32 (g : Int))) GQ (m + 1) (updU Q j g)) := hqs
          have HVN : Hid (Ru ((wr.setCell ⟨GU, p0, none⟩ (.int .u32 0)).setCell ⟨GQ, j, none⟩ (.int .u32 (g : Int))) (some ⟨bv, ov, none⟩) i cv (dig DS)) := (hV.apart (ex_set _ _ _ _) hav).apart (ex_set _ _ _ _) (fun b off e => by
            simp only [Option.some.injEq, Addr.mk.injEq, and_true] at e
            rw [← e.1]
            exact hbq)
          have HBN : Hid (Below w.heap.size w ((wr.setCell ⟨GU, p0, none⟩ (.int .u32 0)).setCell ⟨GQ, j, none⟩ (.int .u32 (g : Int)))) := below_set (below_set hB _ _ _ hG3) _ _ _ hG6
          have hjm : j < m + 1 := by omega
          clear hU hQ hV hB hst hQ' hst2 hqs hqv eu HU8 HQ8 HV8 HB8 HUX e1 e2 hor hor2 eg er eC elo ehi eyl
          go_wp2_with fail
          go_roundw
          case rel => exact ⟨j, _, _, by omega, by go_num, HN.out, HQN.out, HVN.out, HBN.out, HNX'.out⟩
          case measure => first | (simp [intOf]; done) | (simp [intOf]; omega)

end Go.Proofs.YtmpjmcfgikmgnaaDoor.words
